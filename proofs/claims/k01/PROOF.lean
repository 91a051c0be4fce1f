import PyProof.Rows.All
import Wide.All
import OpenK.AllK
import Wide.FinOn
import PyProof.ReprRoads
import HandS.ForMost
import HandS.Wide
import HandS.NoneIn
import HandS.Conv
import HandS.TupAny
import HandS.IsInst
import HandS.Style
import PyProof.SliceList
import HandS.Strs
import PyProof.Rows.SortShell
import HandS.Ends
import PyProof.NeKinds
import PyProof.FactsAll.dict
import HandS.Dict
import HandS.Iter
import KE.GoesMore
import PyProof.Draws
import PySem.Challenge.RW_rowfolds_k01_rows_and_their_errors
set_option Elab.async false
set_option linter.all false
set_option maxRecDepth 100000
set_option maxHeartbeats 8000000
set_option exponentiation.threshold 2000
/-! the hand layer's promise of a def, for callers that stand in no repr: what is wanted where repr is called -/
namespace Rf
open PySem PySem.Spec PyProof.Rows L2

/-- no repr runs around -/
abbrev Calm (A : Around) : Prop := A.guards = some []

structure FnG (P : Program) (w : World) (K : PySem.W.Frag) (mg : Str → Option Value) (base : Heap)
    (CX : CXT) (k : Nat) (f : Addr) (fd : FuncData) (ps : List Str) (sp : Sp) : Prop where
  lenG : ∀ vs H Q E, sp vs H Q E → vs.length = ps.length
  runG : ∀ (A : Around) (outer : List Env) (s : Shared) (H : Hp) (args : Args) (us : List Value) (vs : List V) (Q : VK) (E : XK),
    Calm A → Room k A → Env0 P w K mg base A outer s H → BindsTo s fd args (ps.zip us) → Vals vs us → sp vs H Q E →
      codeAny (model P w) A (.call (.ref f) args) (CR CX outer P w H s Q E) s

section
variable {P : Program} {w : World} {K : PySem.W.Frag} {mg : Str → Option Value} {base : Heap} {CX : CXT}
theorem FnG.of {k : Nat} {f : Addr} {fd : FuncData} {ps : List Str} {sp : Sp} (F : FnOk P w K mg base CX k f fd ps sp) :
    FnG P w K mg base CX k f fd ps sp :=
  ⟨F.len, fun A o s H args us vs Q E _ hr => F.run A o s H args us vs Q E hr⟩
theorem FnG.mono {j k : Nat} {f : Addr} {fd : FuncData} {ps : List Str} {sp : Sp} (F : FnG P w K mg base CX j f fd ps sp) (h : j ≤ k) :
    FnG P w K mg base CX k f fd ps sp :=
  ⟨F.lenG, fun A o s H args us vs Q E hc hr => F.runG A o s H args us vs Q E hc (hr.mono h)⟩

/-- a def by its body, where no repr runs around -/
theorem g_of {k : Nat} {f : Addr} {name qual : Str} {params : Arguments} {body : List Stmt} {scope : Scope}
    {dV kV doc pm cdv ct oc : Value} {an od : Option Addr} {osl : Array (Option Value)} {N ps : List Str} {sp : Sp}
    (lk : K.lookup f = some ⟨oc, od, .func (PySem.W.fnOf name qual params body scope dV kV doc pm an cdv ct), osl⟩)
    (hcd : PySem.W.codeIn K cdv qual = true) (S : FnScope N ps scope)
    (len : ∀ vs H Q E, sp vs H Q E → vs.length = ps.length)
    (hbody : ∀ (A : Around) (outer : List Env) (s : Shared) (H : Hp) (vs : List V) (Q : VK) (E : XK), Calm A →
      Room k (A.deeper (envOfC qual scope s.heap.objs.size f cdv)) → sp vs H Q E →
        ∃ t, PSs (cxOf CX P w K mg base N qual scope f cdv A outer s H E) body t ∧
          t { nx := fun _ H' => Q .non H', rt := Q } (start N vs) H) :
    FnG P w K mg base CX (k + 1) f (PySem.W.fnOf name qual params body scope dV kV doc pm an cdv ct) ps sp := by
  refine ⟨len, fun A outer s H args us vs Q E hcalm hr e0 hb r hsp => ?_⟩
  have hlen := len vs H Q E hsp
  have old : ∀ b o, base.get? b = some o → s.heap.get? b = some o := fun b o e => (e0.bs b o e).1
  have kin := e0.mod.kin.keeps old
  have kinds : ∀ y ∈ ps.zip us, scope.names.lookup y.1 = some .local ∨
      (scope.names.lookup y.1 = some .cell ∧ ((cellsFrom (s.heap.objs.size + 1) scope.names []).lookup y.1).isSome = true) := by
    rintro ⟨n, v⟩ hy
    have hm := (List.of_mem_zip hy).1
    cases S.par n hm with
    | inl q => exact Or.inl q
    | inr q => exact Or.inr ⟨q, PySem.W.cellsFrom_some _ _ _ (.inl q)⟩
  refine codeAny_call_function hr.depth (kin _ _ lk) rfl S.co S.gen rfl
    (PySem.W.codeRec_of kin hcd) (hb _ _ _ _ ?_)
  refine wpAny_newFunctionEnv_cells S.kind kinds fun env he s1 x => ?_
  subst he
  refine ⟨(e0.mod.nolimit.keeps old).keeps x.toInCall.keep, codeAny_func ?_⟩
  obtain ⟨t, ht, hq⟩ := hbody A outer s H vs Q E hcalm (hr.deeper _) hsp
  have J0 := inv_start (CX := CX) (E := E) (N := N) S hr.hd e0 hlen r x
  refine wpAny_mono (ht.run [] s1 (start N vs) H _ J0 hq) (fun fl s' hs => ?_) (fun _ _ z => z)
  cases fl with
  | ret u =>
    obtain ⟨v, σ', H', J, rv, q⟩ := hs
    exact ⟨v, H', J.os, J.bare, J.base, J.hok, rv, q⟩
  | next =>
    obtain ⟨σ', H', J, q⟩ := hs
    exact ⟨V.non, H', J.os, J.bare, J.base, J.hok, rfl, q⟩
  | brk =>
    obtain ⟨_, _, _, q⟩ := hs
    exact q.elim
  | cont =>
    obtain ⟨_, _, _, q⟩ := hs
    exact q.elim

theorem okG {x qual : Str} {st : Stmt} {f : Addr} {fd : FuncData} {N ps : List Str} {k : Nat} {sp : Sp} (F : Fun K x qual st f fd)
    (S : FnScope N ps (defScope st)) (len : ∀ vs H Q E, sp vs H Q E → vs.length = ps.length)
    (hbody : ∀ (cdv : Value) (A : Around) (outer : List Env) (s : Shared) (H : Hp) (vs : List V) (Q : VK) (E : XK), Calm A →
      Room k (A.deeper (envOfC qual (defScope st) s.heap.objs.size f cdv)) → sp vs H Q E →
        ∃ t, PSs (cxOf CX0 P w K mg base N qual (defScope st) f cdv A outer s H E).nox (defBody st) t ∧
          t { nx := fun _ H' => Q .non H', rt := Q } (start N vs) H) : FnG P w K mg base CX0 (k + 1) f fd ps sp := by
  obtain ⟨oc, od, kV, doc, pm, an, cdv, ct, osl, rfl, lk, hcd⟩ := F.ex
  refine g_of lk hcd S len fun A outer s H vs Q E hc hr hsp => ?_
  obtain ⟨t, h, q⟩ := hbody cdv A outer s H vs Q E hc hr hsp
  exact ⟨t, h.nox, q⟩
end

section
variable {X : Cx} {CX : CXT} {k : Nat} {f : Addr} {fd : FuncData} {ps : List Str} {sp : Sp} {dvs : List V} {ds : List Value} {E : XK}
  {x : Str} {p pos : Pos} {e : Expr} {es : List Expr} {t : TA}
theorem run_g {pins : List (Addr × Obj)} {σ : L2.St} {H : Hp} {s : Shared} {Q : VK} {us : List Value} {vs : List V}
    (F : FnG X.prog X.w X.K X.mg X.base CX k f fd ps sp) (hcm : Calm X.A) (hr : Room k X.A) (hb : Binds X.K fd ps ds) (hd : Vals dvs ds)
    (hx : Passes CX X E) (I : Inv X pins σ H s) (r : Vals vs us) (h : sp (vs ++ dvs) H Q E) :
    wpAny (model X.prog X.w) X.A (call (.ref f) us) (EP X pins σ Q) X.xe s := by
  have rr : Vals (vs ++ dvs) (us ++ ds) := Vals.append r hd
  have hl : (us ++ ds).length = ps.length := rr.length.symm.trans (F.lenG _ _ _ _ h)
  have run := F.runG X.A X.stack s H ⟨us, []⟩ (us ++ ds) (vs ++ dvs) Q E hcm hr I.env0 (hb s us I.kIn hl) rr h
  refine wpAny_call (codeAny_mono run ?_)
  intro r s' hq
  match r, hq with
  | .error e, hq => exact hx pins σ H s e s' I hq
  | .ok (.ret u), hq => exact I.after hq
/-- f(e, ..), f known where no repr runs -/
theorem pe_callG (F : FnG X.prog X.w X.K X.mg X.base CX k f fd ps sp) (hcm : Calm X.A) (hr : Room k X.A) (hg : Gl X x)
    (hm : X.mg x = some (.ref f)) (hk : PySem.W.keepIn X.K (.ref f) = true) (hb : Binds X.K fd ps ds) (hd : Vals dvs ds)
    (hx : Passes CX X E) (ha : PA X (e :: es) t) (hdb : (x == ("__debug__" : Str)) = false := by decide)
    (he : starEach (e :: es) X.env = (false, eval e X.env) :: starEach es X.env := by rfl)
    (hpl : (backTo pos (starEach es X.env)).any (·.1) = false := by rfl) :
    PE X (.Call (.Name x p) (e :: es) [] pos) (tCall sp dvs E t) := by
  constructor
  intro pins s σ H Q I h
  apply wpAny_Call_Name_kw
  refine ld_glob I hg hm ?_ hdb
  refine PySem.W.callWith_K (h₀ := X.base) I.ok.mod.kin hk ?_ he hpl
  exact thn (ha.run pos pins s σ H _ I h) fun us s1 ⟨vs, H1, I1, r, q⟩ => ⟨I1.kIn, run_g F hcm hr hb hd hx I1 r q⟩
end

/-! ### repr -/
section
variable {X : Cx}
/-- repr of data: the text that the data has -/
def rRepr (K : PySem.W.Frag) : List V → Hp → VK → Prop := fun xs H Q => ∃ (a : Addr) (d : PyData),
  xs = [.ref a] ∧ Dp K H (.ref a) d ∧ d.showable = true ∧ d.hasDict = false ∧ d.depth ≤ 60 ∧ d.shown.length ≤ sizeLine ∧ Q (.str d.shown) H
theorem cr_repr (hcm : Calm X.A) (hu : X.A.units + 64 < cLine) : CallR X (.builtin "repr") (rRepr X.K) := by
  intro pins s σ H xs us Q I r h
  obtain ⟨a, d, rfl, hd, hs, hn, hdp, hz, q⟩ := h
  obtain ⟨u, rfl, ru⟩ := vals1 r
  obtain rfl : u = Value.ref a := ru
  obtain ⟨as, rd⟩ := Dp.reads I d _ _ hd rfl
  refine repr_of_reads' rd hs (PyData.noDict_hsm hn) hcm (by omega) (fun _ _ e => e) (fun h' u tk hk => ?_) hz
  exact ⟨.str d.shown, H, I.un (h' := h') (t' := tk) (Un.kept hk) (I.hok.kept hk), ⟨u, rfl⟩, q⟩
end
end Rf

namespace Rf
open PySem PySem.Spec PyProof.Rows L2

/-! ### defs, as they stand and as they promise -/
structure Raw (K : PySem.W.Frag) (mg : Str → Option Value) (x : Str) (st : Stmt) (ps : List Str) : Type where
  f : Addr
  fd : FuncData
  fn : Fun K x x st f fd
  mg : mg x = some (.ref f)
  bd : Binds K fd ps []
structure Dfn (P : Program) (w : World) (K : PySem.W.Frag) (mg : Str → Option Value) (base : Heap) (x : Str) (k : Nat) (ps : List Str) (sp : Sp) : Type where
  f : Addr
  fd : FuncData
  ok : FnOk P w K mg base CX0 k f fd ps sp
  mg : mg x = some (.ref f)
  kp : PySem.W.keepIn K (.ref f) = true
  bd : Binds K fd ps []
structure DfnG (P : Program) (w : World) (K : PySem.W.Frag) (mg : Str → Option Value) (base : Heap) (x : Str) (k : Nat) (ps : List Str) (sp : Sp) : Type where
  f : Addr
  fd : FuncData
  ok : FnG P w K mg base CX0 k f fd ps sp
  mg : mg x = some (.ref f)
  kp : PySem.W.keepIn K (.ref f) = true
  bd : Binds K fd ps []

/-! ### what the built-in names stand for -/
theorem bt_len : bootBuiltins "len" = some (.builtin "len") := by decide +kernel
theorem bt_abs : bootBuiltins "abs" = some (.builtin "abs") := by decide +kernel
theorem bt_sorted : bootBuiltins "sorted" = some (.builtin "sorted") := by decide +kernel
theorem bt_repr : bootBuiltins "repr" = some (.builtin "repr") := by decide +kernel
theorem bt_isinstance : bootBuiltins "isinstance" = some (.builtin "isinstance") := by decide +kernel
theorem bt_sum : bootBuiltins "sum" = some (.builtin "sum") := by decide +kernel
theorem bt_max : bootBuiltins "max" = some (.builtin "max") := by decide +kernel
theorem bt_min : bootBuiltins "min" = some (.builtin "min") := by decide +kernel
theorem bt_all : bootBuiltins "all" = some (.builtin "all") := by decide +kernel
theorem bt_any : bootBuiltins "any" = some (.builtin "any") := by decide +kernel
theorem bt_int : bootBuiltins "int" = some (.type "int") := by decide +kernel
theorem bt_list : bootBuiltins "list" = some (.type "list") := by decide +kernel
theorem bt_tuple : bootBuiltins "tuple" = some (.type "tuple") := by decide +kernel
theorem bt_bool : bootBuiltins "bool" = some (.type "bool") := by decide +kernel
theorem bt_str : bootBuiltins "str" = some (.type "str") := by decide +kernel
theorem bt_set : bootBuiltins "set" = some (.type "set") := by decide +kernel
theorem bt_dict : bootBuiltins "dict" = some (.type "dict") := by decide +kernel
theorem bt_range : bootBuiltins "range" = some (.type "range") := by decide +kernel
theorem bt_enumerate : bootBuiltins "enumerate" = some (.type "enumerate") := by decide +kernel
theorem bt_zip : bootBuiltins "zip" = some (.type "zip") := by decide +kernel

/-! ### heaps -/
theorem same_new {H : Hp} {p : Addr} {o : HO} (h : H p = none) : Same H (upd H p o) := fun b u q => by
  rw [upd_ne (ne_of_none q h)]
  exact q
theorem Same.tup {K : PySem.W.Frag} {H H' : Hp} {a : Addr} {xs : List V} (e : Same H H') (h : SqT K H a xs) : SqT K H' a xs := by
  rcases h with (h | ⟨o, h⟩) | h
  · exact .inl (.inl (e _ _ h))
  · exact .inl (.inr ⟨o, e _ _ h⟩)
  · exact .inr h
mutual
theorem Same.dp {K : PySem.W.Frag} {H H' : Hp} (e : Same H H') {v : V} {d : PyData} (h : Dp K H v d) : Dp K H' v d := by
  cases h with
  | non => exact .non
  | bl b => exact .bl b
  | int i => exact .int i
  | str x => exact .str x
  | lst h1 h2 => exact .lst (e.seq h1) (Same.dpAll e h2)
  | tup h1 h2 => exact .tup (Same.tup e h1) (Same.dpAll e h2)
theorem Same.dpAll {K : PySem.W.Frag} {H H' : Hp} (e : Same H H') {vs : List V} {ds : List PyData} (h : DpAll K H vs ds) : DpAll K H' vs ds := by
  cases h with
  | nil => exact .nil
  | cons h1 h2 => exact .cons (Same.dp e h1) (Same.dpAll e h2)
end

/-! ### the deck: a list of two lists of ints and a count; what else is known stands in H0, which knows nothing of the deck -/
structure Deck (H0 H : Hp) (a : Addr) (c : Int) : Prop where
  same : Same H0 H
  ex : ∃ (p q : Addr) (cs rs : List Int), H a = some (.lst [.ref p, .ref q, .int c]) ∧ H p = some (.lst (cs.map V.int)) ∧ H q = some (.lst (rs.map V.int)) ∧
    cs.length = rs.length ∧ 0 < cs.length ∧ cs.length ≤ 1000 ∧ H0 a = none ∧ H0 p = none ∧ H0 q = none ∧ p ≠ q
  low : 0 ≤ c
  hi : c ≤ 1000000
/-- a new object, known -/
theorem Deck.new {H0 H : Hp} {a : Addr} {c : Int} (D : Deck H0 H a c) {x : Addr} (o : HO) (hx : H x = none) : Deck (upd H0 x o) (upd H x o) a c := by
  obtain ⟨s, ⟨p, q, cs, rs, h1, h2, h3, e1, e2, e3, n1, n2, n3, e4⟩, lo, hi⟩ := D
  have x1 := ne_of_none h1 hx
  have x2 := ne_of_none h2 hx
  have x3 := ne_of_none h3 hx
  refine ⟨fun b u z => ?_, ⟨p, q, cs, rs, ?_, ?_, ?_, e1, e2, e3, ?_, ?_, ?_, e4⟩, lo, hi⟩
  · by_cases hb : b = x
    · rw [hb, upd_same] at z ⊢
      exact z
    · rw [upd_ne hb] at z ⊢
      exact s _ _ z
  all_goals first
    | (rw [upd_ne x1]; assumption)
    | (rw [upd_ne x2]; assumption)
    | (rw [upd_ne x3]; assumption)
/-- a known object is changed -/
theorem Deck.put {H0 H : Hp} {a : Addr} {c : Int} (D : Deck H0 H a c) {x : Addr} {u : HO} (o : HO) (hx : H0 x = some u) : Deck (upd H0 x o) (upd H x o) a c := by
  obtain ⟨s, ⟨p, q, cs, rs, h1, h2, h3, e1, e2, e3, n1, n2, n3, e4⟩, lo, hi⟩ := D
  have x1 : a ≠ x := (ne_of_none hx n1).symm
  have x2 : p ≠ x := (ne_of_none hx n2).symm
  have x3 : q ≠ x := (ne_of_none hx n3).symm
  refine ⟨fun b v z => ?_, ⟨p, q, cs, rs, ?_, ?_, ?_, e1, e2, e3, ?_, ?_, ?_, e4⟩, lo, hi⟩
  · by_cases hb : b = x
    · rw [hb, upd_same] at z ⊢
      exact z
    · rw [upd_ne hb] at z ⊢
      exact s _ _ z
  all_goals first
    | (rw [upd_ne x1]; assumption)
    | (rw [upd_ne x2]; assumption)
    | (rw [upd_ne x3]; assumption)
theorem Deck.free {H0 H : Hp} {a : Addr} {c : Int} (D : Deck H0 H a c) {x : Addr} (hx : H x = none) : H0 x = none := D.same.free hx

/-- next(deck, many): a number below many, one draw more -/
def spNext : Sp := fun vs H Q _ => ∃ (H0 : Hp) (a : Addr) (c m : Int), vs = [.ref a, .int m] ∧ Deck H0 H a c ∧ c < 1000000 ∧ 0 < m ∧ m < 2 ^ 100 ∧
  ∀ (H' : Hp) (d : Int), Deck H0 H' a (c + 1) → 0 ≤ d → d < m → Q (.int d) H'
end Rf

namespace Rf
open PySem PySem.Spec PyProof.Rows L2
/-! ### comprehensions whose tests and elements leave what is known -/
def Lc (J : It) (slot : Nat) (tt : TT) (te : TE) (σ : L2.St) (H1 : Hp) (D : Addr) (Qd : Hp → Prop) : Prop :=
  ∃ W : Nat → Nat → Hp → Prop,
    (∃ m, W 0 m (upd H1 D (.lst []))) ∧
    ∀ i m H, W i m H →
      (J.stop i H ∧ Qd H) ∨
      (J.go i H ∧ ∃ Nx : Hp → Prop,
        (∀ H', Nx H' → ∃ m', m' < m ∧ W (i + 1) m' H') ∧
        ∀ x H', J.yld i H x H' →
          gName slot x (wipe σ [slot]) H' fun σ2 H2 =>
            wipe σ2 [slot] = wipe σ [slot] ∧
            tt σ2 H2 fun b H3 =>
              if b = true then
                te σ2 H3 fun y H4 =>
                  ∃ acc, H4 D = some (.lst acc) ∧
                    acc.length < sizeLine ∧
                    Nx (upd H4 D (.lst (acc ++ [y])))
              else Nx H3)
/-- a test, an element that reckons and leaves what is known -/
def Tst (tt : TT) (σ : L2.St) (H : Hp) (b : Bool) : Prop := ∀ R : Bool → Hp → Prop, (∀ H', Same H H' → R b H') → tt σ H R
def Elt (te : TE) (σ : L2.St) (H : Hp) (v : V) : Prop := ∀ R : VK, (∀ H', Same H H' → R v H') → te σ H R
theorem tst_yes {σ : L2.St} {H : Hp} : Tst tYes σ H true := fun R h => h H (Same.refl H)

section
variable {K : PySem.W.Frag} {a D : Addr} {xs : List V} {slot : Nat} {tt : TT} {te : TE} {σ : L2.St} {H1 : Hp} {Qd : Hp → Prop} (p : V → Bool) (f : V → V)
theorem wipe_back {σ : L2.St} {slot : Nat} {x : V} : wipe ((wipe σ [slot]).set slot (some x)) [slot] = wipe σ [slot] := by
  show (((σ.set slot none).set slot (some x)).set slot none) = σ.set slot none
  rw [List.set_set, List.set_set]
theorem take_fm {i : Nat} {x : V} (h : xs[i]? = some x) : ((xs.take (i + 1)).filter p).map f = ((xs.take i).filter p).map f ++ (if p x = true then [f x] else []) := by
  obtain ⟨hi, e⟩ := List.getElem?_eq_some_iff.mp h
  rw [List.take_succ_eq_append_getElem hi, e, List.filter_append, List.map_append]
  by_cases hp : p x = true
  · rw [if_pos hp, List.filter_cons_of_pos hp]; rfl
  · rw [if_neg hp, List.filter_cons_of_neg hp]; rfl
theorem fm_le (i : Nat) : (((xs.take i).filter p).map f).length ≤ i := by
  rw [List.length_map]
  exact Nat.le_trans (List.length_filter_le _ _) (by rw [List.length_take]; omega)
theorem turn_fm {Nx : Hp → Prop} {H : Hp} {i : Nat} {x : V} (hx : xs[i]? = some x) (hD : H1 D = none) (hz : xs.length ≤ sizeLine)
    (hs : Same H1 H) (hd : H D = some (.lst (((xs.take i).filter p).map f)))
    (ht : ∀ H', Same H1 H' → Tst tt ((wipe σ [slot]).set slot (some x)) H' (p x))
    (he : p x = true → ∀ H', Same H1 H' → Elt te ((wipe σ [slot]).set slot (some x)) H' (f x))
    (nx : ∀ H', Same H1 H' → H' D = some (.lst (((xs.take (i + 1)).filter p).map f)) → Nx H') :
    gName slot x (wipe σ [slot]) H fun σ2 H2 =>
      wipe σ2 [slot] = wipe σ [slot] ∧
      tt σ2 H2 fun b H3 => if b = true then te σ2 H3 fun y H4 => ∃ acc, H4 D = some (.lst acc) ∧ acc.length < sizeLine ∧ Nx (upd H4 D (.lst (acc ++ [y]))) else Nx H3 := by
  refine ⟨wipe_back, ht H hs _ fun H3 s3 => ?_⟩
  have e := take_fm p f hx
  have hi := (List.getElem?_eq_some_iff.mp hx).1
  by_cases hp : p x = true
  · rw [if_pos hp]
    refine he hp H3 (hs.trans s3) _ fun H4 s4 => ⟨_, s4 _ _ (s3 _ _ hd), ?_, ?_⟩
    · exact Nat.lt_of_le_of_lt (fm_le p f i) (Nat.lt_of_lt_of_le hi hz)
    · refine nx _ (fun b o q => ?_) ?_
      · rw [upd_ne (ne_of_none q hD)]
        exact s4 _ _ (s3 _ _ (hs _ _ q))
      · rw [upd_same, e, if_pos hp]
  · rw [if_neg hp]
    refine nx H3 (hs.trans s3) ?_
    rw [e, if_neg hp, List.append_nil]
    exact s3 _ _ hd
theorem lc_fmL (hq : SqL K H1 a xs) (hD : H1 D = none) (hz : xs.length ≤ sizeLine)
    (ht : ∀ x ∈ xs, ∀ H', Same H1 H' → Tst tt ((wipe σ [slot]).set slot (some x)) H' (p x))
    (he : ∀ x ∈ xs, p x = true → ∀ H', Same H1 H' → Elt te ((wipe σ [slot]).set slot (some x)) H' (f x))
    (hd : ∀ H', Same H1 H' → H' D = some (.lst ((xs.filter p).map f)) → Qd H') : Lc (Itl K a) slot tt te σ H1 D Qd := by
  refine lc_list (K := K) (a := a) (xs := xs) (vs := [slot]) (fun i H' => Same H1 H' ∧ H' D = some (.lst (((xs.take i).filter p).map f)))
    ⟨same_new hD, upd_same⟩ (fun _ _ _ h => h.1.seq hq) (fun i x H hx h => ?_) (fun H h => ?_)
  · have hm := List.mem_of_getElem? hx
    exact turn_fm p f hx hD hz h.1 h.2 (ht x hm) (he x hm) fun H' a b => ⟨a, b⟩
  · obtain ⟨h1, h2⟩ := h
    rw [List.take_length] at h2
    exact hd H h1 h2
theorem lc_fmT (hq : SqT K H1 a xs) (hD : H1 D = none) (hz : xs.length ≤ sizeLine)
    (ht : ∀ x ∈ xs, ∀ H', Same H1 H' → Tst tt ((wipe σ [slot]).set slot (some x)) H' (p x))
    (he : ∀ x ∈ xs, p x = true → ∀ H', Same H1 H' → Elt te ((wipe σ [slot]).set slot (some x)) H' (f x))
    (hd : ∀ H', Same H1 H' → H' D = some (.lst ((xs.filter p).map f)) → Qd H') : Lc (Itt K a) slot tt te σ H1 D Qd := by
  refine lc_tup (K := K) (a := a) (xs := xs) (vs := [slot]) (fun i H' => Same H1 H' ∧ H' D = some (.lst (((xs.take i).filter p).map f)))
    ⟨same_new hD, upd_same⟩ (fun _ _ _ h => Same.tup h.1 hq) (fun i x H hx h => ?_) (fun H h => ?_)
  · have hm := List.mem_of_getElem? hx
    exact turn_fm p f hx hD hz h.1 h.2 (ht x hm) (he x hm) fun H' a b => ⟨a, b⟩
  · obtain ⟨h1, h2⟩ := h
    rw [List.take_length] at h2
    exact hd H h1 h2
/-- over a range -/
def rng (lo : Int) (n : Nat) : List V := (List.range n).map fun i => V.int (lo + (i : Nat))
theorem rng_at {lo : Int} {n i : Nat} (h : i < n) : (rng lo n)[i]? = some (.int (lo + (i : Nat))) := by
  unfold rng
  rw [List.getElem?_map, List.getElem?_range h]; rfl
theorem rng_len {lo : Int} {n : Nat} : (rng lo n).length = n := by
  unfold rng
  rw [List.length_map, List.length_range]
theorem lc_fmR {lo : Int} {n : Nat} (hD : H1 D = none) (hz : n ≤ sizeLine)
    (ht : ∀ i : Nat, i < n → ∀ H', Same H1 H' → Tst tt ((wipe σ [slot]).set slot (some (.int (lo + (i : Nat))))) H' (p (.int (lo + (i : Nat)))))
    (he : ∀ i : Nat, i < n → p (.int (lo + (i : Nat))) = true → ∀ H', Same H1 H' → Elt te ((wipe σ [slot]).set slot (some (.int (lo + (i : Nat))))) H' (f (.int (lo + (i : Nat)))))
    (hd : ∀ H', Same H1 H' → H' D = some (.lst (((rng lo n).filter p).map f)) → Qd H') : Lc (Itr lo n) slot tt te σ H1 D Qd := by
  refine lc_range (vs := [slot]) (fun i H' => Same H1 H' ∧ H' D = some (.lst ((((rng lo n).take i).filter p).map f)))
    ⟨same_new hD, upd_same⟩ (fun i H hi h => ?_) (fun H h => ?_)
  · exact turn_fm p f (rng_at hi) hD (by rw [rng_len]; exact hz) h.1 h.2 (ht i hi) (he i hi) fun H' a b => ⟨a, b⟩
  · obtain ⟨h1, h2⟩ := h
    rw [List.take_of_length_le (by rw [rng_len]; exact Nat.le_refl n)] at h2
    exact hd H h1 h2
/-- no test -/
theorem all_fm : (xs.filter fun _ => true).map f = xs.map f := by rw [List.filter_eq_self.mpr fun _ _ => rfl]
end
end Rf

namespace Rf
open PySem PySem.Spec PyProof.Rows L2
/-! ### cuts -/
theorem cut_to (xs : List V) (z : Int) (h : 0 ≤ z) : cutV xs none (some z) = xs.take z.toNat := by
  have e : z = ((z.toNat : Nat) : Int) := by omega
  unfold cutV
  rw [e, HT.sIx_none, HT.sIx_nat, List.drop_zero, Nat.sub_zero, Int.toNat_natCast, ← List.take_eq_take_min]
theorem cut_from (xs : List V) (z : Int) (h : 0 ≤ z) : cutV xs (some z) none = xs.drop z.toNat := by
  have e : z = ((z.toNat : Nat) : Int) := by omega
  unfold cutV
  rw [e, HT.sIx_none, HT.sIx_nat, Int.toNat_natCast]
  by_cases hk : z.toNat ≤ xs.length
  · rw [Nat.min_eq_left hk]
    exact List.take_of_length_le (by rw [List.length_drop]; exact Nat.le_refl _)
  · rw [Nat.min_eq_right (by omega), List.drop_of_length_le (Nat.le_refl _), List.drop_of_length_le (by omega), List.take_nil]
theorem cut_both (xs : List V) (y z : Int) (h0 : 0 ≤ y) (h : 0 ≤ z) : cutV xs (some y) (some z) = (xs.take z.toNat).drop y.toNat := by
  have e1 : y = ((y.toNat : Nat) : Int) := by omega
  have e2 : z = ((z.toNat : Nat) : Int) := by omega
  unfold cutV
  rw [e1, e2, HT.sIx_nat, HT.sIx_nat, Int.toNat_natCast, Int.toNat_natCast]
  apply List.ext_getElem?
  intro i
  rw [List.getElem?_take, List.getElem?_drop, List.getElem?_drop, List.getElem?_take]
  by_cases hi : y.toNat + i < xs.length
  · rw [Nat.min_eq_left (by omega : y.toNat ≤ xs.length)]
    by_cases hz : y.toNat + i < z.toNat
    · rw [if_pos (by omega), if_pos hz]
    · rw [if_neg (by omega), if_neg hz]
  · have e3 : xs[y.toNat + i]? = none := List.getElem?_eq_none_iff.mpr (by omega)
    have e4 : xs[min y.toNat xs.length + i]? = none ∨ ¬ i < min z.toNat xs.length - min y.toNat xs.length := by
      by_cases q : i < min z.toNat xs.length - min y.toNat xs.length
      · left
        exact List.getElem?_eq_none_iff.mpr (by omega)
      · right
        exact q
    rw [e3]
    rcases e4 with q | q
    · rw [q]
      split <;> split <;> rfl
    · rw [if_neg q]
      split <;> rfl
theorem rep_flat {α : Type} (v : α) : ∀ r : Nat, (List.replicate r [v]).flatten = List.replicate r v
  | 0 => rfl
  | r + 1 => by rw [List.replicate_succ, List.replicate_succ, List.flatten_cons, rep_flat v r]; rfl
/-! ### rules with the written part named: in a comprehension's block the context is another, its written part is the same -/
section
variable {X : Cx} {tg e : Expr} {te : TE}
def rLen (K : PySem.W.Frag) : List V → Hp → VK → Prop := fun xs H Q => ∃ p ys, xs = [.ref p] ∧ (SqL K H p ys ∨ SqT K H p ys) ∧ Q (.int (ys.length : Nat)) H
def rListOf (K : PySem.W.Frag) : List V → Hp → VK → Prop := fun xs H Q => ∃ p ys, xs = [.ref p] ∧ (SqL K H p ys ∨ SqT K H p ys) ∧
  ∀ l, H l = none → Q (.ref l) (upd H l (.lst ys))
def rTupOf (K : PySem.W.Frag) : List V → Hp → VK → Prop := fun xs H Q => ∃ p ys, xs = [.ref p] ∧
  ((SqL K H p ys ∧ ∀ l, H l = none → Q (.ref l) (upd H l (.tup ys))) ∨ (SqT K H p ys ∧ Q (.ref p) H))
theorem lenK (K : PySem.W.Frag) (h : X.K = K := by rfl) : CallR X (.builtin "len") (rLen K) := by subst h; exact call_len_seq
theorem listOfK (K : PySem.W.Frag) (h : X.K = K := by rfl) : CallR X (.type "list") (rListOf K) := by subst h; exact call_list_of
theorem tupOfK (K : PySem.W.Frag) (h : X.K = K := by rfl) : CallR X (.type "tuple") (rTupOf K) := by subst h; exact call_tuple_of
theorem ixLK (K : PySem.W.Frag) (h : X.K = K := by rfl) : IxR X (rIxL K) := by subst h; exact ix_list
theorem ixTK (K : PySem.W.Frag) (h : X.K = K := by rfl) : IxR X (rIxT K) := by subst h; exact ix_tup
theorem ixSK (K : PySem.W.Frag) (h : X.K = K := by rfl) : IxR X (rIx K) := by subst h; exact ix_seq
theorem slLK (K : PySem.W.Frag) (h : X.K = K := by rfl) : SlR X (rSlL K) := by subst h; exact sl_list
theorem slTK (K : PySem.W.Frag) (h : X.K = K := by rfl) : SlR X (rSlA K) := by subst h; exact sl_tupA
theorem catTK (K : PySem.W.Frag) (h : X.K = K := by rfl) : OpR X (binaryOp .Add) (rCatA K) := by subst h; exact op_catA
theorem inK (K : PySem.W.Frag) (h : X.K = K := by rfl) : OpR X (compareOp .In) (rIn K false) := by subst h; exact op_in_seq
theorem eqDK (K : PySem.W.Frag) (hu : X.A.units + 64 < cLine) (h : X.K = K := by rfl) : OpR X (compareOp .Eq) (rEqD K) := by subst h; exact op_eqD hu
theorem neDK (K : PySem.W.Frag) (hu : X.A.units + 64 < cLine) (h : X.K = K := by rfl) : OpR X (compareOp .NotEq) (rNeD K) := by subst h; exact op_neD hu
theorem isiK (K : PySem.W.Frag) (h : X.K = K := by rfl) : CallR X (.builtin "isinstance") (rIsi K) := by subst h; exact call_isi
theorem isiTK (K : PySem.W.Frag) (h : X.K = K := by rfl) : CallR X (.builtin "isinstance") (rIsiT K) := by subst h; exact call_isiT
theorem reprK (K : PySem.W.Frag) (hc : Calm X.A) (hu : X.A.units + 64 < cLine) (h : X.K = K := by rfl) : CallR X (.builtin "repr") (rRepr K) := by subst h; exact cr_repr hc hu
theorem piLK (K : PySem.W.Frag) (he : PE X e te) (h : X.K = K := by rfl) : PI X tg e (iList K te) := by subst h; exact pi_list he
theorem piTK (K : PySem.W.Frag) (he : PE X e te) (h : X.K = K := by rfl) : PI X tg e (iTup K te) := by subst h; exact pi_tup he
end
/-! ### xs[::e], e 1 or -1 -/
theorem pick_one (items : Array Value) : slicePick items none none (some 1) = items := by
  have h := slicePick_cut items.toList none none
  have e : slicePick items none none (some 1) = slicePick items none none none := rfl
  rw [e]
  rw [HT.sIx_none, HT.sIx_none, List.drop_zero, Nat.sub_zero, List.take_length] at h
  exact h
section
variable {X : Cx}
def tStepL (K : PySem.W.Frag) (te ts : TE) : TE := fun σ H Q => te σ H fun x H1 => ts σ H1 fun y H2 => ∃ a xs, x = .ref a ∧ SqL K H2 a xs ∧
  ((y = .int 1 ∧ ∀ p, H2 p = none → Q (.ref p) (upd H2 p (.lst xs))) ∨ (y = .int (-1) ∧ ∀ p, H2 p = none → Q (.ref p) (upd H2 p (.lst xs.reverse))))
theorem pe_stepL {e st : Expr} {te ts : TE} {p3 pos : Pos} (he : PE X e te) (hst : PE X st ts)
    (hs : ∀ u v, subscripted (.Slice none none (some st) p3) false u v = operate [u, v] (getItem u v) := by intro u v; with_unfolding_all rfl) :
    PE X (.Subscript e (.Slice none none (some st) p3) pos) (tStepL X.K te ts) := by
  constructor
  intro pins s σ H Q I h
  refine Subscript_ (thn (he.run pins s σ H _ I h) fun v s1 ⟨x, H1, I1, r1, q1⟩ => ?_)
  refine wpAny_Slice (thn ((po_none (X := X)).run pins s1 σ H1 (fun o H2 => o = none ∧ H2 = H1) I1 ⟨rfl, rfl⟩) fun vl s2 ⟨l, H2, I2, pl, el, e2⟩ => ?_)
  subst el e2
  refine thn ((po_none (X := X)).run pins s2 σ H2 (fun o H3 => o = none ∧ H3 = H2) I2 ⟨rfl, rfl⟩) fun vu s3 ⟨u, H3, I3, pu, eu, e3⟩ => ?_
  subst eu e3
  rw [evalPart_some]
  refine thn (hst.run pins s3 σ H3 _ I3 q1) fun vs s4 ⟨y, H4, I4, r4, a, xs, ex, hx, q⟩ => ?_
  subst ex
  obtain rfl : v = Value.ref a := r1
  have I5 : Inv X pins σ H4 { s4 with heap := s4.heap.push { cls := .type "slice", data := .fields #[vl, vu, vs] } } :=
    I4.kept (t' := s4.toks) fun b ob z => Heap.get?_push_of_some _ z
  obtain ⟨its, r, ht, hz⟩ := I5.list hx
  have hlen := r.length
  have fin : ∀ (k : Int) (ys : List V), IsPart vs (some k) → k ≠ 0 → Vals ys (slicePick its.toArray none none (some k)).toList → ys.length = xs.length →
      (∀ p, H4 p = none → Q (.ref p) (upd H4 p (.lst ys))) →
      wpAny (model X.prog X.w) X.A (subscriptTail e (.Slice none none (some st) p3) (.ref a) (.ref s4.heap.objs.size)) (EP X pins σ Q) X.xe
        { s4 with heap := s4.heap.push { cls := .type "slice", data := .fields #[vl, vu, vs] } } := by
    intro k ys pk hk ry hy hq
    refine tail_any (ops := [.ref a, .ref s4.heap.objs.size]) ht.isList.typeIs (PySem.slot_list_getitem.lookup) ?_ (hs _ _)
    refine wpAny_getItem_list_slice ht.isList (Heap.IsSliceOf.new _ vl vu vs) pl pu pk (fun z => hk (Option.some.inj z)) ?_ (by rw [List.size_toArray]; omega)
    refine ⟨.ref _, _, I5.laid (t' := s4.toks) (o := .lst ys) (fun b ob z => Heap.get?_push_of_some _ z) (Nat.le_refl _) ?_, rfl, hq _ (I5.hok.fresh (Nat.le_refl _))⟩
    exact ⟨by rw [hy]; exact hz, _, 0, ry, Heap.get?_push_size _ rfl⟩
  rcases q with ⟨ey, q⟩ | ⟨ey, q⟩
  · subst ey
    obtain ⟨t, rfl⟩ := r4
    exact fin 1 xs (.int 1 t) (by decide) (by rw [pick_one]; exact r) rfl q
  · subst ey
    obtain ⟨t, rfl⟩ := r4
    exact fin (-1) xs.reverse (.int (-1) t) (by decide) (by rw [PySem.W.krv_pick]; exact r.reverse) (List.length_reverse ..) q
theorem stepLK (K : PySem.W.Frag) {e st : Expr} {te ts : TE} {p3 pos : Pos} (he : PE X e te) (hst : PE X st ts) (h : X.K = K := by rfl)
    (hs : ∀ u v, subscripted (.Slice none none (some st) p3) false u v = operate [u, v] (getItem u v) := by intro u v; with_unfolding_all rfl) :
    PE X (.Subscript e (.Slice none none (some st) p3) pos) (tStepL K te ts) := by
  subst h
  exact pe_stepL he hst hs
end
end Rf

/-! rows as lists of ints -/
namespace Rf
open PySem L2
def iota (n : Nat) : List Int := (List.range n).map fun i : Nat => (i : Int)
theorem iota_len (n : Nat) : (iota n).length = n := by unfold iota; rw [List.length_map, List.length_range]
theorem iota_map (n : Nat) : (iota n).map V.int = rgV 0 (n : Int) := by
  unfold iota rgV
  rw [List.map_map, show ((n : Int) - 0).toNat = n by omega]
  refine List.map_congr_left fun i _ => ?_
  show V.int (i : Int) = V.int (0 + (i : Nat))
  rw [Int.zero_add]
theorem iota_add (m n : Nat) : iota (m + n) = iota m ++ (iota n).map (fun x => x + (m : Int)) := by
  unfold iota
  rw [List.range_add, List.map_append, List.map_map, List.map_map]
  congr 1
  refine List.map_congr_left fun i _ => ?_
  show ((m + i : Nat) : Int) = (i : Int) + (m : Int)
  omega
theorem iota_mem {n : Nat} {x : Int} : x ∈ iota n ↔ 0 ≤ x ∧ x < n := by
  unfold iota
  rw [List.mem_map]
  constructor
  · rintro ⟨i, hi, rfl⟩
    have := List.mem_range.mp hi
    omega
  · rintro ⟨h0, h1⟩
    exact ⟨x.toNat, List.mem_range.mpr (by omega), Int.toNat_of_nonneg h0⟩
theorem iota_nodup (n : Nat) : (iota n).Nodup := by
  unfold iota
  have h : List.Pairwise (fun a b : Nat => a ≠ b) (List.range n) := List.nodup_range
  refine List.pairwise_map.mpr ?_
  refine List.Pairwise.imp (R := fun a b : Nat => a ≠ b) (fun {a b} q => ?_) h
  exact fun e => q (by omega)
/-- each of 0 .. n - 1 once -/
def Row (xs : List Int) : Prop := xs.Perm (iota xs.length)
theorem Row.iota (n : Nat) : Row (iota n) := by
  unfold Row
  rw [iota_len]
theorem Row.of {xs : List Int} {n : Nat} (h : xs.Perm (Rf.iota n)) : Row xs := by
  have e := h.length_eq
  rw [iota_len] at e
  unfold Row
  rw [e]
  exact h
theorem Row.perm {xs ys : List Int} (h : Row xs) (p : ys.Perm xs) : Row ys := Row.of (p.trans h)
theorem beside_len (xs ys : List Int) (t : Bool) : (if t = true then xs.map (fun x => x + (ys.length : Int)) ++ ys else xs ++ ys.map (fun y => y + (xs.length : Int))).length = xs.length + ys.length := by
  cases t
  · rw [if_neg Bool.false_ne_true, List.length_append, List.length_map]
  · rw [if_pos rfl, List.length_append, List.length_map]
theorem beside_row {xs ys : List Int} (hx : Row xs) (hy : Row ys) (t : Bool) :
    Row (if t = true then xs.map (fun x => x + (ys.length : Int)) ++ ys else xs ++ ys.map (fun y => y + (xs.length : Int))) := by
  cases t
  · rw [if_neg Bool.false_ne_true]
    refine Row.of (n := xs.length + ys.length) ?_
    rw [iota_add]
    exact hx.append (hy.map _)
  · rw [if_pos rfl]
    refine Row.of (n := ys.length + xs.length) ?_
    rw [iota_add]
    exact (List.perm_append_comm).trans (hy.append (hx.map _))
theorem low_perm {xs : List Int} {n : Nat} (h : xs.Perm (iota n)) : (xs.filter fun x => decide (x < 5)).Perm (iota (min n 5)) := by
  refine (h.filter _).trans ?_
  have e : (iota n).filter (fun x => decide (x < 5)) = iota (min n 5) := by
    unfold iota
    rw [List.filter_map]
    by_cases hn : n ≤ 5
    · rw [Nat.min_eq_left hn, List.filter_eq_self.mpr]
      intro i hi
      have := List.mem_range.mp hi
      show decide ((i : Int) < 5) = true
      exact decide_eq_true (by omega)
    · obtain ⟨k, rfl⟩ : ∃ k, n = 5 + k := ⟨n - 5, by omega⟩
      rw [Nat.min_eq_right (show 5 ≤ 5 + k by omega), List.range_add, List.filter_append, List.map_append]
      have e1 : (List.range 5).filter ((fun x => decide (x < 5)) ∘ fun i : Nat => (i : Int)) = List.range 5 := by
        refine List.filter_eq_self.mpr fun i hi => ?_
        have := List.mem_range.mp hi
        show decide ((i : Int) < 5) = true
        exact decide_eq_true (by omega)
      have e2 : ((List.range k).map (5 + ·)).filter ((fun x => decide (x < 5)) ∘ fun i : Nat => (i : Int)) = [] := by
        refine List.filter_eq_nil_iff.mpr fun i hi => ?_
        obtain ⟨j, _, rfl⟩ := List.mem_map.mp hi
        show ¬ decide (((5 + j : Nat) : Int) < 5) = true
        exact fun z => by
          have := of_decide_eq_true z
          omega
      rw [e1, e2, List.map_nil, List.append_nil]
  rw [e]
theorem swap_perm {α : Type} (l : List α) (k : Nat) : (l.take k ++ ((l.drop k).take 2).reverse ++ (l.drop k).drop 2).Perm l := by
  have h1 : (((l.drop k).take 2).reverse ++ (l.drop k).drop 2).Perm (l.drop k) := by
    refine ((List.reverse_perm _).append_right _).trans ?_
    rw [List.take_append_drop]
  rw [List.append_assoc]
  refine (h1.append_left _).trans ?_
  rw [List.take_append_drop]
end Rf

/-! rules for tuples of ints: sorted(t), t.index(x), t[::-1] -/
namespace Rf
open PySem PySem.Spec PyProof.Rows L2
section
variable {prog : Program} {w : World} {A : Around} {E : Value → Shared → Prop} {s : Shared}
/-- what sorted gathers, of a tuple -/
theorem gather_tup {l : Addr} {vs : List Value} {Q : List Value → Shared → Prop} (hl : IsTup s.heap l vs.toArray) (hsz : vs.length ≤ sizeLine)
    (h : Q vs { s with heap := (s.heap.push (seqObj "list" #[] 0)).update s.heap.objs.size (Obj.mapSeq (· ++ vs.toArray)) }) :
    wpAny (model prog w) A (collect (.ref l)) Q E s := by
  obtain ⟨o, ho, hc, n, hd⟩ := hl
  have hnew : (s.heap.push (seqObj "list" #[] 0)).get? s.heap.objs.size = some (seqObj "list" #[] 0) := Heap.get?_push_size _ rfl
  have hold : (s.heap.push (seqObj "list" #[] 0)).get? l = some o := Heap.get?_push_of_some _ ho
  unfold collect
  refine wpAny_bind ?_
  refine wpAny_runValue (codeAny_builtin entry_proto_collect' ?_)
  show wpAny _ _ (do again (.builtin "list.__iadd__" ⟨[← newList [], .ref l], []⟩)) _ _ s
  refine wpAny_bind (wpAny_newList ?_)
  refine wpAny_pure ⟨Code.quiet_builtin _ (by decide +kernel), codeAny_builtin entry_list_iadd' ?_⟩
  show wpAny _ _ (Builtin.List.listExtendWith (.ref s.heap.objs.size) (.ref l) (.ref s.heap.objs.size)) _ _
    { s with heap := s.heap.push (seqObj "list" #[] 0) }
  unfold Builtin.List.listExtendWith
  refine wpAny_bind (wpAny_typeOf (T := "tuple") ⟨o, hold, hc⟩ ?_)
  have yes : (Builtin.List.listSameRef (.ref s.heap.objs.size) (.ref l) || Value.type "tuple" == Value.type "list" || Value.type "tuple" == Value.type "tuple") = true := by
    rw [show (Value.type "tuple" == Value.type "tuple") = true from rfl, Bool.or_true]
  rw [if_pos yes]
  refine wpAny_bind (listItems_at hold hd ?_)
  refine wpAny_bind (listItems_at (xs := #[]) (n := 0) hnew rfl ?_)
  rw [if_neg (by simp)]
  refine wpAny_bind ?_
  refine listUpdate_at (xs := #[]) (n := 0) hnew rfl ?_ (Nat.zero_le _)
    (by show (#[] ++ vs.toArray).size ≤ sizeLine + 1; simp only [Array.size_append, List.size_toArray, List.length_nil]; omega)
  refine wpAny_pure ?_
  show wpAny (model prog w) A (load s.heap.objs.size >>= fun o => _) Q E _
  refine wpAny_bind ?_
  refine wpAny_load (get?_update_seq hnew _) ?_
  show wpAny _ _ (pure ((#[] : Array Value) ++ vs.toArray).toList) Q E _
  have e : ((#[] : Array Value) ++ vs.toArray).toList = vs := by simp
  rw [e]
  exact wpAny_pure h
theorem sorted_tup {l : Addr} {vs : List Value} {ns : List Int} {Q : Value → Shared → Prop} (hl : IsTup s.heap l vs.toArray) (hI : IntsAre vs ns) (h64 : vs.length < 64)
    (h : ∀ (out : Array Value) (ns' : List Int), IntsAre out.toList ns' → ns'.Perm ns → ns'.Pairwise (· ≤ ·) →
      Q (.ref (s.heap.objs.size + 1)) { s with heap := sortedAll s.heap vs out }) :
    wpAny (model prog w) A (call (.builtin "sorted") [.ref l]) Q E s := by
  refine Calls.call_function_entry kind_sorted plain_sorted entry_sorted (args_sorted1 _) ?_
  unfold Builtin.«sorted»
  refine wpAny_bind (m := checkCount "sorted" 1 1 _) ?_
  refine wpAny_pure ?_
  refine wpAny_bind ?_
  refine gather_tup hl (by rw [sizeLine_eq]; omega) ?_
  refine wpAny_bind ?_
  refine wpAny_newList ?_
  generalize hg : (s.heap.push (seqObj "list" #[] 0)).update s.heap.objs.size (Obj.mapSeq (· ++ vs.toArray)) = g
  have hsz : g.objs.size = s.heap.objs.size + 1 := by rw [← hg, Heap.size_update, size_push']
  have hoL : (g.push (seqObj "list" vs.toArray 0)).get? (s.heap.objs.size + 1) = some (seqObj "list" vs.toArray 0) := by
    rw [← hsz]
    exact Heap.get?_push_size _ rfl
  show wpAny _ _ _ _ _ { s with heap := g.push (seqObj "list" vs.toArray 0) }
  rw [hsz]
  refine wpAny_bind (wpAny_holding ?_)
  refine wpAny_call_entry slot_list_sort ⟨_, hoL, rfl⟩ entry_list_sort ?_ (args_list_sort _)
  refine list_sort_tree hoL hI h64 fun out ns' a1 a2 a3 => ⟨_, rfl, ?_⟩
  refine wpAny_pure ⟨_, rfl, ?_⟩
  have hh := h out ns' a1 a2 a3
  unfold sortedAll at hh
  rw [hg] at hh
  exact hh
end
theorem adjust_back (n : Nat) : Builtin.Slice.sliceAdjust none none (-1) (n : Int) = ((n : Int) - 1, -1) := by
  unfold Builtin.Slice.sliceAdjust
  have h : ((-1 : Int) < 0) := by decide
  simp only [h, if_true]
theorem places_back (n : Nat) : Builtin.Slice.slicePlaces ((n : Int) - 1) (-1) (-1) = n := by
  unfold Builtin.Slice.slicePlaces
  have h1 : ¬ ((-1 : Int) > 0) := by decide
  simp only [h1, if_false]
  have e : (-(-1) : Int) = 1 := by decide
  rw [e, Int.ediv_one]
  split <;> omega
theorem fm_congr {α β : Type} {f g : α → Option β} : ∀ {l : List α}, (∀ x ∈ l, f x = g x) → l.filterMap f = l.filterMap g
  | [], _ => rfl
  | a :: l, h => by
    rw [List.filterMap_cons, List.filterMap_cons, h a (by simp), fm_congr fun x hx => h x (by simp [hx])]
theorem pick_back (xs : List Value) : ((List.range xs.length).filterMap fun (k : Nat) => xs.toArray[(((xs.length : Int) - 1) + (k : Int) * (-1)).toNat]?).toArray = xs.reverse.toArray := by
  congr 1
  have e : ((List.range xs.length).map fun k => xs.length - 1 - k) = (List.range xs.length).reverse := PySem.W.krv_range xs.length
  have h1 : ((List.range xs.length).filterMap fun (k : Nat) => xs.toArray[(((xs.length : Int) - 1) + (k : Int) * (-1)).toNat]?) = ((List.range xs.length).map fun k => xs.length - 1 - k).filterMap (fun j => xs.toArray[j]?) := by
    rw [List.filterMap_map]
    refine fm_congr fun k hk => ?_
    have hk' := List.mem_range.mp hk
    show xs.toArray[(((xs.length : Int) - 1) + (k : Int) * (-1)).toNat]? = xs.toArray[xs.length - 1 - k]?
    rw [show (((xs.length : Int) - 1) + (k : Int) * (-1)).toNat = xs.length - 1 - k by omega]
  have h2 := PySem.W.krv_all xs.toArray
  rw [List.size_toArray] at h2
  rw [h1, e, List.filterMap_reverse, h2]
section
variable {prog : Program} {w : World} {A : Around} {E : Value → Shared → Prop} {s : Shared}
theorem getItem_tup_back {t sl : Addr} {items : List Value} {vl vu vs : Value} {Q : Value → Shared → Prop} (ht : IsTup s.heap t items.toArray)
    (hs : s.heap.IsSliceOf sl vl vu vs) (pl : IsPart vl none) (pu : IsPart vu none) (ps : IsPart vs (some (-1))) (hsz : items.length ≤ sizeLine)
    (h : Q (.ref s.heap.objs.size) { s with heap := s.heap.push { cls := .type "tuple", data := .seq items.reverse.toArray } }) :
    wpAny (model prog w) A (getItem (.ref t) (.ref sl)) Q E s := by
  have fits : sizeOk (.seq items.reverse.toArray) := by
    show items.reverse.toArray.size ≤ sizeLine
    rw [List.size_toArray, List.length_reverse]
    exact hsz
  obtain ⟨os, hos, hcs, hds⟩ := hs
  have hTs : s.TypeIs (.ref sl) "slice" := ⟨os, hos, hcs⟩
  unfold getItem
  try with_reducible refine wpAny_holding ?_
  first | refine wpAny_bind (wpAny_pure ?_) | skip
  refine wpAny_bind ?_
  refine wpAny_sequenceKey ht.typeIs (by decide) ?_
  refine wpAny_bind ?_
  refine wpAny_callSpecial?_slot (name := Str.ofString "__getitem__") ht.typeIs PyProof.Rows.slot_tuple_getitem ?_
  refine wpAny_call_entry PyProof.Rows.slot_tuple_getitem ht.typeIs entry_tuple_getitem ?_ (args_tuple_getitem _ _)
  show wpAny _ _ (Builtin.Tuple.tupleItemsOf (.ref t) >>= _) _ _ s
  refine wpAny_bind ?_
  refine tupleItemsOf_ ht ?_
  refine wpAny_bind ?_
  refine wpAny_typeOf hTs ?_
  rw [if_pos (by decide)]
  refine wpAny_bind ?_
  unfold Builtin.Slice.sliceApplied Builtin.Slice.sliceFields
  refine wpAny_bind (wpAny_bind (wpAny_field hos hds (x := vl) rfl ?_))
  refine wpAny_bind (wpAny_field hos hds (x := vu) rfl ?_)
  refine wpAny_bind (wpAny_field hos hds (x := vs) rfl ?_)
  refine wpAny_pure ?_
  refine wpAny_bind (HT.slicePart_ ps ?_)
  show wpAny _ _ (if ((-1 : Int) == 0) = true then _ else _) _ _ s
  rw [if_neg (by decide)]
  refine wpAny_bind (HT.slicePart_ pl ?_)
  refine wpAny_bind (HT.slicePart_ pu ?_)
  refine wpAny_bind (wpAny_pure ?_)
  show wpAny _ _ (match Builtin.Slice.sliceAdjust none none (-1) ((items.toArray.size : Nat) : Int) with | (lo, hi) => pure (lo, (-1 : Int), Builtin.Slice.slicePlaces lo hi (-1))) _ _ s
  rw [List.size_toArray, adjust_back]
  show wpAny _ _ (pure (((items.length : Int) - 1), (-1 : Int), Builtin.Slice.slicePlaces ((items.length : Int) - 1) (-1) (-1))) _ _ s
  rw [places_back]
  refine wpAny_pure ?_
  show wpAny _ _ (if (((items.length : Int) - 1) == 0 && (-1 : Int) == 1 && items.length == items.length) = true then _ else _) _ _ s
  rw [if_neg (by simp), pick_back]
  first
    | exact wpAny_bind (m := Builtin.Tuple.tupleExact _) (wpAny_newObj_type (wpAny_pure ⟨_, rfl, wpAny_pure h⟩) fits)
    | exact wpAny_bind (m := Builtin.Tuple.tupleExact _) (wpAny_newObj_type (wpAny_bind (wpAny_pure (wpAny_pure ⟨_, rfl, wpAny_pure h⟩))) fits)
    | exact wpAny_bind (wpAny_bind (m := Builtin.Tuple.tupleExact _) (wpAny_newObj_type (wpAny_pure (wpAny_pure ⟨_, rfl, wpAny_pure h⟩)) fits))
    | exact wpAny_bind (wpAny_bind (m := Builtin.Tuple.tupleExact _) (wpAny_newObj_type (wpAny_pure ⟨_, rfl, wpAny_pure h⟩) fits))
end
section
variable {X : Cx}
/-- t[::-1] -/
def tStepT (K : PySem.W.Frag) (te ts : TE) : TE := fun σ H Q => te σ H fun x H1 => ts σ H1 fun y H2 => ∃ a xs, x = .ref a ∧ SqT K H2 a xs ∧ y = .int (-1) ∧
  ∀ p, H2 p = none → Q (.ref p) (upd H2 p (.tup xs.reverse))
theorem stepTK (K : PySem.W.Frag) {e st : Expr} {te ts : TE} {p3 pos : Pos} (he : PE X e te) (hst : PE X st ts) (hK : X.K = K := by rfl)
    (hs : ∀ u v, subscripted (.Slice none none (some st) p3) false u v = operate [u, v] (getItem u v) := by intro u v; with_unfolding_all rfl) :
    PE X (.Subscript e (.Slice none none (some st) p3) pos) (tStepT K te ts) := by
  subst hK
  constructor
  intro pins s σ H Q I h
  refine Subscript_ (thn (he.run pins s σ H _ I h) fun v s1 ⟨x, H1, I1, r1, q1⟩ => ?_)
  refine wpAny_Slice (thn ((po_none (X := X)).run pins s1 σ H1 (fun o H2 => o = none ∧ H2 = H1) I1 ⟨rfl, rfl⟩) fun vl s2 ⟨l, H2, I2, pl, el, e2⟩ => ?_)
  subst el e2
  refine thn ((po_none (X := X)).run pins s2 σ H2 (fun o H3 => o = none ∧ H3 = H2) I2 ⟨rfl, rfl⟩) fun vu s3 ⟨u, H3, I3, pu, eu, e3⟩ => ?_
  subst eu e3
  rw [evalPart_some]
  refine thn (hst.run pins s3 σ H3 _ I3 q1) fun vs s4 ⟨y, H4, I4, r4, a, xs, ex, hx, ey, q⟩ => ?_
  subst ex ey
  obtain rfl : v = Value.ref a := r1
  obtain ⟨t, rfl⟩ := r4
  have I5 : Inv X pins σ H4 { s4 with heap := s4.heap.push { cls := .type "slice", data := .fields #[vl, vu, .int (-1) t] } } :=
    I4.kept (t' := s4.toks) fun b ob z => Heap.get?_push_of_some _ z
  obtain ⟨its, r, ht, hz⟩ := I5.tuple hx
  have hlen := r.length
  show wpAny (model X.prog X.w) X.A (subscriptTail e (.Slice none none (some st) p3) (.ref a) (.ref s4.heap.objs.size)) (EP X pins σ Q) X.xe
    { s4 with heap := s4.heap.push { cls := .type "slice", data := .fields #[vl, vu, .int (-1) t] } }
  refine tail_any (ops := [.ref a, .ref s4.heap.objs.size]) ht.typeIs (PyProof.Rows.slot_tuple_getitem.lookup) ?_ (hs _ _)
  refine getItem_tup_back ht (Heap.IsSliceOf.new _ vl vu _) pl pu (.int (-1) t) (by omega) ?_
  refine ⟨.ref _, _, I5.laid (t' := s4.toks) (o := .tup xs.reverse) (fun b ob z => Heap.get?_push_of_some _ z) (Nat.le_refl _) ?_, rfl, q _ (I5.hok.fresh (Nat.le_refl _))⟩
  exact ⟨by rw [List.length_reverse]; exact hz, _, r.reverse, IsTup.new _ _⟩
/-- sorted(t), a tuple of ints -/
def rSortTu (K : PySem.W.Frag) : List V → Hp → VK → Prop := fun vs H Q => ∃ (a : Addr) (ns : List Int), vs = [V.ref a] ∧ SqT K H a (ns.map V.int) ∧ ns.length < 64 ∧
  ∀ (ms : List Int) (p : Addr), ms.Perm ns → ms.Pairwise (· ≤ ·) → H p = none → Q (.ref p) (upd H p (.lst (ms.map V.int)))
theorem sortTuK (K : PySem.W.Frag) (hK : X.K = K := by rfl) : CallR X (.builtin "sorted") (rSortTu K) := by
  subst hK
  intro pins s σ H vs us Q I r h
  obtain ⟨a, ns, rfl, hs, h64, q⟩ := h
  obtain ⟨its, rv, hl, hz⟩ := I.tuple hs
  rw [Vals.ref1 r]
  have hi := rv.ints
  refine sorted_tup hl hi (by rw [hi.length]; exact h64) fun out ms h1 h2 h3 => ?_
  obtain ⟨ep, he⟩ := sortedAll_at s.heap its out
  have hlen : (ms.map V.int).length ≤ sizeLine := by
    rw [List.length_map, h2.length_eq]
    exact small64 h64
  have J := I.laid (t' := s.toks) (o := .lst (ms.map V.int)) (fun _ _ => sortedAll_old) (Nat.le_succ _) ⟨hlen, out.toList, ep, vals_of_ints h1, he⟩
  exact ⟨.ref _, _, J, rfl, q ms _ h2 h3 (I.hok.fresh (Nat.le_succ _))⟩
/-- t.index(x), ints -/
def rIndexT (K : PySem.W.Frag) : V → List V → Hp → VK → Prop := fun x xs H Q => ∃ (a : Addr) (ns : List Int) (n : Int) (j : Nat), x = V.ref a ∧ xs = [.int n] ∧ SqT K H a (ns.map V.int) ∧
  ns[j]? = some n ∧ (∀ m, m < j → ns[m]? ≠ some n) ∧ Q (.int (j : Nat)) H
theorem mt_tindex (K : PySem.W.Frag) (hK : X.K = K := by rfl) : MtR X "tuple.index" (rIndexT K) := by
  subst hK
  intro pins s σ H x xs v us Q I rx rs h
  obtain ⟨p, ns, n, j, rfl, rfl, hq, hy, hno, q⟩ := h
  cases rx
  obtain ⟨u, rfl, t, rfl⟩ := vals1 rs
  obtain ⟨its, r, pl, hz⟩ := I.tuple hq
  obtain ⟨⟨cls, dd, dt, sl⟩, ho, hc, nn, hd⟩ := pl
  simp only at hc hd
  subst hc
  subst hd
  have hl : its.toArray.size = ns.length := by rw [List.size_toArray, ← r.length, List.length_map]
  have hj : j < its.toArray.size := by rw [hl]; exact (List.getElem?_eq_some_iff.mp hy).1
  have item : ∀ (m : Nat) (hm : m < its.toArray.size), ∃ y t', ns[m]? = some y ∧ its.toArray[m] = Value.int y t' := fun m hm => by
    have hm' : m < ns.length := by rw [← hl]; exact hm
    obtain ⟨w, hw, t', hw'⟩ := r.get (i := m) (x := .int ns[m]) (by simp [hm'])
    refine ⟨ns[m], t', List.getElem?_eq_getElem hm', ?_⟩
    have e := (List.getElem?_eq_some_iff.mp hw).2
    rw [← hw', ← e]
    simp
  have flat : (ns.map V.int).all flatV = true := List.all_eq_true.mpr fun z hz => by
    obtain ⟨i, _, rfl⟩ := List.mem_map.mp hz
    rfl
  refine call_meets PySem.F.slot_tuple_index ⟨_, ho, rfl⟩ PySem.F.entry_tuple_index (PySem.F.args_tuple_index_2 _ _)
    (TI.tuple_indexAt p its.toArray nn dd sl (.int n t) (eqU (.int n)) j hj ?_ ?_)
    ⟨ho, fun w hw => mem_eqAt (x := .int n) ⟨t, rfl⟩ rfl r flat w (by simpa using hw), ⟨.int (j : Nat), H, I.tok _, ⟨_, rfl⟩, q⟩⟩
  · obtain ⟨y, t', h1, h2⟩ := item j hj
    rw [hy] at h1
    cases h1
    rw [h2]
    show (n == n) = true
    exact beq_self_eq_true n
  · intro m hm hmj
    obtain ⟨y, t', h1, h2⟩ := item m hm
    rw [h2]
    show (y == n) = false
    exact beq_eq_false_iff_ne.mpr fun e => hno m hmj (by rw [h1, e])
end
end Rf

namespace Rf
open PySem L2
/-! the built-in names are the built-ins -/
structure Txt (mg : Str → Option Value) : Prop where
  b_len : mg "len" = none
  b_abs : mg "abs" = none
  b_int : mg "int" = none
  b_list : mg "list" = none
  b_tuple : mg "tuple" = none
  b_range : mg "range" = none
  b_sorted : mg "sorted" = none
  b_repr : mg "repr" = none
  b_isinstance : mg "isinstance" = none
  b_bool : mg "bool" = none
  b_str : mg "str" = none
  b_enumerate : mg "enumerate" = none
  b_sum : mg "sum" = none
  b_max : mg "max" = none
  b_min : mg "min" = none
  b_all : mg "all" = none
  b_any : mg "any" = none
  b_zip : mg "zip" = none
  b_set : mg "set" = none
theorem at_map {ns : List Int} {z : Int} (h0 : 0 ≤ z) (h1 : z < (ns.length : Int)) : atI (ns.map V.int) z = some (.int (ns.getD z.toNat 0)) := by
  have hk : z.toNat < ns.length := by omega
  have q : atI (ns.map V.int) ((z.toNat : Nat) : Int) = some (.int (ns.getD z.toNat 0)) :=
    atI_nat (by rw [List.getElem?_map, List.getElem?_eq_getElem hk, List.getD_eq_getElem?_getD, List.getElem?_eq_getElem hk]; rfl)
  have e : ((z.toNat : Nat) : Int) = z := by omega
  rw [e] at q
  exact q
theorem ixN_of {n : Nat} {z : Int} (h0 : 0 ≤ z) (h1 : z < (n : Int)) : ixN n z = some z.toNat := by
  unfold ixN
  rw [if_pos h0, if_pos h1]
theorem map_set {ns : List Int} {j : Nat} {z : Int} : (ns.map V.int).set j (.int z) = (ns.set j z).map V.int := by
  rw [List.map_set]
def absV : V → V
  | .int i => .int (if i < 0 then -i else i)
  | v => v
def absI (i : Int) : Int := if i < 0 then -i else i
def keepI (i : Int) : Int := i * (if decide (i ≥ 10 ^ 18) = true then 1 else 0)
def keepV : V → V
  | .int i => .int (keepI i)
  | v => v
theorem sz (n : Nat) (h : n ≤ 1000) : n ≤ sizeLine := Nat.le_of_lt (small1000 h)
theorem map_ints (f : V → V) (g : Int → Int) (h : ∀ i, f (.int i) = .int (g i)) (ns : List Int) : (ns.map V.int).map f = (ns.map g).map V.int := by
  rw [List.map_map, List.map_map]
  exact List.map_congr_left fun i _ => h i
theorem mem_int {ns : List Int} {x : V} (h : x ∈ ns.map V.int) : ∃ i, x = .int i ∧ i ∈ ns := by
  obtain ⟨i, hi, e⟩ := List.mem_map.mp h
  exact ⟨i, e.symm, hi⟩
/-- deck(script): a new deck, nothing drawn -/
def spDeck (K : PySem.W.Frag) : Sp := fun vs H Q _ => ∃ (a : Addr) (ns : List Int), vs = [.ref a] ∧ SqL K H a (ns.map V.int) ∧ ns.length ≤ 63 ∧
  ∀ (H' : Hp) (r : Addr), Deck H H' r 0 → Q (.ref r) H'
/-- mixed(deck, items): a new list of the items in some order -/
def spMixed (K : PySem.W.Frag) : Sp := fun vs H Q _ => ∃ (H0 : Hp) (a l : Addr) (c : Int) (ns : List Int), vs = [.ref a, .ref l] ∧ Deck H0 H a c ∧ SqL K H0 l (ns.map V.int) ∧ ns.length ≤ 100 ∧ c < 900000 ∧
  ∀ (H0' H' : Hp) (r : Addr) (ms : List Int), Same H0 H0' → Deck H0' H' a (c + ns.length) → H0 r = none → H0' r = some (.lst (ms.map V.int)) → ms.Perm ns → Q (.ref r) H'
theorem map_erase {α β : Type} (f : α → β) : ∀ (l : List α) (i : Nat), (l.map f).eraseIdx i = (l.eraseIdx i).map f
  | [], _ => rfl
  | _ :: _, 0 => rfl
  | x :: l, i + 1 => by
    show f x :: (l.map f).eraseIdx i = f x :: (l.eraseIdx i).map f
    rw [map_erase f l i]
theorem erase_perm {α : Type} : ∀ {l : List α} {i : Nat} (h : i < l.length), (l[i] :: l.eraseIdx i).Perm l
  | _ :: _, 0, _ => .refl _
  | x :: l, i + 1, h => by
    have hi : i < l.length := Nat.lt_of_succ_lt_succ h
    have ih := erase_perm (l := l) (i := i) hi
    show (l[i] :: x :: l.eraseIdx i).Perm (x :: l)
    exact (List.Perm.swap x l[i] (l.eraseIdx i)).trans (ih.cons x)
/-! ### lists of ints as data -/
def dI (ns : List Int) : List PyData := ns.map PyData.int
theorem dpI {K : PySem.W.Frag} {H : Hp} : ∀ ns : List Int, DpAll K H (ns.map V.int) (dI ns)
  | [] => .nil
  | n :: ns => .cons (.int n) (dpI ns)
theorem dI_lay : ∀ ns : List Int, PyData.canLayAll0 (dI ns) = true
  | [] => by simp [dI, PyData.canLayAll0]
  | n :: ns => by
    have h := dI_lay ns
    unfold dI at h ⊢
    simp [PyData.canLayAll0, PyData.canLay0, h]
theorem dI_depth : ∀ ns : List Int, PyData.depthAll (dI ns) = 0
  | [] => by simp [dI, PyData.depthAll]
  | n :: ns => by
    have h := dI_depth ns
    unfold dI at h ⊢
    simp only [List.map_cons, PyData.depthAll, PyData.depth, h]; rfl
theorem dI_shL (ns : List Int) : SeqAt.shaped (.list (dI ns)) = true := by
  have h2 : PyData.depth (.list (dI ns)) ≤ 64 := by
    simp only [PyData.depth, dI_depth]
    omega
  show (PyData.canLay0 (.list (dI ns)) && decide (PyData.depth (.list (dI ns)) ≤ 64)) = true
  rw [Bool.and_eq_true]
  exact ⟨by simp only [PyData.canLay0]; exact dI_lay ns, decide_eq_true h2⟩
theorem dI_nil (ns : List Int) : PyData.eqv (.list (dI ns)) (.list []) = ns.isEmpty := by
  cases ns with
  | nil => simp [dI, PyData.eqv, PyData.eqvAll]
  | cons n ns => simp [dI, PyData.eqv, PyData.eqvAll]
theorem catA_of {K : PySem.W.Frag} {H : Hp} {Q : VK} {a b : Addr} {xs ys : List V} (ha : SqT K H a xs) (hb : SqT K H b ys) (hl : xs.length + ys.length ≤ sizeLine)
    (k : ∀ (r : Addr) (H' : Hp), Same H H' → SqT K H' r (xs ++ ys) → Q (.ref r) H') : rCatA K (.ref a) (.ref b) H Q := by
  refine ⟨a, b, xs, ys, rfl, rfl, ha, hb, hl, fun e => ?_, fun _ e => ?_, fun _ _ p hp => ?_⟩
  · refine k b H (Same.refl H) ?_
    rw [e, List.nil_append]
    exact hb
  · refine k a H (Same.refl H) ?_
    rw [e, List.append_nil]
    exact ha
  · exact k p _ (same_new hp) (SqT.of upd_same)
/-- all but the deck's three lists -/
theorem Deck.grow {H0 H H' : Hp} {a : Addr} {c : Int} (D : Deck H0 H a c) (s : Same H H') :
    ∃ H0', Same H0 H0' ∧ Deck H0' H' a c ∧ ∀ b o, H' b = some o → (H b = none ∨ ∀ xs, o ≠ .lst xs) → H0' b = some o := by
  obtain ⟨s0, ⟨p, q, cs, rs, h1, h2, h3, e1, e2, e3, n1, n2, n3, e4⟩, lo, hi⟩ := D
  refine ⟨fun b => if b = a ∨ b = p ∨ b = q then none else H' b, fun b o z => ?_, ⟨fun b o z => ?_, ⟨p, q, cs, rs, s _ _ h1, s _ _ h2, s _ _ h3, e1, e2, e3, ?_, ?_, ?_, e4⟩, lo, hi⟩, fun b o z w => ?_⟩
  · have nb : ¬ (b = a ∨ b = p ∨ b = q) := by
      rintro (e | e | e)
      · rw [e, n1] at z; cases z
      · rw [e, n2] at z; cases z
      · rw [e, n3] at z; cases z
    show (if b = a ∨ b = p ∨ b = q then none else H' b) = some o
    rw [if_neg nb]
    exact s _ _ (s0 _ _ z)
  · have z' : (if b = a ∨ b = p ∨ b = q then none else H' b) = some o := z
    split at z'
    · cases z'
    · exact z'
  · exact if_pos (.inl rfl)
  · exact if_pos (.inr (.inl rfl))
  · exact if_pos (.inr (.inr rfl))
  · have nb : ¬ (b = a ∨ b = p ∨ b = q) := by
      rintro (e | e | e)
      · rcases w with w | w
        · rw [e, h1] at w; cases w
        · rw [e, s _ _ h1] at z; cases z; exact w _ rfl
      · rcases w with w | w
        · rw [e, h2] at w; cases w
        · rw [e, s _ _ h2] at z; cases z; exact w _ rfl
      · rcases w with w | w
        · rw [e, h3] at w; cases w
        · rw [e, s _ _ h3] at z; cases z; exact w _ rfl
    show (if b = a ∨ b = p ∨ b = q then none else H' b) = some o
    rw [if_neg nb]
    exact z
/-- a tuple that a call has left -/
theorem Deck.tup {K : PySem.W.Frag} {H0 H H' : Hp} {a r : Addr} {c : Int} {xs : List V} (D : Deck H0 H a c) (s : Same H H') (h : SqT K H' r xs) :
    ∃ H0', Same H0 H0' ∧ Deck H0' H' a c ∧ SqT K H0' r xs := by
  obtain ⟨H0', g1, g2, g3⟩ := D.grow s
  refine ⟨H0', g1, g2, ?_⟩
  rcases h with (h | ⟨o, h⟩) | h
  · exact .inl (.inl (g3 _ _ h (.inr fun _ z => nomatch z)))
  · exact .inl (.inr ⟨o, g3 _ _ h (.inr fun _ z => nomatch z)⟩)
  · exact .inr h
/-- two rows side by side -/
def beside (xs ys : List Int) (t : Bool) : List Int := if t = true then xs.map (fun x => x + (ys.length : Int)) ++ ys else xs ++ ys.map (fun y => y + (xs.length : Int))
def spBeside (K : PySem.W.Frag) : Sp := fun vs H Q _ => ∃ (a b : Addr) (t : Bool) (xs ys : List Int), vs = [.ref a, .ref b, .bl t] ∧ SqT K H a (xs.map V.int) ∧ SqT K H b (ys.map V.int) ∧ xs.length ≤ 100 ∧ ys.length ≤ 100 ∧
  ∀ (r : Addr) (H' : Hp), Same H H' → SqT K H' r ((beside xs ys t).map V.int) → Q (.ref r) H'
def addV (n : Int) : V → V
  | .int i => .int (i + n)
  | v => v
theorem Deck.add {H0 H : Hp} {a : Addr} {c : Int} (D : Deck H0 H a c) {x : Addr} (o : HO) (hx : H x = none) : ∃ H0', Same H0 H0' ∧ Deck H0' (upd H x o) a c ∧ H0' x = some o ∧ H0 x = none :=
  ⟨_, same_new (D.free hx), D.new o hx, upd_same, D.free hx⟩
theorem dec_int {i j : Int} (h : decide (V.int i = V.int j) = true) : i = j := by
  have e := of_decide_eq_true h
  injection e
theorem ndec_int {i j : Int} (h : ¬ decide (V.int i = V.int j) = true) : i ≠ j := fun e => h (decide_eq_true (by rw [e]))
theorem at_lst {xs : List V} {z : Int} {v : V} (h0 : 0 ≤ z) (h : xs[z.toNat]? = some v) : atI xs z = some v := by
  have q := atI_nat h
  rw [show ((z.toNat : Nat) : Int) = z by omega] at q
  exact q
theorem two_of {α : Type} {l : List α} {d : Nat} (h : d + 1 < l.length) : ∃ A x y B, l = A ++ x :: y :: B ∧ A.length = d := by
  refine ⟨l.take d, l[d], l[d + 1], l.drop (d + 2), ?_, by rw [List.length_take]; omega⟩
  rw [← List.drop_eq_getElem_cons h, ← List.drop_eq_getElem_cons (by omega), List.take_append_drop]
def lowV : V → Bool
  | .int i => decide (i < 5)
  | _ => false
/-- row(deck, limit): a row of one to limit places -/
def spRow (K : PySem.W.Frag) : Sp := fun vs H Q _ => ∃ (H0 : Hp) (a : Addr) (c lim : Int), vs = [.ref a, .int lim] ∧ Deck H0 H a c ∧ 1 ≤ lim ∧ lim ≤ 50 ∧ c < 800000 ∧
  ∀ (H0' H' : Hp) (r : Addr) (xs : List Int) (c' : Int), Same H0 H0' → Deck H0' H' a c' → c' ≤ c + 200 → SqT K H0' r (xs.map V.int) → Row xs → 1 ≤ xs.length → (xs.length : Int) ≤ lim → Q (.ref r) H'
end Rf

/-! the end of a law's proof, for a law's def that is known where no repr runs -/
namespace Rf
open PySem PySem.Spec PyProof.Rows L2
theorem law_callG {P : Program} {w : World} {K : PySem.W.Frag} {mg mb : Str → Option Value} {k : Nat} {fa a : Addr} {fd : FuncData} {x : Str} {sp : Sp}
    {s₁ : Shared} {vs : List Value} {ns : List Int}
    (KX : K.In s₁.heap) (hns : s₁.heap.Ns mainGlobals mg) (hb : s₁.heap.Ns builtinsNs mb) (hbb : ∀ x : Str, x ≠ "__name__" → mb x = bootBuiltins x)
    (hlim : s₁.heap.NoLimit) (hg : s₁.gens = #[])
    (ha : s₁.heap.get? a = some { cls := .type "list", data := .seq vs.toArray }) (hi : IntsAre vs ns) (hl : ns.length ≤ sizeLine) (hr : Room k callerA)
    (F : ∀ base : Heap, K.In base → base.Ns mainGlobals mg → FnG P w K mg base CX0 k fa fd [x] sp)
    (hbind : ∀ (s : Shared) (u : Value), BindsTo s fd ⟨[u], []⟩ [(x, u)])
    (hsp : ∀ H : Hp, SqL K H a (ns.map V.int) → sp [.ref a] H (fun v _ => v = .bl true) fun _ _ _ => False) :
    codeAny (model P w) callerA (.call (.ref fa) ⟨[.ref a], []⟩)
      (fun r s' => r = .ok (.ret (.bool true)) ∧ OldK s₁.heap s'.heap ∧ s'.os = s₁.os ∧ AllBare s'.gens) s₁ := by
  have rv := vals_ints hi
  have lenV := hi.length
  have core : ∀ H : Hp, (∀ b, H b = none ∨ ∃ o xs, H b = some (.frz o (.lst xs))) → SqL K H a (ns.map V.int) → HOk P w H s₁.heap →
      (∀ b, H b ≠ none → b = a) → (H a ≠ none → K.lookup a = none) →
      codeAny (model P w) callerA (.call (.ref fa) ⟨[.ref a], []⟩)
        (fun r s' => r = .ok (.ret (.bool true)) ∧ OldK s₁.heap s'.heap ∧ s'.os = s₁.os ∧ AllBare s'.gens) s₁ := by
    intro H hO hS hok hA hK
    -- what is not tracked stands in the base
    have dictFree : ∀ {b : Addr} {o : Obj} {es : Array DictEntry} {ep : Nat}, s₁.heap.get? b = some o → o.data = .dict es ep → H b = none := by
      intro b o es ep e d
      cases q : H b with
      | none => rfl
      | some u =>
        have eb : b = a := hA b (by rw [q]; exact fun z => nomatch z)
        rw [eb, ha] at e
        cases e
        exact nomatch (show Data.seq vs.toArray _ = Data.dict es ep from d)
    have nsK : ∀ {b : Addr} {m : Str → Option Value}, s₁.heap.Ns b m → (hidT s₁.heap H).Ns b m := by
      rintro b m ⟨o, es, ep, e, d, r⟩
      exact ⟨o, es, ep, hidT_get e (dictFree e d), d, r⟩
    have kin : K.In (hidT s₁.heap H) := by
      intro b o e
      refine hidT_get (KX b o e) ?_
      cases q : H b with
      | none => rfl
      | some u =>
        have eb : b = a := hA b (by rw [q]; exact fun z => nomatch z)
        subst eb
        rw [hK (by rw [q]; exact fun z => nomatch z)] at e
        cases e
    have lim : (hidT s₁.heap H).NoLimit := by
      obtain ⟨mc, h1, h2⟩ := hlim
      exact ⟨mc, nsK h1, h2⟩
    have M : Mod K mg (hidT s₁.heap H) := ⟨kin, nsK hns, ⟨mb, nsK hb, hbb⟩, lim⟩
    have e0 : Env0 P w K mg (hidT s₁.heap H) callerA [] s₁ H :=
      ⟨rfl, M, fun b o e => of_hidT e, Nat.le_of_eq (hidT_size _ _), trivial, fun b hb => (List.not_mem_nil (show b ∈ ([] : List Addr) from hb)).elim, hok, AllBare.of_eq hg⟩
    have run := (F _ kin (nsK hns)).runG callerA [] s₁ H ⟨[.ref a], []⟩ [.ref a] [.ref a] _ _ rfl hr e0 (hbind s₁ (.ref a)) (.cons rfl .nil) (hsp H hS)
    refine codeAny_mono run ?_
    intro r s' h
    match r, h with
    | .error e, h => exact (show False from h).elim
    | .ok (.ret u), h =>
      obtain ⟨v, H', os, bare, un, hok', r', q⟩ := h
      obtain rfl : v = .bl true := q
      obtain rfl : u = Value.bool true := r'
      refine ⟨rfl, OldK.of_keep fun b o e => ?_, os, bare⟩
      cases q : H b with
      | none => exact un.keep b o e q (fun z => (List.not_mem_nil (show b ∈ ([] : List Addr) from z)).elim) (fun z => (List.not_mem_nil z).elim)
      | some u =>
        rcases hO b with z | ⟨ob, xs, z⟩
        · rw [q] at z
          cases z
        · have k1 := (hok b _ z).1
          have k2 := (hok' b _ (un.frzs b ob _ z)).1
          rw [e] at k1
          cases k1
          exact k2
  cases hk : K.lookup a with
  | some o =>
    have e := KX a o hk
    rw [ha] at e
    cases e
    refine core (fun _ => none) (fun _ => .inl rfl) (.inr ⟨_, vs.toArray, _, hk, rfl, rfl, rfl, ?_, by simpa using rv⟩) (fun b u z => nomatch z) (fun b z => absurd rfl z) (fun z => absurd rfl z)
    rw [List.size_toArray, lenV]
    exact hl
  | none =>
    have at_a : ∀ {b : Addr} {u : HO}, (if b = a then some (HO.frz { cls := .type "list", data := .seq vs.toArray } (.lst (ns.map V.int))) else none) = some u →
        b = a ∧ u = .frz { cls := .type "list", data := .seq vs.toArray } (.lst (ns.map V.int)) := by
      intro b u z
      by_cases hb : b = a
      · rw [if_pos hb] at z
        exact ⟨hb, (Option.some.inj z).symm⟩
      · rw [if_neg hb] at z
        cases z
    refine core (fun b => if b = a then some (.frz { cls := .type "list", data := .seq vs.toArray } (.lst (ns.map V.int))) else none) (fun b => ?_)
      (.inl (.inr ⟨_, if_pos rfl⟩)) (fun b u z => ?_) (fun b z => ?_) (fun _ => hk)
    · by_cases hb : b = a
      · exact .inr ⟨_, _, if_pos hb⟩
      · exact .inl (if_neg hb)
    · obtain ⟨rfl, rfl⟩ := at_a z
      exact ⟨ha, by rw [List.length_map]; exact hl, vs, _, rv, ha⟩
    · by_cases hb : b = a
      · exact hb
      · exact absurd (if_neg hb) z
theorem walk_ofG {l : PySem.W.OpenLaw} {n k : Nat} {q : Program} {loose : List Str} {XP : (Str → Option Value) → Heap → Prop} {YP : World → Heap → Prop} {d : DefRec}
    {K : Params → PySem.W.Frag} {sp : PySem.W.Frag → Sp} {x : Str}
    (hn : l.most = some n) (hn2 : n ≤ sizeLine) (hdf : d.params.defaults = []) (hr : Room k callerA)
    (hY : ∀ (w : World) (h : Heap), YP w h → (K w.params).In h)
    (F : ∀ (w : World) (mg : Str → Option Value) (fa : Addr) (h : Heap), (K w.params).In h → h.Ns mainGlobals mg → mg d.name = some (.ref fa) →
      ∃ fd : FuncData, (∀ (s : Shared) (u : Value), BindsTo s fd ⟨[u], []⟩ [(x, u)]) ∧
        ∀ base : Heap, (K w.params).In base → base.Ns mainGlobals mg → FnG l.prog w (K w.params) mg base CX0 k fa fd [x] (sp (K w.params)))
    (hsp : ∀ (K : PySem.W.Frag) (H : Hp) (a : Addr) (ns : List Int), ns.length ≤ n → SqL K H a (ns.map V.int) → sp K [.ref a] H (fun v _ => v = .bl true) fun _ _ _ => False) :
    PySem.W.WalkO q loose XP YP l.row.toRowW d [] (fun f vs => PySem.call f vs) := by
  refine Att.attach_call hn hdf ?_
  intro w s₀ s₁ mg mb fa o pm cd doc a vs ns G Y ho hd hcd hmg hobj hints hlen hg
  have kx := hY w _ Y
  obtain ⟨fd, bind, ok⟩ := F w mg fa _ kx G.T.g hmg
  exact law_callG kx G.T.g G.T.b G.T.builtins G.T.nolimit hg hobj hints (Nat.le_trans hlen hn2) hr ok bind fun H hS => hsp _ H a ns hlen hS
end Rf

/-! tuples whose object is known to have no dict of its own: their methods can be called -/
namespace Rf
open PySem PySem.Spec PyProof.Rows L2
def PT (H : Hp) (a : Addr) (xs : List V) : Prop := ∃ o, H a = some (.frz o (.tup xs)) ∧ o.dict = none
theorem PT.sq {K : PySem.W.Frag} {H : Hp} {a : Addr} {xs : List V} (h : PT H a xs) : SqT K H a xs := by
  obtain ⟨o, e, _⟩ := h
  exact .inl (.inr ⟨o, e⟩)
theorem PT.same {H H' : Hp} {a : Addr} {xs : List V} (h : PT H a xs) (s : Same H H') : PT H' a xs := by
  obtain ⟨o, e, d⟩ := h
  exact ⟨o, s _ _ e, d⟩
theorem Deck.pt {H0 H H' : Hp} {a r : Addr} {c : Int} {xs : List V} (D : Deck H0 H a c) (s : Same H H') (h : PT H' r xs) :
    ∃ H0', Same H0 H0' ∧ Deck H0' H' a c ∧ PT H0' r xs := by
  obtain ⟨H0', g1, g2, g3⟩ := D.grow s
  obtain ⟨o, e, d⟩ := h
  exact ⟨H0', g1, g2, o, g3 _ _ e (.inr fun _ z => nomatch z), d⟩
def spBesideP (K : PySem.W.Frag) : Sp := fun vs H Q _ => ∃ (a b : Addr) (t : Bool) (xs ys : List Int), vs = [.ref a, .ref b, .bl t] ∧ PT H a (xs.map V.int) ∧ PT H b (ys.map V.int) ∧ xs.length ≤ 100 ∧ ys.length ≤ 100 ∧
  ∀ (r : Addr) (H' : Hp), Same H H' → PT H' r ((beside xs ys t).map V.int) → Q (.ref r) H'
def spRowP (K : PySem.W.Frag) : Sp := fun vs H Q _ => ∃ (H0 : Hp) (a : Addr) (c lim : Int), vs = [.ref a, .int lim] ∧ Deck H0 H a c ∧ 1 ≤ lim ∧ lim ≤ 50 ∧ c < 800000 ∧
  ∀ (H0' H' : Hp) (r : Addr) (xs : List Int) (c' : Int), Same H0 H0' → Deck H0' H' a c' → c' ≤ c + 200 → PT H0' r (xs.map V.int) → Row xs → 1 ≤ xs.length → (xs.length : Int) ≤ lim → Q (.ref r) H'
/-! l.index(x) and methods, with the written part named -/
section
variable {X : Cx} {e : Expr} {es : List Expr} {te : TE} {t : TA} {pos p : Pos}
theorem laid_pt {pins : List (Addr × Obj)} {σ : L2.St} {H : Hp} {s : Shared} {xs : List V} {its : List Value} {tk : Nat} (I : Inv X pins σ H s) (hz : xs.length ≤ sizeLine) (r : Vals xs its) :
    Inv X pins σ (upd H s.heap.objs.size (.frz { cls := .type "tuple", data := .seq its.toArray } (.tup xs)))
      { s with heap := s.heap.push { cls := .type "tuple", data := .seq its.toArray }, toks := tk } := by
  refine I.laid (t' := tk) (fun b u q => Heap.get?_push_of_some _ q) (Nat.le_refl _) ?_
  exact ⟨Heap.get?_push_size _ rfl, hz, its, r, IsTup.new _ _⟩
/-- (a, b, ..) -/
def tTupP (t : TA) : TE := fun σ H Q => t σ H fun xs H1 => xs.length ≤ sizeLine ∧ ∀ p o, H1 p = none → o.dict = none → Q (.ref p) (upd H1 p (.frz o (.tup xs)))
theorem pe_tupP {x1} (h : PA X es t) : PE X (.Tuple es x1 pos) (tTupP t) := by
  constructor
  intro pins s σ H Q I hq
  refine wpAny_Tuple_spliced (thn (h.run pos pins s σ H _ I hq) fun us s1 ⟨xs, H1, I1, r, z, q⟩ => ⟨by rw [← r.length]; exact z, ?_⟩)
  exact ⟨.ref s1.heap.objs.size, _, laid_pt (tk := s1.toks) I1 z r, rfl, q _ _ (I1.hok.fresh (Nat.le_refl _)) rfl⟩
/-- tuple(list) -/
def rTupP (K : PySem.W.Frag) : List V → Hp → VK → Prop := fun xs H Q => ∃ p ys, xs = [.ref p] ∧ SqL K H p ys ∧ ∀ l o, H l = none → o.dict = none → Q (.ref l) (upd H l (.frz o (.tup ys)))
theorem tupP (K : PySem.W.Frag) (hK : X.K = K := by rfl) : CallR X (.type "tuple") (rTupP K) := by
  subst hK
  intro pins s σ H xs us Q I r h
  obtain ⟨p, ys, rfl, hq, q⟩ := h
  obtain ⟨u, rfl, rx⟩ := vals1 r
  cases rx
  obtain ⟨its, r', pl, hz⟩ := I.list hq
  have hlen := r'.length
  refine call_tuple_list pl.isList (fun h' kp => ?_) (by simp only [List.size_toArray] <;> omega)
  have I1 : Inv X pins σ H { s with heap := h' } := I.kept (t' := s.toks) kp
  exact ⟨.ref h'.objs.size, _, laid_pt (tk := s.toks) I1 hz r', rfl, q _ _ (I1.hok.fresh (Nat.le_refl _)) rfl⟩
/-- t + u -/
def rCatP (K : PySem.W.Frag) : R2 := fun x y H Q => ∃ a b xs ys, x = .ref a ∧ y = .ref b ∧ SqT K H a xs ∧ SqT K H b ys ∧ xs.length + ys.length ≤ sizeLine ∧
  (xs = [] → Q (.ref b) H) ∧ (xs ≠ [] → ys = [] → Q (.ref a) H) ∧ (xs ≠ [] → ys ≠ [] → ∀ p o, H p = none → o.dict = none → Q (.ref p) (upd H p (.frz o (.tup (xs ++ ys)))))
theorem catP (K : PySem.W.Frag) (hK : X.K = K := by rfl) : OpR X (binaryOp .Add) (rCatP K) := by
  subst hK
  intro pins s σ H x y v u Q I rx ry h
  obtain ⟨a, b, xs, ys, rfl, rfl, ha, hb, hz, q0, q1, q2⟩ := h
  by_cases hx : xs = []
  · exact op_catA pins s σ H _ _ v u Q I rx ry ⟨a, b, xs, ys, rfl, rfl, ha, hb, hz, q0, q1, fun z => absurd hx z⟩
  by_cases hy : ys = []
  · exact op_catA pins s σ H _ _ v u Q I rx ry ⟨a, b, xs, ys, rfl, rfl, ha, hb, hz, q0, q1, fun _ z => absurd hy z⟩
  cases rx
  cases ry
  obtain ⟨its, r1, p1, _⟩ := I.tuple ha
  obtain ⟨its2, r2, p2, _⟩ := I.tuple hb
  refine HT.cat_tup p1 p2 (fun z => hx (r1.nil_iff.mp z)) (fun z => absurd (r2.nil_iff.mp z) hy) (fun _ => ?_) (by rw [← r1.length, ← r2.length]; exact hz)
  have J := laid_pt (tk := s.toks) (xs := xs ++ ys) I (by rw [List.length_append]; exact hz) (r1.append r2)
  exact ⟨.ref s.heap.objs.size, _, J, rfl, q2 hx hy _ _ (I.hok.fresh (Nat.le_refl _)) rfl⟩
theorem catP_of {K : PySem.W.Frag} {H : Hp} {Q : VK} {a b : Addr} {xs ys : List V} (ha : PT H a xs) (hb : PT H b ys) (hl : xs.length + ys.length ≤ sizeLine)
    (k : ∀ (r : Addr) (H' : Hp), Same H H' → PT H' r (xs ++ ys) → Q (.ref r) H') : rCatP K (.ref a) (.ref b) H Q := by
  refine ⟨a, b, xs, ys, rfl, rfl, ha.sq, hb.sq, hl, fun e => ?_, fun _ e => ?_, fun _ _ p o hp ho => ?_⟩
  · refine k b H (Same.refl H) ?_
    rw [e, List.nil_append]
    exact hb
  · refine k a H (Same.refl H) ?_
    rw [e, List.append_nil]
    exact ha
  · exact k p _ (same_new hp) ⟨o, upd_same, ho⟩
/-- tuple(range(..)) -/
def tTupRgP (te : L2.St → Hp → (Int → Int → Hp → Prop) → Prop) : TE := fun σ H Q => te σ H fun a b H1 => RgOk a b ∧ ∀ q o, H1 q = none → o.dict = none → Q (.ref q) (upd H1 q (.frz o (.tup (rgV a b))))
theorem tupRgP {te : L2.St → Hp → (Int → Int → Hp → Prop) → Prop} (hc : X.calm = true) (hg : Gl X "tuple") (hm : X.mg "tuple" = none) (he : PRg X e te)
    (na : starEach [e] X.env = (false, eval e X.env) :: starEach [] X.env := by rfl) : PE X (.Call (.Name "tuple" p) [e] [] pos) (tTupRgP te) := by
  constructor
  intro pins s σ H Q I h
  refine Call_ (ld_blt I hg hm bt_tuple ?_)
  refine PyProof.Rows.callWith_type1 ?_ na
  refine args_cons (thn (he pins s σ H _ I h) fun x s1 ⟨r, a, b, t, u, v, H1, ex, hr, I1, ok, q⟩ => args_nil ?_) na
  subst ex
  obtain ⟨b1, b2, b3, b4, b5⟩ := ok
  refine call_tuple_range (n := (b - a).toNat) (I1.ok.hd hc) hr (small_one b1 b2 b3 b4) (rangeSize_nat a b) b5 fun h' tk acc hk hi => ?_
  have I2 : Inv X pins σ H1 { s1 with heap := h', toks := tk } := I1.kept hk
  have J := laid_pt (tk := tk) (xs := rgV a b) I2 (by rw [rgV_length, sizeLine_eq]; omega) (vals_rg hi)
  rw [Array.toArray_toList] at J
  exact ⟨.ref h'.objs.size, _, J, rfl, q _ _ (I2.hok.fresh (Nat.le_refl _)) rfl⟩
theorem bmK (K : PySem.W.Frag) {o : Expr} {to : TE} {name : Str} {apos cpos : Pos} {T id : String} {r : V → List V → Hp → VK → Prop}
    (pa : PlainAttrs T) (slot : Slot T name id) (hty : typeOf (.builtin id) = pure (.type "method_descriptor")) (hm : MtR X id r) (ho : PE X o to) (ha : PA X (e :: es) t)
    (hK : X.K = K := by rfl) (hbase : attributeBase o name X.env (eval o X.env) = eval o X.env := by rfl)
    (hfew : ((backTo cpos (starEach (e :: es) X.env)).all (fun x => !x.1) && (backToKw cpos (keywordEach [] X.env)).all (fun x => x.1.isSome) &&
      decide ((e :: es).length + ([] : List Keyword).length + (if ([] : List Keyword).isEmpty then 0 else 1) < 30)) = true := by rfl)
    (hline : (apos.endLine == cpos.line) = true := by rfl)
    (hs : starEach (e :: es) X.env = (false, eval e X.env) :: starEach es X.env := by rfl)
    (hplain : (backTo cpos (starEach es X.env)).any (·.1) = false := by rfl) :
    PE X (.Call (.Attribute o name apos) (e :: es) [] cpos) (tBM K T r to t) := by
  subst hK
  exact pe_bm pa slot hty hm ho ha hbase hfew hline hs hplain
theorem indexK (K : PySem.W.Frag) (hK : X.K = K := by rfl) : MtR X "list.index" (rIndex K) := by
  subst hK
  exact mt_index
/-- t.index(e) -/
def tTix (K : PySem.W.Frag) (to : TE) (t : TA) : TE := fun σ H Q => to σ H fun x H1 => (∃ a xs, x = .ref a ∧ PT H1 a xs) ∧ t σ H1 fun xs H2 => rIndexT K x xs H2 Q
theorem pe_tix (K : PySem.W.Frag) {o : Expr} {to : TE} {apos cpos : Pos} (ho : PE X o to) (ha : PA X (e :: es) t) (hK : X.K = K := by rfl)
    (hbase : attributeBase o "index" X.env (eval o X.env) = eval o X.env := by rfl)
    (hfew : ((backTo cpos (starEach (e :: es) X.env)).all (fun x => !x.1) && (backToKw cpos (keywordEach [] X.env)).all (fun x => x.1.isSome) &&
      decide ((e :: es).length + ([] : List Keyword).length + (if ([] : List Keyword).isEmpty then 0 else 1) < 30)) = true := by rfl)
    (hline : (apos.endLine == cpos.line) = true := by rfl)
    (hs : starEach (e :: es) X.env = (false, eval e X.env) :: starEach es X.env := by rfl)
    (hplain : (backTo cpos (starEach es X.env)).any (·.1) = false := by rfl) :
    PE X (.Call (.Attribute o "index" apos) (e :: es) [] cpos) (tTix K to t) := by
  subst hK
  constructor
  intro pins s σ H Q I h
  refine wpAny_Call_method_late hbase hfew hline rfl (thn (ho.run pins s σ H _ I h) fun v s1 ⟨x, H1, I1, r1, hpt, q1⟩ => ?_)
  obtain ⟨a, xs, rfl, ob, ea, hd⟩ := hpt
  obtain rfl : v = Value.ref a := r1
  obtain ⟨g1, _, its, _, o', g2, g3, _⟩ := I1.hok a _ ea
  rw [g1] at g2
  cases g2
  refine ⟨"tuple", "tuple.index", PySem.F.plainAttrs_tuple, PySem.F.slot_tuple_index, PySem.F.type_tuple_index, ⟨_, g1, g3⟩, fun b eb => ?_, ?_⟩
  · cases eb
    exact ⟨_, g1, hd⟩
  have hA := ha.run cpos pins s1 σ H1 _ I1 q1
  rw [hs] at hA ⊢
  refine Calls.callWith_builtin (by show (false || (backTo cpos (starEach es X.env)).any (·.1)) = false; rw [hplain] <;> rfl) ?_
  refine Calls.evalArgs_plain ?_
  exact thn hA fun us s2 ⟨vs, H2, I2, r2, q2⟩ => mt_tindex X.K rfl pins s2 σ H2 (.ref a) vs (.ref a) us Q I2 rfl r2 q2
end
end Rf

namespace Rf
open PySem L2
/-! ### the type of data -/
def tyD : PyData → String
  | .none => "NoneType"
  | .bool _ => "bool"
  | .int _ => "int"
  | .str _ => "str"
  | .list _ => "list"
  | .tuple _ => "tuple"
  | .dict _ => "dict"
theorem tyx_lst {K : PySem.W.Frag} {H : Hp} {a : Addr} {xs : List V} (h : SqL K H a xs) : TyX K H (.ref a) (.type "list") := by
  rcases h with (h | ⟨o, h⟩) | ⟨o, _, _, h, c, _⟩
  · exact .base (.lst h)
  · exact .base (.frz h)
  · exact .kList h c
theorem tyx_tup {K : PySem.W.Frag} {H : Hp} {a : Addr} {xs : List V} (h : SqT K H a xs) : TyX K H (.ref a) (.type "tuple") := by
  rcases h with (h | ⟨o, h⟩) | ⟨o, _, _, h, c, _⟩
  · exact .base (.tup h)
  · exact .fTuple h
  · exact .kTuple h c
theorem Dp.tyx {K : PySem.W.Frag} {H : Hp} {v : V} {d : PyData} (h : Dp K H v d) : TyX K H v (.type (tyD d)) := by
  cases h with
  | non => exact .base .non
  | bl b => exact .base (.bl b)
  | int i => exact .base (.int i)
  | str x => exact .base (.str x)
  | lst h1 _ => exact tyx_lst h1
  | tup h1 _ => exact tyx_tup h1
theorem kit_bb : kitB "bool" "bool" = some true := by decide +kernel
theorem kit_ib : kitB "int" "bool" = some false := by decide +kernel
theorem kit_bi : kitB "bool" "int" = some true := by decide +kernel
theorem kit_ii : kitB "int" "int" = some true := by decide +kernel
theorem kit_ll : kitB "list" "list" = some true := by decide +kernel
theorem kit_lt : kitB "list" "tuple" = some false := by decide +kernel
theorem kit_tl : kitB "tuple" "list" = some false := by decide +kernel
theorem kit_tt : kitB "tuple" "tuple" = some true := by decide +kernel
theorem kit_nl : kitB "NoneType" "list" = some false := by decide +kernel
theorem kit_nt : kitB "NoneType" "tuple" = some false := by decide +kernel
theorem kit_bl : kitB "bool" "list" = some false := by decide +kernel
theorem kit_bt : kitB "bool" "tuple" = some false := by decide +kernel
theorem kit_il : kitB "int" "list" = some false := by decide +kernel
theorem kit_it : kitB "int" "tuple" = some false := by decide +kernel
theorem kit_sl : kitB "str" "list" = some false := by decide +kernel
theorem kit_st : kitB "str" "tuple" = some false := by decide +kernel
theorem kit_ss : kitB "str" "str" = some true := by decide +kernel
theorem kit_is : kitB "int" "str" = some false := by decide +kernel
theorem kit_bs : kitB "bool" "str" = some false := by decide +kernel
theorem kit_ns : kitB "NoneType" "str" = some false := by decide +kernel
def seqD : PyData → Bool
  | .list _ | .tuple _ => true
  | _ => false
/-- isinstance(x, (list, tuple)) -/
theorem kit_seq {K : PySem.W.Frag} : ∀ {d : PyData}, d.hasDict = false → PySem.W.kitAny K (.type (tyD d)) [.type "list", .type "tuple"] = some (seqD d)
  | .none, _ => kitAny_cons (kit_ty kit_nl) (fun _ => kitAny_cons (kit_ty kit_nt) (fun _ => rfl) (fun z => nomatch z)) (fun z => nomatch z)
  | .bool _, _ => kitAny_cons (kit_ty kit_bl) (fun _ => kitAny_cons (kit_ty kit_bt) (fun _ => rfl) (fun z => nomatch z)) (fun z => nomatch z)
  | .int _, _ => kitAny_cons (kit_ty kit_il) (fun _ => kitAny_cons (kit_ty kit_it) (fun _ => rfl) (fun z => nomatch z)) (fun z => nomatch z)
  | .str _, _ => kitAny_cons (kit_ty kit_sl) (fun _ => kitAny_cons (kit_ty kit_st) (fun _ => rfl) (fun z => nomatch z)) (fun z => nomatch z)
  | .list _, _ => kitAny_cons (kit_ty kit_ll) (fun z => nomatch z) (fun _ => rfl)
  | .tuple _, _ => kitAny_cons (kit_ty kit_tl) (fun _ => kitAny_cons (kit_ty kit_tt) (fun z => nomatch z) (fun _ => rfl)) (fun z => nomatch z)
  | .dict _, h => by simp [PyData.hasDict] at h
/-! ### one by one -/
theorem DpAll.len {K : PySem.W.Frag} {H : Hp} : ∀ {vs : List V} {ds : List PyData}, DpAll K H vs ds → vs.length = ds.length
  | _, _, .nil => rfl
  | _, _, .cons _ t => by rw [List.length_cons, List.length_cons, DpAll.len t]
theorem DpAll.at {K : PySem.W.Frag} {H : Hp} : ∀ {vs : List V} {ds : List PyData} {i : Nat}, DpAll K H vs ds → i < ds.length → ∃ v d, vs[i]? = some v ∧ ds[i]? = some d ∧ Dp K H v d
  | _, _, _, .nil, h => absurd h (Nat.not_lt_zero _)
  | _, _, 0, .cons (v := v) (d := d) h _, _ => ⟨v, d, rfl, rfl, h⟩
  | _, _, i + 1, .cons _ t, h => by
    obtain ⟨v, d, h1, h2, h3⟩ := DpAll.at (i := i) t (Nat.lt_of_succ_lt_succ h)
    exact ⟨v, d, h1, h2, h3⟩
theorem depthAll_at : ∀ {ds : List PyData} {i : Nat} {d : PyData}, ds[i]? = some d → d.depth ≤ PyData.depthAll ds
  | x :: ds, 0, d, h => by
    cases (show some x = some d from h)
    simp only [PyData.depthAll]
    omega
  | x :: ds, i + 1, d, h => by
    have := depthAll_at (ds := ds) (i := i) h
    simp only [PyData.depthAll]
    omega
/-! ### data of no great width, without dicts -/
mutual
def small : PyData → Bool
  | .list xs => decide (xs.length ≤ 1000) && smallAll xs
  | .tuple xs => decide (xs.length ≤ 1000) && smallAll xs
  | .dict _ => false
  | .none => true
  | .bool _ => true
  | .int _ => true
  | .str x => PyData.strOk x
def smallAll : List PyData → Bool
  | [] => true
  | x :: xs => small x && smallAll xs
end
mutual
theorem small_lay : ∀ d : PyData, small d = true → d.canLay0 = true ∧ d.hasDict = false
  | .none, _ => ⟨by simp only [PyData.canLay0], by simp only [PyData.hasDict]⟩
  | .bool _, _ => ⟨by simp only [PyData.canLay0], by simp only [PyData.hasDict]⟩
  | .int _, _ => ⟨by simp only [PyData.canLay0], by simp only [PyData.hasDict]⟩
  | .str x, h => ⟨by simp only [PyData.canLay0]; simpa only [small] using h, by simp only [PyData.hasDict]⟩
  | .list xs, h => by
    simp only [small, Bool.and_eq_true] at h
    have q := small_layAll xs h.2
    exact ⟨by simp only [PyData.canLay0]; exact q.1, by simp only [PyData.hasDict]; exact q.2⟩
  | .tuple xs, h => by
    simp only [small, Bool.and_eq_true] at h
    have q := small_layAll xs h.2
    exact ⟨by simp only [PyData.canLay0]; exact q.1, by simp only [PyData.hasDict]; exact q.2⟩
  | .dict _, h => by simp only [small] at h; cases h
theorem small_layAll : ∀ ds : List PyData, smallAll ds = true → PyData.canLayAll0 ds = true ∧ PyData.hasDictAll ds = false
  | [], _ => ⟨by simp only [PyData.canLayAll0], by simp only [PyData.hasDictAll]⟩
  | x :: xs, h => by
    simp only [smallAll, Bool.and_eq_true] at h
    have q := small_lay x h.1
    have r := small_layAll xs h.2
    exact ⟨by simp only [PyData.canLayAll0, q.1, r.1, Bool.and_self], by simp only [PyData.hasDictAll, q.2, r.2, Bool.or_self]⟩
end
theorem small_at : ∀ {ds : List PyData} {i : Nat} {d : PyData}, smallAll ds = true → ds[i]? = some d → small d = true
  | x :: ds, 0, d, h, e => by
    cases (show some x = some d from e)
    simp only [smallAll, Bool.and_eq_true] at h
    exact h.1
  | x :: ds, i + 1, d, h, e => by
    simp only [smallAll, Bool.and_eq_true] at h
    exact small_at (ds := ds) (i := i) h.2 e
/-- same(found, due), of equal data -/
def spSame (K : PySem.W.Frag) (n : Nat) : Sp := fun vs H Q _ => ∃ (x y : V) (d : PyData), vs = [x, y] ∧ Dp K H x d ∧ Dp K H y d ∧ d.depth < n ∧ small d = true ∧ d.depth ≤ 60 ∧
  ∀ H' : Hp, Same H H' → Q (.bl true) H'
theorem filter_none {xs : List V} {p : V → Bool} (h : ∀ x ∈ xs, p x = false) : xs.filter p = [] := List.filter_eq_nil_iff.mpr fun x hx => by rw [h x hx]; exact Bool.false_ne_true
theorem shp {d : PyData} (h : d.canLay0 = true) (h2 : d.depth ≤ 60) : SeqAt.shaped d = true := by
  show (d.canLay0 && decide (d.depth ≤ 64)) = true
  rw [h, decide_eq_true (show d.depth ≤ 64 by omega)]; rfl
theorem eqv_bool (b : Bool) : PyData.eqv (.bool b) (.bool b) = true := by cases b <;> decide +kernel
theorem eqv_int (i : Int) : PyData.eqv (.int i) (.int i) = true := by simp [PyData.eqv]
theorem eqv_str (x : Str) : PyData.eqv (.str x) (.str x) = true := by simp [PyData.eqv]
theorem sh_nil : SeqAt.shaped (.list []) = true := dI_shL []
theorem eqv_nil : PyData.eqv (.list []) (.list []) = true := dI_nil []
/-- one of a list or a tuple -/
def Sq (K : PySem.W.Frag) (H : Hp) (a : Addr) (xs : List V) : Prop := SqL K H a xs ∨ SqT K H a xs
theorem Sq.same {K : PySem.W.Frag} {H H' : Hp} {a : Addr} {xs : List V} (h : Sq K H a xs) (s : Same H H') : Sq K H' a xs := h.elim (fun z => .inl (s.seq z)) fun z => .inr (Same.tup s z)
theorem rIx_of {K : PySem.W.Frag} {H : Hp} {a : Addr} {xs : List V} {i : Int} {v : V} {Q : VK} (h : Sq K H a xs) (e : atI xs i = some v) (q : Q v H) : rIx K (.ref a) (.int i) H Q := by
  rcases h with h | h
  · exact .inl ⟨a, xs, i, v, rfl, rfl, h, e, q⟩
  · exact .inr (.inl ⟨a, xs, i, v, rfl, rfl, h, e, q⟩)
end Rf

/-! patterns, turned rows -/
namespace Rf
open PySem L2
/-- the first place of x -/
def pos (x : Int) : List Int → Nat
  | [] => 0
  | y :: r => if y = x then 0 else pos x r + 1
theorem pos_at {x : Int} : ∀ {l : List Int}, x ∈ l → l[pos x l]? = some x
  | y :: r, h => by
    unfold pos
    by_cases e : y = x
    · rw [if_pos e, e]; rfl
    · rw [if_neg e]
      exact pos_at (l := r) ((List.mem_cons.mp h).resolve_left fun z => e z.symm)
theorem pos_no {x : Int} : ∀ {l : List Int} {m : Nat}, m < pos x l → l[m]? ≠ some x
  | [], _, h => absurd h (Nat.not_lt_zero _)
  | y :: r, m, h => by
    unfold pos at h
    by_cases e : y = x
    · rw [if_pos e] at h
      exact absurd h (Nat.not_lt_zero _)
    · rw [if_neg e] at h
      cases m with
      | zero => exact fun z => e (Option.some.inj z)
      | succ m => exact pos_no (l := r) (m := m) (by omega)
theorem pos_lt {x : Int} {l : List Int} (h : x ∈ l) : pos x l < l.length := (List.getElem?_eq_some_iff.mp (pos_at h)).1
theorem pos_eq {x : Int} {l : List Int} {j : Nat} (nd : l.Nodup) (h : l[j]? = some x) : pos x l = j := by
  have hm := List.mem_of_getElem? h
  exact nd_ix nd (pos_at hm) h
/-- how many are smaller -/
def smaller (l : List Int) (x : Int) : Nat := (l.filter fun y => decide (y < x)).length
theorem pos_sorted {x : Int} : ∀ {l : List Int}, l.Pairwise (· ≤ ·) → x ∈ l → pos x l = smaller l x
  | y :: r, hp, h => by
    obtain ⟨h1, h2⟩ := List.pairwise_cons.mp hp
    unfold pos
    by_cases e : y = x
    · rw [if_pos e]
      have e0 : (y :: r).filter (fun z => decide (z < x)) = [] := by
        refine List.filter_eq_nil_iff.mpr fun z hz => ?_
        rcases List.mem_cons.mp hz with q | q
        · rw [q, e]
          exact fun w => by
            have := of_decide_eq_true w
            omega
        · have := h1 z q
          exact fun w => by
            have := of_decide_eq_true w
            omega
      unfold smaller
      rw [e0]; rfl
    · rw [if_neg e]
      have hx : x ∈ r := (List.mem_cons.mp h).resolve_left fun z => e z.symm
      have hl := h1 x hx
      have ih := pos_sorted h2 hx
      unfold smaller at ih ⊢
      rw [List.filter_cons_of_pos (p := fun y => decide (y < x)) (a := y) (l := r) (decide_eq_true (by omega)), List.length_cons, ih]
theorem smaller_perm {l m : List Int} (h : l.Perm m) (x : Int) : smaller l x = smaller m x := (h.filter _).length_eq
/-- each number replaced by how many are smaller -/
def pat (l : List Int) : List Int := l.map fun x => (smaller l x : Int)
theorem smaller_iota (n : Nat) : ∀ {x : Int}, 0 ≤ x → x ≤ n → (smaller (iota n) x : Int) = x := by
  induction n with
  | zero =>
    intro x h0 h1
    have : x = 0 := by omega
    subst this
    rfl
  | succ n ih =>
    intro x h0 h1
    have e : iota (n + 1) = iota n ++ [(n : Int)] := by
      rw [iota_add n 1]
      congr 1
      show [(0 : Int) + (n : Int)] = [(n : Int)]
      rw [Int.zero_add]
    unfold smaller
    rw [e, List.filter_append, List.length_append]
    by_cases hx : x ≤ n
    · have := ih h0 hx
      unfold smaller at this
      rw [List.filter_cons_of_neg (p := fun y => decide (y < x)) (a := (n : Int)) (l := []) (fun w => by have := of_decide_eq_true w; omega), List.filter_nil, List.length_nil]
      omega
    · have hx2 : x = n + 1 := by omega
      have := ih (x := n) (by omega) (Int.le_refl _)
      have full : (iota n).filter (fun y => decide (y < x)) = iota n := List.filter_eq_self.mpr fun y hy => decide_eq_true (by have := iota_mem.mp hy; omega)
      rw [full, iota_len, List.filter_cons_of_pos (p := fun y => decide (y < x)) (a := (n : Int)) (l := []) (decide_eq_true (by omega)), List.filter_nil, List.length_cons, List.length_nil]
      omega
theorem Row.mem {l : List Int} (h : Row l) {x : Int} : x ∈ l ↔ 0 ≤ x ∧ x < l.length := by
  rw [h.mem_iff, iota_mem]
theorem Row.nodup {l : List Int} (h : Row l) : l.Nodup := h.nodup_iff.mpr (iota_nodup _)
theorem Row.pat {l : List Int} (h : Row l) : Rf.pat l = l := by
  unfold Rf.pat
  have e : l.map (fun x => (smaller l x : Int)) = l.map id := by
    refine List.map_congr_left fun x hx => ?_
    have hm := h.mem.mp hx
    rw [smaller_perm h]
    exact smaller_iota _ hm.1 (by omega)
  rw [e, List.map_id]
def flip (l : List Int) : List Int := l.map fun x => (l.length : Int) - 1 - x
def inv (l : List Int) : List Int := (iota l.length).map fun x => (pos x l : Int)
theorem flip_len (l : List Int) : (flip l).length = l.length := List.length_map _
theorem inv_len (l : List Int) : (inv l).length = l.length := by unfold inv; rw [List.length_map, iota_len]
theorem flip_flip (l : List Int) : flip (flip l) = l := by
  unfold flip
  rw [List.map_map, List.length_map]
  have e : l.map ((fun x => (l.length : Int) - 1 - x) ∘ fun x => (l.length : Int) - 1 - x) = l.map id := List.map_congr_left fun x _ => by
    show (l.length : Int) - 1 - ((l.length : Int) - 1 - x) = x
    omega
  rw [e, List.map_id]
theorem flip_rev (l : List Int) : flip l.reverse = (flip l).reverse := by
  unfold flip
  rw [List.length_reverse, List.map_reverse]
theorem iota_at {n i : Nat} (h : i < n) : (iota n)[i]? = some (i : Int) := by
  unfold iota
  rw [List.getElem?_map, List.getElem?_range h]; rfl
theorem inv_at {l : List Int} {i : Nat} (h : i < l.length) : (inv l)[i]? = some (pos i l : Int) := by
  unfold inv
  rw [List.getElem?_map, iota_at h]; rfl
/-- the places, put where the numbers are, are the inverse -/
theorem inv_of {l ps : List Int} (h : Row l) (hl : ps.length = l.length) (hp : ∀ (j : Nat) (x : Int), l[j]? = some x → ps[x.toNat]? = some (j : Int)) : ps = inv l := by
  apply List.ext_getElem?
  intro i
  by_cases hi : i < l.length
  · have hm : (i : Int) ∈ l := h.mem.mpr ⟨by omega, by omega⟩
    have q := hp (pos i l) i (pos_at hm)
    rw [inv_at hi, ← q]
    congr 1
  · rw [List.getElem?_eq_none_iff.mpr (by omega), List.getElem?_eq_none_iff.mpr (by rw [inv_len]; omega)]
theorem nodup_of_at {l : List Int} (h : ∀ (i j : Nat) (x : Int), l[i]? = some x → l[j]? = some x → i = j) : l.Nodup := by
  refine List.pairwise_iff_getElem.mpr fun i j hi hj hij e => ?_
  have a : l[i]? = some l[j] := by rw [List.getElem?_eq_getElem hi, e]
  have := h i j _ a (List.getElem?_eq_getElem hj)
  omega
theorem inv_pos {l : List Int} (h : Row l) {j : Nat} (hj : j < l.length) : ∃ x : Nat, l[j]? = some (x : Int) ∧ x < l.length ∧ pos (x : Int) l = j := by
  have e := List.getElem?_eq_getElem hj
  have hm := h.mem.mp (List.getElem_mem hj)
  refine ⟨l[j].toNat, ?_, by omega, ?_⟩
  · rw [e, show ((l[j].toNat : Nat) : Int) = l[j] by omega]
  · rw [show ((l[j].toNat : Nat) : Int) = l[j] by omega]
    exact pos_eq h.nodup e
theorem inv_nodup {l : List Int} (h : Row l) : (inv l).Nodup := by
  refine nodup_of_at fun i j x a b => ?_
  have hi : i < l.length := by
    have := (List.getElem?_eq_some_iff.mp a).1
    rw [inv_len] at this
    exact this
  have hj : j < l.length := by
    have := (List.getElem?_eq_some_iff.mp b).1
    rw [inv_len] at this
    exact this
  rw [inv_at hi] at a
  rw [inv_at hj] at b
  have e : pos (i : Int) l = pos (j : Int) l := by
    have a' := Option.some.inj a
    have b' := Option.some.inj b
    omega
  have p1 := pos_at (l := l) (x := (i : Int)) (h.mem.mpr ⟨by omega, by omega⟩)
  have p2 := pos_at (l := l) (x := (j : Int)) (h.mem.mpr ⟨by omega, by omega⟩)
  rw [e, p2] at p1
  have := Option.some.inj p1
  omega
theorem perm_of_sub : ∀ {a b : List Int}, a.Nodup → (∀ x ∈ a, x ∈ b) → a.length = b.length → a.Perm b
  | [], b, _, _, hl => by
    cases b with
    | nil => exact .refl _
    | cons y r => simp at hl
  | x :: a, b, nd, hs, hl => by
    have hx : x ∈ b := hs x (by simp)
    obtain ⟨nx, nd'⟩ := List.nodup_cons.mp nd
    have p := List.perm_cons_erase hx
    have hle := p.length_eq
    rw [List.length_cons] at hle hl
    refine .trans (.cons x (perm_of_sub nd' (fun y hy => ?_) (by omega))) p.symm
    have hy' := hs y (by simp [hy])
    exact (List.mem_erase_of_ne fun (e : y = x) => nx (by rw [← e]; exact hy)).mpr hy'
theorem row_of_nodup {l : List Int} (nd : l.Nodup) (h : ∀ x ∈ l, 0 ≤ x ∧ x < l.length) : Row l :=
  perm_of_sub nd (fun x hx => iota_mem.mpr (h x hx)) (iota_len _).symm
theorem Row.inv {l : List Int} (h : Row l) : Row (inv l) := by
  refine row_of_nodup (inv_nodup h) fun x hx => ?_
  rw [inv_len]
  unfold Rf.inv at hx
  obtain ⟨y, hy, rfl⟩ := List.mem_map.mp hx
  have hm := iota_mem.mp hy
  have := pos_lt (h.mem.mpr hm)
  omega
theorem inv_inv {l : List Int} (h : Row l) : Rf.inv (Rf.inv l) = l := by
  refine (inv_of h.inv (inv_len l).symm fun j x e => ?_).symm
  have hj : j < l.length := by
    have := (List.getElem?_eq_some_iff.mp e).1
    rw [inv_len] at this
    exact this
  rw [inv_at hj] at e
  have ex := Option.some.inj e
  rw [← ex, Int.toNat_natCast]
  exact pos_at (h.mem.mpr ⟨by omega, by omega⟩)
theorem Row.rev {l : List Int} (h : Row l) : Row l.reverse := h.perm (List.reverse_perm l)
theorem inv_rev {l : List Int} (h : Row l) : Rf.inv l.reverse = flip (Rf.inv l) := by
  refine (inv_of h.rev (by rw [flip_len, inv_len, List.length_reverse]) fun j x e => ?_).symm
  have hj : j < l.length := by
    have := (List.getElem?_eq_some_iff.mp e).1
    rw [List.length_reverse] at this
    exact this
  rw [List.getElem?_reverse hj] at e
  have hx := h.mem.mp (List.mem_of_getElem? e)
  have px := pos_eq h.nodup e
  unfold flip
  rw [List.getElem?_map, inv_at (by omega), show ((x.toNat : Nat) : Int) = x by omega, px, inv_len]
  show some ((l.length : Int) - 1 - ((l.length - 1 - j : Nat) : Int)) = some (j : Int)
  congr 1
  omega
end Rf

/-! rows as data: their texts -/
namespace Rf
open PySem L2
def rowD (xs : List Int) : PyData := .tuple (dI xs)
theorem rowD_dp {K : PySem.W.Frag} {H : Hp} {r : Addr} {xs : List Int} (h : SqT K H r (xs.map V.int)) : Dp K H (.ref r) (rowD xs) := .tup h (dpI xs)
theorem dI_small : ∀ xs : List Int, smallAll (dI xs) = true
  | [] => by simp [dI, smallAll]
  | x :: xs => by
    have h := dI_small xs
    unfold dI at h ⊢
    simp only [List.map_cons, smallAll, small, h, Bool.and_self]
theorem dI_len (xs : List Int) : (dI xs).length = xs.length := List.length_map _
theorem rowD_small {xs : List Int} (h : xs.length ≤ 1000) : small (rowD xs) = true := by
  unfold rowD
  simp only [small, dI_small, dI_len, decide_eq_true h, Bool.and_self]
theorem rowD_depth (xs : List Int) : (rowD xs).depth = 1 := by
  unfold rowD
  simp only [PyData.depth, dI_depth]
theorem join_le (sep : Str) : ∀ ts : List Str, (Str.join sep ts).length ≤ (ts.map fun t => t.length + sep.length).sum
  | [] => Nat.zero_le _
  | [x] => by
    show x.length ≤ _
    rw [List.map_cons, List.sum_cons]
    omega
  | x :: y :: r => by
    have h := join_le sep (y :: r)
    show (x ++ sep ++ Str.join sep (y :: r)).length ≤ _
    rw [strLen_append, strLen_append, List.map_cons, List.sum_cons]
    omega
theorem num_len : ∀ i : Fin 100, ((toString ((i.val : Nat) : Int) : String) : Str).length ≤ 2 := by decide +kernel
theorem num_log {x : Int} (h0 : 0 ≤ x) (h1 : x < 100) : x.natAbs.log2 < 1920 := by
  have h : x.natAbs < 2 ^ 1920 := Nat.lt_of_lt_of_le (show x.natAbs < 2 ^ 7 by omega) (Nat.pow_le_pow_right (by decide) (by decide))
  exact PySem.Flt.log2_lt_of (by decide) h
theorem shown_sum : ∀ {xs : List Int}, (∀ x ∈ xs, 0 ≤ x ∧ x < 100) → ((PyData.shownAll (dI xs)).map fun t => t.length + 2).sum ≤ 4 * xs.length ∧ PyData.showableAll (dI xs) = true
  | [], _ => by simp [dI, PyData.shownAll, PyData.showableAll]
  | x :: xs, h => by
    have ih := shown_sum (xs := xs) fun y hy => h y (by simp [hy])
    have hx := h x (by simp)
    have hl := num_len ⟨x.toNat, by omega⟩
    have ex : ((x.toNat : Nat) : Int) = x := by omega
    have hl2 : (PyData.shown (.int x)).length ≤ 2 := by
      simp only [PyData.shown]
      have hl3 : ((toString ((x.toNat : Nat) : Int) : String) : Str).length ≤ 2 := hl
      rw [ex] at hl3
      exact hl3
    unfold dI at ih ⊢
    simp only [List.map_cons, PyData.shownAll, List.sum_cons, List.length_cons, PyData.showableAll, PyData.showable, decide_eq_true (num_log hx.1 hx.2), ih.2, Bool.and_self, and_true]
    have := ih.1
    omega
theorem row_shows {xs : List Int} (h : ∀ x ∈ xs, 0 ≤ x ∧ x < 100) (hl : xs.length ≤ 100) :
    (rowD xs).showable = true ∧ (rowD xs).hasDict = false ∧ (rowD xs).depth ≤ 60 ∧ (rowD xs).shown.length ≤ sizeLine := by
  have q := shown_sum h
  refine ⟨?_, (small_lay _ (rowD_small (by omega))).2, by rw [rowD_depth]; omega, ?_⟩
  · unfold rowD
    simp only [PyData.showable]
    exact q.2
  · unfold rowD
    simp only [PyData.shown]
    have j := join_le ", " (PyData.shownAll (dI xs))
    have e2 : ((", " : String) : Str).length = 2 := by decide +kernel
    rw [e2] at j
    unfold tupleText
    rw [strLen_append, strLen_append]
    refine sz _ ?_
    have e1 : ((("(" : String) : Str)).length = 1 := by decide +kernel
    have e3 : ∀ b : Bool, (Str.ofString (if b = true then ",)" else ")")).length ≤ 2 := by decide +kernel
    have e4 := e3 ((PyData.shownAll (dI xs)).length == 1)
    have q1 := q.1
    omega
end Rf

/-! data with empty dicts in it -/
namespace Rf
open PySem PySem.Spec PyProof.Rows L2
mutual
inductive Dd (K : PySem.W.Frag) (H : Hp) : V → PyData → Prop
  | non : Dd K H .non .none
  | bl (b : Bool) : Dd K H (.bl b) (.bool b)
  | int (i : Int) : Dd K H (.int i) (.int i)
  | str (x : Str) : Dd K H (.str x) (.str x)
  | lst {a : Addr} {xs : List V} {ds : List PyData} : SqL K H a xs → DdAll K H xs ds → Dd K H (.ref a) (.list ds)
  | tup {a : Addr} {xs : List V} {ds : List PyData} : SqT K H a xs → DdAll K H xs ds → Dd K H (.ref a) (.tuple ds)
  | emp {a : Addr} : H a = some (.dK []) → Dd K H (.ref a) (.dict [])
inductive DdAll (K : PySem.W.Frag) (H : Hp) : List V → List PyData → Prop
  | nil : DdAll K H [] []
  | cons {v : V} {vs : List V} {d : PyData} {ds : List PyData} : Dd K H v d → DdAll K H vs ds → DdAll K H (v :: vs) (d :: ds)
end
mutual
theorem Same.dd {K : PySem.W.Frag} {H H' : Hp} (e : Same H H') {v : V} {d : PyData} (h : Dd K H v d) : Dd K H' v d := by
  cases h with
  | non => exact .non
  | bl b => exact .bl b
  | int i => exact .int i
  | str x => exact .str x
  | lst h1 h2 => exact .lst (e.seq h1) (Same.ddAll e h2)
  | tup h1 h2 => exact .tup (Same.tup e h1) (Same.ddAll e h2)
  | emp h1 => exact .emp (e _ _ h1)
theorem Same.ddAll {K : PySem.W.Frag} {H H' : Hp} (e : Same H H') {vs : List V} {ds : List PyData} (h : DdAll K H vs ds) : DdAll K H' vs ds := by
  cases h with
  | nil => exact .nil
  | cons h1 h2 => exact .cons (Same.dd e h1) (Same.ddAll e h2)
end
section
variable {X : Cx} {pins : List (Addr × Obj)} {σ : L2.St} {H : Hp} {s : Shared}
/-- an empty dict's object -/
theorem emp_at (I : Inv X pins σ H s) {a : Addr} (h : H a = some (.dK [])) : (a == sysModules) = false ∧ ∃ o n, s.heap.get? a = some o ∧ o.cls = .type "dict" ∧ o.data = .dict #[] n := by
  obtain ⟨_, hs, vs, r, o, es, ep, g1, g2, g3, g4, g5, _⟩ := I.hok a _ h
  cases r
  have e : es = #[] := by
    generalize he : es.toList = l at g5
    cases g5
    exact Array.toList_eq_nil_iff.mp he
  subst e
  exact ⟨hs, o, ep, g1, g2.1, g3⟩
mutual
/-- how such data reads, and its text -/
theorem Dd.shows (I : Inv X pins σ H s) : ∀ (d : PyData) (v : V) (u : Value), Dd X.K H v d → RelV v u → d.showable = true → d.shown.length ≤ sizeLine →
    ∃ as bs, Reads s.heap u d as ∧ ReadAtMost s.heap d.depth bs ∧ ReprK X.prog X.w bs s.heap d.depth u d.shown
  | .none, _, _, h, r, _, _ => by
    cases h
    cases r
    exact ⟨_, [], Reads.none, (fun _ z => nomatch z), by simp only [PyData.shown]; exact .of_is ReprIs.none _ _ _⟩
  | .bool b, _, _, h, r, _, _ => by
    cases h
    cases r
    exact ⟨_, [], Reads.bool b, (fun _ z => nomatch z), by simp only [PyData.shown]; exact .of_is (ReprIs.bool b) _ _ _⟩
  | .int i, _, _, h, r, hs, _ => by
    cases h
    obtain ⟨t, rfl⟩ := r
    exact ⟨_, [], Reads.int i t, (fun _ z => nomatch z), by simp only [PyData.shown]; exact .of_is (ReprIs.int t (by simpa [PyData.showable] using hs)) _ _ _⟩
  | .str x, _, _, h, r, _, hz => by
    cases h
    obtain ⟨t, rfl⟩ := r
    exact ⟨_, [], Reads.str x t, (fun _ z => nomatch z), by simp only [PyData.shown]; exact .of_is (ReprIs.str x t (by simpa only [PyData.shown] using hz)) _ _ _⟩
  | .list ds, _, _, h, r, hs, hz => by
    cases h with
    | lst h1 h2 =>
      rename_i a xs
      obtain rfl : _ = Value.ref a := r
      obtain ⟨its, rv, hl, _⟩ := I.list h1
      obtain ⟨o, ho, hc, n, hd⟩ := hl.isList
      have hz' : (listText (PyData.shownAll ds)).length ≤ sizeLine := by simpa only [PyData.shown] using hz
      obtain ⟨as, bs, q1, q2, q3⟩ := Dd.showsAll I ds _ its h2 rv (by simpa [PyData.showable] using hs) (fun t ht => Nat.le_trans (listText_mem_le ht) hz')
      have rd : Reads s.heap (.ref a) (.list ds) _ := .list ho hc hd q1
      have hna : a ∉ bs := not_mem_of_deeper rd (by simp only [PyData.depth]; omega) q2
      refine ⟨_, a :: bs, rd, ReadAtMost.cons rd (by simp only [PyData.depth]; omega) q2, ?_⟩
      simp only [PyData.depth, PyData.shown]
      cases its with
      | nil =>
        cases rv
        cases h2
        simp only [PyData.shownAll, listText_nil]
        exact ReprK.listEmpty ho hc hd
      | cons x l => exact ReprK.list ho hc hd hna (by simpa using q3.length_eq) (fun i y e => q3.item i y (by simpa using e))
  | .tuple ds, _, _, h, r, hs, hz => by
    cases h with
    | tup h1 h2 =>
      rename_i a xs
      obtain rfl : _ = Value.ref a := r
      obtain ⟨its, rv, hl, _⟩ := I.tuple h1
      obtain ⟨o, ho, hc, n, hd⟩ := hl
      have hz' : (tupleText (PyData.shownAll ds)).length ≤ sizeLine := by simpa only [PyData.shown] using hz
      obtain ⟨as, bs, q1, q2, q3⟩ := Dd.showsAll I ds _ its h2 rv (by simpa [PyData.showable] using hs) (fun t ht => Nat.le_trans (tupleText_mem_le ht) hz')
      have rd : Reads s.heap (.ref a) (.tuple ds) _ := .tuple ho hc hd q1
      have hna : a ∉ bs := not_mem_of_deeper rd (by simp only [PyData.depth]; omega) q2
      refine ⟨_, a :: bs, rd, ReadAtMost.cons rd (by simp only [PyData.depth]; omega) q2, ?_⟩
      simp only [PyData.depth, PyData.shown]
      exact ReprK.tuple ho hc hd hna q3
  | .dict kvs, _, _, h, r, _, _ => by
    cases h with
    | @emp a h1 =>
      obtain rfl : _ = Value.ref a := r
      obtain ⟨hsys, o, n, ho, hc, hd⟩ := emp_at I h1
      have rd : Reads s.heap (.ref a) (.dict []) _ := .dict ho hc hd .nil .nil
      refine ⟨_, [a], rd, ReadAtMost.cons rd (n := 0) (Nat.zero_le _) (fun _ z => nomatch z), ?_⟩
      simp only [PyData.depth, PyData.shown, PyData.shownKv, PyData.depthKv]
      exact ReprK.dict ho hc hd hsys (by simp) .nil
theorem Dd.showsAll (I : Inv X pins σ H s) : ∀ (ds : List PyData) (vs : List V) (us : List Value), DdAll X.K H vs ds → Vals vs us → PyData.showableAll ds = true → (∀ t ∈ PyData.shownAll ds, t.length ≤ sizeLine) →
    ∃ as bs, ReadsAll s.heap us ds as ∧ ReadAtMost s.heap (PyData.depthAll ds) bs ∧ ReprAllK X.prog X.w bs s.heap (PyData.depthAll ds) us (PyData.shownAll ds)
  | [], _, _, h, r, _, _ => by
    cases h
    cases r
    exact ⟨_, [], ReadsAll.nil, (fun _ z => nomatch z), by simp only [PyData.shownAll]; exact .nil⟩
  | d :: ds, _, _, h, r, hs, hz => by
    cases h with
    | cons h1 h2 =>
      cases r with
      | cons r1 r2 =>
        have hs' : d.showable = true ∧ PyData.showableAll ds = true := by simpa [PyData.showableAll] using hs
        obtain ⟨a1, b1, p1, p2, p3⟩ := Dd.shows I d _ _ h1 r1 hs'.1 (hz _ (by simp only [PyData.shownAll]; exact List.mem_cons_self ..))
        obtain ⟨a2, b2, q1, q2, q3⟩ := Dd.showsAll I ds _ _ h2 r2 hs'.2 (fun t ht => hz t (by simp only [PyData.shownAll]; exact List.mem_cons_of_mem _ ht))
        refine ⟨_, b1 ++ b2, ReadsAll.cons p1 q1, ?_, ?_⟩
        · simp only [PyData.depthAll]
          exact (p2.mono (Nat.le_max_left _ _)).append (q2.mono (Nat.le_max_right _ _))
        · simp only [PyData.depthAll, PyData.shownAll]
          exact .cons ((p3.more fun b hb => List.mem_append_left _ hb).level_le (Nat.le_max_left _ _)) (q3.more_le (fun b hb => List.mem_append_right _ hb) (Nat.le_max_right _ _))
end
end
section
variable {X : Cx}
/-- repr of data with empty dicts in it -/
def rReprD (K : PySem.W.Frag) : List V → Hp → VK → Prop := fun xs H Q => ∃ (v : V) (d : PyData), xs = [v] ∧ Dd K H v d ∧ d.showable = true ∧ d.depth ≤ 60 ∧ d.shown.length ≤ sizeLine ∧ Q (.str d.shown) H
theorem reprDK (K : PySem.W.Frag) (hcm : Calm X.A) (hu : X.A.units + 64 < cLine) (hK : X.K = K := by rfl) : CallR X (.builtin "repr") (rReprD K) := by
  subst hK
  intro pins s σ H xs us Q I r h
  obtain ⟨v, d, rfl, hd, hs, hdp, hz, q⟩ := h
  obtain ⟨u, rfl, ru⟩ := vals1 r
  have back : ∀ (h' : Heap) (t : Tok) (tk : Nat), (∀ b o, s.heap.get? b = some o → h'.get? b = some o) → EP X pins σ Q (.str d.shown t) { s with heap := h', toks := tk } :=
    fun h' t tk hk => ⟨.str d.shown, H, I.un (h' := h') (t' := tk) (Un.kept hk) (I.hok.kept hk), ⟨t, rfl⟩, q⟩
  cases hd with
  | non =>
    cases ru
    simp only [PyData.shown] at q
    exact P.repr_of_none ⟨.str _, H, I.tok _, ⟨_, rfl⟩, q⟩
  | bl b =>
    cases ru
    simp only [PyData.shown] at q
    exact P.repr_of_bool ⟨.str _, H, I.tok _, ⟨_, rfl⟩, by cases b <;> exact q⟩
  | int i =>
    obtain ⟨t, rfl⟩ := ru
    simp only [PyData.shown] at q
    exact P.repr_of_int (by simpa [PyData.showable] using hs) ⟨.str _, H, I.tok _, ⟨_, rfl⟩, q⟩
  | str x =>
    obtain ⟨t, rfl⟩ := ru
    simp only [PyData.shown] at q hz
    exact P.repr_of_str ⟨.str _, H, I.tok _, ⟨_, rfl⟩, q⟩ hz
  | @lst a xs ds h1 h2 =>
    obtain rfl : u = Value.ref a := ru
    obtain ⟨its, rv, hl, _⟩ := I.list h1
    obtain ⟨o, ho, hc, n, hdt⟩ := hl.isList
    have hz' : (listText (PyData.shownAll ds)).length ≤ sizeLine := by simpa only [PyData.shown] using hz
    obtain ⟨as, bs, q1, q2, q3⟩ := Dd.showsAll I ds _ its h2 rv (by simpa [PyData.showable] using hs) (fun t ht => Nat.le_trans (listText_mem_le ht) hz')
    have rd : Reads s.heap (.ref a) (.list ds) _ := .list ho hc hdt q1
    have hna : a ∉ bs := not_mem_of_deeper rd (by simp only [PyData.depth]; omega) q2
    simp only [PyData.depth] at hdp
    simp only [PyData.shown] at back
    refine call_repr_slot (by omega) ⟨o, ho, hc⟩ F.slot_list_repr.toG ?_
    cases its with
    | nil =>
      cases rv
      cases h2
      simp only [PyData.shownAll, listText_nil] at back
      exact call_list_repr_empty ⟨o, ho, hc⟩ ho hdt ⟨_, _, rfl, back s.heap _ _ fun _ _ e => e⟩
    | cons x l =>
      exact call_list_reprK ho hc hdt hna (by simpa using q3.length_eq) (fun i y e => q3.item i y (by simpa using e)) hcm (fun b _ => Clear.nil b)
        (by show X.A.units + 1 + _ < cLine; omega) (fun _ _ e => e) (fun h' u tk hk => ⟨_, _, rfl, back h' u tk hk⟩) hz'
  | @tup a xs ds h1 h2 =>
    obtain rfl : u = Value.ref a := ru
    obtain ⟨its, rv, hl, _⟩ := I.tuple h1
    obtain ⟨o, ho, hc, n, hdt⟩ := hl
    have hz' : (tupleText (PyData.shownAll ds)).length ≤ sizeLine := by simpa only [PyData.shown] using hz
    obtain ⟨as, bs, q1, q2, q3⟩ := Dd.showsAll I ds _ its h2 rv (by simpa [PyData.showable] using hs) (fun t ht => Nat.le_trans (tupleText_mem_le ht) hz')
    have rd : Reads s.heap (.ref a) (.tuple ds) _ := .tuple ho hc hdt q1
    have hna : a ∉ bs := not_mem_of_deeper rd (by simp only [PyData.depth]; omega) q2
    simp only [PyData.depth] at hdp
    simp only [PyData.shown] at back
    refine call_repr_slot (by omega) ⟨o, ho, hc⟩ F.slot_tuple_repr ?_
    exact call_tuple_reprK ho hc hdt hna q3 hcm (fun b _ => Clear.nil b) (by show X.A.units + 1 + _ < cLine; omega) (fun _ _ e => e) (fun h' u tk hk => ⟨_, _, rfl, back h' u tk hk⟩) hz'
  | @emp a h1 =>
    obtain rfl : u = Value.ref a := ru
    obtain ⟨hsys, o, n, ho, hc, hdt⟩ := emp_at I h1
    simp only [PyData.shown, PyData.shownKv] at back hz
    refine call_repr_slot (by omega) ⟨o, ho, hc⟩ F.slot_dict_repr ?_
    exact call_dict_reprK (as := []) (d := 0) ho hc hdt hsys (by simp) .nil hcm (fun b _ => Clear.nil b) (by show X.A.units + 1 + _ < cLine; omega) (fun _ _ e => e) (fun h' u tk hk => ⟨_, _, rfl, back h' u tk hk⟩) hz
end
end Rf

/-! more rules: x == 1 of any such data, t != (), enumerate(tuple), isinstance -/
namespace Rf
open PySem PySem.Spec PyProof.Rows L2 SeqAt
open AutoSeq1 (wpAny_loadPart')
open MeetsSeq MeetsSeq2 MeetsSeq3
/-! ### dict against int -/
theorem dict_eq_declines (l : Addr) (es : Array _) (n : Nat) (dd : Option Addr) (sl : Array (Option Value)) (b : Int) (u : Tok) :
    Meets (Builtin.«dict.__eq__» ⟨[.ref l, .int b u], []⟩) (fun _ R s => s.heap.get? l = some { cls := .type "dict", dict := dd, data := .dict es n, slots := sl } ∧ R (.ok (.ret .notImplemented)) s) :=
  .of_wp fun prog w A R s h => by
    obtain ⟨hp, g, d, tk, os⟩ := s; obtain ⟨hl, h⟩ := h; have f1 := F.sub_int_dict; wp_walk using wpAny_loadPart' hl, wpAny_load hl; exact ⟨_, rfl, h⟩
theorem int_eq_declines_dict (b : Int) (u : Tok) (l : Addr) (c : Value) (es : Array _) (n : Nat) (dd : Option Addr) (sl : Array (Option Value)) :
    Meets (Builtin.«int.__eq__» ⟨[.int b u, .ref l], []⟩) (fun _ R s => s.heap.get? l = some { cls := c, dict := dd, data := .dict es n, slots := sl } ∧ R (.ok (.ret .notImplemented)) s) :=
  .of_wp fun prog w A R s h => by
    obtain ⟨hp, g, d, tk, os⟩ := s; obtain ⟨hl, h⟩ := h; wp_walk using wpAny_loadPart' hl, wpAny_load hl; exact ⟨_, rfl, h⟩
section
variable {A : Around} {s : Shared}
theorem RcAt_dict_int {l : Addr} {o : Obj} {es : Array _} {n : Nat} (b : Int) (u : Tok) (ho : s.heap.get? l = some o) (hc : o.cls = .type "dict") (hd : o.data = .dict es n) (hu : A.units < cLine) : RcAt A s (.ref l) (.int b u) false := fun prog w E Q h => by
  obtain ⟨cls, dd, data, sl⟩ := o
  simp only at hc hd
  subst hc hd
  exact rc_eq_decline_or (k := false) ⟨_, ho, rfl⟩ (typeIs_int s b u) (by decide) F.sub_int_dict F.slot_dict_eq F.slot_int_eq_refl
    (fun _ hq => call_meets F.slot_dict_eq ⟨_, ho, rfl⟩ F.entry_dict_eq (F.args_dict_eq_2 _ _) (dict_eq_declines l es n dd sl b u) ⟨ho, hq⟩)
    (fun _ hq => call_meets F.slot_int_eq_refl (typeIs_int s b u) F.entry_int_eq (F.args_int_eq_2 _ _) (int_eq_declines_dict b u l (.type "dict") es n dd sl) ⟨ho, hq⟩)
    (fun _ hq => wpAny_of_eq (rfl : isSame (.ref l) (.int b u) = pure false) hq) (.inr hu) h
end
section
variable {X : Cx}
/-- x == n, some bool -/
def rEq1 (K : PySem.W.Frag) : R2 := fun x y H Q => ∃ (d : PyData) (n : Int), Dd K H x d ∧ y = .int n ∧ ∀ b : Bool, Q (.bl b) H
theorem eq1K (K : PySem.W.Frag) (hu : X.A.units + 64 < cLine) (h : X.K = K := by rfl) : OpR X (compareOp .Eq) (rEq1 K) := by
  subst h
  intro pins s σ H x y v u Q I rx ry h
  obtain ⟨d, n, hd, rfl, q⟩ := h
  obtain ⟨t, rfl⟩ := ry
  have hu' : X.A.units < cLine := by omega
  have fin : ∀ b : Bool, RcAt X.A s v (.int n t) b → wpAny (model X.prog X.w) X.A (compareOp .Eq v (.int n t)) (EP X pins σ Q) X.xe s := fun b r =>
    r X.prog X.w X.xe _ ⟨.bl b, H, I, rfl, q b⟩
  cases hd with
  | non => cases rx; exact fin _ (RcAt.none_int _ _)
  | bl b => cases rx; exact fin _ (RcAt.bool_int _ _ _)
  | int i => obtain ⟨t', rfl⟩ := rx; exact fin _ (RcAt.int_int _ _ _ _)
  | str z => obtain ⟨t', rfl⟩ := rx; exact fin _ (RcAt.str_int _ _ _ _)
  | @lst a xs ds h1 h2 =>
    obtain rfl : v = Value.ref a := rx
    obtain ⟨its, rv, hl, _⟩ := I.list h1
    exact fin _ (RcAt.list_int _ _ hl.isList hu')
  | @tup a xs ds h1 h2 =>
    obtain rfl : v = Value.ref a := rx
    obtain ⟨its, rv, hl, _⟩ := I.tuple h1
    exact fin _ (RcAt.tuple_int _ _ hl hu')
  | @emp a h1 =>
    obtain rfl : v = Value.ref a := rx
    obtain ⟨hsys, o, m, ho, hc, hdt⟩ := emp_at I h1
    exact fin _ (RcAt_dict_int _ _ ho hc hdt hu')
/-- t != () -/
def rNeE (K : PySem.W.Frag) : R2 := fun x y H Q => ∃ (a b : Addr) (xs : List V), x = .ref a ∧ y = .ref b ∧ SqT K H a xs ∧ SqT K H b [] ∧ Q (.bl (decide (xs ≠ []))) H
theorem neEK (K : PySem.W.Frag) (hu : X.A.units + 64 < cLine) (h : X.K = K := by rfl) : OpR X (compareOp .NotEq) (rNeE K) := by
  subst h
  intro pins s σ H x y v u Q I rx ry h
  obtain ⟨a, b, xs, rfl, rfl, h1, h2, q⟩ := h
  obtain rfl : v = Value.ref a := rx
  obtain rfl : u = Value.ref b := ry
  obtain ⟨its, rv, hl, _⟩ := I.tuple h1
  obtain ⟨js, rw', hm, _⟩ := I.tuple h2
  cases rw'
  have lx := rv.length
  refine RcNeAt.tuples (e := fun _ => true) hl hm (by omega) (fun j h1 h2 => absurd h2 (by simp)) X.prog X.w X.xe _ ⟨.bl (decide (xs ≠ [])), H, I, ?_, q⟩
  show Value.bool _ = Value.bool _
  congr 1
  cases xs with
  | nil => cases rv; rfl
  | cons z zs => cases rv; simp
end
/-! ### enumerate(tuple) -/
theorem meets_enumerate_newT (l : Addr) (items : Array Value) (n : Nat) (dct : Option Addr) (sl : Array (Option Value)) :
    Meets (Builtin.«enumerate.__new__» ⟨[.type "enumerate", .ref l], []⟩) (fun _ R s => s.heap.get? l = some { cls := .type "tuple", dict := dct, data := .seq items n, slots := sl } ∧
      R (.ok (.ret (.ref (s.heap.push { cls := .type "tuple_iterator", data := .fields #[.ref l, .int 0 0] }).objs.size)))
        { s with heap := (s.heap.push { cls := .type "tuple_iterator", data := .fields #[.ref l, .int 0 0] }).push { cls := .type "enumerate", data := .fields #[.none, .bool false, .ref s.heap.objs.size, rawInt 0, .none, .none] } }) :=
  .of_wp fun prog w A R s h => by
    obtain ⟨hp, g, d, tk, os⟩ := s; obtain ⟨hl, h⟩ := h
    have hsub := sub_enumerate
    have hT : Heap.IsTuple (Shared.heap ⟨hp, g, d, tk, os⟩) l items := ⟨_, hl, rfl, n, rfl⟩
    wp_walk using wpAny_loadPart' hl
    refine wpAny_stack_any fun st => wpAny_pure ?_
    split
    · rename_i c _ _ _ _ _
      cases (c == Value.type "enumerate")
      · wp_walk using wpAny_loadPart' hl, wpAny_pyIter_tuple hT
        exact ⟨_, rfl, h⟩
      · wp_walk using wpAny_loadPart' hl, wpAny_pyIter_tuple hT
        exact ⟨_, rfl, h⟩
    · wp_walk using wpAny_loadPart' hl, wpAny_pyIter_tuple hT
      exact ⟨_, rfl, h⟩
theorem call_enum_tuple {prog : Program} {w : World} {A : Around} {E : Value → Shared → Prop} {s : Shared} {l : Addr} {items : Array Value} {Q : Value → Shared → Prop} (hL : s.heap.IsTuple l items)
    (h : ∀ h', IsEnum h' (s.heap.objs.size + 1) s.heap.objs.size 0 .none → h'.IsTupleIter s.heap.objs.size l 0 →
      (∀ b o, s.heap.get? b = some o → h'.get? b = some o) → Q (.ref (s.heap.objs.size + 1)) { s with heap := h' }) :
    wpAny (model prog w) A (call (.type "enumerate") [.ref l]) Q E s := by
  obtain ⟨⟨c, dct, dt, sl⟩, hl, hc, n, hd⟩ := hL
  replace hc : c = .type "tuple" := hc
  replace hd : dt = .seq items n := hd
  subst hc hd
  refine callType_new F.called_enumerate (by decide) (F.typeCall_enumerate_1 _) (F.newCall_enumerate_1 _) (fun obj => F.args_object_init_2 obj _) F.entry_enumerate_new
    (meets_enumerate_newT l items n dct sl) ⟨hl, ?_⟩
  have hz : (s.heap.push { cls := .type "tuple_iterator", data := .fields #[.ref l, .int 0 0] }).objs.size = s.heap.objs.size + 1 := Heap.size_push ..
  show _ ∧ _
  rw [hz]
  have he : IsEnum ((s.heap.push { cls := .type "tuple_iterator", data := .fields #[.ref l, .int 0 0] }).push
      { cls := .type "enumerate", data := .fields #[.none, .bool false, .ref s.heap.objs.size, rawInt 0, .none, .none] }) (s.heap.objs.size + 1) s.heap.objs.size 0 .none := by
    have := Heap.get?_push_size (s.heap.push { cls := .type "tuple_iterator", data := .fields #[.ref l, .int 0 0] })
      (o := { cls := .type "enumerate", data := .fields #[.none, .bool false, .ref s.heap.objs.size, rawInt 0, .none, .none] }) rfl
    rw [hz] at this; exact this
  exact ⟨⟨_, he, rfl⟩, h _ he ⟨_, Heap.get?_push_of_some _ (Heap.get?_push_size _ rfl), rfl, rfl⟩ fun b o x => Heap.get?_push_of_some _ (Heap.get?_push_of_some _ x)⟩
def ItE (K : PySem.W.Frag) (a : Addr) : It :=
  ⟨fun i H => ∃ (xs : List V) (x : V), SqT K H a xs ∧ xs[i]? = some x, fun i H v H' => ∃ T x, v = .ref T ∧ H T = none ∧ H' = upd H T (.tup [.int (i : Nat), x]) ∧ ∀ xs, SqT K H a xs → xs[i]? = some x,
    fun i H => ∃ xs : List V, SqT K H a xs ∧ xs.length = i⟩
theorem turn_enumT {P : Program} {w : World} {K : PySem.W.Frag} {elts : List Expr} {kk : Nat} {tpos : Pos} (a e it : Addr) :
    Turn P w K (.Tuple elts kk tpos) (ItE K a) [e, it] e (fun i h => (∃ old, IsEnum h e it ((i : Nat) : Int) old) ∧ h.IsTupleIter it a i ∧ e ≠ it) where
  mem := by simp
  obj := fun i h st b hb => by
    obtain ⟨⟨old, he⟩, ⟨o, ho, hc, hd⟩, _⟩ := st
    have e' : b = e ∨ b = it := by simpa using hb
    rcases e' with z | z
    · rw [z]; exact ⟨_, he, fun v q => nomatch q⟩
    · rw [z]; exact ⟨o, ho, fun v q => by rw [hd] at q; cases q⟩
  keep := fun i h h' st k => let ⟨⟨old, he⟩, hi, hne⟩ := st; ⟨⟨old, k e (by simp) _ he⟩, hi.at fun o q => k it (by simp) o q, hne⟩
  item := by
    intro X hP hw hK hc i pins s σ H E I hf st hg
    subst hP hw hK
    obtain ⟨⟨old, he⟩, hit, hne⟩ := st
    obtain ⟨xs, x, hq, hx⟩ := hg
    obtain ⟨its, rv, p, hz⟩ := I.tuple hq
    obtain ⟨u, hu, ru⟩ := rv.get hx
    have hel : e < s.heap.objs.size := Heap.lt_size he
    have hil : it < s.heap.objs.size := by obtain ⟨_, q, _⟩ := hit; exact Heap.lt_size q
    have hai : a ≠ it := fun z => by
      obtain ⟨o, ho, c1, _⟩ := hit
      obtain ⟨o2, ho2, c2, _⟩ := p
      rw [z, ho] at ho2
      cases ho2
      rw [c1] at c2
      exact absurd c2 (by decide)
    have hea : e ≠ a := fun z => by
      obtain ⟨o2, ho2, c2, _⟩ := p
      have he' := he
      unfold IsEnum at he'
      rw [z, ho2] at he'
      cases he'
      have c3 : Value.type "enumerate" = Value.type "tuple" := c2
      exact absurd c3 (by decide)
    have D := Draws.tuple (prog := X.prog) (w := X.w) (A := X.A.in1) (I.ok.hd hc) it a hai its.toArray
    have hlt : i < its.toArray.size := by
      have := (List.getElem?_eq_some_iff.mp hu).1
      simpa using this
    refine wpAny_pyNext_enum_itemD D he ⟨hit, p⟩ hlt hne (by simp [hne, hea]) fun u' h' tk hP ho st' hT hsz hk => ?_
    have eu : u' = u := by
      have e1 : its.toArray[i]? = some u := by simpa using hu
      rw [e1] at hP
      exact (Option.some.inj hP).symm
    subst eu
    refine ⟨_, rfl, wpAny_letOwnedTupleGo_enum (s := { s with heap := h', toks := tk + 1 }) ho fun h'' he' sb => ?_⟩
    have hT2 : h''.get? s.heap.objs.size = some { cls := .type "tuple", data := .seq #[.int i tk, u'] } := (sb.2 _ (Nat.ne_of_gt hel)).trans hT
    have new : ObjOk X.prog X.w (upd H s.heap.objs.size (.tup [.int (i : Nat), x])) h'' s.heap.objs.size (.tup [.int (i : Nat), x]) :=
      ⟨by show 2 ≤ sizeLine; decide, [.int i tk, u'], .cons ⟨_, rfl⟩ (.cons ru .nil), ⟨_, hT2, rfl, _, rfl⟩⟩
    have I1 : Inv X pins σ (upd H s.heap.objs.size (.tup [.int (i : Nat), x])) { s with heap := h'', toks := tk + 1 } :=
      I.turnedNew (ch := [e, it]) (fun b ob hb q => (sb.2 b (fun z => hb (by simp [z]))).trans (hk b ob (fun z => hb (by simp [z])) (fun z => hb (by simp [z])) q)) hf (Nat.le_refl _) new
    refine ⟨.ref s.heap.objs.size, _, I1, rfl, ⟨_, x, rfl, I.hok.fresh (Nat.le_refl _), rfl, fun ys hy => by rw [I.tuple_inj hy hq]; exact hx⟩, ⟨⟨u', ?_⟩, st'.1.at fun o q => (sb.2 it (Ne.symm hne)).trans q, hne⟩, fun b hb => ?_⟩
    · have e1 : ((i + 1 : Nat) : Int) = (i : Int) + 1 := by omega
      rw [e1]; exact he'
    · have hb' : b < s.heap.objs.size := by
        have e' : b = e ∨ b = it := by simpa using hb
        rcases e' with z | z
        · rw [z]; exact hel
        · rw [z]; exact hil
      rw [upd_ne (Nat.ne_of_lt hb')]
      exact (hf b hb).1
  done := by
    intro X hP hw hK hc i pins s σ H E I hf st hg
    subst hP hw hK
    obtain ⟨⟨old, he⟩, hit, hne⟩ := st
    obtain ⟨xs, hq, hx⟩ := hg
    obtain ⟨its, rv, p, hz⟩ := I.tuple hq
    obtain ⟨f0, f1, f2, f3, f4, f5⟩ := hf it (by simp)
    have hl := rv.length
    have hai : a ≠ it := fun z => by
      obtain ⟨o, ho, c1, _⟩ := hit
      obtain ⟨o2, ho2, c2, _⟩ := p
      rw [z, ho] at ho2
      cases ho2
      rw [c1] at c2
      exact absurd c2 (by decide)
    have D := Draws.tuple (prog := X.prog) (w := X.w) (A := X.A.in1) (I.ok.hd hc) it a hai its.toArray
    have en : i = its.toArray.size := by simp; omega
    subst en
    exact wpAny_pyNext_enum_endD D he ⟨hit, p⟩ fun h' eb => ⟨rfl, I.turned (t' := s.toks) (fun b o hb q => eb b o hb q) f0 f1 f3 f4 f5⟩
  self := fun A i s Q E st h => let ⟨⟨_, he⟩, _⟩ := st; wpAny_pyIter_enum he h
def iEnumT (K : PySem.W.Frag) (ta : TA) : TI := fun σ H R => ta σ H fun vs H1 => ∃ a xs, vs = [.ref a] ∧ SqT K H1 a xs ∧ R (ItE K a) H1
theorem pi_enumT {X : Cx} {e : Expr} {ta : TA} {p pos tpos : Pos} {elts : List Expr} {kk : Nat} (hg : Gl X "enumerate") (hm : X.mg "enumerate" = none) (ha : PA X [e] ta) (hs : starEach [e] X.env = [(false, eval e X.env)] := by rfl) :
    PI X (.Tuple elts kk tpos) (.Call (.Name "enumerate" p) [e] [] pos) (iEnumT X.K ta) := by
  refine ⟨fun pins s σ H R I h => ?_⟩
  refine Call_ (ld_blt I hg hm boot_enumerate (PyProof.Rows.callWith_type1 (thn (ha.run pos pins s σ H _ I h) fun us s1 ⟨vs, H1, I1, r1, q1⟩ => ?_) hs rfl))
  obtain ⟨a, xs, ex, hq, q⟩ := q1
  subst ex
  cases r1 with
  | cons r rr =>
    cases rr
    cases r
    obtain ⟨its, rv, p', hz⟩ := I1.tuple hq
    refine call_enum_tuple (items := its.toArray) p' fun h' he hit hk => wpAny_pyIter_enum he ?_
    have I2 : Inv X pins σ H1 { s1 with heap := h' } := I1.kept (t' := s1.toks) hk
    refine ⟨s1.heap.objs.size + 1, [s1.heap.objs.size + 1, s1.heap.objs.size], _, _, H1, rfl, I2, turn_enumT a (s1.heap.objs.size + 1) s1.heap.objs.size, ⟨⟨.none, he⟩, hit, Nat.succ_ne_self _⟩, fun b hb => ?_, q⟩
    have e' : b = s1.heap.objs.size + 1 ∨ b = s1.heap.objs.size := by simpa using hb
    have hle : s1.heap.objs.size ≤ b := by
      rcases e' with z | z
      · rw [z]; exact Nat.le_add_right _ _
      · rw [z]; exact Nat.le_refl _
    exact I1.fpOk hle (I1.hok.fresh hle)
theorem for_enumT {K : PySem.W.Frag} {a : Addr} {xs : List V} {g : TG} {tb : TS} {D : Ends} {σ : L2.St} {H : Hp} (Pv : Nat → L2.St → Hp → Prop) (h0 : Pv 0 σ H) (hl : ∀ i σ H, i ≤ xs.length → Pv i σ H → SqT K H a xs)
    (hs : ∀ i x σ H T, xs[i]? = some x → Pv i σ H → H T = none → g (.ref T) σ (upd H T (.tup [.int (i : Nat), x])) fun σ2 H2 => tb { D with nx := Pv (i + 1), ct := Pv (i + 1), bk := D.nx } σ2 H2) (hd : ∀ σ H, Pv xs.length σ H → D.nx σ H) :
    ∃ W : Nat → Nat → L2.St → Hp → Prop, (∃ m, W 0 m σ H) ∧ ∀ i m σ H, W i m σ H →
      ((ItE K a).stop i H ∧ D.nx σ H) ∨ ((ItE K a).go i H ∧ ∃ N : L2.St → Hp → Prop, (∀ σ' H', N σ' H' → ∃ m', m' < m ∧ W (i + 1) m' σ' H') ∧ ∀ x H', (ItE K a).yld i H x H' → g x σ H' fun σ2 H2 => tb { D with nx := N, ct := N, bk := D.nx } σ2 H2) := by
  refine ⟨fun i m σ H => m = xs.length - i ∧ i ≤ xs.length ∧ Pv i σ H, ⟨xs.length, by simp, Nat.zero_le _, h0⟩, ?_⟩
  rintro i m σ H ⟨rfl, hi, p⟩
  have q := hl i σ H hi p
  by_cases hlt : i < xs.length
  · refine .inr ⟨⟨xs, xs[i], q, List.getElem?_eq_getElem hlt⟩, Pv (i + 1), fun σ' H' p' => ⟨xs.length - (i + 1), by omega, rfl, hlt, p'⟩, fun x H' y => ?_⟩
    obtain ⟨T, x', rfl, hT, rfl, hx⟩ := y
    exact hs i x' σ H T (hx xs q) p hT
  · have e : i = xs.length := by omega
    subst e
    exact .inl ⟨⟨xs, q, rfl⟩, hd σ H p⟩
/-! ### isinstance, with dicts -/
theorem Dd.tyx {K : PySem.W.Frag} {H : Hp} {v : V} {d : PyData} (h : Dd K H v d) : TyX K H v (.type (tyD d)) := by
  cases h with
  | non => exact .base .non
  | bl b => exact .base (.bl b)
  | int i => exact .base (.int i)
  | str x => exact .base (.str x)
  | lst h1 _ => exact tyx_lst h1
  | tup h1 _ => exact tyx_tup h1
  | emp h1 => exact .base (.dK h1)
end Rf

/-! rows and their errors, over data -/
namespace Rf
open PySem L2
def isB : PyData → Bool
  | .bool _ => true
  | _ => false
def isN : PyData → Bool
  | .int _ => true
  | .bool _ => true
  | _ => false
def isT : PyData → Bool
  | .tuple _ => true
  | _ => false
theorem kit_nb : kitB "NoneType" "bool" = some false := by decide +kernel
theorem kit_sb : kitB "str" "bool" = some false := by decide +kernel
theorem kit_lb : kitB "list" "bool" = some false := by decide +kernel
theorem kit_tb : kitB "tuple" "bool" = some false := by decide +kernel
theorem kit_db : kitB "dict" "bool" = some false := by decide +kernel
theorem kit_ni : kitB "NoneType" "int" = some false := by decide +kernel
theorem kit_si : kitB "str" "int" = some false := by decide +kernel
theorem kit_li : kitB "list" "int" = some false := by decide +kernel
theorem kit_ti : kitB "tuple" "int" = some false := by decide +kernel
theorem kit_di : kitB "dict" "int" = some false := by decide +kernel
theorem kit_dt : kitB "dict" "tuple" = some false := by decide +kernel
theorem kitD_b : ∀ d : PyData, kitB (tyD d) "bool" = some (isB d)
  | .none => kit_nb
  | .bool _ => kit_bb
  | .int _ => kit_ib
  | .str _ => kit_sb
  | .list _ => kit_lb
  | .tuple _ => kit_tb
  | .dict _ => kit_db
theorem kitD_i : ∀ d : PyData, kitB (tyD d) "int" = some (isN d)
  | .none => kit_ni
  | .bool _ => kit_bi
  | .int _ => kit_ii
  | .str _ => kit_si
  | .list _ => kit_li
  | .tuple _ => kit_ti
  | .dict _ => kit_di
theorem kitD_t : ∀ d : PyData, kitB (tyD d) "tuple" = some (isT d)
  | .none => kit_nt
  | .bool _ => kit_bt
  | .int _ => kit_it
  | .str _ => kit_st
  | .list _ => kit_lt
  | .tuple _ => kit_tt
  | .dict _ => kit_dt
def isIx (n : Int) : PyData → Bool
  | .int i => decide (0 ≤ i) && decide (i < n)
  | _ => false
def ixVal : PyData → Int
  | .int i => i
  | _ => 0
def eqI (z : Int) : PyData → Bool
  | .int k => k == z
  | _ => false
def errAt (ds : List PyData) (i : Nat) : Option Str :=
  if isIx ds.length (ds.getD i .none) = false then some "number" else if (ds.take i).any (eqI (ixVal (ds.getD i .none))) = true then some "twice" else none
def errGo (ds : List PyData) : Nat → Nat → PyData
  | 0, _ => .none
  | k + 1, i => match errAt ds i with
    | some w => .tuple [.int (i : Nat), .str w]
    | none => errGo ds k (i + 1)
def errOf : PyData → PyData
  | .tuple ds => if 1 ≤ ds.length ∧ ds.length ≤ 12 then errGo ds ds.length 0 else .tuple [.none, .str "row"]
  | _ => .tuple [.none, .str "row"]
theorem errGo_step {ds : List PyData} {n i : Nat} (h : i < n) (e : errAt ds i = none) : errGo ds (n - i) i = errGo ds (n - (i + 1)) (i + 1) := by
  have e1 : n - i = (n - (i + 1)) + 1 := by omega
  rw [e1]
  show (match errAt ds i with | some w => PyData.tuple [.int (i : Nat), .str w] | none => errGo ds (n - (i + 1)) (i + 1)) = _
  rw [e]
theorem errGo_hit {ds : List PyData} {n i : Nat} {w : Str} (h : i < n) (e : errAt ds i = some w) : errGo ds (n - i) i = .tuple [.int (i : Nat), .str w] := by
  have e1 : n - i = (n - (i + 1)) + 1 := by omega
  rw [e1]
  show (match errAt ds i with | some w => PyData.tuple [.int (i : Nat), .str w] | none => errGo ds (n - (i + 1)) (i + 1)) = _
  rw [e]
theorem DdAll.len {K : PySem.W.Frag} {H : Hp} : ∀ {vs : List V} {ds : List PyData}, DdAll K H vs ds → vs.length = ds.length
  | _, _, .nil => rfl
  | _, _, .cons _ t => by rw [List.length_cons, List.length_cons, DdAll.len t]
theorem DdAll.at {K : PySem.W.Frag} {H : Hp} : ∀ {vs : List V} {ds : List PyData} {i : Nat}, DdAll K H vs ds → i < ds.length → ∃ v d, vs[i]? = some v ∧ ds[i]? = some d ∧ Dd K H v d
  | _, _, _, .nil, h => absurd h (Nat.not_lt_zero _)
  | _, _, 0, .cons (v := v) (d := d) h _, _ => ⟨v, d, rfl, rfl, h⟩
  | _, _, i + 1, .cons _ t, h => by
    obtain ⟨v, d, h1, h2, h3⟩ := DdAll.at (i := i) t (Nat.lt_of_succ_lt_succ h)
    exact ⟨v, d, h1, h2, h3⟩
theorem DdAll.take {K : PySem.W.Frag} {H : Hp} : ∀ {vs : List V} {ds : List PyData} (i : Nat), DdAll K H vs ds → DdAll K H (vs.take i) (ds.take i)
  | _, _, 0, _ => .nil
  | _, _, i + 1, .nil => .nil
  | _, _, i + 1, .cons h t => .cons h (t.take i)
theorem DdAll.drop {K : PySem.W.Frag} {H : Hp} : ∀ {vs : List V} {ds : List PyData} (i : Nat), DdAll K H vs ds → DdAll K H (vs.drop i) (ds.drop i)
  | _, _, 0, h => h
  | _, _, i + 1, .nil => .nil
  | _, _, i + 1, .cons h t => t.drop i
theorem DdAll.app {K : PySem.W.Frag} {H : Hp} : ∀ {vs ws : List V} {ds es : List PyData}, DdAll K H vs ds → DdAll K H ws es → DdAll K H (vs ++ ws) (ds ++ es)
  | _, _, _, _, .nil, h => h
  | _, _, _, _, .cons h t, h2 => .cons h (t.app h2)
/-- those looked at so far are indexes -/
theorem ints_of {K : PySem.W.Frag} {H : Hp} {n : Int} : ∀ {vs : List V} {ds : List PyData}, DdAll K H vs ds → (∀ d ∈ ds, isIx n d = true) → vs.all flatV = true ∧ ∀ z : Int, inV (.int z) vs = ds.any (eqI z)
  | _, _, .nil, _ => ⟨rfl, fun _ => rfl⟩
  | _, _, .cons (v := v) (vs := vs) (d := d) (ds := ds) h t, hn => by
    obtain ⟨q1, q2⟩ := ints_of t (fun d hd => hn d (List.mem_cons_of_mem _ hd))
    have hd := hn d (List.mem_cons_self ..)
    cases h with
    | int i =>
      refine ⟨by rw [List.all_cons, q1]; rfl, fun z => ?_⟩
      rw [List.any_cons, ← q2 z]
      rfl
    | _ => exact absurd hd (by simp [isIx])
theorem errAt_none {ds : List PyData} {i : Nat} (h : errAt ds i = none) : isIx ds.length (ds.getD i .none) = true := by
  unfold errAt at h
  by_cases q : isIx ds.length (ds.getD i .none) = false
  · rw [if_pos q] at h; cases h
  · simpa using q
theorem take_ix {ds : List PyData} {i : Nat} (h : ∀ j, j < i → errAt ds j = none) : ∀ d ∈ ds.take i, isIx ds.length d = true := by
  intro d hd
  obtain ⟨j, hj, e⟩ := List.mem_take_iff_getElem.mp hd
  have q := errAt_none (h j (by omega))
  rw [List.getD_eq_getElem?_getD, List.getElem?_eq_getElem (by omega), Option.getD_some, e] at q
  exact q
/-! ### cuts and sums of tuples, however they come -/
theorem slA_of {K : PySem.W.Frag} {H : Hp} {a : Addr} {xs : List V} {lo hi : Option Int} {Q : VK} (h : SqT K H a xs) (q : ∀ p H', Same H H' → SqT K H' p (cutV xs lo hi) → Q (.ref p) H') : rSlA K (.ref a) lo hi H Q := by
  refine ⟨a, xs, rfl, h, fun e => q a H (Same.refl _) ?_, fun _ p hp => q p _ (same_new hp) (SqT.of upd_same)⟩
  unfold cutV
  rw [e.1, e.2, List.drop_zero, Nat.sub_zero, List.take_length]
  exact h
theorem catS_of {K : PySem.W.Frag} {H : Hp} {a b : Addr} {xs ys : List V} {Q : VK} (h1 : SqT K H a xs) (h2 : SqT K H b ys) (hz : xs.length + ys.length ≤ 1000) (q : ∀ p H', Same H H' → SqT K H' p (xs ++ ys) → Q (.ref p) H') : rCatA K (.ref a) (.ref b) H Q := by
  refine ⟨a, b, xs, ys, rfl, rfl, h1, h2, sz _ hz, fun e => ?_, fun _ e => ?_, fun _ _ p hp => q p _ (same_new hp) (SqT.of upd_same)⟩
  · subst e
    exact q b H (Same.refl _) h2
  · subst e
    refine q a H (Same.refl _) ?_
    rw [List.append_nil]
    exact h1
/-- what an error is -/
def Er (e : PyData) : Prop := e = .none ∨ ∃ (x : PyData) (w : Str), e = .tuple [x, .str w] ∧ (x = .none ∨ ∃ i, x = .int i) ∧ PyData.strOk w = true
theorem errGo_er (ds : List PyData) : ∀ k i, Er (errGo ds k i)
  | 0, _ => .inl rfl
  | k + 1, i => by
    show Er (match errAt ds i with | some w => PyData.tuple [.int (i : Nat), .str w] | none => errGo ds k (i + 1))
    cases h : errAt ds i with
    | none => exact errGo_er ds k (i + 1)
    | some w =>
      refine .inr ⟨_, w, rfl, .inr ⟨_, rfl⟩, ?_⟩
      unfold errAt at h
      split at h
      · cases h; decide +kernel
      · split at h
        · cases h; decide +kernel
        · cases h
theorem errOf_er : ∀ d : PyData, Er (errOf d)
  | .tuple ds => by
    show Er (if 1 ≤ ds.length ∧ ds.length ≤ 12 then errGo ds ds.length 0 else .tuple [.none, .str "row"])
    by_cases h : 1 ≤ ds.length ∧ ds.length ≤ 12
    · rw [if_pos h]; exact errGo_er ds _ _
    · rw [if_neg h]; exact .inr ⟨_, _, rfl, .inl rfl, by decide +kernel⟩
  | .none => .inr ⟨_, _, rfl, .inl rfl, by decide +kernel⟩
  | .bool _ => .inr ⟨_, _, rfl, .inl rfl, by decide +kernel⟩
  | .int _ => .inr ⟨_, _, rfl, .inl rfl, by decide +kernel⟩
  | .str _ => .inr ⟨_, _, rfl, .inl rfl, by decide +kernel⟩
  | .list _ => .inr ⟨_, _, rfl, .inl rfl, by decide +kernel⟩
  | .dict _ => .inr ⟨_, _, rfl, .inl rfl, by decide +kernel⟩
def isNone : PyData → Bool
  | .none => true
  | _ => false
theorem Er.small {e : PyData} (h : Er e) (b : Bool) : small (.list [e, .bool b]) = true ∧ (PyData.list [e, .bool b]).depth ≤ 2 := by
  rcases h with rfl | ⟨x, w, rfl, hx, hw⟩
  · constructor
    · simp [Rf.small, Rf.smallAll]
    · simp [PyData.depth, PyData.depthAll]
  · rcases hx with rfl | ⟨i, rfl⟩
    · constructor
      · simp [Rf.small, Rf.smallAll, hw]
      · simp [PyData.depth, PyData.depthAll]
    · constructor
      · simp [Rf.small, Rf.smallAll, hw]
      · simp [PyData.depth, PyData.depthAll]
theorem Er.non {K : PySem.W.Frag} {H : Hp} {e : PyData} {r : V} (h : Er e) (d : Dp K H r e) : decide (r = .non) = isNone e := by
  rcases h with rfl | ⟨x, w, rfl, hx, hw⟩
  · cases d; rfl
  · cases d; rfl
end Rf

/-! values that are short -/
namespace Rf
open PySem L2
def itemB (d : PyData) : Bool := d.showable && decide (d.depth ≤ 2) && decide (d.shown.length ≤ 40)
def Item (d : PyData) : Prop := itemB d = true
def Items (ds : List PyData) : Prop := ∀ d ∈ ds, Item d
def Cd (m : Nat) (d : PyData) : Prop := ∃ ds : List PyData, (d = .tuple ds ∨ d = .list ds) ∧ ds.length ≤ m ∧ Items ds
def Val (d : PyData) : Prop := Item d ∨ Cd 40 d
theorem Item.parts {d : PyData} (h : Item d) : d.showable = true ∧ d.depth ≤ 2 ∧ d.shown.length ≤ 40 := by
  unfold Item itemB at h
  simp only [Bool.and_eq_true, decide_eq_true_eq] at h
  exact ⟨h.1.1, h.1.2, h.2⟩
theorem Item.mk {d : PyData} (h1 : d.showable = true) (h2 : d.depth ≤ 2) (h3 : d.shown.length ≤ 40) : Item d := by
  unfold Item itemB
  simp only [Bool.and_eq_true, decide_eq_true_eq]
  exact ⟨⟨h1, h2⟩, h3⟩
theorem Items.nil : Items [] := fun _ h => nomatch h
theorem Items.cons {d : PyData} {ds : List PyData} (h : Item d) (t : Items ds) : Items (d :: ds) := fun x hx => by
  rcases List.mem_cons.mp hx with e | e
  · rw [e]; exact h
  · exact t x e
theorem Items.app {a b : List PyData} (h : Items a) (t : Items b) : Items (a ++ b) := fun x hx => by
  rcases List.mem_append.mp hx with e | e
  · exact h x e
  · exact t x e
theorem Items.take {a : List PyData} (h : Items a) (i : Nat) : Items (a.take i) := fun x hx => h x (List.mem_of_mem_take hx)
theorem Items.drop {a : List PyData} (h : Items a) (i : Nat) : Items (a.drop i) := fun x hx => h x (List.mem_of_mem_drop hx)
theorem Items.sums : ∀ {ds : List PyData}, Items ds → ((PyData.shownAll ds).map fun t => t.length + 2).sum ≤ 42 * ds.length ∧ PyData.showableAll ds = true ∧ PyData.depthAll ds ≤ 2
  | [], _ => by simp [PyData.shownAll, PyData.showableAll, PyData.depthAll]
  | d :: ds, h => by
    obtain ⟨q1, q2, q3⟩ := Items.sums (ds := ds) fun x hx => h x (List.mem_cons_of_mem _ hx)
    obtain ⟨p1, p2, p3⟩ := (h d (List.mem_cons_self ..)).parts
    simp only [List.map_cons, PyData.shownAll, List.sum_cons, List.length_cons, PyData.showableAll, PyData.depthAll, p1, q2, Bool.and_self, true_and]
    omega
theorem sz4 (n : Nat) (h : n ≤ 10000) : n ≤ sizeLine := by
  rw [sizeLine_eq]
  omega
theorem text_le : ∀ (ts : List Str) (k : Nat) (acc : Str), (textFrom k acc ts).length ≤ acc.length + (ts.map fun t => t.length + 2).sum
  | [], _, _ => Nat.le_add_right _ _
  | t :: ts, k, acc => by
    have ih := text_le ts (k + 1) (acc ++ (if k > 0 then ", " else "" : String) ++ t)
    have e : ∀ b : Bool, (Str.ofString (if b = true then ", " else "")).length ≤ 2 := by decide +kernel
    have e1 : (Str.ofString (if k > 0 then ", " else "")).length ≤ 2 := by
      by_cases hk : k > 0
      · rw [if_pos hk]; exact e true
      · rw [if_neg hk]; exact Nat.le_trans (e false) (by decide)
    rw [strLen_append, strLen_append] at ih
    show (textFrom (k + 1) (acc ++ (if k > 0 then ", " else "" : String) ++ t) ts).length ≤ _
    rw [List.map_cons, List.sum_cons]
    omega
theorem Val.shows {d : PyData} (h : Val d) : d.showable = true ∧ d.depth ≤ 60 ∧ d.shown.length ≤ sizeLine := by
  rcases h with h | ⟨ds, e, hl, hi⟩
  · obtain ⟨p1, p2, p3⟩ := h.parts
    exact ⟨p1, by omega, sz _ (by omega)⟩
  · obtain ⟨q1, q2, q3⟩ := hi.sums
    have j := join_le ", " (PyData.shownAll ds)
    have e2 : ((", " : String) : Str).length = 2 := by decide +kernel
    rw [e2] at j
    rcases e with rfl | rfl
    · refine ⟨by simp only [PyData.showable]; exact q2, by simp only [PyData.depth]; omega, ?_⟩
      simp only [PyData.shown]
      unfold tupleText
      rw [strLen_append, strLen_append]
      have e1 : ((("(" : String) : Str)).length = 1 := by decide +kernel
      have e3 : ∀ b : Bool, (Str.ofString (if b = true then ",)" else ")")).length ≤ 2 := by decide +kernel
      have e4 := e3 ((PyData.shownAll ds).length == 1)
      exact sz4 _ (by omega)
    · refine ⟨by simp only [PyData.showable]; exact q2, by simp only [PyData.depth]; omega, ?_⟩
      simp only [PyData.shown]
      unfold listText
      rw [strLen_append]
      have tl := text_le (PyData.shownAll ds) 0 "["
      have e1 : ((("[" : String) : Str)).length = 1 := by decide +kernel
      have e3 : ((("]" : String) : Str)).length = 1 := by decide +kernel
      exact sz4 _ (by omega)
theorem item_int {x : Int} (h0 : -1 ≤ x) (h1 : x < 100) : Item (.int x) := by
  have n : ∀ i : Fin 101, Item (.int ((i.val : Int) - 1)) := by
    intro i
    exact (by decide +kernel : ∀ i : Fin 101, itemB (.int ((i.val : Int) - 1)) = true) i
  have q := n ⟨(x + 1).toNat, by omega⟩
  have e : (((x + 1).toNat : Nat) : Int) - 1 = x := by omega
  rw [← e]
  exact q
theorem item_bool (b : Bool) : Item (.bool b) := by cases b <;> (show itemB _ = true) <;> decide +kernel
def oddD : List PyData := [.none, .bool true, .bool false, .int (-1), .int 0, .int 1, .int 12, .int (10 ^ 29), .str "", .str "0", .str ".", .tuple [], .list [], .dict [], .tuple [.int 0], .list [.int 0], .tuple [.list [.int 0]], .tuple [.dict []], .tuple [.bool true], .str "+"]
theorem odd_items : Items oddD := by
  have h : oddD.all itemB = true := by decide +kernel
  exact fun d hd => List.all_eq_true.mp h d hd
theorem dI_items {xs : List Int} (h : ∀ x ∈ xs, 0 ≤ x ∧ x < 100) : Items (dI xs) := fun d hd => by
  obtain ⟨x, hx, rfl⟩ := List.mem_map.mp hd
  have := h x hx
  exact item_int (by omega) this.2
theorem dI_dd {K : PySem.W.Frag} {H : Hp} : ∀ ns : List Int, DdAll K H (ns.map V.int) (dI ns)
  | [] => .nil
  | n :: ns => .cons (.int n) (dI_dd ns)
theorem rowD_dd {K : PySem.W.Frag} {H : Hp} {r : Addr} {xs : List Int} (h : SqT K H r (xs.map V.int)) : Dd K H (.ref r) (rowD xs) := .tup h (dI_dd xs)
/-- what stands in a tuple stays with the deck's rest -/
theorem grow_tup {K : PySem.W.Frag} {H H' G' : Hp} {p : Addr} {ws : List V} (g : ∀ b o, H' b = some o → (H b = none ∨ ∀ xs, o ≠ .lst xs) → G' b = some o) (h : SqT K H' p ws) : SqT K G' p ws := by
  rcases h with (h | ⟨o, h⟩) | h
  · exact .inl (.inl (g _ _ h (.inr fun _ z => nomatch z)))
  · exact .inl (.inr ⟨o, g _ _ h (.inr fun _ z => nomatch z)⟩)
  · exact .inr h
/-- a row has no error -/
theorem row_ok {xs : List Int} (h : Row xs) (h1 : 1 ≤ xs.length) (h2 : xs.length ≤ 12) : errOf (rowD xs) = .none := by
  have el : (dI xs).length = xs.length := dI_len xs
  have e : errOf (rowD xs) = errGo (dI xs) (dI xs).length 0 := if_pos ⟨by omega, by omega⟩
  rw [e]
  have all : ∀ i, i < (dI xs).length → errAt (dI xs) i = none := fun i hi => by
    have hi' : i < xs.length := by omega
    have ed : (dI xs).getD i .none = .int xs[i] := by
      unfold dI
      rw [List.getD_eq_getElem?_getD, List.getElem?_map, List.getElem?_eq_getElem hi']; rfl
    unfold errAt
    rw [ed]
    have hm := h.mem.mp (List.getElem_mem hi')
    have hix : isIx ((dI xs).length : Nat) (.int xs[i]) = true := by
      show (decide (0 ≤ xs[i]) && decide (xs[i] < ((dI xs).length : Nat))) = true
      rw [decide_eq_true hm.1, el, decide_eq_true hm.2]; rfl
    rw [if_neg (by rw [hix]; exact Bool.noConfusion), if_neg]
    intro hany
    obtain ⟨d, hd, hq⟩ := List.any_eq_true.mp hany
    unfold dI at hd
    rw [← List.map_take] at hd
    obtain ⟨y, hy, rfl⟩ := List.mem_map.mp hd
    obtain ⟨j, hj, ej⟩ := List.mem_take_iff_getElem.mp hy
    have hyx : y = xs[i] := eq_of_beq hq
    have nd := h.nodup
    have hji : j = i := (List.getElem_inj (h₀ := (by omega : j < xs.length)) (h₁ := hi') nd).mp (by rw [ej, hyx])
    omega
  have go : ∀ k i, i + k = (dI xs).length → errGo (dI xs) k i = .none := by
    intro k
    induction k with
    | zero => intro i _; rfl
    | succ k ih =>
      intro i hi
      show (match errAt (dI xs) i with | some w => PyData.tuple [.int (i : Nat), .str w] | none => errGo (dI xs) k (i + 1)) = _
      rw [all i (by omega)]
      exact ih (i + 1) (by omega)
  exact go _ 0 (by omega)
end Rf

namespace K1
open PySem L2 Rf
def top (i : Nat) : Stmt := PySem.Challenge.pw_rowfolds_k01_rows_and_their_errors.main.body.getD i (.Pass ⟨0, 0, 0, 0⟩)
abbrev sNext : Stmt := top 15
section
variable {P : Program} {w : World} {K : PySem.W.Frag} {mg : Str → Option Value} {base : Heap}
theorem scNext : FnScope ["_law_deck_here", "_law_many", "_law_cells", "_law_rests", "_law_count", "_law_index", "_law_digit", "_law_mixed_here"] ["_law_deck_here", "_law_many"] (defScope sNext) := ⟨rfl, rfl, rfl, by decide +kernel, rfl, by decide +kernel, by decide +kernel⟩
theorem ok_next {f : Addr} {fd : FuncData} (F : Fun K "_law_next" "_law_next" sNext f fd) (T : Txt mg) : FnOk P w K mg base CX0 1 f fd ["_law_deck_here", "_law_many"] spNext := by
  refine F.ok scNext (fun vs H Q E h => ?_) (fun cdv A outer s H vs Q E hr h => ?_)
  · obtain ⟨H0, a, c, m, rfl, _⟩ := h
    rfl
  obtain ⟨H0, a, c, m, rfl, D, hc, hm, hm2, k⟩ := h
  refine ⟨_, (pss_cons (ps_asg (pv 0) (pg_unl rfl (pgs_cons (pg_name (i := 2) scNext.nd rfl (Or.inl rfl)) (pgs_cons (pg_name (i := 3) scNext.nd rfl (Or.inl rfl)) (pgs_cons (pg_name (i := 4) scNext.nd rfl (Or.inl rfl)) pgs_nil)))))
    (pss_cons (ps_asg (pe_op op_add (pv 4) pe_int) (pg_sub (pv 0) pe_int set_list))
    (pss_cons (ps_set (i := 5) scNext.nd rfl (Or.inl rfl) (pe_op op_mod (pv 4) (pe_callB (lenK K) (by rfl) T.b_len bt_len (pa_cons (pv 2) pa_nil))))
    (pss_cons (ps_if (pt_cmpR op_gt (pe_ix (ixLK K) (pv 3) (pv 5) (fun _ _ => rfl)) pe_int (nomark _)) (pss_cons (ps_set (i := 6) scNext.nd rfl (Or.inl rfl) (pe_op op_mod (pe_ix (ixLK K) (pv 3) (pv 5) (fun _ _ => rfl)) (pv 1)))
    (pss_cons (ps_asg (pe_op op_fdivW (pe_ix (ixLK K) (pv 3) (pv 5) (fun _ _ => rfl)) (pv 1)) (pg_sub (pv 3) (pv 5) set_list))
    (pss_one (ps_ret (pv 6))))) pss_nil)
    (pss_cons (ps_set (i := 7) scNext.nd rfl (Or.inl rfl) (pe_op op_mul (pe_op op_add (pe_op op_add (pe_ix (ixLK K) (pv 2) (pv 5) (fun _ _ => rfl)) (pe_op op_mul pe_int (pv 4))) pe_int) (pe_op op_add pe_int (pe_op op_mul pe_int (pv 4)))))
    (pss_cons (ps_set (i := 7) scNext.nd rfl (Or.inl rfl) (pe_op op_mod (pe_op op_add (pv 7) (pe_op op_mul pe_int (pv 4))) pe_int))
    (pss_cons (ps_set (i := 7) scNext.nd rfl (Or.inl rfl) (pe_op op_mod (pe_op op_add (pe_op op_mul (pv 7) (pv 7)) pe_int) pe_int))
    (pss_cons (ps_set (i := 7) scNext.nd rfl (Or.inl rfl) (pe_op op_mod (pe_op op_mul (pv 7) (pv 7)) pe_int))
    (pss_one (ps_ret (pe_op op_mod (pe_op op_fdivW (pv 7) pe_int) (pv 1)))))))))))), ?_⟩
  obtain ⟨sm, ⟨p, q, cs, rs, h1, h2, h3, e1, e2, e3, n1, n2, n3, e4⟩, lo, hi⟩ := D
  have hlen : (0 : Int) < ((cs.map V.int).length : Nat) := by rw [List.length_map]; omega
  have apq : a ≠ q := ne_of h1 h3 (by
    cases rs with
    | nil => rw [List.length_nil] at e1; omega
    | cons x r => intro z; cases z)
  have app : a ≠ p := ne_of h1 h2 (by
    cases cs with
    | nil => exact absurd e2 (Nat.lt_irrefl 0)
    | cons x r => intro z; cases z)
  have g1 : upd H a (.lst [.ref p, .ref q, .int (c + 1)]) a = some (.lst [.ref p, .ref q, .int (c + 1)]) := upd_same
  have g2 : upd H a (.lst [.ref p, .ref q, .int (c + 1)]) p = some (.lst (cs.map V.int)) := by rw [upd_ne app.symm]; exact h2
  have g3 : upd H a (.lst [.ref p, .ref q, .int (c + 1)]) q = some (.lst (rs.map V.int)) := by rw [upd_ne apq.symm]; exact h3
  have gs : Same H0 (upd H a (.lst [.ref p, .ref q, .int (c + 1)])) := fun b o z => by
    rw [upd_ne (ne_of_none z n1)]
    exact sm _ _ z
  -- the three names, the count, the index
  refine ⟨_, rfl, a, _, rfl, SqL.of h1, rfl, _, _, rfl, _, _, rfl, _, _, rfl, rfl, ?_⟩
  refine ⟨_, rfl, _, _, rfl, rfl, _, rfl, a, _, _, 2, rfl, rfl, h1, rfl, ?_⟩
  refine ⟨_, rfl, _, rfl, p, _, rfl, .inl (SqL.of g2), _, _, rfl, rfl, hlen, ?_⟩
  have i0 : 0 ≤ c % ((cs.map V.int).length : Nat) := Int.emod_nonneg _ (by omega)
  have i1 : c % ((cs.map V.int).length : Nat) < ((cs.map V.int).length : Nat) := Int.emod_lt_of_pos _ hlen
  rw [List.length_map] at i0 i1
  have j1 : c % ((cs.length : Nat) : Int) < (rs.length : Int) := by omega
  have hlm : (cs.map V.int).length = cs.length := List.length_map _
  rw [hlm]
  obtain ⟨ix, hix⟩ : ∃ ix, ix = c % ((cs.length : Nat) : Int) := ⟨_, rfl⟩
  have bx : ∀ {G : Int → Prop}, G ix → G (c % ((cs.length : Nat) : Int)) := fun g => hix ▸ g
  rw [← hix] at i0 i1 j1
  refine bx (G := fun z => tSeq _ _ _ (_ :: _ :: _ :: _ :: _ :: some (V.int z) :: _) _) ?_
  -- if rests[index] > 0
  refine ⟨_, rfl, _, rfl, q, _, _, _, rfl, rfl, SqL.of g3, at_map i0 j1, _, _, rfl, rfl, _, rfl, ?_⟩
  refine ite2 (fun _ => ?_) (fun _ => ?_)
  · refine ⟨_, rfl, _, rfl, q, _, _, _, rfl, rfl, SqL.of g3, at_map i0 j1, _, rfl, _, _, rfl, rfl, hm, ?_⟩
    refine ⟨_, rfl, _, rfl, q, _, _, _, rfl, rfl, SqL.of g3, at_map i0 j1, _, rfl, _, _, rfl, rfl, wide_div hm (b := 100) (by omega) (by decide) (by decide), ?_⟩
    refine ⟨_, rfl, _, rfl, q, _, _, _, rfl, rfl, g3, ixN_of i0 (by rw [List.length_map]; exact j1), ?_⟩
    refine ⟨_, rfl, ?_⟩
    refine k _ _ ⟨fun b o z => ?_, ⟨p, q, cs, rs.set ix.toNat (rs.getD ix.toNat 0 / m), ?_, ?_, ?_, ?_, e2, e3, n1, n2, n3, e4⟩, by omega, by omega⟩ (Int.emod_nonneg _ (by omega)) (Int.emod_lt_of_pos _ hm)
    · rw [upd_ne (ne_of_none z n3)]
      exact gs _ _ z
    · rw [upd_ne apq]
      exact g1
    · rw [upd_ne e4]
      exact g2
    · rw [upd_same, map_set]
    · rw [List.length_set]
      exact e1
  · refine ⟨_, rfl, _, rfl, p, _, _, _, rfl, rfl, SqL.of g2, at_map i0 i1, _, rfl, _, _, rfl, rfl, .inl ⟨by decide, by decide⟩, _, _, rfl, rfl, _, _, rfl, rfl, _, rfl, _, _, rfl, rfl, .inl ⟨by decide, by decide⟩, _, _, rfl, rfl, _, _, rfl, rfl, .inr ⟨by omega, by omega⟩, ?_⟩
    refine ⟨_, rfl, _, rfl, _, _, rfl, rfl, .inl ⟨by decide, by decide⟩, _, _, rfl, rfl, _, _, rfl, rfl, (by show (0 : Int) < 2305843009213693951; decide), ?_⟩
    generalize ez : ((cs.getD ix.toNat 0 + 1523 * c + 37) * (50069 + 2 * c) + 90001 * c) % 2305843009213693951 = z1
    have z1a : 0 ≤ z1 := by rw [← ez]; exact Int.emod_nonneg _ (by decide)
    have z1b : z1 < 2305843009213693951 := by rw [← ez]; exact Int.emod_lt_of_pos _ (by decide)
    refine ⟨_, rfl, _, rfl, _, _, rfl, rfl, .inl ⟨by omega, by omega⟩, _, _, rfl, rfl, _, _, rfl, rfl, (by show (0 : Int) < 2305843009213693921; decide), ?_⟩
    generalize ey : (z1 * z1 + 60013) % 2305843009213693921 = z2
    have z2a : 0 ≤ z2 := by rw [← ey]; exact Int.emod_nonneg _ (by decide)
    have z2b : z2 < 2305843009213693921 := by rw [← ey]; exact Int.emod_lt_of_pos _ (by decide)
    refine ⟨_, rfl, _, rfl, _, _, rfl, rfl, .inl ⟨by omega, by omega⟩, _, _, rfl, rfl, (by show (0 : Int) < 2305843009213693951; decide), ?_⟩
    refine ⟨_, rfl, _, _, rfl, rfl, wide_div (by decide) (b := 100) (by decide) (by decide) (by decide), _, rfl, _, _, rfl, rfl, hm, ?_⟩
    exact k _ _ ⟨gs, ⟨p, q, cs, rs, g1, g2, g3, e1, e2, e3, n1, n2, n3, e4⟩, by omega, by omega⟩ (Int.emod_nonneg _ (by omega)) (Int.emod_lt_of_pos _ hm)
end
abbrev sDeck : Stmt := top 14
section
variable {P : Program} {w : World} {K : PySem.W.Frag} {mg : Str → Option Value} {base : Heap}
theorem scDeck : FnScope ["_law_script", "_law_cells", "_law_cell"] ["_law_script"] (defScope sDeck) := ⟨rfl, rfl, rfl, by decide +kernel, rfl, by decide +kernel, by decide +kernel⟩
theorem ok_deck {f : Addr} {fd : FuncData} (F : Fun K "_law_deck" "_law_deck" sDeck f fd) (T : Txt mg) : FnOk P w K mg base CX0 1 f fd ["_law_script"] (spDeck K) := by
  refine F.ok scDeck (fun vs H Q E h => ?_) (fun cdv A outer s H vs Q E hr h => ?_)
  · obtain ⟨a, ns, rfl, _⟩ := h
    rfl
  obtain ⟨a, ns, rfl, hS, hl, k⟩ := h
  refine ⟨_, (pss_cons (ps_set (i := 1) scDeck.nd rfl (Or.inl rfl) (pe_op op_cat (pe_lc (own := [("_law_cell", 2)]) rfl scDeck.nd (piLK K (pe_slice (slLK K) (pv 0) po_none (po_some pe_int))) (blkOk_by (N := ["_law_script", "_law_cells", "_law_cell"]) (sc := defScope sDeck) (by decide +kernel)) (fun _ _ _ _ _ => (pg_name (i := 2) scDeck.nd rfl (Or.inl rfl))) (fun _ _ _ _ _ => pts_nil) (fun _ _ _ _ _ => (pe_callB call_abs (by rfl) T.b_abs bt_abs (pa_cons (pv 2) pa_nil)))) (pe_op op_rep (pe_lst (pa_cons pe_int pa_nil)) (pe_callTy call_int1 (by rfl) T.b_int bt_int (pa_cons (pe_cmpR op_eq (pe_callB (lenK K) (by rfl) T.b_len bt_len (pa_cons (pv 0) pa_nil)) pe_int (nomark _)) pa_nil)))))
    (pss_one (ps_ret (pe_lst (pa_cons (pv 1) (pa_cons (pe_lc (own := [("_law_cell", 2)]) rfl scDeck.nd (piLK K (pv 1)) (blkOk_by (N := ["_law_script", "_law_cells", "_law_cell"]) (sc := defScope sDeck) (by decide +kernel)) (fun _ _ _ _ _ => (pg_name (i := 2) scDeck.nd rfl (Or.inl rfl))) (fun _ _ _ _ _ => pts_nil) (fun _ _ _ _ _ => (pe_op op_mul (pv 2) (pe_callTy call_int1 (by rfl) T.b_int bt_int (pa_cons (pe_cmpR op_ge (pv 2) (pe_op op_pow pe_int pe_int) (nomark _)) pa_nil))))) (pa_cons pe_int pa_nil))))))), ?_⟩
  refine ⟨_, rfl, _, rfl, a, _, rfl, hS, fun p hp => ?_⟩
  refine ⟨p, rfl, ⟨_, SqL.of upd_same⟩, fun D hD => ?_⟩
  have e1 : cutV (ns.map V.int) none (some 61) = (ns.take 61).map V.int := by
    rw [cut_to _ _ (by decide), List.map_take]; rfl
  rw [e1] at hD ⊢
  have hz : ((ns.take 61).map V.int).length ≤ sizeLine := by
    rw [List.length_map, List.length_take]
    exact sz _ (by omega)
  refine lc_fmL (fun _ => true) absV (SqL.of upd_same) hD hz (fun x hx H' hs => tst_yes) (fun x hx _ H' hs => ?_) (fun H2 s2 h2 => ?_)
  · obtain ⟨i, rfl, _⟩ := mem_int hx
    intro R hR
    exact ⟨_, rfl, i, rfl, hR _ (Same.refl _)⟩
  rw [all_fm, map_ints absV absI (fun _ => rfl)] at h2
  have s3 : Same H H2 := (same_new hp).trans s2
  -- [0] * int(len(script) == 0)
  refine ⟨by show 1 ≤ sizeLine; decide, fun l hl2 => ?_⟩
  have s4 : Same H2 (upd H2 l (.lst [.int 0])) := same_new hl2
  refine ⟨_, rfl, a, _, rfl, .inl (s4.seq (s3.seq hS)), rfl, .inr ⟨_, rfl, ?_⟩⟩
  obtain ⟨r, hr0, hr1⟩ : ∃ r : Nat, (if (decide (V.int ((ns.map V.int).length : Nat) = V.int 0)) = true then (1 : Int) else 0) = (r : Int) ∧ r ≤ 1 ∧ (ns = [] → r = 1) := by
    cases ns with
    | nil => exact ⟨1, rfl, Nat.le_refl _, fun _ => rfl⟩
    | cons x t =>
      refine ⟨0, ?_, Nat.zero_le _, fun z => nomatch z⟩
      rw [if_neg]
      · rfl
      · intro z
        have z2 := of_decide_eq_true z
        injection z2 with z3
        rw [List.map_cons, List.length_cons] at z3
        omega
  have bx : ∀ {G : Int → Prop}, G (r : Int) → G (if (decide (V.int ((ns.map V.int).length : Nat) = V.int 0)) = true then (1 : Int) else 0) := fun g => hr0 ▸ g
  refine bx (G := fun z => rRep (V.ref l) (V.int z) _ _) ?_
  refine ⟨l, _, _, rfl, rfl, upd_same, by omega, by omega, ?_, fun y hy => ?_⟩
  · rw [List.length_singleton, Int.toNat_natCast, Nat.one_mul]
    exact sz _ (by omega)
  have e2 : (List.replicate ((r : Int)).toNat [V.int 0]).flatten = (List.replicate r (0 : Int)).map V.int := by
    rw [Int.toNat_natCast, rep_flat, List.map_replicate]
  rw [e2]
  have s5 : Same (upd H2 l (.lst [.int 0])) (upd (upd H2 l (.lst [.int 0])) y (.lst ((List.replicate r (0 : Int)).map V.int))) := same_new hy
  have hDy := s5 _ _ (s4 _ _ h2)
  refine ⟨D, y, _, _, rfl, rfl, hDy, upd_same, ?_, fun c hc => ?_⟩
  · rw [List.length_map, List.length_map, List.length_map, List.length_take, List.length_replicate]
    exact sz _ (by omega)
  have e3 : ((ns.take 61).map absI).map V.int ++ (List.replicate r (0 : Int)).map V.int = ((ns.take 61).map absI ++ List.replicate r (0 : Int)).map V.int := by rw [List.map_append]
  rw [e3]
  obtain ⟨cs, hcs⟩ : ∃ cs, cs = (ns.take 61).map absI ++ List.replicate r (0 : Int) := ⟨_, rfl⟩
  have c1 : 0 < cs.length := by
    rw [hcs, List.length_append, List.length_map, List.length_take, List.length_replicate]
    cases ns with
    | nil => rw [hr1.2 rfl]; omega
    | cons x t => rw [List.length_cons]; omega
  have c2 : cs.length ≤ 1000 := by
    rw [hcs, List.length_append, List.length_map, List.length_take, List.length_replicate]
    omega
  rw [← hcs]
  have s6 := s3.trans (s4.trans (s5.trans (same_new (o := .lst (cs.map V.int)) hc)))
  -- the list of the rests
  refine ⟨_, rfl, _, rfl, c, rfl, ⟨_, SqL.of upd_same⟩, fun e he => ?_⟩
  refine lc_fmL (fun _ => true) keepV (SqL.of upd_same) he (by rw [List.length_map]; exact sz _ c2) (fun x hx H' hs => tst_yes) (fun x hx _ H' hs => ?_) (fun H3 s7 h3 => ?_)
  · obtain ⟨i, rfl, _⟩ := mem_int hx
    intro R hR
    refine ⟨_, rfl, _, rfl, _, _, rfl, rfl, ⟨by decide, by decide, by decide⟩, _, _, rfl, rfl, .inr ⟨_, rfl, _, _, rfl, rfl, .inr ?_, ?_⟩⟩
    · split <;> decide
    · exact hR _ (Same.refl _)
  rw [all_fm, map_ints keepV keepI (fun _ => rfl)] at h3
  refine ⟨by show 3 ≤ sizeLine; decide, fun z hz2 => ?_⟩
  have cz := s7 _ _ (upd_same (H := upd (upd H2 l (.lst [.int 0])) y (.lst ((List.replicate r (0 : Int)).map V.int))) (a := c) (o := .lst (cs.map V.int)))
  have hc0 : H c = none := (s3.trans (s4.trans s5)).free hc
  have he0 : H e = none := s6.free he
  refine k _ z ⟨(s6.trans s7).trans (same_new hz2), ⟨c, e, cs, cs.map keepI, upd_same, ?_, ?_, ?_, c1, c2, (s6.trans s7).free hz2, hc0, he0, ?_⟩, Int.le_refl 0, by decide⟩
  · rw [upd_ne (ne_of_none cz hz2)]
    exact cz
  · rw [upd_ne (ne_of_none h3 hz2)]
    exact h3
  · rw [List.length_map]
  · exact fun q => by
      rw [q, upd_same] at he
      cases he
end
abbrev sMixed : Stmt := top 17
section
variable {P : Program} {w : World} {K : PySem.W.Frag} {mg : Str → Option Value} {base : Heap}
theorem scMixed : FnScope ["_law_deck_here", "_law_items", "_law_left", "_law_found"] ["_law_deck_here", "_law_items"] (defScope sMixed) := ⟨rfl, rfl, rfl, by decide +kernel, rfl, by decide +kernel, by decide +kernel⟩
theorem ok_mixed {f : Addr} {fd : FuncData} (F : Fun K "_law_mixed" "_law_mixed" sMixed f fd) (T : Txt mg) (F__law_next : Dfn P w K mg base "_law_next" 1 ["_law_deck_here", "_law_many"] spNext) : FnOk P w K mg base CX0 2 f fd ["_law_deck_here", "_law_items"] (spMixed K) := by
  refine F.ok scMixed (fun vs H Q E h => ?_) (fun cdv A outer s H vs Q E hr h => ?_)
  · obtain ⟨H0, a, l, c, ns, rfl, _⟩ := h
    rfl
  obtain ⟨H0, a, l, c, ns, rfl, D, hS, hl, hc, k⟩ := h
  have hu64 := hr.units
  refine ⟨_, (pss_cons (ps_par rfl scMixed.nd (i := 2) (j := 3) rfl rfl (by decide) rfl rfl (pa_cons (pe_callTy (listOfK K) (by rfl) T.b_list bt_list (pa_cons (pv 1) pa_nil)) (pa_cons (pe_lst pa_nil) pa_nil)) rfl)
    (pss_cons (ps_while PassesOwn.never (pt_cmpR (neDK K hu64) (pv 2) (pe_lst pa_nil) (nomark _))
      (pss_one (ps_expr (pe_bm PySem.F.plainAttrs_list PySem.F.slot_list_append PySem.F.type_list_append mt_append (pv 3) (pa_cons (pe_bm PySem.F.plainAttrs_list PySem.F.slot_list_pop PySem.F.type_list_pop mt_popAt (pv 2) (pa_cons (pe_call F__law_next.ok (hr.mono (by omega)) rfl F__law_next.mg F__law_next.kp F__law_next.bd .nil pass0 (pa_cons (pv 0) (pa_cons (pe_callB (lenK K) (by rfl) T.b_len bt_len (pa_cons (pv 2) pa_nil)) pa_nil))) pa_nil)) pa_nil)))))
    (pss_one (ps_ret (pv 3))))), ?_⟩
  refine ⟨_, rfl, l, _, rfl, .inl (D.same.seq hS), fun p hp => ?_⟩
  refine ⟨Nat.zero_le _, fun q hq => ?_⟩
  refine ⟨_, _, rfl, ?_⟩
  have D1 := (D.new (.lst (ns.map V.int)) hp).new (.lst []) hq
  have npq : p ≠ q := fun z => by
    rw [← z, upd_same] at hq
    cases hq
  have hp0 := D.free hp
  have hq0 : H0 q = none := D.free (by rw [upd_ne npq.symm] at hq; exact hq)
  refine ⟨fun m σ H' => ∃ (H0' : Hp) (c' : Int) (ls fs : List Int), m = ls.length ∧ σ = [some (.ref a), some (.ref l), some (.ref p), some (.ref q)] ∧ Same H0 H0' ∧ Deck H0' H' a c' ∧
    H0' p = some (.lst (ls.map V.int)) ∧ H0' q = some (.lst (fs.map V.int)) ∧ c' = c + fs.length ∧ (fs ++ ls).Perm ns,
    ⟨_, _, c, ns, [], rfl, rfl, ?_, D1, ?_, upd_same, by rw [List.length_nil]; omega, .refl _⟩, ?_⟩
  · intro b o z
    rw [upd_ne (ne_of_none z hq0), upd_ne (ne_of_none z hp0)]
    exact z
  · rw [upd_ne npq, upd_same]
  rintro m σ H1 ⟨H0', c', ls, fs, rfl, rfl, s1, E1, hp1, hq1, ec, pm⟩
  have hlen := pm.length_eq
  rw [List.length_append] at hlen
  refine ⟨_, rfl, Nat.zero_le _, fun r hr1 => ?_⟩
  have E2 := E1.new (.lst []) hr1
  have s2 : Same H0' (upd H0' r (.lst [])) := same_new (E1.free hr1)
  refine ⟨.list (dI ls), .list [], .lst (SqL.of (E2.same _ _ (s2 _ _ hp1))) (dpI ls), .lst (SqL.of upd_same) .nil, dI_shL ls, dI_shL [], _, rfl, ?_⟩
  rw [dI_nil]
  cases ls with
  | nil =>
    refine ⟨_, rfl, ?_⟩
    have pm2 : fs.Perm ns := by rw [List.append_nil] at pm; exact pm
    rw [List.length_nil] at hlen
    refine k _ _ q fs (s1.trans s2) ?_ hq0 (s2 _ _ hq1) pm2
    rw [ec] at E2
    rw [show ((ns.length : Nat) : Int) = ((fs.length : Nat) : Int) by omega]
    exact E2
  | cons x ls =>
    have hp2 := s2 _ _ hp1
    have hq2 := s2 _ _ hq1
    refine iteT ?_
    generalize el : x :: ls = gs at hp1 hp2 pm hlen ⊢
    have g0 : 0 < gs.length := by rw [← el, List.length_cons]; omega
    refine ⟨fun σ' H' => ∃ (H0'' : Hp) (c'' : Int) (ls' fs' : List Int), ls'.length < gs.length ∧ σ' = [some (.ref a), some (.ref l), some (.ref p), some (.ref q)] ∧ Same H0 H0'' ∧ Deck H0'' H' a c'' ∧
      H0'' p = some (.lst (ls'.map V.int)) ∧ H0'' q = some (.lst (fs'.map V.int)) ∧ c'' = c + fs'.length ∧ (fs' ++ ls').Perm ns, fun σ' H' h => ?_, ?_⟩
    · obtain ⟨a1, a2, a3, a4, a5, a6⟩ := h
      exact ⟨_, a5, a1, a2, a3, a4, rfl, a6⟩
    refine ⟨_, rfl, .inl ⟨rfl, _, SqL.of (E2.same _ _ hq2)⟩, ?_⟩
    refine ⟨_, rfl, .inl ⟨rfl, _, SqL.of (E2.same _ _ hp2)⟩, ?_⟩
    refine ⟨_, rfl, _, rfl, p, _, rfl, .inl (SqL.of (E2.same _ _ hp2)), ?_⟩
    refine ⟨_, a, c', _, rfl, E2, by omega, by rw [List.length_map]; omega, by rw [List.length_map]; omega, fun H3 d E3 d0 d1 => ?_⟩
    rw [List.length_map] at d1
    have hd : d.toNat < gs.length := by omega
    refine ⟨p, _, d, d.toNat, .int gs[d.toNat], rfl, rfl, E3.same _ _ hp2, by omega, by omega, ?_, ?_, ?_⟩
    · exact seqIndex_of d0 (by rw [List.length_map]; exact d1)
    · rw [List.getElem?_map, List.getElem?_eq_getElem hd]; rfl
    have E4 := E3.put (.lst ((gs.map V.int).eraseIdx d.toNat)) hp2
    have hq3 : upd (upd H0' r (.lst [])) p (.lst ((gs.map V.int).eraseIdx d.toNat)) q = some (.lst (fs.map V.int)) := by
      rw [upd_ne npq.symm]
      exact hq2
    refine ⟨q, _, _, rfl, rfl, E4.same _ _ hq3, by rw [List.length_map]; exact small1000 (by omega), ?_⟩
    have E5 := E4.put (.lst (fs.map V.int ++ [.int gs[d.toNat]])) hq3
    refine ⟨_, _, gs.eraseIdx d.toNat, fs ++ [gs[d.toNat]], ?_, rfl, ?_, E5, ?_, ?_, ?_, ?_⟩
    · rw [List.length_eraseIdx, if_pos hd]
      omega
    · intro b o z
      rw [upd_ne (ne_of_none z hq0), upd_ne (ne_of_none z hp0)]
      exact s2 _ _ (s1 _ _ z)
    · rw [upd_ne npq, upd_same, map_erase]
    · rw [upd_same, List.map_append]; rfl
    · rw [List.length_append, List.length_singleton, ec]
      omega
    · rw [List.append_assoc]
      refine (List.Perm.append_left fs ?_).trans pm
      exact erase_perm hd
end
abbrev sBeside : Stmt := top 18
section
variable {P : Program} {w : World} {K : PySem.W.Frag} {mg : Str → Option Value} {base : Heap}
theorem scBeside : FnScope ["_law_one", "_law_other", "_law_is_falling", "_law_number"] ["_law_one", "_law_other", "_law_is_falling"] (defScope sBeside) := ⟨rfl, rfl, rfl, by decide +kernel, rfl, by decide +kernel, by decide +kernel⟩
theorem ok_beside {f : Addr} {fd : FuncData} (F : Fun K "_law_beside" "_law_beside" sBeside f fd) (T : Txt mg) : FnOk P w K mg base CX0 1 f fd ["_law_one", "_law_other", "_law_is_falling"] (spBeside K) := by
  refine F.ok scBeside (fun vs H Q E h => ?_) (fun cdv A outer s H vs Q E hr h => ?_)
  · obtain ⟨a, b, t, xs, ys, rfl, _⟩ := h
    rfl
  obtain ⟨a, b, t, xs, ys, rfl, ha, hb, hx, hy, k⟩ := h
  refine ⟨_, (pss_cons (ps_if (pt_val (pv 2)) (pss_one (ps_ret (pe_op (catTK K) (pe_callTy (tupOfK K) (by rfl) T.b_tuple bt_tuple (pa_cons (pe_lc (own := [("_law_number", 3)]) rfl scBeside.nd (piTK K (pv 0)) (blkOk_by (N := ["_law_one", "_law_other", "_law_is_falling", "_law_number"]) (sc := defScope sBeside) (by decide +kernel)) (fun _ _ _ _ _ => (pg_name (i := 3) scBeside.nd rfl (Or.inl rfl))) (fun _ _ _ _ _ => pts_nil) (fun _ _ _ _ _ => (pe_op op_add (pv 3) (pe_callB (lenK K) (by rfl) T.b_len bt_len (pa_cons (pv 1) pa_nil))))) pa_nil)) (pv 1)))) pss_nil)
    (pss_one (ps_ret (pe_op (catTK K) (pv 0) (pe_callTy (tupOfK K) (by rfl) T.b_tuple bt_tuple (pa_cons (pe_lc (own := [("_law_number", 3)]) rfl scBeside.nd (piTK K (pv 1)) (blkOk_by (N := ["_law_one", "_law_other", "_law_is_falling", "_law_number"]) (sc := defScope sBeside) (by decide +kernel)) (fun _ _ _ _ _ => (pg_name (i := 3) scBeside.nd rfl (Or.inl rfl))) (fun _ _ _ _ _ => pts_nil) (fun _ _ _ _ _ => (pe_op op_add (pv 3) (pe_callB (lenK K) (by rfl) T.b_len bt_len (pa_cons (pv 0) pa_nil))))) pa_nil)))))), ?_⟩
  have lx : (xs.map V.int).length ≤ sizeLine := by rw [List.length_map]; exact sz _ (by omega)
  have ly : (ys.map V.int).length ≤ sizeLine := by rw [List.length_map]; exact sz _ (by omega)
  refine ⟨_, rfl, _, rfl, ?_⟩
  cases t with
  | true =>
    refine iteT ?_
    refine ⟨_, rfl, a, rfl, ⟨_, ha⟩, fun D hD => ?_⟩
    refine lc_fmT (fun _ => true) (addV ((ys.map V.int).length : Nat)) ha hD lx (fun x hx H' hs => tst_yes) (fun x hx _ H' hs => ?_) (fun H2 s2 h2 => ?_)
    · obtain ⟨i, rfl, _⟩ := mem_int hx
      intro R hR
      exact ⟨_, rfl, _, rfl, b, _, rfl, .inr (Same.tup hs hb), _, _, rfl, rfl, hR _ (Same.refl _)⟩
    rw [all_fm, List.length_map, map_ints (addV (ys.length : Nat)) (fun x => x + (ys.length : Int)) (fun _ => rfl)] at h2
    refine ⟨D, _, rfl, .inl ⟨SqL.of h2, fun r hr2 => ?_⟩⟩
    have s3 : Same H2 (upd H2 r (.tup ((xs.map fun x => x + (ys.length : Int)).map V.int))) := same_new hr2
    refine ⟨_, rfl, ?_⟩
    refine catA_of (SqT.of upd_same) (Same.tup (s2.trans s3) hb) (by rw [List.length_map, List.length_map, List.length_map]; exact sz _ (by omega)) fun u H4 s4 h4 => ?_
    refine k u H4 (s2.trans (s3.trans s4)) ?_
    rw [← List.map_append] at h4
    exact h4
  | false =>
    refine iteF ?_
    refine ⟨_, rfl, _, rfl, b, rfl, ⟨_, hb⟩, fun D hD => ?_⟩
    refine lc_fmT (fun _ => true) (addV ((xs.map V.int).length : Nat)) hb hD ly (fun x hx H' hs => tst_yes) (fun x hx _ H' hs => ?_) (fun H2 s2 h2 => ?_)
    · obtain ⟨i, rfl, _⟩ := mem_int hx
      intro R hR
      exact ⟨_, rfl, _, rfl, a, _, rfl, .inr (Same.tup hs ha), _, _, rfl, rfl, hR _ (Same.refl _)⟩
    rw [all_fm, List.length_map, map_ints (addV (xs.length : Nat)) (fun x => x + (xs.length : Int)) (fun _ => rfl)] at h2
    refine ⟨D, _, rfl, .inl ⟨SqL.of h2, fun r hr2 => ?_⟩⟩
    have s3 : Same H2 (upd H2 r (.tup ((ys.map fun x => x + (xs.length : Int)).map V.int))) := same_new hr2
    refine catA_of (Same.tup (s2.trans s3) ha) (SqT.of upd_same) (by rw [List.length_map, List.length_map, List.length_map]; exact sz _ (by omega)) fun u H4 s4 h4 => ?_
    refine k u H4 (s2.trans (s3.trans s4)) ?_
    rw [← List.map_append] at h4
    exact h4
end
abbrev sRow : Stmt := top 19
section
variable {P : Program} {w : World} {K : PySem.W.Frag} {mg : Str → Option Value} {base : Heap}
theorem scRow : FnScope ["_law_deck_here", "_law_limit", "_law_size", "_law_way", "_law_order", "_law_row_here", "_law_k", "_law_place", "_law_left", "_law_right", "_law_rows", "_law_core", "_law_number", "_law_rest"] ["_law_deck_here", "_law_limit"] (defScope sRow) := ⟨rfl, rfl, rfl, by decide +kernel, rfl, by decide +kernel, by decide +kernel⟩
theorem ok_row {f : Addr} {fd : FuncData} (F : Fun K "_law_row" "_law_row" sRow f fd) (T : Txt mg) (F__law_next : Dfn P w K mg base "_law_next" 1 ["_law_deck_here", "_law_many"] spNext)
    (F__law_mixed : Dfn P w K mg base "_law_mixed" 2 ["_law_deck_here", "_law_items"] (spMixed K)) (F__law_beside : Dfn P w K mg base "_law_beside" 1 ["_law_one", "_law_other", "_law_is_falling"] (spBeside K)) :
    FnOk P w K mg base CX0 3 f fd ["_law_deck_here", "_law_limit"] (spRow K) := by
  refine F.ok scRow (fun vs H Q E h => ?_) (fun cdv A outer s H vs Q E hr h => ?_)
  · obtain ⟨H0, a, c, lim, rfl, _⟩ := h
    rfl
  obtain ⟨H0, a, c, lim, rfl, D, l1, l2, hc, k⟩ := h
  refine ⟨_, (pss_cons (ps_par rfl scRow.nd (i := 2) (j := 3) rfl rfl (by decide) rfl rfl (pa_cons (pe_op op_add pe_int (pe_call F__law_next.ok (hr.mono (by omega)) rfl F__law_next.mg F__law_next.kp F__law_next.bd .nil pass0 (pa_cons (pv 0) (pa_cons (pv 1) pa_nil)))) (pa_cons (pe_call F__law_next.ok (hr.mono (by omega)) rfl F__law_next.mg F__law_next.kp F__law_next.bd .nil pass0 (pa_cons (pv 0) (pa_cons pe_int pa_nil))) pa_nil)) rfl)
    (pss_cons (ps_set (i := 4) scRow.nd rfl (Or.inl rfl) (pe_call F__law_mixed.ok (hr.mono (by omega)) rfl F__law_mixed.mg F__law_mixed.kp F__law_mixed.bd .nil pass0 (pa_cons (pv 0) (pa_cons (pe_listRg rfl rfl T.b_list (prg_1 rfl T.b_range (pv 2))) pa_nil))))
    (pss_cons (ps_if (pt_cmpR op_eq (pv 3) pe_int (nomark _)) (pss_one (ps_ret (pe_callTy (tupOfK K) (by rfl) T.b_tuple bt_tuple (pa_cons (pv 4) pa_nil)))) pss_nil)
    (pss_cons (ps_if (pt_cmpR op_eq (pv 3) pe_int (nomark _)) (pss_cons (ps_set (i := 5) scRow.nd rfl (Or.inl rfl) (pe_listRg rfl rfl T.b_list (prg_1 rfl T.b_range (pv 2))))
    (pss_cons (ps_for PassesOwn.never rfl (pi_range1 rfl T.b_range (pa_cons (pe_call F__law_next.ok (hr.mono (by omega)) rfl F__law_next.mg F__law_next.kp F__law_next.bd .nil pass0 (pa_cons (pv 0) (pa_cons pe_int pa_nil))) pa_nil)) (pg_name (i := 6) scRow.nd rfl (Or.inl rfl))
      (pss_cons (ps_set (i := 7) scRow.nd rfl (Or.inl rfl) (pe_call F__law_next.ok (hr.mono (by omega)) rfl F__law_next.mg F__law_next.kp F__law_next.bd .nil pass0 (pa_cons (pv 0) (pa_cons (pv 2) pa_nil))))
    (pss_cons (ps_par rfl scRow.nd (i := 8) (j := 9) rfl rfl (by decide) rfl rfl (pa_cons (pe_slice (slLK K) (pv 5) po_none (po_some (pv 7))) (pa_cons (pe_slice (slLK K) (pv 5) (po_some (pv 7)) po_none) pa_nil)) rfl)
    (pss_one (ps_set (i := 5) scRow.nd rfl (Or.inl rfl) (pe_op op_cat (pe_op op_cat (pv 8) (stepLK K (pe_slice (slLK K) (pv 9) po_none (po_some pe_int)) (pe_un un_neg pe_int))) (pe_slice (slLK K) (pv 9) (po_some pe_int) po_none)))))))
    (pss_one (ps_ret (pe_callTy (tupOfK K) (by rfl) T.b_tuple bt_tuple (pa_cons (stepLK K (pv 5) (pe_ix (ixLK K) (pe_lst (pa_cons pe_int (pa_cons (pe_un un_neg pe_int) pa_nil))) (pe_call F__law_next.ok (hr.mono (by omega)) rfl F__law_next.mg F__law_next.kp F__law_next.bd .nil pass0 (pa_cons (pv 0) (pa_cons pe_int pa_nil))) (fun _ _ => rfl))) pa_nil)))))) pss_nil)
    (pss_cons (ps_if (pt_cmpR op_eq (pv 3) pe_int (nomark _)) (pss_cons (ps_set (i := 10) scRow.nd rfl (Or.inl rfl) (pe_op op_rep (pe_lst (pa_cons (pe_tup (pa_cons pe_int pa_nil)) pa_nil)) (pv 2)))
    (pss_cons (ps_while PassesOwn.never (pt_cmpR op_gt (pe_callB (lenK K) (by rfl) T.b_len bt_len (pa_cons (pv 10) pa_nil)) pe_int (nomark _))
      (pss_cons (ps_set (i := 6) scRow.nd rfl (Or.inl rfl) (pe_call F__law_next.ok (hr.mono (by omega)) rfl F__law_next.mg F__law_next.kp F__law_next.bd .nil pass0 (pa_cons (pv 0) (pa_cons (pe_op op_sub (pe_callB (lenK K) (by rfl) T.b_len bt_len (pa_cons (pv 10) pa_nil)) pe_int) pa_nil))))
    (pss_one (ps_set (i := 10) scRow.nd rfl (Or.inl rfl) (pe_op op_cat (pe_op op_cat (pe_slice (slLK K) (pv 10) po_none (po_some (pv 6))) (pe_lst (pa_cons (pe_call F__law_beside.ok (hr.mono (by omega)) rfl F__law_beside.mg F__law_beside.kp F__law_beside.bd .nil pass0 (pa_cons (pe_ix (ixLK K) (pv 10) (pv 6) (fun _ _ => rfl)) (pa_cons (pe_ix (ixLK K) (pv 10) (pe_op op_add (pv 6) pe_int) (fun _ _ => rfl)) (pa_cons (pe_cmpR op_eq (pe_call F__law_next.ok (hr.mono (by omega)) rfl F__law_next.mg F__law_next.kp F__law_next.bd .nil pass0 (pa_cons (pv 0) (pa_cons pe_int pa_nil))) pe_int (nomark _)) pa_nil)))) pa_nil))) (pe_slice (slLK K) (pv 10) (po_some (pe_op op_add (pv 6) pe_int)) po_none))))))
    (pss_one (ps_ret (pe_ix (ixLK K) (pv 10) pe_int (fun _ _ => rfl)))))) pss_nil)
    (pss_cons (ps_set (i := 11) scRow.nd rfl (Or.inl rfl) (pe_callTy (tupOfK K) (by rfl) T.b_tuple bt_tuple (pa_cons (pe_lc (own := [("_law_number", 12)]) rfl scRow.nd (piLK K (pv 4)) (blkOk_by (N := ["_law_deck_here", "_law_limit", "_law_size", "_law_way", "_law_order", "_law_row_here", "_law_k", "_law_place", "_law_left", "_law_right", "_law_rows", "_law_core", "_law_number", "_law_rest"]) (sc := defScope sRow) (by decide +kernel)) (fun _ _ _ _ _ => (pg_name (i := 12) scRow.nd rfl (Or.inl rfl))) (fun _ _ _ _ _ => (pts_one (pt_cmpR op_lt (pv 12) pe_int (nomark _)))) (fun _ _ _ _ _ => (pv 12))) pa_nil)))
    (pss_cons (ps_set (i := 13) scRow.nd rfl (Or.inl rfl) (pe_tupRg rfl rfl T.b_tuple (prg_1 rfl T.b_range (pe_op op_sub (pv 2) (pe_callB (lenK K) (by rfl) T.b_len bt_len (pa_cons (pv 11) pa_nil))))))
    (pss_cons (ps_if (pt_cmpR op_eq (pe_call F__law_next.ok (hr.mono (by omega)) rfl F__law_next.mg F__law_next.kp F__law_next.bd .nil pass0 (pa_cons (pv 0) (pa_cons pe_int pa_nil))) pe_int (nomark _)) (pss_one (ps_ret (pe_call F__law_beside.ok (hr.mono (by omega)) rfl F__law_beside.mg F__law_beside.kp F__law_beside.bd .nil pass0 (pa_cons (pv 11) (pa_cons (pv 13) (pa_cons (pe_cmpR op_eq (pe_call F__law_next.ok (hr.mono (by omega)) rfl F__law_next.mg F__law_next.kp F__law_next.bd .nil pass0 (pa_cons (pv 0) (pa_cons pe_int pa_nil))) pe_int (nomark _)) pa_nil)))))) pss_nil)
    (pss_one (ps_ret (pe_call F__law_beside.ok (hr.mono (by omega)) rfl F__law_beside.mg F__law_beside.kp F__law_beside.bd .nil pass0 (pa_cons (pv 13) (pa_cons (pv 11) (pa_cons pe_bl pa_nil)))))))))))))), ?_⟩
  -- size, way
  refine ⟨_, rfl, _, rfl, H0, a, c, lim, rfl, D, by omega, by omega, by omega, fun H1 d1 D1 d10 d11 => ?_⟩
  refine ⟨_, _, rfl, rfl, _, rfl, H0, a, c + 1, 4, rfl, D1, by omega, by decide, by decide, fun H2 w2 D2 w0 w1 => ?_⟩
  refine ⟨_, _, rfl, ?_⟩
  obtain ⟨n, hn⟩ : ∃ n : Nat, 1 + d1 = (n : Int) := ⟨(1 + d1).toNat, by omega⟩
  have hg : ∀ {G : Int → Prop}, G (n : Int) → G (1 + d1) := fun g => hn ▸ g
  refine hg (G := fun z => tSeq _ _ _ [some (.ref a), some (.int lim), some (.int z), some (.int w2), none, none, none, none, none, none, none, none, none, none] _) ?_
  have rg : RgOk 0 (n : Int) := ⟨by omega, by omega, by omega, by omega, by omega⟩
  -- order
  refine ⟨_, rfl, _, rfl, _, rfl, rg, fun p hp => ?_⟩
  rw [← iota_map]
  obtain ⟨G1, s1, D3, hp1, _⟩ := D2.add (.lst ((iota n).map V.int)) hp
  refine ⟨G1, a, p, _, iota n, rfl, D3, SqL.of hp1, by rw [iota_len]; omega, by omega, fun G2 H3 r ms s2 D4 hr0 hr1 pm => ?_⟩
  rw [iota_len] at D4
  have s02 := s1.trans s2
  have row_ms : Row ms := Row.of pm
  have len_ms : ms.length = n := by rw [pm.length_eq, iota_len]
  -- if way == 0
  refine ⟨_, rfl, rfl, _, rfl, ?_⟩
  refine ite2 (fun _ => ?_) (fun e0 => ?_)
  · refine ⟨_, rfl, r, _, rfl, .inl ⟨SqL.of (D4.same _ _ hr1), fun l hl => ?_⟩⟩
    obtain ⟨G3, s3, D5, hl1, _⟩ := D4.add (.tup (ms.map V.int)) hl
    exact k G3 _ l ms _ (s02.trans s3) D5 (by omega) (SqT.of hl1) row_ms (by omega) (by omega)
  -- if way == 1
  refine ⟨_, rfl, rfl, _, rfl, ?_⟩
  refine ite2 (fun _ => ?_) (fun e1 => ?_)
  · refine ⟨_, rfl, _, rfl, rg, fun l hl => ?_⟩
    rw [← iota_map]
    obtain ⟨G3, s3, D5, hl1, _⟩ := D4.add (.lst ((iota n).map V.int)) hl
    refine ⟨_, rfl, G3, a, _, 4, rfl, D5, by omega, by decide, by decide, fun H4 d D6 d0 d1' => ?_⟩
    refine ⟨d, rfl, by omega, by omega, ?_⟩
    refine for_range (lo := 0) (n := d.toNat) (fun i σ H' => ∃ (G : Hp) (c' : Int) (l' : Addr) (xs : List Int) (v6 v7 v8 v9 : Option V),
      σ = [some (.ref a), some (.int lim), some (.int n), some (.int w2), some (.ref r), some (.ref l'), v6, v7, v8, v9, none, none, none, none] ∧ Same H0 G ∧ Deck G H' a c' ∧ c' ≤ c + 60 + i ∧
      G l' = some (.lst (xs.map V.int)) ∧ xs.Perm (iota n)) ⟨G3, _, l, iota n, none, none, none, none, rfl, s02.trans s3, D6, by omega, hl1, .refl _⟩ ?_ ?_
    · rintro i σ H5 hi ⟨G4, c5, l', xs, v6, v7, v8, v9, rfl, s4, D7, hc5, hl', px⟩
      refine ⟨_, rfl, _, rfl, G4, a, c5, n, rfl, D7, by omega, by omega, by omega, fun H6 e D8 e0' e1' => ?_⟩
      -- left, right
      refine ⟨_, rfl, _, rfl, _, rfl, l', _, rfl, SqL.of (D8.same _ _ hl'), fun u hu => ?_⟩
      rw [cut_to _ _ e0', ← List.map_take]
      obtain ⟨G5, s5, D9, hu1, _⟩ := D8.add (.lst ((xs.take e.toNat).map V.int)) hu
      refine ⟨_, rfl, _, rfl, _, rfl, l', _, rfl, SqL.of (D9.same _ _ (s5 _ _ hl')), fun v hv => ?_⟩
      rw [cut_from _ _ e0', ← List.map_drop]
      obtain ⟨G6, s6, D10, hv1, _⟩ := D9.add (.lst ((xs.drop e.toNat).map V.int)) hv
      refine ⟨_, _, rfl, ?_⟩
      -- left + right[:2][::-1] + right[2:]
      refine ⟨_, rfl, _, rfl, _, rfl, v, _, rfl, SqL.of (D10.same _ _ hv1), fun x hx => ?_⟩
      rw [cut_to _ _ (by decide), ← List.map_take]
      obtain ⟨G7, s7, D11, hx1, _⟩ := D10.add (.lst (((xs.drop e.toNat).take (2 : Int).toNat).map V.int)) hx
      refine ⟨_, rfl, x, _, rfl, SqL.of (D11.same _ _ hx1), .inr ⟨rfl, fun y hy => ?_⟩⟩
      rw [← List.map_reverse]
      obtain ⟨G8, s8, D12, hy1, _⟩ := D11.add (.lst (((xs.drop e.toNat).take (2 : Int).toNat).reverse.map V.int)) hy
      have s68 := s6.trans (s7.trans s8)
      have hxl := px.length_eq
      rw [iota_len] at hxl
      refine ⟨u, y, _, _, rfl, rfl, D12.same _ _ (s68 _ _ hu1), D12.same _ _ hy1, ?_, fun z hz => ?_⟩
      · rw [List.length_map, List.length_map, List.length_reverse, List.length_take, List.length_take]
        exact sz _ (by omega)
      rw [← List.map_append]
      obtain ⟨G9, s9, D13, hz1, _⟩ := D12.add (.lst ((xs.take e.toNat ++ ((xs.drop e.toNat).take (2 : Int).toNat).reverse).map V.int)) hz
      refine ⟨_, rfl, _, rfl, v, _, rfl, SqL.of (D13.same _ _ (s9 _ _ (s8 _ _ (s7 _ _ hv1)))), fun t ht => ?_⟩
      rw [cut_from _ _ (by decide), ← List.map_drop]
      obtain ⟨G10, s10, D14, ht1, _⟩ := D13.add (.lst (((xs.drop e.toNat).drop (2 : Int).toNat).map V.int)) ht
      refine ⟨z, t, _, _, rfl, rfl, D14.same _ _ (s10 _ _ hz1), D14.same _ _ ht1, ?_, fun y2 hy2 => ?_⟩
      · simp only [List.length_map, List.length_append, List.length_reverse, List.length_take, List.length_drop]
        exact sz _ (by omega)
      rw [← List.map_append]
      obtain ⟨G11, s11, D15, hy3, _⟩ := D14.add (.lst ((xs.take e.toNat ++ ((xs.drop e.toNat).take (2 : Int).toNat).reverse ++ (xs.drop e.toNat).drop (2 : Int).toNat).map V.int)) hy2
      exact ⟨G11, _, y2, _, _, _, _, _, rfl, s4.trans (s5.trans (s68.trans (s9.trans (s10.trans s11)))), D15, by omega, hy3, (swap_perm xs e.toNat).trans px⟩
    · rintro σ H5 ⟨G4, c5, l', xs, v6, v7, v8, v9, rfl, s4, D7, hc5, hl', px⟩
      have hxl := px.length_eq
      rw [iota_len] at hxl
      refine ⟨_, rfl, _, rfl, (by show 2 ≤ sizeLine; decide), fun u hu => ?_⟩
      obtain ⟨G5, s5, D8, hu1, _⟩ := D7.add (.lst [V.int 1, V.int (-1)]) hu
      refine ⟨_, rfl, G5, a, _, 2, rfl, D8, by omega, by decide, by decide, fun H6 e D9 e0' e1' => ?_⟩
      have hu2 := D9.same _ _ hu1
      have hl2 := D9.same _ _ (s5 _ _ hl')
      have e2 : e = 0 ∨ e = 1 := by omega
      rcases e2 with rfl | rfl
      · refine ⟨u, _, _, .int 1, rfl, rfl, SqL.of hu2, rfl, l', _, rfl, SqL.of hl2, .inl ⟨rfl, fun v hv => ?_⟩⟩
        obtain ⟨G6, s6, D10, hv1, _⟩ := D9.add (.lst (xs.map V.int)) hv
        refine ⟨v, _, rfl, .inl ⟨SqL.of (D10.same _ _ hv1), fun x hx => ?_⟩⟩
        obtain ⟨G7, s7, D11, hx1, _⟩ := D10.add (.tup (xs.map V.int)) hx
        exact k G7 _ x xs _ (s4.trans (s5.trans (s6.trans s7))) D11 (by omega) (SqT.of hx1) (Row.of px) (by omega) (by omega)
      · refine ⟨u, _, _, .int (-1), rfl, rfl, SqL.of hu2, rfl, l', _, rfl, SqL.of hl2, .inr ⟨rfl, fun v hv => ?_⟩⟩
        rw [← List.map_reverse]
        obtain ⟨G6, s6, D10, hv1, _⟩ := D9.add (.lst (xs.reverse.map V.int)) hv
        refine ⟨v, _, rfl, .inl ⟨SqL.of (D10.same _ _ hv1), fun x hx => ?_⟩⟩
        obtain ⟨G7, s7, D11, hx1, _⟩ := D10.add (.tup (xs.reverse.map V.int)) hx
        exact k G7 _ x xs.reverse _ (s4.trans (s5.trans (s6.trans s7))) D11 (by omega) (SqT.of hx1) (Row.of ((List.reverse_perm xs).trans px)) (by rw [List.length_reverse]; omega) (by rw [List.length_reverse]; omega)
  -- if way == 2
  refine ⟨_, rfl, rfl, _, rfl, ?_⟩
  refine ite2 (fun _ => ?_) (fun e2 => ?_)
  · refine ⟨(by show 1 ≤ sizeLine; decide), fun t ht => ?_⟩
    obtain ⟨G3, s3, D5, ht1, _⟩ := D4.add (.tup [V.int 0]) ht
    refine ⟨(by show 1 ≤ sizeLine; decide), fun u hu => ?_⟩
    obtain ⟨G4, s4, D6, hu1, _⟩ := D5.add (.lst [V.ref t]) hu
    refine ⟨_, rfl, u, _, _, rfl, rfl, D6.same _ _ hu1, by omega, by omega, ?_, fun l hl => ?_⟩
    · rw [List.length_singleton, Nat.one_mul]
      exact sz _ (by omega)
    rw [Int.toNat_natCast, rep_flat]
    obtain ⟨G5, s5, D7, hl1, _⟩ := D6.add (.lst (List.replicate n (V.ref t))) hl
    refine ⟨fun m σ H' => ∃ (G : Hp) (c' : Int) (l' : Addr) (ps : List (Addr × List Int)) (v6 : Option V),
      m = ps.length ∧ σ = [some (.ref a), some (.int lim), some (.int n), some (.int w2), some (.ref r), none, v6, none, none, none, some (.ref l'), none, none, none] ∧ Same H0 G ∧ Deck G H' a c' ∧
      c' + 2 * ps.length ≤ c + 160 ∧ G l' = some (.lst (ps.map fun p => V.ref p.1)) ∧ (∀ p ∈ ps, SqT K G p.1 (p.2.map V.int) ∧ Row p.2) ∧ (ps.map fun p => p.2.length).sum = n ∧ 1 ≤ ps.length ∧ ps.length ≤ 50,
      ⟨n, G5, _, l, List.replicate n (t, [0]), none, ?_, rfl, s02.trans (s3.trans (s4.trans s5)), D7, ?_, ?_, ?_, ?_, ?_, ?_⟩, ?_⟩
    · rw [List.length_replicate]
    · rw [List.length_replicate]; omega
    · rw [hl1, List.map_replicate]
    · intro p hp
      rw [(List.mem_replicate.mp hp).2]
      exact ⟨SqT.of (s5 _ _ (s4 _ _ ht1)), Row.of (n := 1) (.refl _)⟩
    · rw [List.map_replicate, List.sum_replicate_nat]; simp
    · rw [List.length_replicate]; omega
    · rw [List.length_replicate]; omega
    rintro m σ H5 ⟨G, c5, l', ps, v6, rfl, rfl, sG, DG, hc5, hl', hps, hsum, hp1', hp2'⟩
    refine ⟨_, rfl, l', _, rfl, .inl (SqL.of (DG.same _ _ hl')), _, _, rfl, rfl, _, rfl, ?_⟩
    rw [List.length_map]
    refine ite2 (fun q => ?_) (fun q => ?_)
    · have q1 : 1 < ps.length := by have := of_decide_eq_true q; omega
      refine ⟨fun σ' H' => ∃ (G : Hp) (c' : Int) (l' : Addr) (ps' : List (Addr × List Int)) (v6 : Option V),
        ps'.length < ps.length ∧ σ' = [some (.ref a), some (.int lim), some (.int n), some (.int w2), some (.ref r), none, v6, none, none, none, some (.ref l'), none, none, none] ∧ Same H0 G ∧ Deck G H' a c' ∧
        c' + 2 * ps'.length ≤ c + 160 ∧ G l' = some (.lst (ps'.map fun p => V.ref p.1)) ∧ (∀ p ∈ ps', SqT K G p.1 (p.2.map V.int) ∧ Row p.2) ∧ (ps'.map fun p => p.2.length).sum = n ∧ 1 ≤ ps'.length ∧ ps'.length ≤ 50,
        fun σ' H' h => ?_, ?_⟩
      · obtain ⟨a1, a2, a3, a4, a5, a6, a7⟩ := h
        exact ⟨_, a6, a1, a2, a3, a4, a5, rfl, a7⟩
      refine ⟨_, rfl, _, rfl, l', _, rfl, .inl (SqL.of (DG.same _ _ hl')), _, _, rfl, rfl, G, a, c5, _, rfl, DG, by omega, by rw [List.length_map]; omega, by rw [List.length_map]; omega, fun H6 d D8 d0 d1' => ?_⟩
      rw [List.length_map] at d1'
      obtain ⟨A1, x1, x2, B1, eps, hA1⟩ := two_of (l := ps) (d := d.toNat) (by omega)
      have hlen : ps.length = A1.length + (B1.length + 2) := by rw [eps, List.length_append, List.length_cons, List.length_cons]
      have t1 : (ps.map fun p => V.ref p.1).take d.toNat = A1.map fun p => V.ref p.1 := by
        rw [eps, List.map_append, List.take_append_of_le_length (by rw [List.length_map]; omega), List.take_of_length_le (by rw [List.length_map]; omega)]
      have t2 : (ps.map fun p => V.ref p.1).drop (d + 2).toNat = B1.map fun p => V.ref p.1 := by
        rw [eps, show (d + 2).toNat = A1.length + 2 by omega, List.map_append, List.drop_append, List.length_map, List.drop_of_length_le (by rw [List.length_map]; omega), show A1.length + 2 - A1.length = 2 by omega]; rfl
      have t3 : (ps.map fun p => V.ref p.1)[d.toNat]? = some (V.ref x1.1) := by
        rw [eps, List.map_append, List.getElem?_append_right (by rw [List.length_map]; omega), List.length_map, show d.toNat - A1.length = 0 by omega]; rfl
      have t4 : (ps.map fun p => V.ref p.1)[(d + 1).toNat]? = some (V.ref x2.1) := by
        rw [eps, List.map_append, List.getElem?_append_right (by rw [List.length_map]; omega), List.length_map, show (d + 1).toNat - A1.length = 1 by omega]; rfl
      have m1 := hps x1 (by rw [eps]; simp)
      have m2 := hps x2 (by rw [eps]; simp)
      have hs2 : (A1.map fun p => p.2.length).sum + (x1.2.length + (x2.2.length + (B1.map fun p => p.2.length).sum)) = n := by
        rw [eps, List.map_append, List.sum_append_nat, List.map_cons, List.sum_cons, List.map_cons, List.sum_cons] at hsum
        exact hsum
      -- rows[:k]
      refine ⟨_, rfl, _, rfl, _, rfl, l', _, rfl, SqL.of (D8.same _ _ hl'), fun u2 hu2 => ?_⟩
      rw [cut_to _ _ d0, t1]
      obtain ⟨G6, s6, D9, hu3, _⟩ := D8.add (.lst (A1.map fun p => V.ref p.1)) hu2
      have hl6 := s6 _ _ hl'
      -- beside
      refine ⟨_, rfl, _, rfl, l', _, _, _, rfl, rfl, SqL.of (D9.same _ _ hl6), at_lst d0 t3, ?_⟩
      refine ⟨_, rfl, _, rfl, _, _, rfl, rfl, l', _, _, _, rfl, rfl, SqL.of (D9.same _ _ hl6), at_lst (by omega) t4, ?_⟩
      refine ⟨_, rfl, G6, a, _, 2, rfl, D9, by omega, by decide, by decide, fun H7 e D10 e0' e1' => ?_⟩
      refine ⟨rfl, x1.1, x2.1, _, x1.2, x2.2, rfl, Same.tup (s6.trans D10.same) m1.1, Same.tup (s6.trans D10.same) m2.1, by omega, by omega, fun r2 H8 s8 h8 => ?_⟩
      obtain ⟨G7, s7, D11, hr2⟩ := D10.tup s8 h8
      refine ⟨(by show 1 ≤ sizeLine; decide), fun u4 hu4 => ?_⟩
      obtain ⟨G8, s9, D12, hu5, _⟩ := D11.add (.lst [V.ref r2]) hu4
      have s79 := s7.trans s9
      refine ⟨u2, u4, _, _, rfl, rfl, D12.same _ _ (s79 _ _ hu3), D12.same _ _ hu5, ?_, fun u6 hu6 => ?_⟩
      · rw [List.length_map, List.length_singleton]
        exact sz _ (by omega)
      obtain ⟨G9, s10, D13, hu7, _⟩ := D12.add (.lst ((A1.map fun p => V.ref p.1) ++ [V.ref r2])) hu6
      refine ⟨_, rfl, _, rfl, _, _, rfl, rfl, _, rfl, l', _, rfl, SqL.of (D13.same _ _ (s10 _ _ (s79 _ _ hl6))), fun u8 hu8 => ?_⟩
      rw [cut_from _ _ (by omega), t2]
      obtain ⟨G10, s11, D14, hu9, _⟩ := D13.add (.lst (B1.map fun p => V.ref p.1)) hu8
      refine ⟨u6, u8, _, _, rfl, rfl, D14.same _ _ (s11 _ _ hu7), D14.same _ _ hu9, ?_, fun u10 hu10 => ?_⟩
      · rw [List.length_append, List.length_map, List.length_singleton, List.length_map]
        exact sz _ (by omega)
      obtain ⟨G11, s12, D15, hu11, _⟩ := D14.add (.lst ((A1.map fun p => V.ref p.1) ++ [V.ref r2] ++ (B1.map fun p => V.ref p.1))) hu10
      have sAll := s6.trans (s79.trans (s10.trans (s11.trans s12)))
      have lenb : (beside x1.2 x2.2 (decide (V.int e = V.int 1))).length = x1.2.length + x2.2.length := beside_len _ _ _
      refine ⟨G11, _, u10, A1 ++ (r2, beside x1.2 x2.2 (decide (V.int e = V.int 1))) :: B1, _, ?_, rfl, sG.trans sAll, D15, ?_, ?_, ?_, ?_, ?_, ?_⟩
      · rw [List.length_append, List.length_cons]; omega
      · rw [List.length_append, List.length_cons]; omega
      · rw [hu11, List.map_append, List.map_cons, List.append_assoc]; rfl
      · intro p hp
        rcases List.mem_append.mp hp with z | z
        · have := hps p (by rw [eps]; exact List.mem_append_left _ z)
          exact ⟨Same.tup sAll this.1, this.2⟩
        · rcases List.mem_cons.mp z with z | z
          · rw [z]
            exact ⟨Same.tup (s9.trans (s10.trans (s11.trans s12))) hr2, beside_row m1.2 m2.2 _⟩
          · have := hps p (by rw [eps]; simp [z])
            exact ⟨Same.tup sAll this.1, this.2⟩
      · rw [List.map_append, List.sum_append_nat, List.map_cons, List.sum_cons, lenb]; omega
      · rw [List.length_append, List.length_cons]; omega
      · rw [List.length_append, List.length_cons]; omega
    · have q1 : ps.length = 1 := by
        have : ¬ ((1 : Int) < (ps.length : Int)) := fun z => q (decide_eq_true z)
        omega
      obtain ⟨x1, rfl⟩ : ∃ x, ps = [x] := List.length_eq_one_iff.mp q1
      have m1 := hps x1 (by simp)
      have hs2 : x1.2.length = n := by
        rw [List.map_cons, List.sum_cons, List.map_nil, List.sum_nil] at hsum
        exact hsum
      refine ⟨_, rfl, l', _, _, _, rfl, rfl, SqL.of (DG.same _ _ hl'), rfl, ?_⟩
      exact k G H5 x1.1 x1.2 _ sG DG (by omega) m1.1 m1.2 (by omega) (by omega)
  -- core, rest
  refine ⟨_, rfl, r, rfl, ⟨_, SqL.of (D4.same _ _ hr1)⟩, fun E1 hE1 => ?_⟩
  refine lc_fmL lowV id (SqL.of (D4.same _ _ hr1)) hE1 (by rw [List.length_map]; exact sz _ (by omega)) (fun x hx H' hs => ?_) (fun x hx _ H' hs => ?_) (fun H4 s4 h4 => ?_)
  · obtain ⟨i, rfl, _⟩ := mem_int hx
    intro R hR
    exact ⟨_, rfl, _, _, rfl, rfl, _, rfl, hR _ (Same.refl _)⟩
  · intro R hR
    exact ⟨_, rfl, hR _ (Same.refl _)⟩
  have e4 : ((ms.map V.int).filter lowV).map id = (ms.filter fun x => decide (x < 5)).map V.int := by
    rw [List.map_id, List.filter_map]; rfl
  rw [e4] at h4
  have pc := low_perm pm
  generalize ms.filter (fun x => decide (x < 5)) = cr at h4 pc
  have lc : cr.length = min n 5 := by rw [pc.length_eq, iota_len]
  obtain ⟨G3, s5, D5, g5⟩ := D4.grow s4
  refine ⟨E1, _, rfl, .inl ⟨SqL.of h4, fun t ht => ?_⟩⟩
  obtain ⟨G4, s6, D6, ht1, _⟩ := D5.add (.tup (cr.map V.int)) ht
  refine ⟨_, rfl, _, rfl, t, _, rfl, .inr (SqT.of (D6.same _ _ ht1)), _, _, rfl, rfl, _, rfl, ?_⟩
  rw [List.length_map]
  refine ⟨⟨by omega, by omega, by omega, by omega, by omega⟩, fun u hu => ?_⟩
  rw [show ((n : Int) - ((cr.length : Nat) : Int)) = ((n - cr.length : Nat) : Int) by omega, ← iota_map]
  obtain ⟨G5, s7, D7, hu1, _⟩ := D6.add (.tup ((iota (n - cr.length)).map V.int)) hu
  have li := iota_len (n - cr.length)
  have sAll := s02.trans (s5.trans (s6.trans s7))
  refine ⟨_, rfl, G5, a, _, 2, rfl, D7, by omega, by decide, by decide, fun H5 e D8 e0' e1' => ?_⟩
  refine ⟨rfl, _, rfl, ?_⟩
  refine ite2 (fun _ => ?_) (fun _ => ?_)
  · refine ⟨_, rfl, _, rfl, _, rfl, G5, a, _, 2, rfl, D8, by omega, by decide, by decide, fun H6 g D9 g0 g1 => ?_⟩
    refine ⟨rfl, t, u, _, cr, iota (n - cr.length), rfl, SqT.of (D9.same _ _ (s7 _ _ ht1)), SqT.of (D9.same _ _ hu1), by omega, by omega, fun r2 H7 s8 h8 => ?_⟩
    obtain ⟨G6, s9, D10, hr2⟩ := D9.tup s8 h8
    have lb : (beside cr (iota (n - cr.length)) (decide (V.int g = V.int 1))).length = cr.length + (iota (n - cr.length)).length := beside_len _ _ _
    exact k G6 _ r2 _ _ (sAll.trans s9) D10 (by omega) hr2 (beside_row (Row.of pc) (Row.iota _) _) (by omega) (by omega)
  · refine ⟨_, rfl, _, rfl, u, t, false, iota (n - cr.length), cr, rfl, SqT.of (D8.same _ _ hu1), SqT.of (D8.same _ _ (s7 _ _ ht1)), by omega, by omega, fun r2 H7 s8 h8 => ?_⟩
    obtain ⟨G6, s9, D10, hr2⟩ := D8.tup s8 h8
    have lb : (beside (iota (n - cr.length)) cr false).length = (iota (n - cr.length)).length + cr.length := beside_len _ _ _
    exact k G6 _ r2 _ _ (sAll.trans s9) D10 (by omega) hr2 (beside_row (Row.iota _) (Row.of pc) _) (by omega) (by omega)
end
end K1

namespace K1
open PySem L2 Rf
abbrev sSame : Stmt := top 16
section
variable {P : Program} {w : World} {K : PySem.W.Frag} {mg : Str → Option Value} {base : Heap}
theorem scSame : FnScope ["_law_found", "_law_due", "_law_k"] ["_law_found", "_law_due"] (defScope sSame) := ⟨rfl, rfl, rfl, by decide +kernel, rfl, by decide +kernel, by decide +kernel⟩
theorem ok_same {n : Nat} {f : Addr} {fd : FuncData} (F : Fun K "_law_same" "_law_same" sSame f fd) (T : Txt mg) (F__law_same : Dfn P w K mg base "_law_same" n ["_law_found", "_law_due"] (spSame K n)) :
    FnOk P w K mg base CX0 (n + 1) f fd ["_law_found", "_law_due"] (spSame K (n + 1)) := by
  refine F.ok scSame (fun vs H Q E h => ?_) (fun cdv A outer s H vs Q E hr h => ?_)
  · obtain ⟨x, y, d, rfl, _⟩ := h
    rfl
  obtain ⟨x, y, d, rfl, dx, dy, hd, hsm, h60, k⟩ := h
  obtain ⟨hl, hn⟩ := small_lay d hsm
  have hu64 := hr.units
  refine ⟨_, (pss_cons (ps_if (pt_val (pe_callB (isiTK K) (by rfl) T.b_isinstance bt_isinstance (pa_cons (pv 1) (pa_cons (pe_tup (pa_cons (pe_bltn (v := .ty "list") rfl T.b_list bt_list rfl) (pa_cons (pe_bltn (v := .ty "tuple") rfl T.b_tuple bt_tuple rfl) pa_nil))) pa_nil)))) (pss_cons (ps_if (PW.pt (pw_or (pt_cmpR op_ne (pe_callB (isiK K) (by rfl) T.b_isinstance bt_isinstance (pa_cons (pv 0) (pa_cons (pe_bltn (v := .ty "list") rfl T.b_list bt_list rfl) pa_nil))) (pe_callB (isiK K) (by rfl) T.b_isinstance bt_isinstance (pa_cons (pv 1) (pa_cons (pe_bltn (v := .ty "list") rfl T.b_list bt_list rfl) pa_nil))) (nomark _)) (pw_or1 (pt_cmpR op_ne (pe_callB (isiK K) (by rfl) T.b_isinstance bt_isinstance (pa_cons (pv 0) (pa_cons (pe_bltn (v := .ty "tuple") rfl T.b_tuple bt_tuple rfl) pa_nil))) (pe_callB (isiK K) (by rfl) T.b_isinstance bt_isinstance (pa_cons (pv 1) (pa_cons (pe_bltn (v := .ty "tuple") rfl T.b_tuple bt_tuple rfl) pa_nil))) (nomark _))))) (pss_one (ps_ret pe_bl)) pss_nil)
    (pss_cons (ps_if (pt_cmpR op_ne (pe_callB (lenK K) (by rfl) T.b_len bt_len (pa_cons (pv 0) pa_nil)) (pe_callB (lenK K) (by rfl) T.b_len bt_len (pa_cons (pv 1) pa_nil)) (nomark _)) (pss_one (ps_ret pe_bl)) pss_nil)
    (pss_one (ps_ret (pe_cmpR (eqDK K hu64) (pe_lc (own := [("_law_k", 2)]) rfl scSame.nd (pi_range1 rfl T.b_range (pa_cons (pe_callB (lenK K) (by rfl) T.b_len bt_len (pa_cons (pv 1) pa_nil)) pa_nil)) (blkOk_by (N := ["_law_found", "_law_due", "_law_k"]) (sc := defScope sSame) (by decide +kernel)) (fun _ _ _ _ _ => (pg_name (i := 2) scSame.nd rfl (Or.inl rfl))) (fun _ _ _ _ _ => (pts_one (pt_not (pt_val (pe_call F__law_same.ok (hr.mono (by omega)) rfl F__law_same.mg F__law_same.kp F__law_same.bd .nil pass0 (pa_cons (pe_ix (ixSK K) (pv 0) (pv 2) (fun _ _ => rfl)) (pa_cons (pe_ix (ixSK K) (pv 1) (pv 2) (fun _ _ => rfl)) pa_nil))))))) (fun _ _ _ _ _ => (pv 2))) (pe_lst pa_nil) (nomark _)))))) pss_nil)
    (pss_cons (ps_if (pt_cmpR op_isN (pv 1) pe_non (nomark _)) (pss_one (ps_ret (pe_cmpR op_isN (pv 0) pe_non (nomark _)))) pss_nil)
    (pss_cons (ps_if (pt_val (pe_callB (isiK K) (by rfl) T.b_isinstance bt_isinstance (pa_cons (pv 1) (pa_cons (pe_bltn (v := .ty "str") rfl T.b_str bt_str rfl) pa_nil)))) (pss_one (ps_ret (pe_and (pe_callB (isiK K) (by rfl) T.b_isinstance bt_isinstance (pa_cons (pv 0) (pa_cons (pe_bltn (v := .ty "str") rfl T.b_str bt_str rfl) pa_nil))) (pe_one (pe_cmpR (eqDK K hu64) (pv 0) (pv 1) (nomark _)))))) pss_nil)
    (pss_one (ps_ret (pe_and (pe_callB (isiK K) (by rfl) T.b_isinstance bt_isinstance (pa_cons (pv 0) (pa_cons (pe_bltn (v := .ty "int") rfl T.b_int bt_int rfl) pa_nil))) (pe_and (pe_cmpR op_eq (pe_callB (isiK K) (by rfl) T.b_isinstance bt_isinstance (pa_cons (pv 0) (pa_cons (pe_bltn (v := .ty "bool") rfl T.b_bool bt_bool rfl) pa_nil))) (pe_callB (isiK K) (by rfl) T.b_isinstance bt_isinstance (pa_cons (pv 1) (pa_cons (pe_bltn (v := .ty "bool") rfl T.b_bool bt_bool rfl) pa_nil))) (nomark _)) (pe_one (pe_cmpR (eqDK K hu64) (pv 0) (pv 1) (nomark _)))))))))), ?_⟩
  refine ⟨_, rfl, by show 2 ≤ sizeLine; decide, fun tp htp => ?_⟩
  have s1 : Same H (upd H tp (.tup [.ty "list", .ty "tuple"])) := same_new htp
  have dx1 := Same.dp s1 dx
  have dy1 := Same.dp s1 dy
  refine ⟨y, tp, _, _, _, _, rfl, upd_same, .cons (.ty _) (.cons (.ty _) .nil), Dp.tyx dy1, kit_seq hn, _, rfl, ?_⟩
  have flat : ∀ {b : Bool} {e : PyData}, True := fun {_ _} => trivial
  cases dx1 with
  | non =>
    cases dy1
    refine iteF ?_
    refine ⟨_, rfl, rfl, _, rfl, ?_⟩
    refine iteT ?_
    exact ⟨_, rfl, rfl, k _ s1⟩
  | bl b =>
    cases dy1
    refine iteF ?_
    refine ⟨_, rfl, rfl, _, rfl, ?_⟩
    refine iteF ?_
    refine ⟨_, rfl, _, _, _, _, _, rfl, .ty _, .base (.bl b), kit_ty kit_bs, _, rfl, ?_⟩
    refine iteF ?_
    refine ⟨_, rfl, _, _, _, _, _, rfl, .ty _, .base (.bl b), kit_ty kit_bi, _, rfl, ?_⟩
    refine iteT ?_
    refine ⟨_, rfl, _, _, _, _, _, rfl, .ty _, .base (.bl b), kit_ty kit_bb, _, rfl, _, _, _, _, _, rfl, .ty _, .base (.bl b), kit_ty kit_bb, rfl, _, rfl, ?_⟩
    refine iteT ?_
    refine ⟨_, rfl, _, rfl, .bool b, .bool b, .bl b, .bl b, shp hl h60, shp hl h60, ?_⟩
    rw [eqv_bool]
    exact k _ s1
  | int i =>
    cases dy1
    refine iteF ?_
    refine ⟨_, rfl, rfl, _, rfl, ?_⟩
    refine iteF ?_
    refine ⟨_, rfl, _, _, _, _, _, rfl, .ty _, .base (.int i), kit_ty kit_is, _, rfl, ?_⟩
    refine iteF ?_
    refine ⟨_, rfl, _, _, _, _, _, rfl, .ty _, .base (.int i), kit_ty kit_ii, _, rfl, ?_⟩
    refine iteT ?_
    refine ⟨_, rfl, _, _, _, _, _, rfl, .ty _, .base (.int i), kit_ty kit_ib, _, rfl, _, _, _, _, _, rfl, .ty _, .base (.int i), kit_ty kit_ib, rfl, _, rfl, ?_⟩
    refine iteT ?_
    refine ⟨_, rfl, _, rfl, .int i, .int i, .int i, .int i, shp hl h60, shp hl h60, ?_⟩
    rw [eqv_int]
    exact k _ s1
  | str z =>
    cases dy1
    refine iteF ?_
    refine ⟨_, rfl, rfl, _, rfl, ?_⟩
    refine iteF ?_
    refine ⟨_, rfl, _, _, _, _, _, rfl, .ty _, .base (.str z), kit_ty kit_ss, _, rfl, ?_⟩
    refine iteT ?_
    refine ⟨_, rfl, _, _, _, _, _, rfl, .ty _, .base (.str z), kit_ty kit_ss, _, rfl, ?_⟩
    refine iteT ?_
    refine ⟨_, rfl, _, rfl, .str z, .str z, .str z, .str z, shp hl h60, shp hl h60, ?_⟩
    rw [eqv_str]
    exact k _ s1
  | lst h1 h2 =>
    rename_i a xs ds
    cases dy1 with
    | lst g1 g2 =>
      rename_i b ys
      refine iteT ?_
      refine ⟨_, rfl, _, _, _, _, _, rfl, .ty _, tyx_lst h1, kit_ty kit_ll, _, rfl, _, _, _, _, _, rfl, .ty _, tyx_lst g1, kit_ty kit_ll, rfl, _, rfl, ?_⟩
      refine iteF ?_
      refine ⟨_, rfl, _, _, _, _, _, rfl, .ty _, tyx_lst h1, kit_ty kit_lt, _, rfl, _, _, _, _, _, rfl, .ty _, tyx_lst g1, kit_ty kit_lt, rfl, _, rfl, ?_⟩
      refine iteF ?_
      refine ⟨_, rfl, a, _, rfl, .inl h1, _, rfl, b, _, rfl, .inl g1, rfl, _, rfl, ?_⟩
      have el : (V.int (xs.length : Nat)) = V.int (ys.length : Nat) := by rw [DpAll.len h2, DpAll.len g2]
      refine iteNS el ?_
      have q1 : Sq K (upd H tp (.tup [.ty "list", .ty "tuple"])) a xs := Or.inl h1
      have q2 : Sq K (upd H tp (.tup [.ty "list", .ty "tuple"])) b ys := Or.inl g1
      have hdd : PyData.depthAll ds < n := by simp only [PyData.depth] at hd; omega
      have h60' : PyData.depthAll ds ≤ 60 := by simp only [PyData.depth] at h60; omega
      have hsa : decide (ds.length ≤ 1000) = true ∧ smallAll ds = true := by simpa only [small, Bool.and_eq_true] using hsm
      have hdl : ds.length ≤ 1000 := of_decide_eq_true hsa.1
      have lx := DpAll.len h2
      have ly := DpAll.len g2
      have hz : ys.length ≤ sizeLine := by rw [ly]; exact sz _ hdl
      refine ⟨_, rfl, b, _, rfl, q2, _, rfl, by omega, by rw [sizeLine_eq] at hz; omega, fun D hD => ?_⟩
      refine lc_fmR (fun _ => false) id hD (by omega) (fun i hi H' hs => ?_) (fun i hi z => nomatch z) (fun H2 s2 h2' => ?_)
      · intro R hR
        have hi' : i < ds.length := by omega
        obtain ⟨v1, d1, a1, a2, a3⟩ := DpAll.at h2 hi'
        obtain ⟨v2, d2, b1, b2, b3⟩ := DpAll.at g2 hi'
        rw [a2] at b2
        cases b2
        have e0 : (0 + (i : Int)).toNat = i := by omega
        refine ⟨_, rfl, _, rfl, ?_⟩
        refine rIx_of (q1.same hs) (at_lst (by omega) (by rw [e0]; exact a1)) ?_
        refine ⟨_, rfl, _, rfl, ?_⟩
        refine rIx_of (q2.same hs) (at_lst (by omega) (by rw [e0]; exact b1)) ?_
        have dep := depthAll_at a2
        exact ⟨v1, v2, d1, rfl, Same.dp hs a3, Same.dp hs b3, by omega, small_at hsa.2 a2, by omega, fun H'' s'' => ⟨_, rfl, hR _ s''⟩⟩
      · rw [filter_none (fun _ _ => rfl)] at h2'
        refine ⟨Nat.zero_le _, fun e he => ?_⟩
        have s3 : Same H2 (upd H2 e (.lst [])) := same_new he
        refine ⟨.list [], .list [], .lst (SqL.of (s3 _ _ h2')) .nil, .lst (SqL.of upd_same) .nil, sh_nil, sh_nil, ?_⟩
        rw [eqv_nil]
        exact k _ (s1.trans (s2.trans s3))
  | tup h1 h2 =>
    rename_i a xs ds
    cases dy1 with
    | tup g1 g2 =>
      rename_i b ys
      refine iteT ?_
      refine ⟨_, rfl, _, _, _, _, _, rfl, .ty _, tyx_tup h1, kit_ty kit_tl, _, rfl, _, _, _, _, _, rfl, .ty _, tyx_tup g1, kit_ty kit_tl, rfl, _, rfl, ?_⟩
      refine iteF ?_
      refine ⟨_, rfl, _, _, _, _, _, rfl, .ty _, tyx_tup h1, kit_ty kit_tt, _, rfl, _, _, _, _, _, rfl, .ty _, tyx_tup g1, kit_ty kit_tt, rfl, _, rfl, ?_⟩
      refine iteF ?_
      refine ⟨_, rfl, a, _, rfl, .inr h1, _, rfl, b, _, rfl, .inr g1, rfl, _, rfl, ?_⟩
      have el : (V.int (xs.length : Nat)) = V.int (ys.length : Nat) := by rw [DpAll.len h2, DpAll.len g2]
      refine iteNS el ?_
      have q1 : Sq K (upd H tp (.tup [.ty "list", .ty "tuple"])) a xs := Or.inr h1
      have q2 : Sq K (upd H tp (.tup [.ty "list", .ty "tuple"])) b ys := Or.inr g1
      have hdd : PyData.depthAll ds < n := by simp only [PyData.depth] at hd; omega
      have h60' : PyData.depthAll ds ≤ 60 := by simp only [PyData.depth] at h60; omega
      have hsa : decide (ds.length ≤ 1000) = true ∧ smallAll ds = true := by simpa only [small, Bool.and_eq_true] using hsm
      have hdl : ds.length ≤ 1000 := of_decide_eq_true hsa.1
      have lx := DpAll.len h2
      have ly := DpAll.len g2
      have hz : ys.length ≤ sizeLine := by rw [ly]; exact sz _ hdl
      refine ⟨_, rfl, b, _, rfl, q2, _, rfl, by omega, by rw [sizeLine_eq] at hz; omega, fun D hD => ?_⟩
      refine lc_fmR (fun _ => false) id hD (by omega) (fun i hi H' hs => ?_) (fun i hi z => nomatch z) (fun H2 s2 h2' => ?_)
      · intro R hR
        have hi' : i < ds.length := by omega
        obtain ⟨v1, d1, a1, a2, a3⟩ := DpAll.at h2 hi'
        obtain ⟨v2, d2, b1, b2, b3⟩ := DpAll.at g2 hi'
        rw [a2] at b2
        cases b2
        have e0 : (0 + (i : Int)).toNat = i := by omega
        refine ⟨_, rfl, _, rfl, ?_⟩
        refine rIx_of (q1.same hs) (at_lst (by omega) (by rw [e0]; exact a1)) ?_
        refine ⟨_, rfl, _, rfl, ?_⟩
        refine rIx_of (q2.same hs) (at_lst (by omega) (by rw [e0]; exact b1)) ?_
        have dep := depthAll_at a2
        exact ⟨v1, v2, d1, rfl, Same.dp hs a3, Same.dp hs b3, by omega, small_at hsa.2 a2, by omega, fun H'' s'' => ⟨_, rfl, hR _ s''⟩⟩
      · rw [filter_none (fun _ _ => rfl)] at h2'
        refine ⟨Nat.zero_le _, fun e he => ?_⟩
        have s3 : Same H2 (upd H2 e (.lst [])) := same_new he
        refine ⟨.list [], .list [], .lst (SqL.of (s3 _ _ h2')) .nil, .lst (SqL.of upd_same) .nil, sh_nil, sh_nil, ?_⟩
        rw [eqv_nil]
        exact k _ (s1.trans (s2.trans s3))
theorem same_all {f : Addr} {fd : FuncData} (F : Fun K "_law_same" "_law_same" sSame f fd) (T : Txt mg) (hm : mg "_law_same" = some (.ref f)) (hb : Binds K fd ["_law_found", "_law_due"] []) :
    ∀ n : Nat, FnOk P w K mg base CX0 n f fd ["_law_found", "_law_due"] (spSame K n)
  | 0 => by
    refine ⟨fun vs H Q E h => ?_, fun A outer s H args us vs Q E _ _ _ _ h => ?_⟩
    · obtain ⟨x, y, d, rfl, _⟩ := h
      rfl
    · obtain ⟨x, y, d, _, _, _, hd, _⟩ := h
      exact absurd hd (Nat.not_lt_zero _)
  | n + 1 => ok_same F T ⟨f, fd, same_all F T hm hb n, hm, F.kp, hb⟩
end
end K1

namespace K1
open PySem L2 Rf
abbrev sBetween : Stmt := top 7
abbrev sIndex : Stmt := top 8
abbrev sIsRow : Stmt := top 10
abbrev sRowErr : Stmt := top 11
abbrev sWithin : Stmt := top 12
structure Gk (mg : Str → Option Value) : Prop where
  g_MAX_PLACES : ∃ t, mg "MAX_PLACES" = some (.int 12 t)
  g_MAX_COUNT : ∃ t, mg "MAX_COUNT" = some (.int 60 t)
  g_MAX_ENTRIES : ∃ t, mg "MAX_ENTRIES" = some (.int 20 t)
  g_MAX_LENGTH : ∃ t, mg "MAX_LENGTH" = some (.int 4 t)
  g_EDITS : ∃ t, mg "EDITS" = some (.int 60 t)
  g_BATCH : ∃ t, mg "BATCH" = some (.int 20 t)
section
variable {P : Program} {w : World} {K : PySem.W.Frag} {mg : Str → Option Value} {base : Heap}
/-- is_between(value, least, most) -/
def isBt (lo hi : Int) : PyData → Bool
  | .int i => decide (lo ≤ i) && decide (i ≤ hi)
  | _ => false
theorem isBt_ix (n : Int) (d : PyData) : isBt 0 (n - 1) d = isIx n d := by
  cases d <;> first
    | rfl
    | (rename_i i
       show (decide (0 ≤ i) && decide (i ≤ n - 1)) = (decide (0 ≤ i) && decide (i < n))
       rw [show decide (i ≤ n - 1) = decide (i < n) from decide_eq_decide.mpr (by omega)])
def spBetween (K : PySem.W.Frag) : Sp := fun vs H Q _ => ∃ (v : V) (d : PyData) (lo hi : Int), vs = [v, .int lo, .int hi] ∧ Dd K H v d ∧ Q (.bl (isBt lo hi d)) H
theorem scBetween : FnScope ["value", "least", "most"] ["value", "least", "most"] (defScope sBetween) := ⟨rfl, rfl, rfl, by decide +kernel, rfl, by decide +kernel, by decide +kernel⟩
theorem ok_between {f : Addr} {fd : FuncData} (F : Fun K "is_between" "is_between" sBetween f fd) (T : Txt mg) : FnOk P w K mg base CX0 1 f fd ["value", "least", "most"] (spBetween K) := by
  refine F.ok scBetween (fun vs H Q E h => ?_) (fun cdv A outer s H vs Q E hr h => ?_)
  · obtain ⟨v, d, lo, hi, rfl, _⟩ := h
    rfl
  obtain ⟨v, d, lo, hi, rfl, hd, k⟩ := h
  refine ⟨_, (pss_cons (ps_if (PW.pt (pw_or (pt_val (pe_callB (isiK K) (by rfl) T.b_isinstance bt_isinstance (pa_cons (pv 0) (pa_cons (pe_bltn (v := .ty "bool") rfl T.b_bool bt_bool rfl) pa_nil)))) (pw_or1 (pt_not (pt_val (pe_callB (isiK K) (by rfl) T.b_isinstance bt_isinstance (pa_cons (pv 0) (pa_cons (pe_bltn (v := .ty "int") rfl T.b_int bt_int rfl) pa_nil)))))))) (pss_one (ps_ret pe_bl)) pss_nil)
    (pss_one (ps_ret (pe_chain op_le op_le (pv 1) (pv 0) (pv 2))))), ?_⟩
  refine ⟨_, rfl, _, _, _, _, _, rfl, .ty _, Dd.tyx hd, kit_ty (kitD_b d), _, rfl, ?_⟩
  cases hd with
  | bl b =>
    refine iteT ?_
    refine iteT ?_
    exact k
  | int i =>
    refine iteF ?_
    refine ⟨_, rfl, _, _, _, _, _, rfl, .ty _, .base (.int i), kit_ty kit_ii, _, rfl, ?_⟩
    refine iteF ?_
    by_cases h0 : lo ≤ i
    · refine ⟨_, rfl, _, rfl, lo, i, rfl, rfl, _, rfl, ?_⟩
      rw [decide_eq_true h0]
      refine iteT ?_
      refine ⟨_, rfl, _, _, rfl, rfl, ?_⟩
      have e : isBt lo hi (.int i) = decide (i ≤ hi) := by show (decide (lo ≤ i) && decide (i ≤ hi)) = _; rw [decide_eq_true h0]; rfl
      rw [e] at k
      exact k
    · refine ⟨_, rfl, _, rfl, lo, i, rfl, rfl, _, rfl, ?_⟩
      rw [decide_eq_false h0]
      refine iteF ?_
      have e : isBt lo hi (.int i) = false := by show (decide (lo ≤ i) && decide (i ≤ hi)) = _; rw [decide_eq_false h0]; rfl
      rw [e] at k
      exact k
  | non =>
    refine iteF ?_
    refine ⟨_, rfl, _, _, _, _, _, rfl, .ty _, .base .non, kit_ty kit_ni, _, rfl, ?_⟩
    refine iteT ?_
    exact k
  | str x =>
    refine iteF ?_
    refine ⟨_, rfl, _, _, _, _, _, rfl, .ty _, .base (.str x), kit_ty kit_si, _, rfl, ?_⟩
    refine iteT ?_
    exact k
  | lst h1 h2 =>
    refine iteF ?_
    refine ⟨_, rfl, _, _, _, _, _, rfl, .ty _, tyx_lst h1, kit_ty kit_li, _, rfl, ?_⟩
    refine iteT ?_
    exact k
  | tup h1 h2 =>
    refine iteF ?_
    refine ⟨_, rfl, _, _, _, _, _, rfl, .ty _, tyx_tup h1, kit_ty kit_ti, _, rfl, ?_⟩
    refine iteT ?_
    exact k
  | emp h1 =>
    refine iteF ?_
    refine ⟨_, rfl, _, _, _, _, _, rfl, .ty _, .base (.dK h1), kit_ty kit_di, _, rfl, ?_⟩
    refine iteT ?_
    exact k
/-- is_index(value, limit) -/
def spIndex (K : PySem.W.Frag) : Sp := fun vs H Q _ => ∃ (v : V) (d : PyData) (n : Int), vs = [v, .int n] ∧ Dd K H v d ∧ Q (.bl (isIx n d)) H
theorem scIndex : FnScope ["value", "limit"] ["value", "limit"] (defScope sIndex) := ⟨rfl, rfl, rfl, by decide +kernel, rfl, by decide +kernel, by decide +kernel⟩
theorem ok_index {f : Addr} {fd : FuncData} (F : Fun K "is_index" "is_index" sIndex f fd) (T : Txt mg) (F_is_between : Dfn P w K mg base "is_between" 1 ["value", "least", "most"] (spBetween K)) : FnOk P w K mg base CX0 2 f fd ["value", "limit"] (spIndex K) := by
  refine F.ok scIndex (fun vs H Q E h => ?_) (fun cdv A outer s H vs Q E hr h => ?_)
  · obtain ⟨v, d, n, rfl, _⟩ := h
    rfl
  obtain ⟨v, d, n, rfl, hd, k⟩ := h
  rw [← isBt_ix] at k
  refine ⟨_, (pss_one (ps_ret (pe_call F_is_between.ok (hr.mono (by omega)) rfl F_is_between.mg F_is_between.kp F_is_between.bd .nil pass0 (pa_cons (pv 0) (pa_cons pe_int (pa_cons (pe_op op_sub (pv 1) pe_int) pa_nil)))))), ?_⟩
  refine ⟨_, rfl, _, rfl, n, 1, rfl, rfl, v, d, 0, n - 1, rfl, hd, ?_⟩
  exact k
/-- error_within(value): the first error -/
def spErr (K : PySem.W.Frag) : Sp := fun vs H Q _ => ∃ (v : V) (d : PyData), vs = [v] ∧ Dd K H v d ∧ ∀ (H' : Hp) (r : V), Same H H' → Dp K H' r (errOf d) → Q r H'
/-- error_within(value, most), with the limit of rows -/
def spWithin (K : PySem.W.Frag) : Sp := fun vs H Q _ => ∃ (v : V) (d : PyData), vs = [v, .int 12] ∧ Dd K H v d ∧ ∀ (H' : Hp) (r : V), Same H H' → Dp K H' r (errOf d) → Q r H'
theorem row_dp {K : PySem.W.Frag} {H : Hp} {p : Addr} {x : Str} (h : H p = some (.tup [.non, .str x])) : Dp K H (.ref p) (.tuple [.none, .str x]) := .tup (SqT.of h) (.cons .non (.cons (.str _) .nil))
theorem at_dp {K : PySem.W.Frag} {H : Hp} {p : Addr} {i : Int} {x : Str} (h : H p = some (.tup [.int i, .str x])) : Dp K H (.ref p) (.tuple [.int i, .str x]) := .tup (SqT.of h) (.cons (.int _) (.cons (.str _) .nil))
theorem scWithin : FnScope ["value", "most", "place", "item"] ["value", "most"] (defScope sWithin) := ⟨rfl, rfl, rfl, by decide +kernel, rfl, by decide +kernel, by decide +kernel⟩
theorem ok_within {f : Addr} {fd : FuncData} (F : Fun K "error_within" "error_within" sWithin f fd) (T : Txt mg) (F_is_index : Dfn P w K mg base "is_index" 2 ["value", "limit"] (spIndex K)) :
    FnOk P w K mg base CX0 3 f fd ["value", "most"] (spWithin K) := by
  refine F.ok scWithin (fun vs H Q E h => ?_) (fun cdv A outer s H vs Q E hr h => ?_)
  · obtain ⟨v, d, rfl, _⟩ := h
    rfl
  obtain ⟨v, d, rfl, hd, k⟩ := h
  refine ⟨_, (pss_cons (ps_if (PW.pt (pw_or (pt_not (pt_val (pe_callB (isiK K) (by rfl) T.b_isinstance bt_isinstance (pa_cons (pv 0) (pa_cons (pe_bltn (v := .ty "tuple") rfl T.b_tuple bt_tuple rfl) pa_nil))))) (pw_or1 (pt_not (pt_chain op_le op_le pe_int (pe_callB (lenK K) (by rfl) T.b_len bt_len (pa_cons (pv 0) pa_nil)) (pv 1)))))) (pss_one (ps_ret (pe_tup (pa_cons pe_non (pa_cons pe_str pa_nil))))) pss_nil)
    (pss_cons (ps_for PassesOwn.never rfl (pi_enumT rfl T.b_enumerate (pa_cons (pv 0) pa_nil)) (pg_tup rfl (pgs_cons (pg_name (i := 2) scWithin.nd rfl (Or.inl rfl)) (pgs_cons (pg_name (i := 3) scWithin.nd rfl (Or.inl rfl)) pgs_nil)))
      (pss_cons (ps_if (pt_not (pt_val (pe_call F_is_index.ok (hr.mono (by omega)) rfl F_is_index.mg F_is_index.kp F_is_index.bd .nil pass0 (pa_cons (pv 3) (pa_cons (pe_callB (lenK K) (by rfl) T.b_len bt_len (pa_cons (pv 0) pa_nil)) pa_nil))))) (pss_one (ps_ret (pe_tup (pa_cons (pv 2) (pa_cons pe_str pa_nil))))) pss_nil)
    (pss_one (ps_if (pt_cmpR (inK K) (pv 3) (pe_slice (slTK K) (pv 0) po_none (po_some (pv 2))) (by with_unfolding_all rfl)) (pss_one (ps_ret (pe_tup (pa_cons (pv 2) (pa_cons pe_str pa_nil))))) pss_nil))))
    (pss_one (ps_ret pe_non)))), ?_⟩
  refine ⟨_, rfl, _, _, _, _, _, rfl, .ty _, Dd.tyx hd, kit_ty (kitD_t d), _, rfl, ?_⟩
  have no : isT d = false → ∀ p : Addr, H p = none → Q (.ref p) (upd H p (.tup [.non, .str "row"])) := fun hn p hp => by
    have e : errOf d = .tuple [.none, .str "row"] := by cases d <;> first | rfl | cases hn
    refine k _ _ (same_new hp) ?_
    rw [e]
    exact row_dp upd_same
  cases hd with
  | @tup a xs ds h1 h2 =>
    refine iteF ?_
    have lx := DdAll.len h2
    have bad : ¬ (1 ≤ ds.length ∧ ds.length ≤ 12) → ∀ p : Addr, H p = none → Q (.ref p) (upd H p (.tup [.non, .str "row"])) := fun hn p hp => by
      refine k _ _ (same_new hp) ?_
      have e : errOf (.tuple ds) = .tuple [.none, .str "row"] := if_neg hn
      rw [e]
      exact row_dp upd_same
    by_cases g1 : 1 ≤ ds.length
    case neg =>
      refine ⟨_, rfl, a, xs, rfl, .inr h1, 1, _, rfl, rfl, _, rfl, ?_⟩
      rw [decide_eq_false (show ¬ (1 : Int) ≤ (xs.length : Nat) by omega)]
      refine iteF ?_
      refine ⟨_, rfl, ?_⟩
      refine iteT ?_
      exact ⟨by show 2 ≤ sizeLine; decide, fun p hp => bad (fun z => g1 z.1) p hp⟩
    by_cases g2 : ds.length ≤ 12
    case neg =>
      refine ⟨_, rfl, a, xs, rfl, .inr h1, 1, _, rfl, rfl, _, rfl, ?_⟩
      rw [decide_eq_true (show (1 : Int) ≤ (xs.length : Nat) by omega)]
      refine iteT ?_
      refine ⟨_, rfl, _, _, rfl, rfl, _, rfl, ?_⟩
      rw [decide_eq_false (show ¬ ((xs.length : Nat) : Int) ≤ 12 by omega)]
      refine iteT ?_
      exact ⟨by show 2 ≤ sizeLine; decide, fun p hp => bad (fun z => g2 z.2) p hp⟩
    refine ⟨_, rfl, a, xs, rfl, .inr h1, 1, _, rfl, rfl, _, rfl, ?_⟩
    rw [decide_eq_true (show (1 : Int) ≤ (xs.length : Nat) by omega)]
    refine iteT ?_
    refine ⟨_, rfl, _, _, rfl, rfl, _, rfl, ?_⟩
    rw [decide_eq_true (show ((xs.length : Nat) : Int) ≤ 12 by omega)]
    refine iteF ?_
    have eo : errOf (.tuple ds) = errGo ds ds.length 0 := if_pos ⟨g1, g2⟩
    rw [eo] at k
    refine ⟨_, rfl, a, xs, rfl, h1, ?_⟩
    refine for_enumT (K := K) (a := a) (xs := xs) (fun i σ H' => ∃ v1 v2 : Option V, σ = [some (.ref a), some (.int 12), v1, v2] ∧ Same H H' ∧ (∀ j, j < i → errAt ds j = none) ∧ errGo ds ds.length 0 = errGo ds (ds.length - i) i)
      ⟨none, none, rfl, Same.refl _, fun j hj => absurd hj (Nat.not_lt_zero _), rfl⟩ (fun i σ H' hi z => ?_) (fun i x σ H1 tp hx z htp => ?_) (fun σ H1 z => ?_)
    · obtain ⟨v1, v2, rfl, s1, _⟩ := z
      exact Same.tup s1 h1
    · obtain ⟨v1, v2, rfl, s1, hj, he⟩ := z
      have hi : i < ds.length := by rw [← lx]; exact (List.getElem?_eq_some_iff.mp hx).1
      obtain ⟨v, d, a1, a2, a3⟩ := DdAll.at h2 hi
      rw [hx] at a1
      cases a1
      have s2 : Same H1 (upd H1 tp (.tup [.int (i : Nat), x])) := same_new htp
      have s12 := s1.trans s2
      have edi : ds.getD i .none = d := by rw [List.getD_eq_getElem?_getD, a2]; rfl
      refine ⟨tp, _, rfl, SqT.of upd_same, rfl, _, _, rfl, _, _, rfl, rfl, ?_⟩
      refine ⟨_, rfl, _, rfl, a, xs, rfl, .inr (Same.tup s12 h1), x, d, _, rfl, Same.dd s12 a3, _, rfl, ?_⟩
      rw [lx]
      cases hix : isIx (ds.length : Nat) d with
      | false =>
        refine iteT ?_
        refine ⟨_, rfl, by show 2 ≤ sizeLine; decide, fun p hp => ?_⟩
        have ea : errAt ds i = some "number" := by unfold errAt; rw [edi]; exact if_pos hix
        rw [he, errGo_hit hi ea] at k
        exact k _ _ (s12.trans (same_new hp)) (at_dp upd_same)
      | true =>
        refine iteF ?_
        cases a3 with
        | int z =>
          refine ⟨_, rfl, _, rfl, _, rfl, _, rfl, slA_of (Same.tup s12 h1) fun p H3 s3 h3 => ?_⟩
          rw [cut_to _ _ (by omega), Int.toNat_natCast] at h3
          obtain ⟨fl, hin⟩ := ints_of ((Same.ddAll (s12.trans s3) h2).take i) (take_ix hj)
          refine ⟨p, _, rfl, .inr h3, rfl, fl, _, rfl, ?_⟩
          show (if inV (.int z) (xs.take i) = true then _ else _)
          rw [hin z]
          have s13 := s12.trans s3
          cases hany : (ds.take i).any (eqI z) with
          | true =>
            refine iteT ?_
            refine ⟨_, rfl, by show 2 ≤ sizeLine; decide, fun p2 hp2 => ?_⟩
            have ea : errAt ds i = some "twice" := by
              unfold errAt
              rw [edi, if_neg (by rw [hix]; exact Bool.noConfusion)]
              exact if_pos hany
            rw [he, errGo_hit hi ea] at k
            exact k _ _ (s13.trans (same_new hp2)) (at_dp upd_same)
          | false =>
            refine iteF ?_
            have ea : errAt ds i = none := by
              unfold errAt
              rw [edi, if_neg (by rw [hix]; exact Bool.noConfusion)]
              exact if_neg (by show ¬ (ds.take i).any (eqI z) = true; rw [hany]; exact Bool.noConfusion)
            refine ⟨_, _, rfl, s13, fun j hj2 => ?_, by rw [he, errGo_step hi ea]⟩
            by_cases ej : j = i
            · rw [ej]; exact ea
            · exact hj j (by omega)
        | _ => exact absurd hix (by simp [isIx])
    · obtain ⟨v1, v2, rfl, s1, hj, he⟩ := z
      rw [lx] at he
      rw [Nat.sub_self] at he
      rw [he] at k
      exact k _ _ s1 .non
  | _ =>
    refine iteT ?_
    refine iteT ?_
    exact ⟨by show 2 ≤ sizeLine; decide, fun p hp => no rfl p hp⟩
theorem scRowErr : FnScope ["value"] ["value"] (defScope sRowErr) := ⟨rfl, rfl, rfl, by decide +kernel, rfl, by decide +kernel, by decide +kernel⟩
theorem ok_rowErr {f : Addr} {fd : FuncData} (F : Fun K "row_error" "row_error" sRowErr f fd) (T : Txt mg) (GK : Gk mg) (F_error_within : Dfn P w K mg base "error_within" 3 ["value", "most"] (spWithin K)) :
    FnOk P w K mg base CX0 4 f fd ["value"] (spErr K) := by
  refine F.ok scRowErr (fun vs H Q E h => ?_) (fun cdv A outer s H vs Q E hr h => ?_)
  · obtain ⟨v, d, rfl, _⟩ := h
    rfl
  obtain ⟨v, d, rfl, hd, k⟩ := h
  obtain ⟨tk, g_MAX_PLACES⟩ := GK.g_MAX_PLACES
  refine ⟨_, (pss_one (ps_ret (pe_call F_error_within.ok (hr.mono (by omega)) rfl F_error_within.mg F_error_within.kp F_error_within.bd .nil pass0 (pa_cons (pv 0) (pa_cons (pe_glob (v := .int 12) rfl g_MAX_PLACES ⟨_, rfl⟩) pa_nil))))), ?_⟩
  exact ⟨_, rfl, v, d, rfl, hd, k⟩
/-- is_row(value) -/
def spIsRow (K : PySem.W.Frag) : Sp := fun vs H Q _ => ∃ (v : V) (d : PyData), vs = [v] ∧ Dd K H v d ∧ ∀ (H' : Hp), Same H H' → Q (.bl (isNone (errOf d))) H'
theorem scIsRow : FnScope ["value"] ["value"] (defScope sIsRow) := ⟨rfl, rfl, rfl, by decide +kernel, rfl, by decide +kernel, by decide +kernel⟩
theorem ok_isRow {f : Addr} {fd : FuncData} (F : Fun K "is_row" "is_row" sIsRow f fd) (T : Txt mg) (F_row_error : Dfn P w K mg base "row_error" 4 ["value"] (spErr K)) :
    FnOk P w K mg base CX0 5 f fd ["value"] (spIsRow K) := by
  refine F.ok scIsRow (fun vs H Q E h => ?_) (fun cdv A outer s H vs Q E hr h => ?_)
  · obtain ⟨v, d, rfl, _⟩ := h
    rfl
  obtain ⟨v, d, rfl, hd, k⟩ := h
  refine ⟨_, (pss_one (ps_ret (pe_cmpR op_isN (pe_call F_row_error.ok (hr.mono (by omega)) rfl F_row_error.mg F_row_error.kp F_row_error.bd .nil pass0 (pa_cons (pv 0) pa_nil)) pe_non (nomark _)))), ?_⟩
  refine ⟨_, rfl, v, d, rfl, hd, fun H' r s1 hr => ?_⟩
  refine ⟨rfl, ?_⟩
  rw [Er.non (errOf_er d) hr]
  exact k _ s1
end
end K1

namespace K1
open PySem L2 Rf
abbrev sInteger : Stmt := top 21
abbrev sError : Stmt := top 22
abbrev sOdd : Stmt := top 20
section
variable {P : Program} {w : World} {K : PySem.W.Frag} {mg : Str → Option Value} {base : Heap}
/-- integer(value, 0, n - 1) -/
def spInteger (K : PySem.W.Frag) : Sp := fun vs H Q _ => ∃ (v : V) (d : PyData) (n : Int), vs = [v, .int 0, .int (n - 1)] ∧ Dd K H v d ∧ Q (.bl (isIx n d)) H
theorem scInteger : FnScope ["_law_value", "_law_low", "_law_high"] ["_law_value", "_law_low", "_law_high"] (defScope sInteger) := ⟨rfl, rfl, rfl, by decide +kernel, rfl, by decide +kernel, by decide +kernel⟩
theorem ok_integer {f : Addr} {fd : FuncData} (F : Fun K "_law_integer" "_law_integer" sInteger f fd) (T : Txt mg) : FnOk P w K mg base CX0 1 f fd ["_law_value", "_law_low", "_law_high"] (spInteger K) := by
  refine F.ok scInteger (fun vs H Q E h => ?_) (fun cdv A outer s H vs Q E hr h => ?_)
  · obtain ⟨v, d, n, rfl, _⟩ := h
    rfl
  obtain ⟨v, d, n, rfl, hd, k⟩ := h
  refine ⟨_, (pss_one (ps_ret (pe_and (pe_callB (isiK K) (by rfl) T.b_isinstance bt_isinstance (pa_cons (pv 0) (pa_cons (pe_bltn (v := .ty "int") rfl T.b_int bt_int rfl) pa_nil))) (pe_and (pe_not (pe_callB (isiK K) (by rfl) T.b_isinstance bt_isinstance (pa_cons (pv 0) (pa_cons (pe_bltn (v := .ty "bool") rfl T.b_bool bt_bool rfl) pa_nil)))) (pe_one (pe_chain op_le op_le (pv 1) (pv 0) (pv 2))))))), ?_⟩
  refine ⟨_, rfl, _, _, _, _, _, rfl, .ty _, Dd.tyx hd, kit_ty (kitD_i d), _, rfl, ?_⟩
  cases hd with
  | bl b =>
    refine iteT ?_
    refine ⟨_, rfl, _, _, _, _, _, rfl, .ty _, .base (.bl b), kit_ty kit_bb, _, rfl, _, rfl, ?_⟩
    refine iteF ?_
    exact k
  | int i =>
    refine iteT ?_
    refine ⟨_, rfl, _, _, _, _, _, rfl, .ty _, .base (.int i), kit_ty kit_ib, _, rfl, _, rfl, ?_⟩
    refine iteT ?_
    by_cases h0 : 0 ≤ i
    · refine ⟨_, rfl, _, rfl, 0, i, rfl, rfl, _, rfl, ?_⟩
      rw [decide_eq_true h0]
      refine iteT ?_
      refine ⟨_, rfl, _, _, rfl, rfl, ?_⟩
      have e : isIx n (.int i) = decide (i ≤ n - 1) := by
        show (decide (0 ≤ i) && decide (i < n)) = _
        rw [decide_eq_true h0, Bool.true_and]
        exact decide_eq_decide.mpr ⟨fun z => by omega, fun z => by omega⟩
      rw [e] at k
      exact k
    · refine ⟨_, rfl, _, rfl, 0, i, rfl, rfl, _, rfl, ?_⟩
      rw [decide_eq_false h0]
      refine iteF ?_
      have e : isIx n (.int i) = false := by show (decide (0 ≤ i) && decide (i < n)) = _; rw [decide_eq_false h0]; rfl
      rw [e] at k
      exact k
  | _ =>
    refine iteF ?_
    exact k
/-- error(value): the same -/
def getV (xs : List V) : V → V
  | .int i => xs.getD i.toNat .non
  | v => v
theorem get_take {xs : List V} {n : Nat} (h : n ≤ xs.length) : (rng 0 n).map (getV xs) = xs.take n := by
  apply List.ext_getElem?
  intro i
  by_cases hi : i < n
  · rw [List.getElem?_map, rng_at hi, List.getElem?_take_of_lt hi]
    show some (xs.getD (0 + (i : Int)).toNat .non) = _
    have e : (0 + (i : Int)).toNat = i := by omega
    rw [e, List.getD_eq_getElem?_getD, List.getElem?_eq_getElem (by omega)]
    rfl
  · rw [List.getElem?_eq_none_iff.mpr (by rw [List.length_map, rng_len]; omega), List.getElem?_eq_none_iff.mpr (by rw [List.length_take]; omega)]
theorem scError : FnScope ["_law_value", "_law_place", "_law_k"] ["_law_value"] (defScope sError) := ⟨rfl, rfl, rfl, by decide +kernel, rfl, by decide +kernel, by decide +kernel⟩
theorem ok_error {f : Addr} {fd : FuncData} (F : Fun K "_law_error" "_law_error" sError f fd) (T : Txt mg) (F__law_integer : Dfn P w K mg base "_law_integer" 1 ["_law_value", "_law_low", "_law_high"] (spInteger K)) :
    FnOk P w K mg base CX0 2 f fd ["_law_value"] (spErr K) := by
  refine F.ok scError (fun vs H Q E h => ?_) (fun cdv A outer s H vs Q E hr h => ?_)
  · obtain ⟨v, d, rfl, _⟩ := h
    rfl
  obtain ⟨v, d, rfl, hd, k⟩ := h
  refine ⟨_, (pss_cons (ps_if (PW.pt (pw_or (pt_not (pt_val (pe_callB (isiK K) (by rfl) T.b_isinstance bt_isinstance (pa_cons (pv 0) (pa_cons (pe_bltn (v := .ty "tuple") rfl T.b_tuple bt_tuple rfl) pa_nil))))) (pw_or1 (pt_not (pt_chain op_le op_le pe_int (pe_callB (lenK K) (by rfl) T.b_len bt_len (pa_cons (pv 0) pa_nil)) pe_int))))) (pss_one (ps_ret (pe_tup (pa_cons pe_non (pa_cons pe_str pa_nil))))) pss_nil)
    (pss_cons (ps_for PassesOwn.never rfl (pi_range1 rfl T.b_range (pa_cons (pe_callB (lenK K) (by rfl) T.b_len bt_len (pa_cons (pv 0) pa_nil)) pa_nil)) (pg_name (i := 1) scError.nd rfl (Or.inl rfl))
      (pss_cons (ps_if (pt_not (pt_val (pe_call F__law_integer.ok (hr.mono (by omega)) rfl F__law_integer.mg F__law_integer.kp F__law_integer.bd .nil pass0 (pa_cons (pe_ix (ixTK K) (pv 0) (pv 1) (fun _ _ => rfl)) (pa_cons pe_int (pa_cons (pe_op op_sub (pe_callB (lenK K) (by rfl) T.b_len bt_len (pa_cons (pv 0) pa_nil)) pe_int) pa_nil)))))) (pss_one (ps_ret (pe_tup (pa_cons (pv 1) (pa_cons pe_str pa_nil))))) pss_nil)
    (pss_one (ps_if (pt_cmpR (inK K) (pe_ix (ixTK K) (pv 0) (pv 1) (fun _ _ => rfl)) (pe_lc (own := [("_law_k", 2)]) rfl scError.nd (pi_range1 rfl T.b_range (pa_cons (pv 1) pa_nil)) (blkOk_by (N := ["_law_value", "_law_place", "_law_k"]) (sc := defScope sError) (by decide +kernel)) (fun _ _ _ _ _ => (pg_name (i := 2) scError.nd rfl (Or.inl rfl))) (fun _ _ _ _ _ => pts_nil) (fun _ _ _ _ _ => (pe_ix (ixTK K) (pv 0) (pv 2) (fun _ _ => rfl)))) (by with_unfolding_all rfl)) (pss_one (ps_ret (pe_tup (pa_cons (pv 1) (pa_cons pe_str pa_nil))))) pss_nil))))
    (pss_one (ps_ret pe_non)))), ?_⟩
  refine ⟨_, rfl, _, _, _, _, _, rfl, .ty _, Dd.tyx hd, kit_ty (kitD_t d), _, rfl, ?_⟩
  have no : isT d = false → ∀ p : Addr, H p = none → Q (.ref p) (upd H p (.tup [.non, .str "row"])) := fun hn p hp => by
    have e : errOf d = .tuple [.none, .str "row"] := by cases d <;> first | rfl | cases hn
    refine k _ _ (same_new hp) ?_
    rw [e]
    exact row_dp upd_same
  cases hd with
  | @tup a xs ds h1 h2 =>
    refine iteF ?_
    have lx := DdAll.len h2
    have bad : ¬ (1 ≤ ds.length ∧ ds.length ≤ 12) → ∀ p : Addr, H p = none → Q (.ref p) (upd H p (.tup [.non, .str "row"])) := fun hn p hp => by
      refine k _ _ (same_new hp) ?_
      have e : errOf (.tuple ds) = .tuple [.none, .str "row"] := if_neg hn
      rw [e]
      exact row_dp upd_same
    by_cases g1 : 1 ≤ ds.length
    case neg =>
      refine ⟨_, rfl, a, xs, rfl, .inr h1, 1, _, rfl, rfl, _, rfl, ?_⟩
      rw [decide_eq_false (show ¬ (1 : Int) ≤ (xs.length : Nat) by omega)]
      refine iteF ?_
      refine ⟨_, rfl, ?_⟩
      refine iteT ?_
      exact ⟨by show 2 ≤ sizeLine; decide, fun p hp => bad (fun z => g1 z.1) p hp⟩
    by_cases g2 : ds.length ≤ 12
    case neg =>
      refine ⟨_, rfl, a, xs, rfl, .inr h1, 1, _, rfl, rfl, _, rfl, ?_⟩
      rw [decide_eq_true (show (1 : Int) ≤ (xs.length : Nat) by omega)]
      refine iteT ?_
      refine ⟨_, _, rfl, rfl, _, rfl, ?_⟩
      rw [decide_eq_false (show ¬ ((xs.length : Nat) : Int) ≤ 12 by omega)]
      refine iteT ?_
      exact ⟨by show 2 ≤ sizeLine; decide, fun p hp => bad (fun z => g2 z.2) p hp⟩
    refine ⟨_, rfl, a, xs, rfl, .inr h1, 1, _, rfl, rfl, _, rfl, ?_⟩
    rw [decide_eq_true (show (1 : Int) ≤ (xs.length : Nat) by omega)]
    refine iteT ?_
    refine ⟨_, _, rfl, rfl, _, rfl, ?_⟩
    rw [decide_eq_true (show ((xs.length : Nat) : Int) ≤ 12 by omega)]
    refine iteF ?_
    have eo : errOf (.tuple ds) = errGo ds ds.length 0 := if_pos ⟨g1, g2⟩
    rw [eo] at k
    refine ⟨_, rfl, a, xs, rfl, .inr h1, _, rfl, by omega, by omega, ?_⟩
    refine for_range (lo := 0) (n := ((xs.length : Nat) : Int).toNat) (fun i σ H' => ∃ v1 v2 : Option V, σ = [some (.ref a), v1, v2] ∧ Same H H' ∧ (∀ j, j < i → errAt ds j = none) ∧ errGo ds ds.length 0 = errGo ds (ds.length - i) i)
      ⟨none, none, rfl, Same.refl _, fun j hj => absurd hj (Nat.not_lt_zero _), rfl⟩ ?_ ?_
    · rintro i σ H1 hi0 ⟨v1, v2, rfl, s1, hj, he⟩
      have hi : i < ds.length := by omega
      have e0 : (0 + (i : Int)).toNat = i := by omega
      obtain ⟨x, d, a1, a2, a3⟩ := DdAll.at h2 hi
      have edi : ds.getD i .none = d := by rw [List.getD_eq_getElem?_getD, a2]; rfl
      have ixx : atI xs (0 + (i : Int)) = some x := at_lst (by omega) (by rw [e0]; exact a1)
      refine ⟨_, rfl, _, rfl, a, xs, _, x, rfl, rfl, Same.tup s1 h1, ixx, _, rfl, a, xs, rfl, .inr (Same.tup s1 h1), ?_⟩
      refine ⟨_, _, rfl, rfl, x, d, _, rfl, Same.dd s1 a3, _, rfl, ?_⟩
      rw [lx]
      cases hix : isIx (ds.length : Nat) d with
      | false =>
        refine iteT ?_
        refine ⟨_, rfl, by show 2 ≤ sizeLine; decide, fun p hp => ?_⟩
        have ea : errAt ds i = some "number" := by unfold errAt; rw [edi]; exact if_pos hix
        rw [he, errGo_hit hi ea] at k
        refine k _ _ (s1.trans (same_new hp)) (at_dp ?_)
        rw [upd_same, Int.zero_add]
      | true =>
        refine iteF ?_
        cases a3 with
        | int z =>
          refine ⟨_, rfl, _, rfl, a, xs, _, _, rfl, rfl, Same.tup s1 h1, ixx, _, rfl, _, rfl, by omega, by omega, fun L hL => ?_⟩
          rw [Int.zero_add, Int.toNat_natCast]
          refine lc_fmR (fun _ => true) (getV xs) hL (sz _ (by omega)) (fun j hj H' hs => tst_yes) (fun j hj _ H' hs => ?_) (fun H3 s3 h3 => ?_)
          · intro R hR
            have ej : (0 + (j : Int)).toNat = j := by omega
            refine ⟨_, rfl, _, rfl, a, xs, _, getV xs (.int (0 + (j : Int))), rfl, rfl, Same.tup (s1.trans hs) h1, at_lst (by omega) ?_, hR _ (Same.refl _)⟩
            rw [ej]
            show xs[j]? = some (xs.getD (0 + (j : Int)).toNat .non)
            rw [ej, List.getD_eq_getElem?_getD, List.getElem?_eq_getElem (by omega)]
            rfl
          rw [all_fm, get_take (by omega)] at h3
          have s13 := s1.trans s3
          obtain ⟨fl, hin⟩ := ints_of ((Same.ddAll s13 h2).take i) (take_ix hj)
          refine ⟨L, _, rfl, .inl (SqL.of h3), rfl, fl, _, rfl, ?_⟩
          show (if inV (.int z) (xs.take i) = true then _ else _)
          rw [hin z]
          cases hany : (ds.take i).any (eqI z) with
          | true =>
            refine iteT ?_
            refine ⟨_, rfl, by show 2 ≤ sizeLine; decide, fun p2 hp2 => ?_⟩
            have ea : errAt ds i = some "twice" := by
              unfold errAt
              rw [edi, if_neg (by rw [hix]; exact Bool.noConfusion)]
              exact if_pos hany
            rw [he, errGo_hit hi ea] at k
            exact k _ _ (s13.trans (same_new hp2)) (at_dp upd_same)
          | false =>
            refine iteF ?_
            have ea : errAt ds i = none := by
              unfold errAt
              rw [edi, if_neg (by rw [hix]; exact Bool.noConfusion)]
              exact if_neg (by show ¬ (ds.take i).any (eqI z) = true; rw [hany]; exact Bool.noConfusion)
            refine ⟨_, _, rfl, s13, fun j hj2 => ?_, by rw [he, errGo_step hi ea]⟩
            by_cases ej : j = i
            · rw [ej]; exact ea
            · exact hj j (by omega)
        | _ => exact absurd hix (by simp [isIx])
    · rintro σ H1 ⟨v1, v2, rfl, s1, hj, he⟩
      rw [Int.toNat_natCast, lx] at he
      rw [Nat.sub_self] at he
      rw [he] at k
      exact k _ _ s1 .non
  | _ =>
    refine iteT ?_
    refine iteT ?_
    exact ⟨by show 2 ≤ sizeLine; decide, fun p hp => no rfl p hp⟩
/-- odd(deck): one of the odd values -/
def spOdd (K : PySem.W.Frag) : Sp := fun vs H Q _ => ∃ (G : Hp) (a : Addr) (c : Int), vs = [.ref a] ∧ Deck G H a c ∧ c < 900000 ∧
  ∀ (G' H' : Hp) (v : V) (d : PyData), Same G G' → Deck G' H' a (c + 1) → Dd K G' v d → Item d → Q v H'
theorem scOdd : FnScope ["_law_deck_here", "_law_some"] ["_law_deck_here"] (defScope sOdd) := ⟨rfl, rfl, rfl, by decide +kernel, rfl, by decide +kernel, by decide +kernel⟩
theorem ok_odd {f : Addr} {fd : FuncData} (F : Fun K "_law_odd" "_law_odd" sOdd f fd) (T : Txt mg) (F__law_next : Dfn P w K mg base "_law_next" 1 ["_law_deck_here", "_law_many"] spNext) :
    FnOk P w K mg base CX0 2 f fd ["_law_deck_here"] (spOdd K) := by
  refine F.ok scOdd (fun vs H Q E h => ?_) (fun cdv A outer s H vs Q E hr h => ?_)
  · obtain ⟨G, a, c, rfl, _⟩ := h
    rfl
  obtain ⟨G, a, c, rfl, D, hc, k⟩ := h
  refine ⟨_, (pss_cons (ps_set (i := 1) scOdd.nd rfl (Or.inl rfl) (pe_lst (pa_cons pe_non (pa_cons pe_bl (pa_cons pe_bl (pa_cons (pe_un un_neg pe_int) (pa_cons pe_int (pa_cons pe_int (pa_cons pe_int (pa_cons (pe_op op_pow pe_int pe_int) (pa_cons pe_str (pa_cons pe_str (pa_cons pe_str (pa_cons (pe_tup pa_nil) (pa_cons (pe_lst pa_nil) (pa_cons pe_dnewK (pa_cons (pe_tup (pa_cons pe_int pa_nil)) (pa_cons (pe_lst (pa_cons pe_int pa_nil)) (pa_cons (pe_tup (pa_cons (pe_lst (pa_cons pe_int pa_nil)) pa_nil)) (pa_cons (pe_tup (pa_cons pe_dnewK pa_nil)) (pa_cons (pe_tup (pa_cons pe_bl pa_nil)) (pa_cons pe_str pa_nil))))))))))))))))))))))
    (pss_one (ps_ret (pe_ix (ixLK K) (pv 1) (pe_call F__law_next.ok (hr.mono (by omega)) rfl F__law_next.mg F__law_next.kp F__law_next.bd .nil pass0 (pa_cons (pv 0) (pa_cons pe_int pa_nil))) (fun _ _ => rfl))))), ?_⟩
  refine ⟨_, rfl, 10, 29, rfl, rfl, ⟨by decide, by decide, by decide⟩, ?_⟩
  refine ⟨by show 0 ≤ sizeLine; decide, fun p1 e1 => ?_⟩
  obtain ⟨G1, t1, D1, k1, _⟩ := D.add (.tup []) e1
  refine ⟨by show 0 ≤ sizeLine; decide, fun p2 e2 => ?_⟩
  obtain ⟨G2, t2, D2, k2, _⟩ := D1.add (.lst []) e2
  refine fun p3 e3 => ?_
  obtain ⟨G3, t3, D3, k3, _⟩ := D2.add (.dK []) e3
  refine ⟨by show 1 ≤ sizeLine; decide, fun p4 e4 => ?_⟩
  obtain ⟨G4, t4, D4, k4, _⟩ := D3.add (.tup [.int 0]) e4
  refine ⟨by show 1 ≤ sizeLine; decide, fun p5 e5 => ?_⟩
  obtain ⟨G5, t5, D5, k5, _⟩ := D4.add (.lst [.int 0]) e5
  refine ⟨by show 1 ≤ sizeLine; decide, fun p6 e6 => ?_⟩
  obtain ⟨G6, t6, D6, k6, _⟩ := D5.add (.lst [.int 0]) e6
  refine ⟨by show 1 ≤ sizeLine; decide, fun p7 e7 => ?_⟩
  obtain ⟨G7, t7, D7, k7, _⟩ := D6.add (.tup [.ref p6]) e7
  refine fun p8 e8 => ?_
  obtain ⟨G8, t8, D8, k8, _⟩ := D7.add (.dK []) e8
  refine ⟨by show 1 ≤ sizeLine; decide, fun p9 e9 => ?_⟩
  obtain ⟨G9, t9, D9, k9, _⟩ := D8.add (.tup [.ref p8]) e9
  refine ⟨by show 1 ≤ sizeLine; decide, fun p10 e10 => ?_⟩
  obtain ⟨G10, t10, D10, k10, _⟩ := D9.add (.tup [.bl true]) e10
  refine ⟨by show 20 ≤ sizeLine; decide, fun p11 e11 => ?_⟩
  obtain ⟨G11, t11, D11, k11, _⟩ := D10.add (.lst [.non, .bl true, .bl false, .int (-1), .int 0, .int 1, .int 12, .int (10 ^ 29), .str "", .str "0", .str ".", .ref p1, .ref p2, .ref p3, .ref p4, .ref p5, .ref p7, .ref p9, .ref p10, .str "+"]) e11
  have u10 := t11
  have u9 := t10.trans u10
  have u8 := t9.trans u9
  have u7 := t8.trans u8
  have u6 := t7.trans u7
  have u5 := t6.trans u6
  have u4 := t5.trans u5
  have u3 := t4.trans u4
  have u2 := t3.trans u3
  have u1 := t2.trans u2
  have all : DdAll K G11 [.non, .bl true, .bl false, .int (-1), .int 0, .int 1, .int 12, .int (10 ^ 29), .str "", .str "0", .str ".", .ref p1, .ref p2, .ref p3, .ref p4, .ref p5, .ref p7, .ref p9, .ref p10, .str "+"] oddD :=
    (.cons (.non) (.cons (.bl _) (.cons (.bl _) (.cons (.int _) (.cons (.int _) (.cons (.int _) (.cons (.int _) (.cons (.int _) (.cons (.str _) (.cons (.str _) (.cons (.str _) (.cons (.tup (SqT.of (u1 _ _ k1)) .nil) (.cons (.lst (SqL.of (u2 _ _ k2)) .nil) (.cons (.emp (u3 _ _ k3)) (.cons (.tup (SqT.of (u4 _ _ k4)) (.cons (.int _) .nil)) (.cons (.lst (SqL.of (u5 _ _ k5)) (.cons (.int _) .nil)) (.cons (.tup (SqT.of (u7 _ _ k7)) (.cons (.lst (SqL.of (u6 _ _ k6)) (.cons (.int _) .nil)) .nil)) (.cons (.tup (SqT.of (u9 _ _ k9)) (.cons (.emp (u8 _ _ k8)) .nil)) (.cons (.tup (SqT.of (u10 _ _ k10)) (.cons (.bl _) .nil)) (.cons (.str _) .nil))))))))))))))))))))
  refine ⟨_, rfl, _, rfl, G11, a, c, 20, rfl, D11, by omega, by decide, by decide, fun H12 j D12 j0 j1 => ?_⟩
  have hj : j.toNat < oddD.length := by show j.toNat < 20; omega
  obtain ⟨v, d, q1, q2, q3⟩ := DdAll.at all hj
  exact ⟨p11, _, j, v, rfl, rfl, SqL.of (D12.same _ _ k11), at_lst j0 q1, k G11 H12 v d (t1.trans u1) D12 q3 (odd_items d (List.mem_of_getElem? q2))⟩
end
end K1

namespace K1
open PySem L2 Rf
abbrev sChanged : Stmt := top 23
abbrev sAgain : Stmt := top 24
theorem noPart_of {σ : L2.St} {H : Hp} {Q : Option Int → Hp → Prop} (h : Q none H) : tNoPart σ H Q := h
section
variable {P : Program} {w : World} {K : PySem.W.Frag} {mg : Str → Option Value} {base : Heap}
/-- changed(deck, row): a tuple or a list of short items -/
def spChanged (K : PySem.W.Frag) : Sp := fun vs H Q _ => ∃ (G : Hp) (a r : Addr) (c : Int) (xs : List V) (ds : List PyData), vs = [.ref a, .ref r] ∧ Deck G H a c ∧ c < 800000 ∧ SqT K G r xs ∧ DdAll K G xs ds ∧ Items ds ∧ 1 ≤ ds.length ∧ ds.length ≤ 38 ∧
  ∀ (G' H' : Hp) (v : V) (d : PyData), Same G G' → Deck G' H' a (c + 5) → Dd K G' v d → Cd (ds.length + 1) d → Q v H'
theorem scChanged : FnScope ["_law_deck_here", "_law_row_here", "_law_k", "_law_course", "_law_new", "_law_some"] ["_law_deck_here", "_law_row_here"] (defScope sChanged) := ⟨rfl, rfl, rfl, by decide +kernel, rfl, by decide +kernel, by decide +kernel⟩
theorem ok_changed {f : Addr} {fd : FuncData} (F : Fun K "_law_changed" "_law_changed" sChanged f fd) (T : Txt mg) (F__law_next : Dfn P w K mg base "_law_next" 1 ["_law_deck_here", "_law_many"] spNext) (F__law_odd : Dfn P w K mg base "_law_odd" 2 ["_law_deck_here"] (spOdd K)) :
    FnOk P w K mg base CX0 3 f fd ["_law_deck_here", "_law_row_here"] (spChanged K) := by
  refine F.ok scChanged (fun vs H Q E h => ?_) (fun cdv A outer s H vs Q E hr h => ?_)
  · obtain ⟨G, a, r, c, xs, ds, rfl, _⟩ := h
    rfl
  obtain ⟨G, a, r, c, xs, ds, rfl, D, hc, hT, hA, hI, n1, n2, k⟩ := h
  have hu64 := hr.units
  have lx := DdAll.len hA
  refine ⟨_, (pss_cons (ps_par rfl scChanged.nd (i := 2) (j := 3) rfl rfl (by decide) rfl rfl (pa_cons (pe_call F__law_next.ok (hr.mono (by omega)) rfl F__law_next.mg F__law_next.kp F__law_next.bd .nil pass0 (pa_cons (pv 0) (pa_cons (pe_callB (lenK K) (by rfl) T.b_len bt_len (pa_cons (pv 1) pa_nil)) pa_nil))) (pa_cons (pe_call F__law_next.ok (hr.mono (by omega)) rfl F__law_next.mg F__law_next.kp F__law_next.bd .nil pass0 (pa_cons (pv 0) (pa_cons pe_int pa_nil))) pa_nil)) rfl)
    (pss_cons (ps_set (i := 4) scChanged.nd rfl (Or.inl rfl) (pe_ix (ixLK K) (pe_lst (pa_cons (pe_call F__law_odd.ok (hr.mono (by omega)) rfl F__law_odd.mg F__law_odd.kp F__law_odd.bd .nil pass0 (pa_cons (pv 0) pa_nil)) (pa_cons (pe_un un_neg pe_int) (pa_cons (pe_callB (lenK K) (by rfl) T.b_len bt_len (pa_cons (pv 1) pa_nil)) (pa_cons pe_int (pa_cons (pe_ix (ixTK K) (pv 1) (pe_call F__law_next.ok (hr.mono (by omega)) rfl F__law_next.mg F__law_next.kp F__law_next.bd .nil pass0 (pa_cons (pv 0) (pa_cons (pe_callB (lenK K) (by rfl) T.b_len bt_len (pa_cons (pv 1) pa_nil)) pa_nil))) (fun _ _ => rfl)) (pa_cons (pe_cmpR (eq1K K hu64) (pe_ix (ixTK K) (pv 1) (pv 2) (fun _ _ => rfl)) pe_int (nomark _)) pa_nil))))))) (pe_call F__law_next.ok (hr.mono (by omega)) rfl F__law_next.mg F__law_next.kp F__law_next.bd .nil pass0 (pa_cons (pv 0) (pa_cons pe_int pa_nil))) (fun _ _ => rfl)))
    (pss_cons (ps_if (pt_cmpR op_lt (pv 3) pe_int (nomark _)) (pss_one (ps_ret (pe_op (catTK K) (pe_op (catTK K) (pe_slice (slTK K) (pv 1) po_none (po_some (pv 2))) (pe_tup (pa_cons (pv 4) pa_nil))) (pe_slice (slTK K) (pv 1) (po_some (pe_op op_add (pv 2) pe_int)) po_none)))) pss_nil)
    (pss_cons (ps_set (i := 5) scChanged.nd rfl (Or.inl rfl) (pe_lst (pa_cons (pe_op (catTK K) (pe_slice (slTK K) (pv 1) po_none (po_some (pv 2))) (pe_slice (slTK K) (pv 1) (po_some (pe_op op_add (pv 2) pe_int)) po_none)) (pa_cons (pe_op (catTK K) (pe_op (catTK K) (pe_slice (slTK K) (pv 1) po_none (po_some (pv 2))) (pe_tup (pa_cons (pv 4) pa_nil))) (pe_slice (slTK K) (pv 1) (po_some (pv 2)) po_none)) (pa_cons (pe_op (catTK K) (pv 1) (pe_tup (pa_cons (pe_callB (lenK K) (by rfl) T.b_len bt_len (pa_cons (pv 1) pa_nil)) pa_nil))) (pa_cons (pe_callTy (listOfK K) (by rfl) T.b_list bt_list (pa_cons (pv 1) pa_nil)) pa_nil))))))
    (pss_one (ps_ret (pe_ix (ixLK K) (pv 5) (pe_op op_sub (pv 3) pe_int) (fun _ _ => rfl)))))))), ?_⟩
  refine ⟨_, rfl, _, rfl, r, xs, rfl, .inr (Same.tup D.same hT), G, a, c, _, rfl, D, by omega, by omega, by omega, fun H1 kk D1 k0 k1 => ?_⟩
  refine ⟨_, rfl, G, a, c + 1, 8, rfl, D1, by omega, by decide, by decide, fun H2 co D2 c0 c1 => ?_⟩
  refine ⟨_, _, rfl, ?_⟩
  -- the new item
  refine ⟨_, rfl, G, a, c + 1 + 1, rfl, D2, by omega, fun G3 H3 v0 d0 t3 D3 q0 i0 => ?_⟩
  have hT3 := Same.tup t3 hT
  have hA3 := Same.ddAll t3 hA
  refine ⟨_, rfl, _, rfl, r, xs, rfl, .inr (Same.tup D3.same hT3), ?_⟩
  obtain ⟨xk, dk, ak1, ak2, ak3⟩ := DdAll.at (i := kk.toNat) hA3 (by omega)
  refine ⟨_, rfl, _, rfl, _, rfl, r, xs, rfl, .inr (Same.tup D3.same hT3), G3, a, _, _, rfl, D3, by omega, by omega, by omega, fun H4 j4 D4 j40 j41 => ?_⟩
  obtain ⟨x4, d4, a41, a42, a43⟩ := DdAll.at (i := j4.toNat) hA3 (by omega)
  refine ⟨r, xs, j4, x4, rfl, rfl, Same.tup D4.same hT3, at_lst j40 a41, ?_⟩
  refine ⟨_, rfl, _, rfl, r, xs, kk, xk, rfl, rfl, Same.tup D4.same hT3, at_lst k0 ak1, dk, 1, Same.dd D4.same ak3, rfl, fun b => ?_⟩
  refine ⟨by show 6 ≤ sizeLine; decide, fun l hl => ?_⟩
  obtain ⟨G5, t5, D5, k5, _⟩ := D4.add (.lst [v0, .int (-1), .int (xs.length : Nat), .int 0, x4, .bl b]) hl
  have all : DdAll K G5 [v0, .int (-1), .int (xs.length : Nat), .int 0, x4, .bl b] [d0, .int (-1), .int (xs.length : Nat), .int 0, d4, .bool b] :=
    .cons (Same.dd t5 q0) (.cons (.int _) (.cons (.int _) (.cons (.int _) (.cons (Same.dd t5 a43) (.cons (.bl _) .nil)))))
  have its : Items [d0, .int (-1), .int (xs.length : Nat), .int 0, d4, .bool b] :=
    .cons i0 (.cons (item_int (by omega) (by omega)) (.cons (item_int (by omega) (by omega)) (.cons (item_int (by omega) (by omega)) (.cons (hI d4 (List.mem_of_getElem? a42)) (.cons (item_bool b) .nil)))))
  refine ⟨_, rfl, G5, a, _, 6, rfl, D5, by omega, by decide, by decide, fun H6 j6 D6 j60 j61 => ?_⟩
  obtain ⟨nv, nd, q1, q2, q3⟩ := DdAll.at (i := j6.toNat) all (by show j6.toNat < 6; omega)
  have ni := its nd (List.mem_of_getElem? q2)
  refine ⟨l, _, j6, nv, rfl, rfl, SqL.of (D6.same _ _ k5), at_lst j60 q1, ?_⟩
  have e5 : c + 1 + 1 + 1 + 1 + 1 = c + 5 := by omega
  rw [e5] at D6
  have t35 := t3.trans t5
  have hT5 := Same.tup t35 hT
  have hA5 := Same.ddAll t35 hA
  have hT6 := Same.tup D6.same hT5
  have fin : ∀ (H' : Hp) (p : Addr) (ws : List V) (es : List PyData), Same H6 H' → SqT K H' p ws → DdAll K G5 ws es → Items es → es.length ≤ ds.length + 1 → Q (.ref p) H' := by
    intro H' p ws es s7 h7 hd hi hl7
    obtain ⟨G7, t7, D7, g7⟩ := D6.grow s7
    exact k G7 H' _ (.tuple es) (t35.trans t7) D7 (.tup (grow_tup g7 h7) (Same.ddAll t7 hd)) ⟨es, .inl rfl, hl7, hi⟩
  have finL : ∀ (H' : Hp) (p : Addr), Same H6 H' → H6 p = none → H' p = some (.lst xs) → Q (.ref p) H' := by
    intro H' p s7 hn h7
    obtain ⟨G7, t7, D7, g7⟩ := D6.grow s7
    exact k G7 H' _ (.list ds) (t35.trans t7) D7 (.lst (SqL.of (g7 _ _ h7 (.inl hn))) (Same.ddAll t7 hA5)) ⟨ds, .inr rfl, by omega, hI⟩
  have ek : (kk + 1).toNat = kk.toNat + 1 := by omega
  refine ⟨_, rfl, _, _, rfl, rfl, _, rfl, ?_⟩
  by_cases h4 : co < 4
  · rw [decide_eq_true h4]
    refine iteT ?_
    refine ⟨_, rfl, _, rfl, _, rfl, slA_of hT6 fun p1 H7 s7 h7 => ?_⟩
    rw [cut_to _ _ k0] at h7
    refine ⟨_, rfl, by show 1 ≤ sizeLine; decide, fun p2 e2 => ?_⟩
    have s8 : Same H7 (upd H7 p2 (.tup [nv])) := same_new e2
    refine catS_of (Same.tup s8 h7) (SqT.of upd_same) (by simp only [List.length_take, List.length_cons, List.length_nil]; omega) fun p3 H9 s9 h9 => ?_
    have s79 := s7.trans (s8.trans s9)
    refine ⟨_, rfl, _, rfl, _, _, rfl, rfl, _, rfl, ?_⟩
    refine noPart_of ?_
    refine slA_of (Same.tup s79 hT6) fun p4 H10 s10 h10 => ?_
    rw [cut_from _ _ (by omega), ek] at h10
    refine catS_of (Same.tup s10 h9) h10 (by simp only [List.length_append, List.length_drop, List.length_take, List.length_cons, List.length_nil]; omega) fun p5 H11 s11 h11 => ?_
    exact fin H11 p5 _ _ (s79.trans (s10.trans s11)) h11 (((hA5.take kk.toNat).app (.cons q3 .nil)).app (hA5.drop (kk.toNat + 1))) (((hI.take _).app (.cons ni .nil)).app (hI.drop _))
      (by simp only [List.length_append, List.length_drop, List.length_take, List.length_cons, List.length_nil]; omega)
  · rw [decide_eq_false h4]
    refine iteF ?_
    -- without it
    refine ⟨_, rfl, _, rfl, _, rfl, slA_of hT6 fun p1 H7 s7 h7 => ?_⟩
    rw [cut_to _ _ k0] at h7
    refine ⟨_, rfl, _, rfl, _, _, rfl, rfl, _, rfl, ?_⟩
    refine noPart_of ?_
    refine slA_of (Same.tup s7 hT6) fun p2 H8 s8 h8 => ?_
    rw [cut_from _ _ (by omega), ek] at h8
    refine catS_of (Same.tup s8 h7) h8 (by simp only [List.length_append, List.length_drop, List.length_take, List.length_cons, List.length_nil]; omega) fun p3 H9 s9 h9 => ?_
    have s69 := s7.trans (s8.trans s9)
    -- with one more
    refine ⟨_, rfl, _, rfl, _, rfl, slA_of (Same.tup s69 hT6) fun p4 H10 s10 h10 => ?_⟩
    rw [cut_to _ _ k0] at h10
    refine ⟨_, rfl, by show 1 ≤ sizeLine; decide, fun p5 e5 => ?_⟩
    have s11 : Same H10 (upd H10 p5 (.tup [nv])) := same_new e5
    refine catS_of (Same.tup s11 h10) (SqT.of upd_same) (by simp only [List.length_take, List.length_cons, List.length_nil]; omega) fun p6 H12 s12 h12 => ?_
    have s6c := s69.trans (s10.trans (s11.trans s12))
    refine ⟨_, rfl, _, rfl, _, rfl, ?_⟩
    refine noPart_of ?_
    refine slA_of (Same.tup s6c hT6) fun p7 H13 s13 h13 => ?_
    rw [cut_from _ _ k0] at h13
    refine catS_of (Same.tup s13 h12) h13 (by simp only [List.length_append, List.length_drop, List.length_take, List.length_cons, List.length_nil]; omega) fun p8 H14 s14 h14 => ?_
    have s6e := s6c.trans (s13.trans s14)
    -- one at the end
    refine ⟨_, rfl, _, rfl, r, xs, rfl, .inr (Same.tup s6e hT6), by show 1 ≤ sizeLine; decide, fun p9 e9 => ?_⟩
    have s15 : Same H14 (upd H14 p9 (.tup [.int (xs.length : Nat)])) := same_new e9
    refine catS_of (Same.tup (s6e.trans s15) hT6) (SqT.of upd_same) (by simp only [List.length_cons, List.length_nil]; omega) fun p10 H16 s16 h16 => ?_
    have s6g := s6e.trans (s15.trans s16)
    refine ⟨_, rfl, r, xs, rfl, .inr (Same.tup s6g hT6), fun p11 e11 => ?_⟩
    have s17 : Same H16 (upd H16 p11 (.lst xs)) := same_new e11
    refine ⟨by show 4 ≤ sizeLine; decide, fun l2 el => ?_⟩
    have s18 : Same (upd H16 p11 (.lst xs)) (upd (upd H16 p11 (.lst xs)) l2 (.lst [.ref p3, .ref p8, .ref p10, .ref p11])) := same_new el
    have s6i := s6g.trans (s17.trans s18)
    have w9 := s10.trans (s11.trans (s12.trans (s13.trans (s14.trans (s15.trans (s16.trans (s17.trans s18)))))))
    have co4 : co = 4 ∨ co = 5 ∨ co = 6 ∨ co = 7 := by omega
    rcases co4 with rfl | rfl | rfl | rfl
    · refine ⟨_, rfl, _, rfl, _, _, rfl, rfl, l2, _, _, .ref p3, rfl, rfl, SqL.of upd_same, rfl, ?_⟩
      exact fin _ p3 _ _ s6i (Same.tup w9 h9) ((hA5.take kk.toNat).app (hA5.drop (kk.toNat + 1))) ((hI.take _).app (hI.drop _))
        (by simp only [List.length_append, List.length_drop, List.length_take, List.length_cons, List.length_nil]; omega)
    · refine ⟨_, rfl, _, rfl, _, _, rfl, rfl, l2, _, _, .ref p8, rfl, rfl, SqL.of upd_same, rfl, ?_⟩
      exact fin _ p8 _ _ s6i (Same.tup (s15.trans (s16.trans (s17.trans s18))) h14) (((hA5.take kk.toNat).app (.cons q3 .nil)).app (hA5.drop kk.toNat)) (((hI.take _).app (.cons ni .nil)).app (hI.drop _))
        (by simp only [List.length_append, List.length_drop, List.length_take, List.length_cons, List.length_nil]; omega)
    · refine ⟨_, rfl, _, rfl, _, _, rfl, rfl, l2, _, _, .ref p10, rfl, rfl, SqL.of upd_same, rfl, ?_⟩
      exact fin _ p10 _ _ s6i (Same.tup (s17.trans s18) h16) (hA5.app (.cons (.int _) .nil)) (hI.app (.cons (item_int (by omega) (by omega)) .nil))
        (by simp only [List.length_append, List.length_cons, List.length_nil]; omega)
    · refine ⟨_, rfl, _, rfl, _, _, rfl, rfl, l2, _, _, .ref p11, rfl, rfl, SqL.of upd_same, rfl, ?_⟩
      exact finL _ p11 s6i (s6g.free e11) (s18 _ _ upd_same)
/-- again(deck, value): another short value -/
def spAgain (K : PySem.W.Frag) : Sp := fun vs H Q _ => ∃ (G : Hp) (a : Addr) (v : V) (c : Int) (d : PyData), vs = [.ref a, v] ∧ Deck G H a c ∧ c < 800000 ∧ Dd K G v d ∧ Cd 38 d ∧
  ∀ (G' H' : Hp) (v' : V) (d' : PyData) (c' : Int), Same G G' → Deck G' H' a c' → c' ≤ c + 5 → Dd K G' v' d' → Val d' → Q v' H'
theorem scAgain : FnScope ["_law_deck_here", "_law_value"] ["_law_deck_here", "_law_value"] (defScope sAgain) := ⟨rfl, rfl, rfl, by decide +kernel, rfl, by decide +kernel, by decide +kernel⟩
theorem ok_again {f : Addr} {fd : FuncData} (F : Fun K "_law_again" "_law_again" sAgain f fd) (T : Txt mg) (F__law_changed : Dfn P w K mg base "_law_changed" 3 ["_law_deck_here", "_law_row_here"] (spChanged K)) (F__law_odd : Dfn P w K mg base "_law_odd" 2 ["_law_deck_here"] (spOdd K)) :
    FnOk P w K mg base CX0 4 f fd ["_law_deck_here", "_law_value"] (spAgain K) := by
  refine F.ok scAgain (fun vs H Q E h => ?_) (fun cdv A outer s H vs Q E hr h => ?_)
  · obtain ⟨G, a, v, c, d, rfl, _⟩ := h
    rfl
  obtain ⟨G, a, v, c, d, rfl, D, hc, hd, hC, k⟩ := h
  have hu64 := hr.units
  refine ⟨_, (pss_cons (ps_if (PW.pt (pw_and (pt_val (pe_callB (isiK K) (by rfl) T.b_isinstance bt_isinstance (pa_cons (pv 1) (pa_cons (pe_bltn (v := .ty "tuple") rfl T.b_tuple bt_tuple rfl) pa_nil)))) (pw_and1 (pt_cmpR (neEK K hu64) (pv 1) (pe_tup pa_nil) (nomark _))))) (pss_one (ps_ret (pe_call F__law_changed.ok (hr.mono (by omega)) rfl F__law_changed.mg F__law_changed.kp F__law_changed.bd .nil pass0 (pa_cons (pv 0) (pa_cons (pv 1) pa_nil))))) pss_nil)
    (pss_one (ps_ret (pe_call F__law_odd.ok (hr.mono (by omega)) rfl F__law_odd.mg F__law_odd.kp F__law_odd.bd .nil pass0 (pa_cons (pv 0) pa_nil))))), ?_⟩
  refine ⟨_, rfl, _, _, _, _, _, rfl, .ty _, Dd.tyx (Same.dd D.same hd), kit_ty (kitD_t d), _, rfl, ?_⟩
  obtain ⟨ds, hds, hl, hI⟩ := hC
  rcases hds with rfl | rfl
  · cases hd with
    | @tup r xs _ h1 h2 =>
      have lx := DdAll.len h2
      refine iteT ?_
      refine ⟨_, rfl, by show 0 ≤ sizeLine; decide, fun p hp => ?_⟩
      obtain ⟨G1, t1, D1, k1, _⟩ := D.add (.tup []) hp
      refine ⟨r, p, xs, rfl, rfl, Same.tup D1.same (Same.tup t1 h1), SqT.of upd_same, _, rfl, ?_⟩
      by_cases hx : xs = []
      · rw [decide_eq_false (by intro z; exact z hx)]
        refine iteF ?_
        refine ⟨_, rfl, G1, a, c, rfl, D1, by omega, fun G2 H2 v2 d2 t2 D2 q2 i2 => ?_⟩
        exact k G2 H2 v2 d2 _ (t1.trans t2) D2 (by omega) q2 (.inl i2)
      · rw [decide_eq_true hx]
        refine iteT ?_
        have hn : 1 ≤ ds.length := by
          rw [← lx]
          exact List.length_pos_iff.mpr hx
        refine ⟨_, rfl, _, rfl, G1, a, r, c, xs, ds, rfl, D1, by omega, Same.tup t1 h1, Same.ddAll t1 h2, hI, hn, hl, fun G2 H2 v2 d2 t2 D2 q2 i2 => ?_⟩
        obtain ⟨es, e1, e2, e3⟩ := i2
        exact k G2 H2 v2 d2 _ (t1.trans t2) D2 (by omega) q2 (.inr ⟨es, e1, by omega, e3⟩)
  · refine iteF ?_
    refine iteF ?_
    refine ⟨_, rfl, G, a, c, rfl, D, by omega, fun G2 H2 v2 d2 t2 D2 q2 i2 => ?_⟩
    exact k G2 H2 v2 d2 _ t2 D2 (by omega) q2 (.inl i2)
end
end K1

namespace K1
open PySem L2 Rf
abbrev sLaw : Stmt := top 25
/-- law(script) -/
def spLaw (K : PySem.W.Frag) : Sp := fun vs H Q _ => ∃ (a : Addr) (ns : List Int), vs = [.ref a] ∧ SqL K H a (ns.map V.int) ∧ ns.length ≤ 63 ∧ ∀ H', Q (.bl true) H'
def rgD (a b : Int) : List PyData := (List.range (b - a).toNat).map fun i => PyData.int (a + (i : Nat))
theorem rg_dd {K : PySem.W.Frag} {H : Hp} (a b : Int) : DdAll K H (rgV a b) (rgD a b) := by
  unfold rgV rgD
  generalize List.range (b - a).toNat = l
  induction l with
  | nil => exact .nil
  | cons i l ih => exact .cons (.int _) ih
def valB (d : PyData) : Bool := itemB d || (match d with
  | .tuple ds => decide (ds.length ≤ 40) && ds.all itemB
  | .list ds => decide (ds.length ≤ 40) && ds.all itemB
  | _ => false)
theorem val_of {d : PyData} (h : valB d = true) : Val d := by
  unfold valB at h
  rcases Bool.or_eq_true _ _ |>.mp h with q | q
  · exact .inl q
  · cases d with
    | tuple ds =>
      simp only [Bool.and_eq_true, decide_eq_true_eq] at q
      exact .inr ⟨ds, .inl rfl, q.1, fun d hd => List.all_eq_true.mp q.2 d hd⟩
    | list ds =>
      simp only [Bool.and_eq_true, decide_eq_true_eq] at q
      exact .inr ⟨ds, .inr rfl, q.1, fun d hd => List.all_eq_true.mp q.2 d hd⟩
    | _ => exact absurd q Bool.noConfusion
def oneD : List PyData := [.none, .bool true, .int 0, .str "0", .tuple [], .list [], .dict [], .tuple [.int 0], .tuple [.int 1], .tuple [.int 0, .int 0], .tuple [.int 1, .int 0], .tuple [.bool true, .int 0], .tuple [.int 0, .none], .tuple [.list [.int 0], .int 0], .list [.int 1, .int 0]]
def twoD : List PyData := [.tuple (rgD 0 12), .tuple (rgD 0 13), .tuple (rgD 1 13), .tuple [.str "0"], .tuple [.int 0, .int 0, .int 5], .tuple [.int 3, .int 0, .int 1], .tuple [.dict [], .int 1]]
def Vals' (ds : List PyData) : Prop := ∀ d ∈ ds, Val d
theorem one_vals : Vals' oneD := by
  have h : oneD.all valB = true := by decide +kernel
  exact fun d hd => val_of (List.all_eq_true.mp h d hd)
theorem two_vals : Vals' twoD := by
  have h : twoD.all valB = true := by decide +kernel
  exact fun d hd => val_of (List.all_eq_true.mp h d hd)
theorem Vals'.app {a b : List PyData} (h : Vals' a) (t : Vals' b) : Vals' (a ++ b) := fun x hx => by
  rcases List.mem_append.mp hx with e | e
  · exact h x e
  · exact t x e
theorem six_dp {K : PySem.W.Frag} {H : Hp} {l : Addr} {a b c d e f : Int} (h : H l = some (.lst [.int a, .int b, .int c, .int d, .int e, .int f])) : Dp K H (.ref l) (.list [.int a, .int b, .int c, .int d, .int e, .int f]) :=
  .lst (SqL.of h) (.cons (.int _) (.cons (.int _) (.cons (.int _) (.cons (.int _) (.cons (.int _) (.cons (.int _) .nil))))))
theorem pair_dp {K : PySem.W.Frag} {H : Hp} {l : Addr} {r : V} {e : PyData} {b : Bool} (h : H l = some (.lst [r, .bl b])) (hd : Dp K H r e) : Dp K H (.ref l) (.list [e, .bool b]) :=
  .lst (SqL.of h) (.cons hd (.cons (.bl _) .nil))
section
variable {P : Program} {w : World} {K : PySem.W.Frag} {mg : Str → Option Value} {base : Heap}
theorem scLaw : FnScope ["_law_script", "_law_deck_here", "_law_values", "_law_turn", "_law_row_here", "_law_once", "_law_value", "_law_kept", "_law_due"] ["_law_script"] (defScope sLaw) := ⟨rfl, rfl, rfl, by decide +kernel, rfl, by decide +kernel, by decide +kernel⟩
theorem ok_law {f : Addr} {fd : FuncData} (F : Fun K "law" "law" sLaw f fd) (T : Txt mg) (GK : Gk mg) (F__law_deck : Dfn P w K mg base "_law_deck" 1 ["_law_script"] (spDeck K))
    (F__law_row : Dfn P w K mg base "_law_row" 3 ["_law_deck_here", "_law_limit"] (spRow K)) (F__law_changed : Dfn P w K mg base "_law_changed" 3 ["_law_deck_here", "_law_row_here"] (spChanged K))
    (F__law_again : Dfn P w K mg base "_law_again" 4 ["_law_deck_here", "_law_value"] (spAgain K)) (F__law_same : Dfn P w K mg base "_law_same" 3 ["_law_found", "_law_due"] (spSame K 3))
    (F__law_error : Dfn P w K mg base "_law_error" 2 ["_law_value"] (spErr K)) (F_row_error : Dfn P w K mg base "row_error" 4 ["value"] (spErr K))
    (F_is_row : Dfn P w K mg base "is_row" 5 ["value"] (spIsRow K)) :
    FnG P w K mg base CX0 6 f fd ["_law_script"] (spLaw K) := by
  refine okG F scLaw (fun vs H Q E h => ?_) (fun cdv A outer s H vs Q E hcm hr h => ?_)
  · obtain ⟨a, ns, rfl, _⟩ := h
    rfl
  obtain ⟨a, ns, rfl, hS, h63, k⟩ := h
  have hu64 := hr.units
  obtain ⟨_, g_MAX_PLACES⟩ := GK.g_MAX_PLACES
  obtain ⟨_, g_MAX_COUNT⟩ := GK.g_MAX_COUNT
  obtain ⟨_, g_MAX_ENTRIES⟩ := GK.g_MAX_ENTRIES
  obtain ⟨_, g_MAX_LENGTH⟩ := GK.g_MAX_LENGTH
  obtain ⟨_, g_EDITS⟩ := GK.g_EDITS
  obtain ⟨_, g_BATCH⟩ := GK.g_BATCH
  refine ⟨_, (pss_cons (ps_set (i := 1) scLaw.nd rfl (Or.inl rfl) (pe_call F__law_deck.ok (hr.mono (by omega)) rfl F__law_deck.mg F__law_deck.kp F__law_deck.bd .nil pass0 (pa_cons (pv 0) pa_nil)))
    (pss_cons (ps_set (i := 2) scLaw.nd rfl (Or.inl rfl) (pe_lst (pa_cons pe_non (pa_cons pe_bl (pa_cons pe_int (pa_cons pe_str (pa_cons (pe_tup pa_nil) (pa_cons (pe_lst pa_nil) (pa_cons pe_dnewK (pa_cons (pe_tup (pa_cons pe_int pa_nil)) (pa_cons (pe_tup (pa_cons pe_int pa_nil)) (pa_cons (pe_tup (pa_cons pe_int (pa_cons pe_int pa_nil))) (pa_cons (pe_tup (pa_cons pe_int (pa_cons pe_int pa_nil))) (pa_cons (pe_tup (pa_cons pe_bl (pa_cons pe_int pa_nil))) (pa_cons (pe_tup (pa_cons pe_int (pa_cons pe_non pa_nil))) (pa_cons (pe_tup (pa_cons (pe_lst (pa_cons pe_int pa_nil)) (pa_cons pe_int pa_nil))) (pa_cons (pe_lst (pa_cons pe_int (pa_cons pe_int pa_nil))) pa_nil)))))))))))))))))
    (pss_cons (ps_set (i := 2) scLaw.nd rfl (Or.inl rfl) (pe_op op_cat (pv 2) (pe_lst (pa_cons (pe_tupRg rfl rfl T.b_tuple (prg_1 rfl T.b_range pe_int)) (pa_cons (pe_tupRg rfl rfl T.b_tuple (prg_1 rfl T.b_range pe_int)) (pa_cons (pe_tupRg rfl rfl T.b_tuple (prg_2 rfl T.b_range pe_int pe_int)) (pa_cons (pe_tup (pa_cons pe_str pa_nil)) (pa_cons (pe_tup (pa_cons pe_int (pa_cons pe_int (pa_cons pe_int pa_nil)))) (pa_cons (pe_tup (pa_cons pe_int (pa_cons pe_int (pa_cons pe_int pa_nil)))) (pa_cons (pe_tup (pa_cons pe_dnewK (pa_cons pe_int pa_nil))) pa_nil))))))))))
    (pss_cons (ps_for PassesOwn.never rfl (pi_range1 rfl T.b_range (pa_cons pe_int pa_nil)) (pg_name (i := 3) scLaw.nd rfl (Or.inl rfl))
      (pss_cons (ps_set (i := 4) scLaw.nd rfl (Or.inl rfl) (pe_call F__law_row.ok (hr.mono (by omega)) rfl F__law_row.mg F__law_row.kp F__law_row.bd .nil pass0 (pa_cons (pv 1) (pa_cons pe_int pa_nil))))
    (pss_cons (ps_set (i := 5) scLaw.nd rfl (Or.inl rfl) (pe_call F__law_changed.ok (hr.mono (by omega)) rfl F__law_changed.mg F__law_changed.kp F__law_changed.bd .nil pass0 (pa_cons (pv 1) (pa_cons (pv 4) pa_nil))))
    (pss_cons (ps_set (i := 2) scLaw.nd rfl (Or.inl rfl) (pe_op op_cat (pv 2) (pe_lst (pa_cons (pv 4) (pa_cons (pv 5) (pa_cons (pe_call F__law_changed.ok (hr.mono (by omega)) rfl F__law_changed.mg F__law_changed.kp F__law_changed.bd .nil pass0 (pa_cons (pv 1) (pa_cons (pv 4) pa_nil))) (pa_cons (pe_call F__law_again.ok (hr.mono (by omega)) rfl F__law_again.mg F__law_again.kp F__law_again.bd .nil pass0 (pa_cons (pv 1) (pa_cons (pv 5) pa_nil))) (pa_cons (pe_op (catTK K) (pv 4) (pv 4)) pa_nil))))))))
    (pss_one (ps_if (pt_cmpR op_notBl (pe_call F_is_row.ok (hr.mono (by omega)) rfl F_is_row.mg F_is_row.kp F_is_row.bd .nil pass0 (pa_cons (pv 4) pa_nil)) pe_bl (nomark _)) (pss_one (ps_ret pe_bl)) pss_nil))))))
    (pss_cons (ps_for PassesOwn.never rfl (piLK K (pv 2)) (pg_name (i := 6) scLaw.nd rfl (Or.inl rfl))
      (pss_cons (ps_par rfl scLaw.nd (i := 7) (j := 8) rfl rfl (by decide) rfl rfl (pa_cons (pe_callB (reprDK K hcm hu64) (by rfl) T.b_repr bt_repr (pa_cons (pv 6) pa_nil)) (pa_cons (pe_call F__law_error.ok (hr.mono (by omega)) rfl F__law_error.mg F__law_error.kp F__law_error.bd .nil pass0 (pa_cons (pv 6) pa_nil)) pa_nil)) rfl)
    (pss_one (ps_if (PW.pt (pw_or (pt_not (pt_val (pe_call F__law_same.ok (hr.mono (by omega)) rfl F__law_same.mg F__law_same.kp F__law_same.bd .nil pass0 (pa_cons (pe_lst (pa_cons (pe_call F_row_error.ok (hr.mono (by omega)) rfl F_row_error.mg F_row_error.kp F_row_error.bd .nil pass0 (pa_cons (pv 6) pa_nil)) (pa_cons (pe_call F_is_row.ok (hr.mono (by omega)) rfl F_is_row.mg F_is_row.kp F_is_row.bd .nil pass0 (pa_cons (pv 6) pa_nil)) pa_nil))) (pa_cons (pe_lst (pa_cons (pv 8) (pa_cons (pe_cmpR op_isN (pv 8) pe_non (nomark _)) pa_nil))) pa_nil))))) (pw_or1 (pt_cmpR op_ne (pe_callB (reprDK K hcm hu64) (by rfl) T.b_repr bt_repr (pa_cons (pv 6) pa_nil)) (pv 7) (nomark _))))) (pss_one (ps_ret pe_bl)) pss_nil))))
    (pss_one (ps_ret (pe_call F__law_same.ok (hr.mono (by omega)) rfl F__law_same.mg F__law_same.kp F__law_same.bd .nil pass0 (pa_cons (pe_lst (pa_cons (pe_glob (v := .int 12) rfl g_MAX_PLACES ⟨_, rfl⟩) (pa_cons (pe_glob (v := .int 60) rfl g_MAX_COUNT ⟨_, rfl⟩) (pa_cons (pe_glob (v := .int 20) rfl g_MAX_ENTRIES ⟨_, rfl⟩) (pa_cons (pe_glob (v := .int 4) rfl g_MAX_LENGTH ⟨_, rfl⟩) (pa_cons (pe_glob (v := .int 60) rfl g_EDITS ⟨_, rfl⟩) (pa_cons (pe_glob (v := .int 20) rfl g_BATCH ⟨_, rfl⟩) pa_nil))))))) (pa_cons (pe_lst (pa_cons pe_int (pa_cons pe_int (pa_cons pe_int (pa_cons pe_int (pa_cons pe_int (pa_cons pe_int pa_nil))))))) pa_nil)))))))))), ?_⟩
  refine ⟨_, rfl, a, ns, rfl, hS, h63, fun H0 dk D0 => ?_⟩
  refine ⟨by show 0 ≤ sizeLine; decide, fun p1 ep1 => ?_⟩
  obtain ⟨Gp1, tp1, Dp1, kp1, _⟩ := D0.add (.tup []) ep1
  refine ⟨by show 0 ≤ sizeLine; decide, fun p2 ep2 => ?_⟩
  obtain ⟨Gp2, tp2, Dp2, kp2, _⟩ := Dp1.add (.lst []) ep2
  refine fun p3 ep3 => ?_
  obtain ⟨Gp3, tp3, Dp3, kp3, _⟩ := Dp2.add (.dK []) ep3
  refine ⟨by show 1 ≤ sizeLine; decide, fun p4 ep4 => ?_⟩
  obtain ⟨Gp4, tp4, Dp4, kp4, _⟩ := Dp3.add (.tup [.int 0]) ep4
  refine ⟨by show 1 ≤ sizeLine; decide, fun p5 ep5 => ?_⟩
  obtain ⟨Gp5, tp5, Dp5, kp5, _⟩ := Dp4.add (.tup [.int 1]) ep5
  refine ⟨by show 2 ≤ sizeLine; decide, fun p6 ep6 => ?_⟩
  obtain ⟨Gp6, tp6, Dp6, kp6, _⟩ := Dp5.add (.tup [.int 0, .int 0]) ep6
  refine ⟨by show 2 ≤ sizeLine; decide, fun p7 ep7 => ?_⟩
  obtain ⟨Gp7, tp7, Dp7, kp7, _⟩ := Dp6.add (.tup [.int 1, .int 0]) ep7
  refine ⟨by show 2 ≤ sizeLine; decide, fun p8 ep8 => ?_⟩
  obtain ⟨Gp8, tp8, Dp8, kp8, _⟩ := Dp7.add (.tup [.bl true, .int 0]) ep8
  refine ⟨by show 2 ≤ sizeLine; decide, fun p9 ep9 => ?_⟩
  obtain ⟨Gp9, tp9, Dp9, kp9, _⟩ := Dp8.add (.tup [.int 0, .non]) ep9
  refine ⟨by show 1 ≤ sizeLine; decide, fun p10 ep10 => ?_⟩
  obtain ⟨Gp10, tp10, Dp10, kp10, _⟩ := Dp9.add (.lst [.int 0]) ep10
  refine ⟨by show 2 ≤ sizeLine; decide, fun p11 ep11 => ?_⟩
  obtain ⟨Gp11, tp11, Dp11, kp11, _⟩ := Dp10.add (.tup [.ref p10, .int 0]) ep11
  refine ⟨by show 2 ≤ sizeLine; decide, fun p12 ep12 => ?_⟩
  obtain ⟨Gp12, tp12, Dp12, kp12, _⟩ := Dp11.add (.lst [.int 1, .int 0]) ep12
  refine ⟨by show 15 ≤ sizeLine; decide, fun p13 ep13 => ?_⟩
  obtain ⟨Gp13, tp13, Dp13, kp13, _⟩ := Dp12.add (.lst [.non, .bl true, .int 0, .str "0", .ref p1, .ref p2, .ref p3, .ref p4, .ref p5, .ref p6, .ref p7, .ref p8, .ref p9, .ref p11, .ref p12]) ep13
  have up12 := tp13
  have up11 := tp12.trans up12
  have up10 := tp11.trans up11
  have up9 := tp10.trans up10
  have up8 := tp9.trans up9
  have up7 := tp8.trans up8
  have up6 := tp7.trans up7
  have up5 := tp6.trans up6
  have up4 := tp5.trans up5
  have up3 := tp4.trans up4
  have up2 := tp3.trans up3
  have up1 := tp2.trans up2
  have all1 : DdAll K Gp13 [.non, .bl true, .int 0, .str "0", .ref p1, .ref p2, .ref p3, .ref p4, .ref p5, .ref p6, .ref p7, .ref p8, .ref p9, .ref p11, .ref p12] oneD :=
    (.cons (.non) (.cons (.bl _) (.cons (.int _) (.cons (.str _) (.cons (.tup (SqT.of (up1 _ _ kp1)) .nil) (.cons (.lst (SqL.of (up2 _ _ kp2)) .nil) (.cons (.emp (up3 _ _ kp3)) (.cons (.tup (SqT.of (up4 _ _ kp4)) (.cons (.int _) .nil)) (.cons (.tup (SqT.of (up5 _ _ kp5)) (.cons (.int _) .nil)) (.cons (.tup (SqT.of (up6 _ _ kp6)) (.cons (.int _) (.cons (.int _) .nil))) (.cons (.tup (SqT.of (up7 _ _ kp7)) (.cons (.int _) (.cons (.int _) .nil))) (.cons (.tup (SqT.of (up8 _ _ kp8)) (.cons (.bl _) (.cons (.int _) .nil))) (.cons (.tup (SqT.of (up9 _ _ kp9)) (.cons (.int _) (.cons (.non) .nil))) (.cons (.tup (SqT.of (up11 _ _ kp11)) (.cons (.lst (SqL.of (up10 _ _ kp10)) (.cons (.int _) .nil)) (.cons (.int _) .nil))) (.cons (.lst (SqL.of (up12 _ _ kp12)) (.cons (.int _) (.cons (.int _) .nil))) .nil)))))))))))))))
  refine ⟨_, rfl, ?_⟩
  refine ⟨_, rfl, ⟨by decide, by decide, by decide, by decide, by decide⟩, fun q1 eq1 => ?_⟩
  obtain ⟨Gq1, tq1, Dq1, kq1, _⟩ := Dp13.add (.tup (rgV 0 12)) eq1
  refine ⟨_, rfl, ⟨by decide, by decide, by decide, by decide, by decide⟩, fun q2 eq2 => ?_⟩
  obtain ⟨Gq2, tq2, Dq2, kq2, _⟩ := Dq1.add (.tup (rgV 0 13)) eq2
  refine ⟨_, _, rfl, rfl, ⟨by decide, by decide, by decide, by decide, by decide⟩, fun q3 eq3 => ?_⟩
  obtain ⟨Gq3, tq3, Dq3, kq3, _⟩ := Dq2.add (.tup (rgV 1 13)) eq3
  refine ⟨by show 1 ≤ sizeLine; decide, fun q4 eq4 => ?_⟩
  obtain ⟨Gq4, tq4, Dq4, kq4, _⟩ := Dq3.add (.tup [.str "0"]) eq4
  refine ⟨by show 3 ≤ sizeLine; decide, fun q5 eq5 => ?_⟩
  obtain ⟨Gq5, tq5, Dq5, kq5, _⟩ := Dq4.add (.tup [.int 0, .int 0, .int 5]) eq5
  refine ⟨by show 3 ≤ sizeLine; decide, fun q6 eq6 => ?_⟩
  obtain ⟨Gq6, tq6, Dq6, kq6, _⟩ := Dq5.add (.tup [.int 3, .int 0, .int 1]) eq6
  refine fun q7 eq7 => ?_
  obtain ⟨Gq7, tq7, Dq7, kq7, _⟩ := Dq6.add (.dK []) eq7
  refine ⟨by show 2 ≤ sizeLine; decide, fun q8 eq8 => ?_⟩
  obtain ⟨Gq8, tq8, Dq8, kq8, _⟩ := Dq7.add (.tup [.ref q7, .int 1]) eq8
  refine ⟨by show 7 ≤ sizeLine; decide, fun q9 eq9 => ?_⟩
  obtain ⟨Gq9, tq9, Dq9, kq9, _⟩ := Dq8.add (.lst [.ref q1, .ref q2, .ref q3, .ref q4, .ref q5, .ref q6, .ref q8]) eq9
  have uq8 := tq9
  have uq7 := tq8.trans uq8
  have uq6 := tq7.trans uq7
  have uq5 := tq6.trans uq6
  have uq4 := tq5.trans uq5
  have uq3 := tq4.trans uq4
  have uq2 := tq3.trans uq3
  have uq1 := tq2.trans uq2
  have all2 : DdAll K Gq9 [.ref q1, .ref q2, .ref q3, .ref q4, .ref q5, .ref q6, .ref q8] twoD :=
    (.cons (.tup (SqT.of (uq1 _ _ kq1)) (rg_dd _ _)) (.cons (.tup (SqT.of (uq2 _ _ kq2)) (rg_dd _ _)) (.cons (.tup (SqT.of (uq3 _ _ kq3)) (rg_dd _ _)) (.cons (.tup (SqT.of (uq4 _ _ kq4)) (.cons (.str _) .nil)) (.cons (.tup (SqT.of (uq5 _ _ kq5)) (.cons (.int _) (.cons (.int _) (.cons (.int _) .nil)))) (.cons (.tup (SqT.of (uq6 _ _ kq6)) (.cons (.int _) (.cons (.int _) (.cons (.int _) .nil)))) (.cons (.tup (SqT.of (uq8 _ _ kq8)) (.cons (.emp (uq7 _ _ kq7)) (.cons (.int _) .nil))) .nil)))))))
  refine ⟨p13, q9, _, _, rfl, rfl, Dq9.same _ _ (uq1 _ _ (tq1 _ _ kp13)), Dq9.same _ _ kq9, by show 22 ≤ sizeLine; decide, fun vl evl => ?_⟩
  obtain ⟨Gv, tv, Dv, kv, _⟩ := Dq9.add _ evl
  have st : ∃ (xs : List V) (ds : List PyData), Gv vl = some (.lst xs) ∧ DdAll K Gv xs ds ∧ Vals' ds ∧ ds.length ≤ 22 :=
    ⟨_, _, kv, (Same.ddAll (tq1.trans (uq1.trans tv)) all1).app (Same.ddAll tv all2), one_vals.app two_vals, by decide⟩
  obtain ⟨xs0, ds0, st1, st2, st3, st4⟩ := st
  refine ⟨6, rfl, by decide, by decide, ?_⟩
  refine for_range (lo := 0) (n := 6) (fun i σ H' => ∃ (G : Hp) (c : Int) (vl : Addr) (xs : List V) (ds : List PyData) (v3 v4 v5 v6 v7 v8 : Option V),
    σ = [some (.ref a), some (.ref dk), some (.ref vl), v3, v4, v5, v6, v7, v8] ∧ Deck G H' dk c ∧ c ≤ 300 * i ∧ G vl = some (.lst xs) ∧ DdAll K G xs ds ∧ Vals' ds ∧ ds.length ≤ 22 + 5 * i)
    ⟨Gv, 0, vl, xs0, ds0, none, none, none, none, none, none, rfl, Dv, by omega, st1, st2, st3, by omega⟩ ?_ ?_
  · clear st1 st2 st3 st4 Dv
    rintro i σ H1 hi ⟨G, c, vl, xs, ds, v3, v4, v5, v6, v7, v8, rfl, D, hc, kx, hA, hV, hl⟩
    refine ⟨_, rfl, G, dk, c, 12, rfl, D, by decide, by decide, by omega, fun G1 H2 r rs c1 t1 D1 hc1 pr rowx l1 l12 => ?_⟩
    have hx100 : ∀ x ∈ rs, 0 ≤ x ∧ x < 100 := fun x hx => by
      have := rowx.mem.mp hx
      omega
    have el := dI_len rs
    have hIt := dI_items hx100
    refine ⟨_, rfl, _, rfl, G1, dk, r, c1, _, dI rs, rfl, D1, by omega, pr, dI_dd rs, hIt, by omega, by omega, fun G2 H3 ov od t2 D2 qo co => ?_⟩
    refine ⟨_, rfl, _, rfl, _, rfl, _, rfl, _, rfl, G2, dk, r, _, _, dI rs, rfl, D2, by omega, Same.tup t2 pr, dI_dd rs, hIt, by omega, by omega, fun G3 H4 cv cd t3 D3 qc cc => ?_⟩
    have co38 : Cd 38 od := by
      obtain ⟨es, e1, e2, e3⟩ := co
      exact ⟨es, e1, by omega, e3⟩
    refine ⟨_, rfl, _, rfl, G3, dk, ov, _, od, rfl, D3, by omega, Same.dd t3 qo, co38, fun G4 H5 av ad c4 t4 D4 hc4 qa va => ?_⟩
    have pr4 := Same.tup (t2.trans (t3.trans t4)) pr
    refine ⟨_, rfl, _, rfl, catS_of (Same.tup D4.same pr4) (Same.tup D4.same pr4) (by rw [List.length_map]; omega) fun p H6 s6 h6 => ?_⟩
    obtain ⟨G5, t5, D5, g5⟩ := D4.grow s6
    have h6' := grow_tup g5 h6
    refine ⟨by show 5 ≤ sizeLine; decide, fun l el1 => ?_⟩
    obtain ⟨G6, t6, D6, k6, _⟩ := D5.add (.lst [.ref r, ov, cv, av, .ref p]) el1
    have t1_6 := t1.trans (t2.trans (t3.trans (t4.trans (t5.trans t6))))
    have lx := DdAll.len hA
    refine ⟨vl, l, xs, _, rfl, rfl, D6.same _ _ (t1_6 _ _ kx), D6.same _ _ k6, sz _ (by rw [lx]; show ds.length + 5 ≤ 1000; omega), fun vn evn => ?_⟩
    obtain ⟨G7, t7, D7, k7, _⟩ := D6.add (.lst (xs ++ [.ref r, ov, cv, av, .ref p])) evn
    have pr7 := Same.tup (t2.trans (t3.trans (t4.trans (t5.trans (t6.trans t7))))) pr
    have new : DdAll K G7 [.ref r, ov, cv, av, .ref p] [rowD rs, od, cd, ad, .tuple (dI rs ++ dI rs)] :=
      .cons (rowD_dd pr7) (.cons (Same.dd (t3.trans (t4.trans (t5.trans (t6.trans t7)))) qo) (.cons (Same.dd (t4.trans (t5.trans (t6.trans t7))) qc) (.cons (Same.dd (t5.trans (t6.trans t7)) qa)
        (.cons (.tup (Same.tup (t6.trans t7) h6') ((dI_dd rs).app (dI_dd rs))) .nil))))
    have big : ∀ {d : PyData}, Cd (rs.length + 1) d → Val d := fun ⟨es, e1, e2, e3⟩ => .inr ⟨es, e1, by omega, e3⟩
    rw [el] at co cc
    have newV : Vals' [rowD rs, od, cd, ad, .tuple (dI rs ++ dI rs)] := fun d hd => by
      simp only [List.mem_cons, List.not_mem_nil, or_false] at hd
      rcases hd with rfl | rfl | rfl | rfl | rfl
      · exact .inr ⟨dI rs, .inl rfl, by omega, hIt⟩
      · exact big co
      · exact big cc
      · exact va
      · exact .inr ⟨_, .inl rfl, by rw [List.length_append]; omega, hIt.app hIt⟩
    refine ⟨_, rfl, .ref r, rowD rs, rfl, rowD_dd (Same.tup D7.same pr7), fun H8 s8 => ?_⟩
    rw [row_ok rowx l1 (by omega)]
    refine ⟨_, _, rfl, rfl, _, rfl, ?_⟩
    refine iteF ?_
    obtain ⟨G8, t8, D8, _⟩ := D7.grow s8
    exact ⟨G8, c4, vn, _, _, _, _, _, _, _, _, rfl, D8, by omega, t8 _ _ k7, (Same.ddAll (t1_6.trans (t7.trans t8)) hA).app (Same.ddAll t8 new), hV.app newV, by rw [List.length_append]; show ds.length + 5 ≤ _; omega⟩
  · clear st1 st2 st3 st4 Dv
    rintro σ H1 ⟨G, c, vl, xs, ds, v3, v4, v5, v6, v7, v8, rfl, D, hc, kx, hA, hV, hl⟩
    have hS1 : SqL K H1 vl xs := SqL.of (D.same _ _ kx)
    have hA1 := Same.ddAll D.same hA
    have lx := DdAll.len hA
    refine ⟨_, rfl, vl, rfl, ⟨xs, hS1⟩, ?_⟩
    refine for_list (K := K) (a := vl) (xs := xs) (fun i σ H' => ∃ (w6 w7 w8 : Option V), σ = [some (.ref a), some (.ref dk), some (.ref vl), v3, v4, v5, w6, w7, w8] ∧ Same H1 H') ⟨v6, v7, v8, rfl, Same.refl _⟩ (fun i σ H' _ z => ?_) (fun i x σ H2 hx z => ?_) (fun σ H2 z => ?_)
    · obtain ⟨w6, w7, w8, rfl, s1⟩ := z
      exact s1.seq hS1
    · obtain ⟨w6, w7, w8, rfl, s1⟩ := z
      have hi : i < ds.length := by rw [← lx]; exact (List.getElem?_eq_some_iff.mp hx).1
      obtain ⟨x', d, a1, a2, a3⟩ := DdAll.at hA1 hi
      rw [hx] at a1
      cases a1
      obtain ⟨sh1, sh2, sh3⟩ := (hV d (List.mem_of_getElem? a2)).shows
      have er := errOf_er d
      obtain ⟨sm1, sm2⟩ := Er.small er (isNone (errOf d))
      refine ⟨_, rfl, x, d, rfl, Same.dd s1 a3, sh1, sh2, sh3, _, rfl, x, d, rfl, Same.dd s1 a3, fun H3 du s3 hdu => ?_⟩
      refine ⟨_, _, rfl, ?_⟩
      have s13 := s1.trans s3
      have eb := Er.non er hdu
      refine ⟨_, rfl, x, d, rfl, Same.dd s13 a3, fun H4 re s4 hre => ?_⟩
      refine ⟨_, rfl, x, d, rfl, Same.dd (s13.trans s4) a3, fun H5 s5 => ?_⟩
      refine ⟨by show 2 ≤ sizeLine; decide, fun l1 e1 => ?_⟩
      have s6 : Same H5 (upd H5 l1 (.lst [re, .bl (isNone (errOf d))])) := same_new e1
      refine ⟨_, rfl, _, rfl, rfl, by show 2 ≤ sizeLine; decide, fun l2 e2 => ?_⟩
      have s7 : Same (upd H5 l1 (.lst [re, .bl (isNone (errOf d))])) (upd (upd H5 l1 (.lst [re, .bl (isNone (errOf d))])) l2 (.lst [du, .bl (decide (du = .non))])) := same_new e2
      refine ⟨_, _, .list [errOf d, .bool (isNone (errOf d))], rfl, pair_dp (s7 _ _ upd_same) (Same.dp (s5.trans (s6.trans s7)) hre), pair_dp (by rw [upd_same, eb]) (Same.dp (s4.trans (s5.trans (s6.trans s7))) hdu), by omega, sm1, by omega, fun H8 s8 => ⟨_, rfl, ?_⟩⟩
      refine iteF ?_
      have s18 := s13.trans (s4.trans (s5.trans (s6.trans (s7.trans s8))))
      refine ⟨_, rfl, x, d, rfl, Same.dd s18 a3, sh1, sh2, sh3, _, rfl, rfl, _, rfl, ?_⟩
      refine iteNS rfl ?_
      exact ⟨_, _, _, rfl, s18⟩
    · obtain ⟨w6, w7, w8, rfl, s1⟩ := z
      refine ⟨by show 6 ≤ sizeLine; decide, fun l1 e1 => ⟨by show 6 ≤ sizeLine; decide, fun l2 e2 => ?_⟩⟩
      exact ⟨_, _, .list [.int 12, .int 60, .int 20, .int 4, .int 60, .int 20], rfl, six_dp (same_new e2 _ _ upd_same), six_dp upd_same, by decide +kernel, by decide +kernel, by decide +kernel, fun H' _ => k _⟩
end
end K1

namespace K1
open PySem L2 Rf
theorem all_mk {l : PySem.W.OpenLaw} {w : World} {K : PySem.W.Frag} {h : Heap} {mg : Str → Option Value} {fa f1 f2 f3 f4 f5 f6 f7 f8 f9 f10 f11 f12 f13 f14 f15 f16 f17 : Addr} (X : K.In h) (G : h.Ns mainGlobals mg) (hfa : mg "law" = some (.ref fa))
    {od1 od2 od3 od4 od5 od6 od7 od8 od9 od10 od11 od12 od13 od14 od15 od16 od17 an1 an2 an3 an4 an5 an6 an7 an8 an9 an10 an11 an12 an13 an14 an15 an16 an17 : Option Addr} {sl1 sl2 sl3 sl4 sl5 sl6 sl7 sl8 sl9 sl10 sl11 sl12 sl13 sl14 sl15 sl16 sl17 : Array (Option Value)} {oc1 oc2 oc3 oc4 oc5 oc6 oc7 oc8 oc9 oc10 oc11 oc12 oc13 oc14 oc15 oc16 oc17 kV1 kV2 kV3 kV4 kV5 kV6 kV7 kV8 kV9 kV10 kV11 kV12 kV13 kV14 kV15 kV16 kV17 dc1 dc2 dc3 dc4 dc5 dc6 dc7 dc8 dc9 dc10 dc11 dc12 dc13 dc14 dc15 dc16 dc17 pm1 pm2 pm3 pm4 pm5 pm6 pm7 pm8 pm9 pm10 pm11 pm12 pm13 pm14 pm15 pm16 pm17 cd1 cd2 cd3 cd4 cd5 cd6 cd7 cd8 cd9 cd10 cd11 cd12 cd13 cd14 cd15 cd16 cd17 ct1 ct2 ct3 ct4 ct5 ct6 ct7 ct8 ct9 ct10 ct11 ct12 ct13 ct14 ct15 ct16 ct17 : Value}
    (a1 : PySem.W.nsIn K mainGlobals "is_between" = some (some (.ref f1)))
    (l1 : K.lookup f1 = some ⟨oc1, od1, .func (PySem.W.fnOf "is_between" "is_between" (defArgs sBetween) (defBody sBetween) (defScope sBetween) .none kV1 dc1 pm1 an1 cd1 ct1), sl1⟩)
    (c1 : PySem.W.codeIn K cd1 "is_between" = true) (k1 : PySem.W.keepIn K (.ref f1) = true)
    (a2 : PySem.W.nsIn K mainGlobals "is_index" = some (some (.ref f2)))
    (l2 : K.lookup f2 = some ⟨oc2, od2, .func (PySem.W.fnOf "is_index" "is_index" (defArgs sIndex) (defBody sIndex) (defScope sIndex) .none kV2 dc2 pm2 an2 cd2 ct2), sl2⟩)
    (c2 : PySem.W.codeIn K cd2 "is_index" = true) (k2 : PySem.W.keepIn K (.ref f2) = true)
    (a3 : PySem.W.nsIn K mainGlobals "error_within" = some (some (.ref f3)))
    (l3 : K.lookup f3 = some ⟨oc3, od3, .func (PySem.W.fnOf "error_within" "error_within" (defArgs sWithin) (defBody sWithin) (defScope sWithin) .none kV3 dc3 pm3 an3 cd3 ct3), sl3⟩)
    (c3 : PySem.W.codeIn K cd3 "error_within" = true) (k3 : PySem.W.keepIn K (.ref f3) = true)
    (a4 : PySem.W.nsIn K mainGlobals "row_error" = some (some (.ref f4)))
    (l4 : K.lookup f4 = some ⟨oc4, od4, .func (PySem.W.fnOf "row_error" "row_error" (defArgs sRowErr) (defBody sRowErr) (defScope sRowErr) .none kV4 dc4 pm4 an4 cd4 ct4), sl4⟩)
    (c4 : PySem.W.codeIn K cd4 "row_error" = true) (k4 : PySem.W.keepIn K (.ref f4) = true)
    (a5 : PySem.W.nsIn K mainGlobals "is_row" = some (some (.ref f5)))
    (l5 : K.lookup f5 = some ⟨oc5, od5, .func (PySem.W.fnOf "is_row" "is_row" (defArgs sIsRow) (defBody sIsRow) (defScope sIsRow) .none kV5 dc5 pm5 an5 cd5 ct5), sl5⟩)
    (c5 : PySem.W.codeIn K cd5 "is_row" = true) (k5 : PySem.W.keepIn K (.ref f5) = true)
    (a6 : PySem.W.nsIn K mainGlobals "_law_deck" = some (some (.ref f6)))
    (l6 : K.lookup f6 = some ⟨oc6, od6, .func (PySem.W.fnOf "_law_deck" "_law_deck" (defArgs sDeck) (defBody sDeck) (defScope sDeck) .none kV6 dc6 pm6 an6 cd6 ct6), sl6⟩)
    (c6 : PySem.W.codeIn K cd6 "_law_deck" = true) (k6 : PySem.W.keepIn K (.ref f6) = true)
    (a7 : PySem.W.nsIn K mainGlobals "_law_next" = some (some (.ref f7)))
    (l7 : K.lookup f7 = some ⟨oc7, od7, .func (PySem.W.fnOf "_law_next" "_law_next" (defArgs sNext) (defBody sNext) (defScope sNext) .none kV7 dc7 pm7 an7 cd7 ct7), sl7⟩)
    (c7 : PySem.W.codeIn K cd7 "_law_next" = true) (k7 : PySem.W.keepIn K (.ref f7) = true)
    (a8 : PySem.W.nsIn K mainGlobals "_law_same" = some (some (.ref f8)))
    (l8 : K.lookup f8 = some ⟨oc8, od8, .func (PySem.W.fnOf "_law_same" "_law_same" (defArgs sSame) (defBody sSame) (defScope sSame) .none kV8 dc8 pm8 an8 cd8 ct8), sl8⟩)
    (c8 : PySem.W.codeIn K cd8 "_law_same" = true) (k8 : PySem.W.keepIn K (.ref f8) = true)
    (a9 : PySem.W.nsIn K mainGlobals "_law_mixed" = some (some (.ref f9)))
    (l9 : K.lookup f9 = some ⟨oc9, od9, .func (PySem.W.fnOf "_law_mixed" "_law_mixed" (defArgs sMixed) (defBody sMixed) (defScope sMixed) .none kV9 dc9 pm9 an9 cd9 ct9), sl9⟩)
    (c9 : PySem.W.codeIn K cd9 "_law_mixed" = true) (k9 : PySem.W.keepIn K (.ref f9) = true)
    (a10 : PySem.W.nsIn K mainGlobals "_law_beside" = some (some (.ref f10)))
    (l10 : K.lookup f10 = some ⟨oc10, od10, .func (PySem.W.fnOf "_law_beside" "_law_beside" (defArgs sBeside) (defBody sBeside) (defScope sBeside) .none kV10 dc10 pm10 an10 cd10 ct10), sl10⟩)
    (c10 : PySem.W.codeIn K cd10 "_law_beside" = true) (k10 : PySem.W.keepIn K (.ref f10) = true)
    (a11 : PySem.W.nsIn K mainGlobals "_law_row" = some (some (.ref f11)))
    (l11 : K.lookup f11 = some ⟨oc11, od11, .func (PySem.W.fnOf "_law_row" "_law_row" (defArgs sRow) (defBody sRow) (defScope sRow) .none kV11 dc11 pm11 an11 cd11 ct11), sl11⟩)
    (c11 : PySem.W.codeIn K cd11 "_law_row" = true) (k11 : PySem.W.keepIn K (.ref f11) = true)
    (a12 : PySem.W.nsIn K mainGlobals "_law_odd" = some (some (.ref f12)))
    (l12 : K.lookup f12 = some ⟨oc12, od12, .func (PySem.W.fnOf "_law_odd" "_law_odd" (defArgs sOdd) (defBody sOdd) (defScope sOdd) .none kV12 dc12 pm12 an12 cd12 ct12), sl12⟩)
    (c12 : PySem.W.codeIn K cd12 "_law_odd" = true) (k12 : PySem.W.keepIn K (.ref f12) = true)
    (a13 : PySem.W.nsIn K mainGlobals "_law_integer" = some (some (.ref f13)))
    (l13 : K.lookup f13 = some ⟨oc13, od13, .func (PySem.W.fnOf "_law_integer" "_law_integer" (defArgs sInteger) (defBody sInteger) (defScope sInteger) .none kV13 dc13 pm13 an13 cd13 ct13), sl13⟩)
    (c13 : PySem.W.codeIn K cd13 "_law_integer" = true) (k13 : PySem.W.keepIn K (.ref f13) = true)
    (a14 : PySem.W.nsIn K mainGlobals "_law_error" = some (some (.ref f14)))
    (l14 : K.lookup f14 = some ⟨oc14, od14, .func (PySem.W.fnOf "_law_error" "_law_error" (defArgs sError) (defBody sError) (defScope sError) .none kV14 dc14 pm14 an14 cd14 ct14), sl14⟩)
    (c14 : PySem.W.codeIn K cd14 "_law_error" = true) (k14 : PySem.W.keepIn K (.ref f14) = true)
    (a15 : PySem.W.nsIn K mainGlobals "_law_changed" = some (some (.ref f15)))
    (l15 : K.lookup f15 = some ⟨oc15, od15, .func (PySem.W.fnOf "_law_changed" "_law_changed" (defArgs sChanged) (defBody sChanged) (defScope sChanged) .none kV15 dc15 pm15 an15 cd15 ct15), sl15⟩)
    (c15 : PySem.W.codeIn K cd15 "_law_changed" = true) (k15 : PySem.W.keepIn K (.ref f15) = true)
    (a16 : PySem.W.nsIn K mainGlobals "_law_again" = some (some (.ref f16)))
    (l16 : K.lookup f16 = some ⟨oc16, od16, .func (PySem.W.fnOf "_law_again" "_law_again" (defArgs sAgain) (defBody sAgain) (defScope sAgain) .none kV16 dc16 pm16 an16 cd16 ct16), sl16⟩)
    (c16 : PySem.W.codeIn K cd16 "_law_again" = true) (k16 : PySem.W.keepIn K (.ref f16) = true)
    (a17 : PySem.W.nsIn K mainGlobals "law" = some (some (.ref f17)))
    (l17 : K.lookup f17 = some ⟨oc17, od17, .func (PySem.W.fnOf "law" "law" (defArgs sLaw) (defBody sLaw) (defScope sLaw) .none kV17 dc17 pm17 an17 cd17 ct17), sl17⟩)
    (c17 : PySem.W.codeIn K cd17 "law" = true) (k17 : PySem.W.keepIn K (.ref f17) = true)
    (z1 : PySem.W.nsIn K mainGlobals "len" = some none)
    (z2 : PySem.W.nsIn K mainGlobals "abs" = some none)
    (z3 : PySem.W.nsIn K mainGlobals "int" = some none)
    (z4 : PySem.W.nsIn K mainGlobals "list" = some none)
    (z5 : PySem.W.nsIn K mainGlobals "tuple" = some none)
    (z6 : PySem.W.nsIn K mainGlobals "range" = some none)
    (z7 : PySem.W.nsIn K mainGlobals "sorted" = some none)
    (z8 : PySem.W.nsIn K mainGlobals "repr" = some none)
    (z9 : PySem.W.nsIn K mainGlobals "isinstance" = some none)
    (z10 : PySem.W.nsIn K mainGlobals "bool" = some none)
    (z11 : PySem.W.nsIn K mainGlobals "str" = some none)
    (z12 : PySem.W.nsIn K mainGlobals "enumerate" = some none)
    (z13 : PySem.W.nsIn K mainGlobals "sum" = some none)
    (z14 : PySem.W.nsIn K mainGlobals "max" = some none)
    (z15 : PySem.W.nsIn K mainGlobals "min" = some none)
    (z16 : PySem.W.nsIn K mainGlobals "all" = some none)
    (z17 : PySem.W.nsIn K mainGlobals "any" = some none)
    (z18 : PySem.W.nsIn K mainGlobals "zip" = some none)
    (z19 : PySem.W.nsIn K mainGlobals "set" = some none)
    {tk1 : Tok} (g1 : PySem.W.nsIn K mainGlobals "MAX_PLACES" = some (some (.int 12 tk1)))
    {tk2 : Tok} (g2 : PySem.W.nsIn K mainGlobals "MAX_COUNT" = some (some (.int 60 tk2)))
    {tk3 : Tok} (g3 : PySem.W.nsIn K mainGlobals "MAX_ENTRIES" = some (some (.int 20 tk3)))
    {tk4 : Tok} (g4 : PySem.W.nsIn K mainGlobals "MAX_LENGTH" = some (some (.int 4 tk4)))
    {tk5 : Tok} (g5 : PySem.W.nsIn K mainGlobals "EDITS" = some (some (.int 60 tk5)))
    {tk6 : Tok} (g6 : PySem.W.nsIn K mainGlobals "BATCH" = some (some (.int 20 tk6))) :
    ∃ fd : FuncData, (∀ (s : Shared) (u : Value), BindsTo s fd ⟨[u], []⟩ [("_law_script", u)]) ∧
      ∀ base : Heap, K.In base → base.Ns mainGlobals mg → FnG l.prog w K mg base CX0 6 fa fd ["_law_script"] (spLaw K) := by
  have e := hfa.symm.trans (PySem.W.mg_of X G a17)
  cases e
  have T : Txt mg := ⟨PySem.W.mg_none_of X G z1, PySem.W.mg_none_of X G z2, PySem.W.mg_none_of X G z3, PySem.W.mg_none_of X G z4, PySem.W.mg_none_of X G z5, PySem.W.mg_none_of X G z6, PySem.W.mg_none_of X G z7, PySem.W.mg_none_of X G z8, PySem.W.mg_none_of X G z9, PySem.W.mg_none_of X G z10, PySem.W.mg_none_of X G z11, PySem.W.mg_none_of X G z12, PySem.W.mg_none_of X G z13, PySem.W.mg_none_of X G z14, PySem.W.mg_none_of X G z15, PySem.W.mg_none_of X G z16, PySem.W.mg_none_of X G z17, PySem.W.mg_none_of X G z18, PySem.W.mg_none_of X G z19⟩
  have GK : Gk mg := ⟨⟨_, PySem.W.mg_of X G g1⟩, ⟨_, PySem.W.mg_of X G g2⟩, ⟨_, PySem.W.mg_of X G g3⟩, ⟨_, PySem.W.mg_of X G g4⟩, ⟨_, PySem.W.mg_of X G g5⟩, ⟨_, PySem.W.mg_of X G g6⟩⟩
  have F1 := fun_mk (st := sBetween) l1 c1 k1
  have m1 := PySem.W.mg_of X G a1
  have b1 := F1.binds (ps := ["value", "least", "most"]) fun _ _ _ _ _ _ us hl => match us, hl with | [_, _, _], _ => rfl
  have F2 := fun_mk (st := sIndex) l2 c2 k2
  have m2 := PySem.W.mg_of X G a2
  have b2 := F2.binds (ps := ["value", "limit"]) fun _ _ _ _ _ _ us hl => match us, hl with | [_, _], _ => rfl
  have F3 := fun_mk (st := sWithin) l3 c3 k3
  have m3 := PySem.W.mg_of X G a3
  have b3 := F3.binds (ps := ["value", "most"]) fun _ _ _ _ _ _ us hl => match us, hl with | [_, _], _ => rfl
  have F4 := fun_mk (st := sRowErr) l4 c4 k4
  have m4 := PySem.W.mg_of X G a4
  have b4 := F4.binds (ps := ["value"]) fun _ _ _ _ _ _ us hl => match us, hl with | [_], _ => rfl
  have F5 := fun_mk (st := sIsRow) l5 c5 k5
  have m5 := PySem.W.mg_of X G a5
  have b5 := F5.binds (ps := ["value"]) fun _ _ _ _ _ _ us hl => match us, hl with | [_], _ => rfl
  have F6 := fun_mk (st := sDeck) l6 c6 k6
  have m6 := PySem.W.mg_of X G a6
  have b6 := F6.binds (ps := ["_law_script"]) fun _ _ _ _ _ _ us hl => match us, hl with | [_], _ => rfl
  have F7 := fun_mk (st := sNext) l7 c7 k7
  have m7 := PySem.W.mg_of X G a7
  have b7 := F7.binds (ps := ["_law_deck_here", "_law_many"]) fun _ _ _ _ _ _ us hl => match us, hl with | [_, _], _ => rfl
  have F8 := fun_mk (st := sSame) l8 c8 k8
  have m8 := PySem.W.mg_of X G a8
  have b8 := F8.binds (ps := ["_law_found", "_law_due"]) fun _ _ _ _ _ _ us hl => match us, hl with | [_, _], _ => rfl
  have F9 := fun_mk (st := sMixed) l9 c9 k9
  have m9 := PySem.W.mg_of X G a9
  have b9 := F9.binds (ps := ["_law_deck_here", "_law_items"]) fun _ _ _ _ _ _ us hl => match us, hl with | [_, _], _ => rfl
  have F10 := fun_mk (st := sBeside) l10 c10 k10
  have m10 := PySem.W.mg_of X G a10
  have b10 := F10.binds (ps := ["_law_one", "_law_other", "_law_is_falling"]) fun _ _ _ _ _ _ us hl => match us, hl with | [_, _, _], _ => rfl
  have F11 := fun_mk (st := sRow) l11 c11 k11
  have m11 := PySem.W.mg_of X G a11
  have b11 := F11.binds (ps := ["_law_deck_here", "_law_limit"]) fun _ _ _ _ _ _ us hl => match us, hl with | [_, _], _ => rfl
  have F12 := fun_mk (st := sOdd) l12 c12 k12
  have m12 := PySem.W.mg_of X G a12
  have b12 := F12.binds (ps := ["_law_deck_here"]) fun _ _ _ _ _ _ us hl => match us, hl with | [_], _ => rfl
  have F13 := fun_mk (st := sInteger) l13 c13 k13
  have m13 := PySem.W.mg_of X G a13
  have b13 := F13.binds (ps := ["_law_value", "_law_low", "_law_high"]) fun _ _ _ _ _ _ us hl => match us, hl with | [_, _, _], _ => rfl
  have F14 := fun_mk (st := sError) l14 c14 k14
  have m14 := PySem.W.mg_of X G a14
  have b14 := F14.binds (ps := ["_law_value"]) fun _ _ _ _ _ _ us hl => match us, hl with | [_], _ => rfl
  have F15 := fun_mk (st := sChanged) l15 c15 k15
  have m15 := PySem.W.mg_of X G a15
  have b15 := F15.binds (ps := ["_law_deck_here", "_law_row_here"]) fun _ _ _ _ _ _ us hl => match us, hl with | [_, _], _ => rfl
  have F16 := fun_mk (st := sAgain) l16 c16 k16
  have m16 := PySem.W.mg_of X G a16
  have b16 := F16.binds (ps := ["_law_deck_here", "_law_value"]) fun _ _ _ _ _ _ us hl => match us, hl with | [_, _], _ => rfl
  have F17 := fun_mk (st := sLaw) l17 c17 k17
  have m17 := PySem.W.mg_of X G a17
  refine ⟨PySem.W.fnOf "law" "law" (defArgs sLaw) (defBody sLaw) (defScope sLaw) .none kV17 dc17 pm17 an17 cd17 ct17, fun s u => .of_eq rfl, fun base _ _ => ?_⟩
  let D_is_between : Dfn l.prog w K mg base "is_between" 1 ["value", "least", "most"] (spBetween K) := ⟨f1, _, ok_between F1 T, m1, k1, b1⟩
  let D_is_index : Dfn l.prog w K mg base "is_index" 2 ["value", "limit"] (spIndex K) := ⟨f2, _, ok_index F2 T D_is_between, m2, k2, b2⟩
  let D_error_within : Dfn l.prog w K mg base "error_within" 3 ["value", "most"] (spWithin K) := ⟨f3, _, ok_within F3 T D_is_index, m3, k3, b3⟩
  let D_row_error : Dfn l.prog w K mg base "row_error" 4 ["value"] (spErr K) := ⟨f4, _, ok_rowErr F4 T GK D_error_within, m4, k4, b4⟩
  let D_is_row : Dfn l.prog w K mg base "is_row" 5 ["value"] (spIsRow K) := ⟨f5, _, ok_isRow F5 T D_row_error, m5, k5, b5⟩
  let D__law_deck : Dfn l.prog w K mg base "_law_deck" 1 ["_law_script"] (spDeck K) := ⟨f6, _, ok_deck F6 T, m6, k6, b6⟩
  let D__law_next : Dfn l.prog w K mg base "_law_next" 1 ["_law_deck_here", "_law_many"] spNext := ⟨f7, _, ok_next F7 T, m7, k7, b7⟩
  let D__law_same : Dfn l.prog w K mg base "_law_same" 3 ["_law_found", "_law_due"] (spSame K 3) := ⟨f8, _, same_all F8 T m8 b8 3, m8, k8, b8⟩
  let D__law_mixed : Dfn l.prog w K mg base "_law_mixed" 2 ["_law_deck_here", "_law_items"] (spMixed K) := ⟨f9, _, ok_mixed F9 T D__law_next, m9, k9, b9⟩
  let D__law_beside : Dfn l.prog w K mg base "_law_beside" 1 ["_law_one", "_law_other", "_law_is_falling"] (spBeside K) := ⟨f10, _, ok_beside F10 T, m10, k10, b10⟩
  let D__law_row : Dfn l.prog w K mg base "_law_row" 3 ["_law_deck_here", "_law_limit"] (spRow K) := ⟨f11, _, ok_row F11 T D__law_next D__law_mixed D__law_beside, m11, k11, b11⟩
  let D__law_odd : Dfn l.prog w K mg base "_law_odd" 2 ["_law_deck_here"] (spOdd K) := ⟨f12, _, ok_odd F12 T D__law_next, m12, k12, b12⟩
  let D__law_integer : Dfn l.prog w K mg base "_law_integer" 1 ["_law_value", "_law_low", "_law_high"] (spInteger K) := ⟨f13, _, ok_integer F13 T, m13, k13, b13⟩
  let D__law_error : Dfn l.prog w K mg base "_law_error" 2 ["_law_value"] (spErr K) := ⟨f14, _, ok_error F14 T D__law_integer, m14, k14, b14⟩
  let D__law_changed : Dfn l.prog w K mg base "_law_changed" 3 ["_law_deck_here", "_law_row_here"] (spChanged K) := ⟨f15, _, ok_changed F15 T D__law_next D__law_odd, m15, k15, b15⟩
  let D__law_again : Dfn l.prog w K mg base "_law_again" 4 ["_law_deck_here", "_law_value"] (spAgain K) := ⟨f16, _, ok_again F16 T D__law_changed D__law_odd, m16, k16, b16⟩
  exact ok_law F17 T GK D__law_deck D__law_row D__law_changed D__law_again D__law_same D__law_error D_row_error D_is_row
theorem walk {l : PySem.W.OpenLaw} {q : Program} {loose : List Str} {XP : (Str → Option Value) → Heap → Prop} {YP : World → Heap → Prop} {d : DefRec} {K : Params → PySem.W.Frag}
    (hn : l.most = some 63) (hdf : d.params.defaults = []) (hY : ∀ (w : World) (h : Heap), YP w h → (K w.params).In h)
    (F : ∀ (w : World) (mg : Str → Option Value) (fa : Addr) (h : Heap), (K w.params).In h → h.Ns mainGlobals mg → mg d.name = some (.ref fa) →
      ∃ fd : FuncData, (∀ (s : Shared) (u : Value), BindsTo s fd ⟨[u], []⟩ [("_law_script", u)]) ∧ ∀ base : Heap, (K w.params).In base → base.Ns mainGlobals mg →
        FnG l.prog w (K w.params) mg base CX0 6 fa fd ["_law_script"] (spLaw (K w.params))) :
    PySem.W.WalkO q loose XP YP l.row.toRowW d [] (fun f vs => PySem.call f vs) :=
  walk_ofG (n := 63) (k := 6) (x := "_law_script") (sp := spLaw) hn (by decide) hdf ⟨rfl, by decide, by decide⟩ hY F (fun _ _ a ns hl hS => ⟨a, ns, rfl, hS, hl, fun _ => rfl⟩)
end K1
open PySem PySem.W PyProof.Rows
set_option maxRecDepth 100000 in
set_option maxHeartbeats 0 in
theorem PySem.Challenge.cw_rowfolds_k01_rows_and_their_errors_holds : PySem.Challenge.rw_rowfolds_k01_rows_and_their_errors.Holds := by
  w_on; o_law; k_head; (case hw => w_witness2)
  k_fill
  refine K1.walk (l := PySem.Challenge.rw_rowfolds_k01_rows_and_their_errors) rfl rfl (fun w h Y => PySem.W.kIn_of Y) ?F
  case F =>
    intro w mg fa h KX G hmg
    refine' K1.all_mk KX G hmg ?a1 ?l1 ?c1 ?k1 ?a2 ?l2 ?c2 ?k2 ?a3 ?l3 ?c3 ?k3 ?a4 ?l4 ?c4 ?k4 ?a5 ?l5 ?c5 ?k5 ?a6 ?l6 ?c6 ?k6 ?a7 ?l7 ?c7 ?k7 ?a8 ?l8 ?c8 ?k8 ?a9 ?l9 ?c9 ?k9 ?a10 ?l10 ?c10 ?k10 ?a11 ?l11 ?c11 ?k11 ?a12 ?l12 ?c12 ?k12 ?a13 ?l13 ?c13 ?k13 ?a14 ?l14 ?c14 ?k14 ?a15 ?l15 ?c15 ?k15 ?a16 ?l16 ?c16 ?k16 ?a17 ?l17 ?c17 ?k17 ?z1 ?z2 ?z3 ?z4 ?z5 ?z6 ?z7 ?z8 ?z9 ?z10 ?z11 ?z12 ?z13 ?z14 ?z15 ?z16 ?z17 ?z18 ?z19 ?g1 ?g2 ?g3 ?g4 ?g5 ?g6
    (case a1 => k_is); (case l1 => k_is); (case c1 => k_is); (case k1 => k_is)
    (case a2 => k_is); (case l2 => k_is); (case c2 => k_is); (case k2 => k_is)
    (case a3 => k_is); (case l3 => k_is); (case c3 => k_is); (case k3 => k_is)
    (case a4 => k_is); (case l4 => k_is); (case c4 => k_is); (case k4 => k_is)
    (case a5 => k_is); (case l5 => k_is); (case c5 => k_is); (case k5 => k_is)
    (case a6 => k_is); (case l6 => k_is); (case c6 => k_is); (case k6 => k_is)
    (case a7 => k_is); (case l7 => k_is); (case c7 => k_is); (case k7 => k_is)
    (case a8 => k_is); (case l8 => k_is); (case c8 => k_is); (case k8 => k_is)
    (case a9 => k_is); (case l9 => k_is); (case c9 => k_is); (case k9 => k_is)
    (case a10 => k_is); (case l10 => k_is); (case c10 => k_is); (case k10 => k_is)
    (case a11 => k_is); (case l11 => k_is); (case c11 => k_is); (case k11 => k_is)
    (case a12 => k_is); (case l12 => k_is); (case c12 => k_is); (case k12 => k_is)
    (case a13 => k_is); (case l13 => k_is); (case c13 => k_is); (case k13 => k_is)
    (case a14 => k_is); (case l14 => k_is); (case c14 => k_is); (case k14 => k_is)
    (case a15 => k_is); (case l15 => k_is); (case c15 => k_is); (case k15 => k_is)
    (case a16 => k_is); (case l16 => k_is); (case c16 => k_is); (case k16 => k_is)
    (case a17 => k_is); (case l17 => k_is); (case c17 => k_is); (case k17 => k_is)
    (case z1 => k_is)
    (case z2 => k_is)
    (case z3 => k_is)
    (case z4 => k_is)
    (case z5 => k_is)
    (case z6 => k_is)
    (case z7 => k_is)
    (case z8 => k_is)
    (case z9 => k_is)
    (case z10 => k_is)
    (case z11 => k_is)
    (case z12 => k_is)
    (case z13 => k_is)
    (case z14 => k_is)
    (case z15 => k_is)
    (case z16 => k_is)
    (case z17 => k_is)
    (case z18 => k_is)
    (case z19 => k_is)
    (case g1 => k_is)
    (case g2 => k_is)
    (case g3 => k_is)
    (case g4 => k_is)
    (case g5 => k_is)
    (case g6 => k_is)
namespace K1
end K1

