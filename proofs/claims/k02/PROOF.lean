import PyProof.Rows.All
import Wide.All
import OpenK.AllK
import Wide.FinOn
import PyProof.ReprRoads
import HandS.ForMost
import HandS.Wide
import HandS.NoneIn
import HandS.Conv
import HandS.TupAny
import HandS.IsInst
import HandS.Style
import PyProof.SliceList
import HandS.Strs
import PyProof.Rows.SortShell
import HandS.Ends
import PySem.Challenge.RW_rowfolds_k02_patterns_and_turned_rows
set_option Elab.async false
set_option linter.all false
set_option maxRecDepth 100000
set_option maxHeartbeats 8000000
/-! the hand layer's promise of a def, for callers that stand in no repr: what is wanted where repr is called -/
namespace Rf
open PySem PySem.Spec PyProof.Rows L2

/-- no repr runs around -/
abbrev Calm (A : Around) : Prop := A.guards = some []

structure FnG (P : Program) (w : World) (K : PySem.W.Frag) (mg : Str → Option Value) (base : Heap)
    (CX : CXT) (k : Nat) (f : Addr) (fd : FuncData) (ps : List Str) (sp : Sp) : Prop where
  lenG : ∀ vs H Q E, sp vs H Q E → vs.length = ps.length
  runG : ∀ (A : Around) (outer : List Env) (s : Shared) (H : Hp) (args : Args) (us : List Value) (vs : List V) (Q : VK) (E : XK),
    Calm A → Room k A → Env0 P w K mg base A outer s H → BindsTo s fd args (ps.zip us) → Vals vs us → sp vs H Q E →
      codeAny (model P w) A (.call (.ref f) args) (CR CX outer P w H s Q E) s

section
variable {P : Program} {w : World} {K : PySem.W.Frag} {mg : Str → Option Value} {base : Heap} {CX : CXT}
theorem FnG.of {k : Nat} {f : Addr} {fd : FuncData} {ps : List Str} {sp : Sp} (F : FnOk P w K mg base CX k f fd ps sp) :
    FnG P w K mg base CX k f fd ps sp :=
  ⟨F.len, fun A o s H args us vs Q E _ hr => F.run A o s H args us vs Q E hr⟩
theorem FnG.mono {j k : Nat} {f : Addr} {fd : FuncData} {ps : List Str} {sp : Sp} (F : FnG P w K mg base CX j f fd ps sp) (h : j ≤ k) :
    FnG P w K mg base CX k f fd ps sp :=
  ⟨F.lenG, fun A o s H args us vs Q E hc hr => F.runG A o s H args us vs Q E hc (hr.mono h)⟩

/-- a def by its body, where no repr runs around -/
theorem g_of {k : Nat} {f : Addr} {name qual : Str} {params : Arguments} {body : List Stmt} {scope : Scope}
    {dV kV doc pm cdv ct oc : Value} {an od : Option Addr} {osl : Array (Option Value)} {N ps : List Str} {sp : Sp}
    (lk : K.lookup f = some ⟨oc, od, .func (PySem.W.fnOf name qual params body scope dV kV doc pm an cdv ct), osl⟩)
    (hcd : PySem.W.codeIn K cdv qual = true) (S : FnScope N ps scope)
    (len : ∀ vs H Q E, sp vs H Q E → vs.length = ps.length)
    (hbody : ∀ (A : Around) (outer : List Env) (s : Shared) (H : Hp) (vs : List V) (Q : VK) (E : XK), Calm A →
      Room k (A.deeper (envOfC qual scope s.heap.objs.size f cdv)) → sp vs H Q E →
        ∃ t, PSs (cxOf CX P w K mg base N qual scope f cdv A outer s H E) body t ∧
          t { nx := fun _ H' => Q .non H', rt := Q } (start N vs) H) :
    FnG P w K mg base CX (k + 1) f (PySem.W.fnOf name qual params body scope dV kV doc pm an cdv ct) ps sp := by
  refine ⟨len, fun A outer s H args us vs Q E hcalm hr e0 hb r hsp => ?_⟩
  have hlen := len vs H Q E hsp
  have old : ∀ b o, base.get? b = some o → s.heap.get? b = some o := fun b o e => (e0.bs b o e).1
  have kin := e0.mod.kin.keeps old
  have kinds : ∀ y ∈ ps.zip us, scope.names.lookup y.1 = some .local ∨
      (scope.names.lookup y.1 = some .cell ∧ ((cellsFrom (s.heap.objs.size + 1) scope.names []).lookup y.1).isSome = true) := by
    rintro ⟨n, v⟩ hy
    have hm := (List.of_mem_zip hy).1
    cases S.par n hm with
    | inl q => exact Or.inl q
    | inr q => exact Or.inr ⟨q, PySem.W.cellsFrom_some _ _ _ (.inl q)⟩
  refine codeAny_call_function hr.depth (kin _ _ lk) rfl S.co S.gen rfl
    (PySem.W.codeRec_of kin hcd) (hb _ _ _ _ ?_)
  refine wpAny_newFunctionEnv_cells S.kind kinds fun env he s1 x => ?_
  subst he
  refine ⟨(e0.mod.nolimit.keeps old).keeps x.toInCall.keep, codeAny_func ?_⟩
  obtain ⟨t, ht, hq⟩ := hbody A outer s H vs Q E hcalm (hr.deeper _) hsp
  have J0 := inv_start (CX := CX) (E := E) (N := N) S hr.hd e0 hlen r x
  refine wpAny_mono (ht.run [] s1 (start N vs) H _ J0 hq) (fun fl s' hs => ?_) (fun _ _ z => z)
  cases fl with
  | ret u =>
    obtain ⟨v, σ', H', J, rv, q⟩ := hs
    exact ⟨v, H', J.os, J.bare, J.base, J.hok, rv, q⟩
  | next =>
    obtain ⟨σ', H', J, q⟩ := hs
    exact ⟨V.non, H', J.os, J.bare, J.base, J.hok, rfl, q⟩
  | brk =>
    obtain ⟨_, _, _, q⟩ := hs
    exact q.elim
  | cont =>
    obtain ⟨_, _, _, q⟩ := hs
    exact q.elim

theorem okG {x qual : Str} {st : Stmt} {f : Addr} {fd : FuncData} {N ps : List Str} {k : Nat} {sp : Sp} (F : Fun K x qual st f fd)
    (S : FnScope N ps (defScope st)) (len : ∀ vs H Q E, sp vs H Q E → vs.length = ps.length)
    (hbody : ∀ (cdv : Value) (A : Around) (outer : List Env) (s : Shared) (H : Hp) (vs : List V) (Q : VK) (E : XK), Calm A →
      Room k (A.deeper (envOfC qual (defScope st) s.heap.objs.size f cdv)) → sp vs H Q E →
        ∃ t, PSs (cxOf CX0 P w K mg base N qual (defScope st) f cdv A outer s H E).nox (defBody st) t ∧
          t { nx := fun _ H' => Q .non H', rt := Q } (start N vs) H) : FnG P w K mg base CX0 (k + 1) f fd ps sp := by
  obtain ⟨oc, od, kV, doc, pm, an, cdv, ct, osl, rfl, lk, hcd⟩ := F.ex
  refine g_of lk hcd S len fun A outer s H vs Q E hc hr hsp => ?_
  obtain ⟨t, h, q⟩ := hbody cdv A outer s H vs Q E hc hr hsp
  exact ⟨t, h.nox, q⟩
end

section
variable {X : Cx} {CX : CXT} {k : Nat} {f : Addr} {fd : FuncData} {ps : List Str} {sp : Sp} {dvs : List V} {ds : List Value} {E : XK}
  {x : Str} {p pos : Pos} {e : Expr} {es : List Expr} {t : TA}
theorem run_g {pins : List (Addr × Obj)} {σ : L2.St} {H : Hp} {s : Shared} {Q : VK} {us : List Value} {vs : List V}
    (F : FnG X.prog X.w X.K X.mg X.base CX k f fd ps sp) (hcm : Calm X.A) (hr : Room k X.A) (hb : Binds X.K fd ps ds) (hd : Vals dvs ds)
    (hx : Passes CX X E) (I : Inv X pins σ H s) (r : Vals vs us) (h : sp (vs ++ dvs) H Q E) :
    wpAny (model X.prog X.w) X.A (call (.ref f) us) (EP X pins σ Q) X.xe s := by
  have rr : Vals (vs ++ dvs) (us ++ ds) := Vals.append r hd
  have hl : (us ++ ds).length = ps.length := rr.length.symm.trans (F.lenG _ _ _ _ h)
  have run := F.runG X.A X.stack s H ⟨us, []⟩ (us ++ ds) (vs ++ dvs) Q E hcm hr I.env0 (hb s us I.kIn hl) rr h
  refine wpAny_call (codeAny_mono run ?_)
  intro r s' hq
  match r, hq with
  | .error e, hq => exact hx pins σ H s e s' I hq
  | .ok (.ret u), hq => exact I.after hq
/-- f(e, ..), f known where no repr runs -/
theorem pe_callG (F : FnG X.prog X.w X.K X.mg X.base CX k f fd ps sp) (hcm : Calm X.A) (hr : Room k X.A) (hg : Gl X x)
    (hm : X.mg x = some (.ref f)) (hk : PySem.W.keepIn X.K (.ref f) = true) (hb : Binds X.K fd ps ds) (hd : Vals dvs ds)
    (hx : Passes CX X E) (ha : PA X (e :: es) t) (hdb : (x == ("__debug__" : Str)) = false := by decide)
    (he : starEach (e :: es) X.env = (false, eval e X.env) :: starEach es X.env := by rfl)
    (hpl : (backTo pos (starEach es X.env)).any (·.1) = false := by rfl) :
    PE X (.Call (.Name x p) (e :: es) [] pos) (tCall sp dvs E t) := by
  constructor
  intro pins s σ H Q I h
  apply wpAny_Call_Name_kw
  refine ld_glob I hg hm ?_ hdb
  refine PySem.W.callWith_K (h₀ := X.base) I.ok.mod.kin hk ?_ he hpl
  exact thn (ha.run pos pins s σ H _ I h) fun us s1 ⟨vs, H1, I1, r, q⟩ => ⟨I1.kIn, run_g F hcm hr hb hd hx I1 r q⟩
end

/-! ### repr -/
section
variable {X : Cx}
/-- repr of data: the text that the data has -/
def rRepr (K : PySem.W.Frag) : List V → Hp → VK → Prop := fun xs H Q => ∃ (a : Addr) (d : PyData),
  xs = [.ref a] ∧ Dp K H (.ref a) d ∧ d.showable = true ∧ d.hasDict = false ∧ d.depth ≤ 60 ∧ d.shown.length ≤ sizeLine ∧ Q (.str d.shown) H
theorem cr_repr (hcm : Calm X.A) (hu : X.A.units + 64 < cLine) : CallR X (.builtin "repr") (rRepr X.K) := by
  intro pins s σ H xs us Q I r h
  obtain ⟨a, d, rfl, hd, hs, hn, hdp, hz, q⟩ := h
  obtain ⟨u, rfl, ru⟩ := vals1 r
  obtain rfl : u = Value.ref a := ru
  obtain ⟨as, rd⟩ := Dp.reads I d _ _ hd rfl
  refine repr_of_reads' rd hs (PyData.noDict_hsm hn) hcm (by omega) (fun _ _ e => e) (fun h' u tk hk => ?_) hz
  exact ⟨.str d.shown, H, I.un (h' := h') (t' := tk) (Un.kept hk) (I.hok.kept hk), ⟨u, rfl⟩, q⟩
end
end Rf

namespace Rf
open PySem PySem.Spec PyProof.Rows L2

/-! ### defs, as they stand and as they promise -/
structure Raw (K : PySem.W.Frag) (mg : Str → Option Value) (x : Str) (st : Stmt) (ps : List Str) : Type where
  f : Addr
  fd : FuncData
  fn : Fun K x x st f fd
  mg : mg x = some (.ref f)
  bd : Binds K fd ps []
structure Dfn (P : Program) (w : World) (K : PySem.W.Frag) (mg : Str → Option Value) (base : Heap) (x : Str) (k : Nat) (ps : List Str) (sp : Sp) : Type where
  f : Addr
  fd : FuncData
  ok : FnOk P w K mg base CX0 k f fd ps sp
  mg : mg x = some (.ref f)
  kp : PySem.W.keepIn K (.ref f) = true
  bd : Binds K fd ps []
structure DfnG (P : Program) (w : World) (K : PySem.W.Frag) (mg : Str → Option Value) (base : Heap) (x : Str) (k : Nat) (ps : List Str) (sp : Sp) : Type where
  f : Addr
  fd : FuncData
  ok : FnG P w K mg base CX0 k f fd ps sp
  mg : mg x = some (.ref f)
  kp : PySem.W.keepIn K (.ref f) = true
  bd : Binds K fd ps []

/-! ### what the built-in names stand for -/
theorem bt_len : bootBuiltins "len" = some (.builtin "len") := by decide +kernel
theorem bt_abs : bootBuiltins "abs" = some (.builtin "abs") := by decide +kernel
theorem bt_sorted : bootBuiltins "sorted" = some (.builtin "sorted") := by decide +kernel
theorem bt_repr : bootBuiltins "repr" = some (.builtin "repr") := by decide +kernel
theorem bt_isinstance : bootBuiltins "isinstance" = some (.builtin "isinstance") := by decide +kernel
theorem bt_sum : bootBuiltins "sum" = some (.builtin "sum") := by decide +kernel
theorem bt_max : bootBuiltins "max" = some (.builtin "max") := by decide +kernel
theorem bt_min : bootBuiltins "min" = some (.builtin "min") := by decide +kernel
theorem bt_all : bootBuiltins "all" = some (.builtin "all") := by decide +kernel
theorem bt_any : bootBuiltins "any" = some (.builtin "any") := by decide +kernel
theorem bt_int : bootBuiltins "int" = some (.type "int") := by decide +kernel
theorem bt_list : bootBuiltins "list" = some (.type "list") := by decide +kernel
theorem bt_tuple : bootBuiltins "tuple" = some (.type "tuple") := by decide +kernel
theorem bt_bool : bootBuiltins "bool" = some (.type "bool") := by decide +kernel
theorem bt_str : bootBuiltins "str" = some (.type "str") := by decide +kernel
theorem bt_set : bootBuiltins "set" = some (.type "set") := by decide +kernel
theorem bt_dict : bootBuiltins "dict" = some (.type "dict") := by decide +kernel
theorem bt_range : bootBuiltins "range" = some (.type "range") := by decide +kernel
theorem bt_enumerate : bootBuiltins "enumerate" = some (.type "enumerate") := by decide +kernel
theorem bt_zip : bootBuiltins "zip" = some (.type "zip") := by decide +kernel

/-! ### heaps -/
theorem same_new {H : Hp} {p : Addr} {o : HO} (h : H p = none) : Same H (upd H p o) := fun b u q => by
  rw [upd_ne (ne_of_none q h)]
  exact q
theorem Same.tup {K : PySem.W.Frag} {H H' : Hp} {a : Addr} {xs : List V} (e : Same H H') (h : SqT K H a xs) : SqT K H' a xs := by
  rcases h with (h | ⟨o, h⟩) | h
  · exact .inl (.inl (e _ _ h))
  · exact .inl (.inr ⟨o, e _ _ h⟩)
  · exact .inr h
mutual
theorem Same.dp {K : PySem.W.Frag} {H H' : Hp} (e : Same H H') {v : V} {d : PyData} (h : Dp K H v d) : Dp K H' v d := by
  cases h with
  | non => exact .non
  | bl b => exact .bl b
  | int i => exact .int i
  | str x => exact .str x
  | lst h1 h2 => exact .lst (e.seq h1) (Same.dpAll e h2)
  | tup h1 h2 => exact .tup (Same.tup e h1) (Same.dpAll e h2)
theorem Same.dpAll {K : PySem.W.Frag} {H H' : Hp} (e : Same H H') {vs : List V} {ds : List PyData} (h : DpAll K H vs ds) : DpAll K H' vs ds := by
  cases h with
  | nil => exact .nil
  | cons h1 h2 => exact .cons (Same.dp e h1) (Same.dpAll e h2)
end

/-! ### the deck: a list of two lists of ints and a count; what else is known stands in H0, which knows nothing of the deck -/
structure Deck (H0 H : Hp) (a : Addr) (c : Int) : Prop where
  same : Same H0 H
  ex : ∃ (p q : Addr) (cs rs : List Int), H a = some (.lst [.ref p, .ref q, .int c]) ∧ H p = some (.lst (cs.map V.int)) ∧ H q = some (.lst (rs.map V.int)) ∧
    cs.length = rs.length ∧ 0 < cs.length ∧ cs.length ≤ 1000 ∧ H0 a = none ∧ H0 p = none ∧ H0 q = none ∧ p ≠ q
  low : 0 ≤ c
  hi : c ≤ 1000000
/-- a new object, known -/
theorem Deck.new {H0 H : Hp} {a : Addr} {c : Int} (D : Deck H0 H a c) {x : Addr} (o : HO) (hx : H x = none) : Deck (upd H0 x o) (upd H x o) a c := by
  obtain ⟨s, ⟨p, q, cs, rs, h1, h2, h3, e1, e2, e3, n1, n2, n3, e4⟩, lo, hi⟩ := D
  have x1 := ne_of_none h1 hx
  have x2 := ne_of_none h2 hx
  have x3 := ne_of_none h3 hx
  refine ⟨fun b u z => ?_, ⟨p, q, cs, rs, ?_, ?_, ?_, e1, e2, e3, ?_, ?_, ?_, e4⟩, lo, hi⟩
  · by_cases hb : b = x
    · rw [hb, upd_same] at z ⊢
      exact z
    · rw [upd_ne hb] at z ⊢
      exact s _ _ z
  all_goals first
    | (rw [upd_ne x1]; assumption)
    | (rw [upd_ne x2]; assumption)
    | (rw [upd_ne x3]; assumption)
/-- a known object is changed -/
theorem Deck.put {H0 H : Hp} {a : Addr} {c : Int} (D : Deck H0 H a c) {x : Addr} {u : HO} (o : HO) (hx : H0 x = some u) : Deck (upd H0 x o) (upd H x o) a c := by
  obtain ⟨s, ⟨p, q, cs, rs, h1, h2, h3, e1, e2, e3, n1, n2, n3, e4⟩, lo, hi⟩ := D
  have x1 : a ≠ x := (ne_of_none hx n1).symm
  have x2 : p ≠ x := (ne_of_none hx n2).symm
  have x3 : q ≠ x := (ne_of_none hx n3).symm
  refine ⟨fun b v z => ?_, ⟨p, q, cs, rs, ?_, ?_, ?_, e1, e2, e3, ?_, ?_, ?_, e4⟩, lo, hi⟩
  · by_cases hb : b = x
    · rw [hb, upd_same] at z ⊢
      exact z
    · rw [upd_ne hb] at z ⊢
      exact s _ _ z
  all_goals first
    | (rw [upd_ne x1]; assumption)
    | (rw [upd_ne x2]; assumption)
    | (rw [upd_ne x3]; assumption)
theorem Deck.free {H0 H : Hp} {a : Addr} {c : Int} (D : Deck H0 H a c) {x : Addr} (hx : H x = none) : H0 x = none := D.same.free hx

/-- next(deck, many): a number below many, one draw more -/
def spNext : Sp := fun vs H Q _ => ∃ (H0 : Hp) (a : Addr) (c m : Int), vs = [.ref a, .int m] ∧ Deck H0 H a c ∧ c < 1000000 ∧ 0 < m ∧ m < 2 ^ 100 ∧
  ∀ (H' : Hp) (d : Int), Deck H0 H' a (c + 1) → 0 ≤ d → d < m → Q (.int d) H'
end Rf

namespace Rf
open PySem PySem.Spec PyProof.Rows L2
/-! ### comprehensions whose tests and elements leave what is known -/
def Lc (J : It) (slot : Nat) (tt : TT) (te : TE) (σ : L2.St) (H1 : Hp) (D : Addr) (Qd : Hp → Prop) : Prop :=
  ∃ W : Nat → Nat → Hp → Prop,
    (∃ m, W 0 m (upd H1 D (.lst []))) ∧
    ∀ i m H, W i m H →
      (J.stop i H ∧ Qd H) ∨
      (J.go i H ∧ ∃ Nx : Hp → Prop,
        (∀ H', Nx H' → ∃ m', m' < m ∧ W (i + 1) m' H') ∧
        ∀ x H', J.yld i H x H' →
          gName slot x (wipe σ [slot]) H' fun σ2 H2 =>
            wipe σ2 [slot] = wipe σ [slot] ∧
            tt σ2 H2 fun b H3 =>
              if b = true then
                te σ2 H3 fun y H4 =>
                  ∃ acc, H4 D = some (.lst acc) ∧
                    acc.length < sizeLine ∧
                    Nx (upd H4 D (.lst (acc ++ [y])))
              else Nx H3)
/-- a test, an element that reckons and leaves what is known -/
def Tst (tt : TT) (σ : L2.St) (H : Hp) (b : Bool) : Prop := ∀ R : Bool → Hp → Prop, (∀ H', Same H H' → R b H') → tt σ H R
def Elt (te : TE) (σ : L2.St) (H : Hp) (v : V) : Prop := ∀ R : VK, (∀ H', Same H H' → R v H') → te σ H R
theorem tst_yes {σ : L2.St} {H : Hp} : Tst tYes σ H true := fun R h => h H (Same.refl H)

section
variable {K : PySem.W.Frag} {a D : Addr} {xs : List V} {slot : Nat} {tt : TT} {te : TE} {σ : L2.St} {H1 : Hp} {Qd : Hp → Prop} (p : V → Bool) (f : V → V)
theorem wipe_back {σ : L2.St} {slot : Nat} {x : V} : wipe ((wipe σ [slot]).set slot (some x)) [slot] = wipe σ [slot] := by
  show (((σ.set slot none).set slot (some x)).set slot none) = σ.set slot none
  rw [List.set_set, List.set_set]
theorem take_fm {i : Nat} {x : V} (h : xs[i]? = some x) : ((xs.take (i + 1)).filter p).map f = ((xs.take i).filter p).map f ++ (if p x = true then [f x] else []) := by
  obtain ⟨hi, e⟩ := List.getElem?_eq_some_iff.mp h
  rw [List.take_succ_eq_append_getElem hi, e, List.filter_append, List.map_append]
  by_cases hp : p x = true
  · rw [if_pos hp, List.filter_cons_of_pos hp]; rfl
  · rw [if_neg hp, List.filter_cons_of_neg hp]; rfl
theorem fm_le (i : Nat) : (((xs.take i).filter p).map f).length ≤ i := by
  rw [List.length_map]
  exact Nat.le_trans (List.length_filter_le _ _) (by rw [List.length_take]; omega)
theorem turn_fm {Nx : Hp → Prop} {H : Hp} {i : Nat} {x : V} (hx : xs[i]? = some x) (hD : H1 D = none) (hz : xs.length ≤ sizeLine)
    (hs : Same H1 H) (hd : H D = some (.lst (((xs.take i).filter p).map f)))
    (ht : ∀ H', Same H1 H' → Tst tt ((wipe σ [slot]).set slot (some x)) H' (p x))
    (he : p x = true → ∀ H', Same H1 H' → Elt te ((wipe σ [slot]).set slot (some x)) H' (f x))
    (nx : ∀ H', Same H1 H' → H' D = some (.lst (((xs.take (i + 1)).filter p).map f)) → Nx H') :
    gName slot x (wipe σ [slot]) H fun σ2 H2 =>
      wipe σ2 [slot] = wipe σ [slot] ∧
      tt σ2 H2 fun b H3 => if b = true then te σ2 H3 fun y H4 => ∃ acc, H4 D = some (.lst acc) ∧ acc.length < sizeLine ∧ Nx (upd H4 D (.lst (acc ++ [y]))) else Nx H3 := by
  refine ⟨wipe_back, ht H hs _ fun H3 s3 => ?_⟩
  have e := take_fm p f hx
  have hi := (List.getElem?_eq_some_iff.mp hx).1
  by_cases hp : p x = true
  · rw [if_pos hp]
    refine he hp H3 (hs.trans s3) _ fun H4 s4 => ⟨_, s4 _ _ (s3 _ _ hd), ?_, ?_⟩
    · exact Nat.lt_of_le_of_lt (fm_le p f i) (Nat.lt_of_lt_of_le hi hz)
    · refine nx _ (fun b o q => ?_) ?_
      · rw [upd_ne (ne_of_none q hD)]
        exact s4 _ _ (s3 _ _ (hs _ _ q))
      · rw [upd_same, e, if_pos hp]
  · rw [if_neg hp]
    refine nx H3 (hs.trans s3) ?_
    rw [e, if_neg hp, List.append_nil]
    exact s3 _ _ hd
theorem lc_fmL (hq : SqL K H1 a xs) (hD : H1 D = none) (hz : xs.length ≤ sizeLine)
    (ht : ∀ x ∈ xs, ∀ H', Same H1 H' → Tst tt ((wipe σ [slot]).set slot (some x)) H' (p x))
    (he : ∀ x ∈ xs, p x = true → ∀ H', Same H1 H' → Elt te ((wipe σ [slot]).set slot (some x)) H' (f x))
    (hd : ∀ H', Same H1 H' → H' D = some (.lst ((xs.filter p).map f)) → Qd H') : Lc (Itl K a) slot tt te σ H1 D Qd := by
  refine lc_list (K := K) (a := a) (xs := xs) (vs := [slot]) (fun i H' => Same H1 H' ∧ H' D = some (.lst (((xs.take i).filter p).map f)))
    ⟨same_new hD, upd_same⟩ (fun _ _ _ h => h.1.seq hq) (fun i x H hx h => ?_) (fun H h => ?_)
  · have hm := List.mem_of_getElem? hx
    exact turn_fm p f hx hD hz h.1 h.2 (ht x hm) (he x hm) fun H' a b => ⟨a, b⟩
  · obtain ⟨h1, h2⟩ := h
    rw [List.take_length] at h2
    exact hd H h1 h2
theorem lc_fmT (hq : SqT K H1 a xs) (hD : H1 D = none) (hz : xs.length ≤ sizeLine)
    (ht : ∀ x ∈ xs, ∀ H', Same H1 H' → Tst tt ((wipe σ [slot]).set slot (some x)) H' (p x))
    (he : ∀ x ∈ xs, p x = true → ∀ H', Same H1 H' → Elt te ((wipe σ [slot]).set slot (some x)) H' (f x))
    (hd : ∀ H', Same H1 H' → H' D = some (.lst ((xs.filter p).map f)) → Qd H') : Lc (Itt K a) slot tt te σ H1 D Qd := by
  refine lc_tup (K := K) (a := a) (xs := xs) (vs := [slot]) (fun i H' => Same H1 H' ∧ H' D = some (.lst (((xs.take i).filter p).map f)))
    ⟨same_new hD, upd_same⟩ (fun _ _ _ h => Same.tup h.1 hq) (fun i x H hx h => ?_) (fun H h => ?_)
  · have hm := List.mem_of_getElem? hx
    exact turn_fm p f hx hD hz h.1 h.2 (ht x hm) (he x hm) fun H' a b => ⟨a, b⟩
  · obtain ⟨h1, h2⟩ := h
    rw [List.take_length] at h2
    exact hd H h1 h2
/-- over a range -/
def rng (lo : Int) (n : Nat) : List V := (List.range n).map fun i => V.int (lo + (i : Nat))
theorem rng_at {lo : Int} {n i : Nat} (h : i < n) : (rng lo n)[i]? = some (.int (lo + (i : Nat))) := by
  unfold rng
  rw [List.getElem?_map, List.getElem?_range h]; rfl
theorem rng_len {lo : Int} {n : Nat} : (rng lo n).length = n := by
  unfold rng
  rw [List.length_map, List.length_range]
theorem lc_fmR {lo : Int} {n : Nat} (hD : H1 D = none) (hz : n ≤ sizeLine)
    (ht : ∀ i : Nat, i < n → ∀ H', Same H1 H' → Tst tt ((wipe σ [slot]).set slot (some (.int (lo + (i : Nat))))) H' (p (.int (lo + (i : Nat)))))
    (he : ∀ i : Nat, i < n → p (.int (lo + (i : Nat))) = true → ∀ H', Same H1 H' → Elt te ((wipe σ [slot]).set slot (some (.int (lo + (i : Nat))))) H' (f (.int (lo + (i : Nat)))))
    (hd : ∀ H', Same H1 H' → H' D = some (.lst (((rng lo n).filter p).map f)) → Qd H') : Lc (Itr lo n) slot tt te σ H1 D Qd := by
  refine lc_range (vs := [slot]) (fun i H' => Same H1 H' ∧ H' D = some (.lst ((((rng lo n).take i).filter p).map f)))
    ⟨same_new hD, upd_same⟩ (fun i H hi h => ?_) (fun H h => ?_)
  · exact turn_fm p f (rng_at hi) hD (by rw [rng_len]; exact hz) h.1 h.2 (ht i hi) (he i hi) fun H' a b => ⟨a, b⟩
  · obtain ⟨h1, h2⟩ := h
    rw [List.take_of_length_le (by rw [rng_len]; exact Nat.le_refl n)] at h2
    exact hd H h1 h2
/-- no test -/
theorem all_fm : (xs.filter fun _ => true).map f = xs.map f := by rw [List.filter_eq_self.mpr fun _ _ => rfl]
end
end Rf

namespace Rf
open PySem PySem.Spec PyProof.Rows L2
/-! ### cuts -/
theorem cut_to (xs : List V) (z : Int) (h : 0 ≤ z) : cutV xs none (some z) = xs.take z.toNat := by
  have e : z = ((z.toNat : Nat) : Int) := by omega
  unfold cutV
  rw [e, HT.sIx_none, HT.sIx_nat, List.drop_zero, Nat.sub_zero, Int.toNat_natCast, ← List.take_eq_take_min]
theorem cut_from (xs : List V) (z : Int) (h : 0 ≤ z) : cutV xs (some z) none = xs.drop z.toNat := by
  have e : z = ((z.toNat : Nat) : Int) := by omega
  unfold cutV
  rw [e, HT.sIx_none, HT.sIx_nat, Int.toNat_natCast]
  by_cases hk : z.toNat ≤ xs.length
  · rw [Nat.min_eq_left hk]
    exact List.take_of_length_le (by rw [List.length_drop]; exact Nat.le_refl _)
  · rw [Nat.min_eq_right (by omega), List.drop_of_length_le (Nat.le_refl _), List.drop_of_length_le (by omega), List.take_nil]
theorem cut_both (xs : List V) (y z : Int) (h0 : 0 ≤ y) (h : 0 ≤ z) : cutV xs (some y) (some z) = (xs.take z.toNat).drop y.toNat := by
  have e1 : y = ((y.toNat : Nat) : Int) := by omega
  have e2 : z = ((z.toNat : Nat) : Int) := by omega
  unfold cutV
  rw [e1, e2, HT.sIx_nat, HT.sIx_nat, Int.toNat_natCast, Int.toNat_natCast]
  apply List.ext_getElem?
  intro i
  rw [List.getElem?_take, List.getElem?_drop, List.getElem?_drop, List.getElem?_take]
  by_cases hi : y.toNat + i < xs.length
  · rw [Nat.min_eq_left (by omega : y.toNat ≤ xs.length)]
    by_cases hz : y.toNat + i < z.toNat
    · rw [if_pos (by omega), if_pos hz]
    · rw [if_neg (by omega), if_neg hz]
  · have e3 : xs[y.toNat + i]? = none := List.getElem?_eq_none_iff.mpr (by omega)
    have e4 : xs[min y.toNat xs.length + i]? = none ∨ ¬ i < min z.toNat xs.length - min y.toNat xs.length := by
      by_cases q : i < min z.toNat xs.length - min y.toNat xs.length
      · left
        exact List.getElem?_eq_none_iff.mpr (by omega)
      · right
        exact q
    rw [e3]
    rcases e4 with q | q
    · rw [q]
      split <;> split <;> rfl
    · rw [if_neg q]
      split <;> rfl
theorem rep_flat {α : Type} (v : α) : ∀ r : Nat, (List.replicate r [v]).flatten = List.replicate r v
  | 0 => rfl
  | r + 1 => by rw [List.replicate_succ, List.replicate_succ, List.flatten_cons, rep_flat v r]; rfl
/-! ### rules with the written part named: in a comprehension's block the context is another, its written part is the same -/
section
variable {X : Cx} {tg e : Expr} {te : TE}
def rLen (K : PySem.W.Frag) : List V → Hp → VK → Prop := fun xs H Q => ∃ p ys, xs = [.ref p] ∧ (SqL K H p ys ∨ SqT K H p ys) ∧ Q (.int (ys.length : Nat)) H
def rListOf (K : PySem.W.Frag) : List V → Hp → VK → Prop := fun xs H Q => ∃ p ys, xs = [.ref p] ∧ (SqL K H p ys ∨ SqT K H p ys) ∧
  ∀ l, H l = none → Q (.ref l) (upd H l (.lst ys))
def rTupOf (K : PySem.W.Frag) : List V → Hp → VK → Prop := fun xs H Q => ∃ p ys, xs = [.ref p] ∧
  ((SqL K H p ys ∧ ∀ l, H l = none → Q (.ref l) (upd H l (.tup ys))) ∨ (SqT K H p ys ∧ Q (.ref p) H))
theorem lenK (K : PySem.W.Frag) (h : X.K = K := by rfl) : CallR X (.builtin "len") (rLen K) := by subst h; exact call_len_seq
theorem listOfK (K : PySem.W.Frag) (h : X.K = K := by rfl) : CallR X (.type "list") (rListOf K) := by subst h; exact call_list_of
theorem tupOfK (K : PySem.W.Frag) (h : X.K = K := by rfl) : CallR X (.type "tuple") (rTupOf K) := by subst h; exact call_tuple_of
theorem ixLK (K : PySem.W.Frag) (h : X.K = K := by rfl) : IxR X (rIxL K) := by subst h; exact ix_list
theorem ixTK (K : PySem.W.Frag) (h : X.K = K := by rfl) : IxR X (rIxT K) := by subst h; exact ix_tup
theorem ixSK (K : PySem.W.Frag) (h : X.K = K := by rfl) : IxR X (rIx K) := by subst h; exact ix_seq
theorem slLK (K : PySem.W.Frag) (h : X.K = K := by rfl) : SlR X (rSlL K) := by subst h; exact sl_list
theorem slTK (K : PySem.W.Frag) (h : X.K = K := by rfl) : SlR X (rSlA K) := by subst h; exact sl_tupA
theorem catTK (K : PySem.W.Frag) (h : X.K = K := by rfl) : OpR X (binaryOp .Add) (rCatA K) := by subst h; exact op_catA
theorem inK (K : PySem.W.Frag) (h : X.K = K := by rfl) : OpR X (compareOp .In) (rIn K false) := by subst h; exact op_in_seq
theorem eqDK (K : PySem.W.Frag) (hu : X.A.units + 64 < cLine) (h : X.K = K := by rfl) : OpR X (compareOp .Eq) (rEqD K) := by subst h; exact op_eqD hu
theorem neDK (K : PySem.W.Frag) (hu : X.A.units + 64 < cLine) (h : X.K = K := by rfl) : OpR X (compareOp .NotEq) (rNeD K) := by subst h; exact op_neD hu
theorem isiK (K : PySem.W.Frag) (h : X.K = K := by rfl) : CallR X (.builtin "isinstance") (rIsi K) := by subst h; exact call_isi
theorem isiTK (K : PySem.W.Frag) (h : X.K = K := by rfl) : CallR X (.builtin "isinstance") (rIsiT K) := by subst h; exact call_isiT
theorem reprK (K : PySem.W.Frag) (hc : Calm X.A) (hu : X.A.units + 64 < cLine) (h : X.K = K := by rfl) : CallR X (.builtin "repr") (rRepr K) := by subst h; exact cr_repr hc hu
theorem piLK (K : PySem.W.Frag) (he : PE X e te) (h : X.K = K := by rfl) : PI X tg e (iList K te) := by subst h; exact pi_list he
theorem piTK (K : PySem.W.Frag) (he : PE X e te) (h : X.K = K := by rfl) : PI X tg e (iTup K te) := by subst h; exact pi_tup he
end
/-! ### xs[::e], e 1 or -1 -/
theorem pick_one (items : Array Value) : slicePick items none none (some 1) = items := by
  have h := slicePick_cut items.toList none none
  have e : slicePick items none none (some 1) = slicePick items none none none := rfl
  rw [e]
  rw [HT.sIx_none, HT.sIx_none, List.drop_zero, Nat.sub_zero, List.take_length] at h
  exact h
section
variable {X : Cx}
def tStepL (K : PySem.W.Frag) (te ts : TE) : TE := fun σ H Q => te σ H fun x H1 => ts σ H1 fun y H2 => ∃ a xs, x = .ref a ∧ SqL K H2 a xs ∧
  ((y = .int 1 ∧ ∀ p, H2 p = none → Q (.ref p) (upd H2 p (.lst xs))) ∨ (y = .int (-1) ∧ ∀ p, H2 p = none → Q (.ref p) (upd H2 p (.lst xs.reverse))))
theorem pe_stepL {e st : Expr} {te ts : TE} {p3 pos : Pos} (he : PE X e te) (hst : PE X st ts)
    (hs : ∀ u v, subscripted (.Slice none none (some st) p3) false u v = operate [u, v] (getItem u v) := by intro u v; with_unfolding_all rfl) :
    PE X (.Subscript e (.Slice none none (some st) p3) pos) (tStepL X.K te ts) := by
  constructor
  intro pins s σ H Q I h
  refine Subscript_ (thn (he.run pins s σ H _ I h) fun v s1 ⟨x, H1, I1, r1, q1⟩ => ?_)
  refine wpAny_Slice (thn ((po_none (X := X)).run pins s1 σ H1 (fun o H2 => o = none ∧ H2 = H1) I1 ⟨rfl, rfl⟩) fun vl s2 ⟨l, H2, I2, pl, el, e2⟩ => ?_)
  subst el e2
  refine thn ((po_none (X := X)).run pins s2 σ H2 (fun o H3 => o = none ∧ H3 = H2) I2 ⟨rfl, rfl⟩) fun vu s3 ⟨u, H3, I3, pu, eu, e3⟩ => ?_
  subst eu e3
  rw [evalPart_some]
  refine thn (hst.run pins s3 σ H3 _ I3 q1) fun vs s4 ⟨y, H4, I4, r4, a, xs, ex, hx, q⟩ => ?_
  subst ex
  obtain rfl : v = Value.ref a := r1
  have I5 : Inv X pins σ H4 { s4 with heap := s4.heap.push { cls := .type "slice", data := .fields #[vl, vu, vs] } } :=
    I4.kept (t' := s4.toks) fun b ob z => Heap.get?_push_of_some _ z
  obtain ⟨its, r, ht, hz⟩ := I5.list hx
  have hlen := r.length
  have fin : ∀ (k : Int) (ys : List V), IsPart vs (some k) → k ≠ 0 → Vals ys (slicePick its.toArray none none (some k)).toList → ys.length = xs.length →
      (∀ p, H4 p = none → Q (.ref p) (upd H4 p (.lst ys))) →
      wpAny (model X.prog X.w) X.A (subscriptTail e (.Slice none none (some st) p3) (.ref a) (.ref s4.heap.objs.size)) (EP X pins σ Q) X.xe
        { s4 with heap := s4.heap.push { cls := .type "slice", data := .fields #[vl, vu, vs] } } := by
    intro k ys pk hk ry hy hq
    refine tail_any (ops := [.ref a, .ref s4.heap.objs.size]) ht.isList.typeIs (PySem.slot_list_getitem.lookup) ?_ (hs _ _)
    refine wpAny_getItem_list_slice ht.isList (Heap.IsSliceOf.new _ vl vu vs) pl pu pk (fun z => hk (Option.some.inj z)) ?_ (by rw [List.size_toArray]; omega)
    refine ⟨.ref _, _, I5.laid (t' := s4.toks) (o := .lst ys) (fun b ob z => Heap.get?_push_of_some _ z) (Nat.le_refl _) ?_, rfl, hq _ (I5.hok.fresh (Nat.le_refl _))⟩
    exact ⟨by rw [hy]; exact hz, _, 0, ry, Heap.get?_push_size _ rfl⟩
  rcases q with ⟨ey, q⟩ | ⟨ey, q⟩
  · subst ey
    obtain ⟨t, rfl⟩ := r4
    exact fin 1 xs (.int 1 t) (by decide) (by rw [pick_one]; exact r) rfl q
  · subst ey
    obtain ⟨t, rfl⟩ := r4
    exact fin (-1) xs.reverse (.int (-1) t) (by decide) (by rw [PySem.W.krv_pick]; exact r.reverse) (List.length_reverse ..) q
theorem stepLK (K : PySem.W.Frag) {e st : Expr} {te ts : TE} {p3 pos : Pos} (he : PE X e te) (hst : PE X st ts) (h : X.K = K := by rfl)
    (hs : ∀ u v, subscripted (.Slice none none (some st) p3) false u v = operate [u, v] (getItem u v) := by intro u v; with_unfolding_all rfl) :
    PE X (.Subscript e (.Slice none none (some st) p3) pos) (tStepL K te ts) := by
  subst h
  exact pe_stepL he hst hs
end
end Rf

/-! rows as lists of ints -/
namespace Rf
open PySem L2
def iota (n : Nat) : List Int := (List.range n).map fun i : Nat => (i : Int)
theorem iota_len (n : Nat) : (iota n).length = n := by unfold iota; rw [List.length_map, List.length_range]
theorem iota_map (n : Nat) : (iota n).map V.int = rgV 0 (n : Int) := by
  unfold iota rgV
  rw [List.map_map, show ((n : Int) - 0).toNat = n by omega]
  refine List.map_congr_left fun i _ => ?_
  show V.int (i : Int) = V.int (0 + (i : Nat))
  rw [Int.zero_add]
theorem iota_add (m n : Nat) : iota (m + n) = iota m ++ (iota n).map (fun x => x + (m : Int)) := by
  unfold iota
  rw [List.range_add, List.map_append, List.map_map, List.map_map]
  congr 1
  refine List.map_congr_left fun i _ => ?_
  show ((m + i : Nat) : Int) = (i : Int) + (m : Int)
  omega
theorem iota_mem {n : Nat} {x : Int} : x ∈ iota n ↔ 0 ≤ x ∧ x < n := by
  unfold iota
  rw [List.mem_map]
  constructor
  · rintro ⟨i, hi, rfl⟩
    have := List.mem_range.mp hi
    omega
  · rintro ⟨h0, h1⟩
    exact ⟨x.toNat, List.mem_range.mpr (by omega), Int.toNat_of_nonneg h0⟩
theorem iota_nodup (n : Nat) : (iota n).Nodup := by
  unfold iota
  have h : List.Pairwise (fun a b : Nat => a ≠ b) (List.range n) := List.nodup_range
  refine List.pairwise_map.mpr ?_
  refine List.Pairwise.imp (R := fun a b : Nat => a ≠ b) (fun {a b} q => ?_) h
  exact fun e => q (by omega)
/-- each of 0 .. n - 1 once -/
def Row (xs : List Int) : Prop := xs.Perm (iota xs.length)
theorem Row.iota (n : Nat) : Row (iota n) := by
  unfold Row
  rw [iota_len]
theorem Row.of {xs : List Int} {n : Nat} (h : xs.Perm (Rf.iota n)) : Row xs := by
  have e := h.length_eq
  rw [iota_len] at e
  unfold Row
  rw [e]
  exact h
theorem Row.perm {xs ys : List Int} (h : Row xs) (p : ys.Perm xs) : Row ys := Row.of (p.trans h)
theorem beside_len (xs ys : List Int) (t : Bool) : (if t = true then xs.map (fun x => x + (ys.length : Int)) ++ ys else xs ++ ys.map (fun y => y + (xs.length : Int))).length = xs.length + ys.length := by
  cases t
  · rw [if_neg Bool.false_ne_true, List.length_append, List.length_map]
  · rw [if_pos rfl, List.length_append, List.length_map]
theorem beside_row {xs ys : List Int} (hx : Row xs) (hy : Row ys) (t : Bool) :
    Row (if t = true then xs.map (fun x => x + (ys.length : Int)) ++ ys else xs ++ ys.map (fun y => y + (xs.length : Int))) := by
  cases t
  · rw [if_neg Bool.false_ne_true]
    refine Row.of (n := xs.length + ys.length) ?_
    rw [iota_add]
    exact hx.append (hy.map _)
  · rw [if_pos rfl]
    refine Row.of (n := ys.length + xs.length) ?_
    rw [iota_add]
    exact (List.perm_append_comm).trans (hy.append (hx.map _))
theorem low_perm {xs : List Int} {n : Nat} (h : xs.Perm (iota n)) : (xs.filter fun x => decide (x < 5)).Perm (iota (min n 5)) := by
  refine (h.filter _).trans ?_
  have e : (iota n).filter (fun x => decide (x < 5)) = iota (min n 5) := by
    unfold iota
    rw [List.filter_map]
    by_cases hn : n ≤ 5
    · rw [Nat.min_eq_left hn, List.filter_eq_self.mpr]
      intro i hi
      have := List.mem_range.mp hi
      show decide ((i : Int) < 5) = true
      exact decide_eq_true (by omega)
    · obtain ⟨k, rfl⟩ : ∃ k, n = 5 + k := ⟨n - 5, by omega⟩
      rw [Nat.min_eq_right (show 5 ≤ 5 + k by omega), List.range_add, List.filter_append, List.map_append]
      have e1 : (List.range 5).filter ((fun x => decide (x < 5)) ∘ fun i : Nat => (i : Int)) = List.range 5 := by
        refine List.filter_eq_self.mpr fun i hi => ?_
        have := List.mem_range.mp hi
        show decide ((i : Int) < 5) = true
        exact decide_eq_true (by omega)
      have e2 : ((List.range k).map (5 + ·)).filter ((fun x => decide (x < 5)) ∘ fun i : Nat => (i : Int)) = [] := by
        refine List.filter_eq_nil_iff.mpr fun i hi => ?_
        obtain ⟨j, _, rfl⟩ := List.mem_map.mp hi
        show ¬ decide (((5 + j : Nat) : Int) < 5) = true
        exact fun z => by
          have := of_decide_eq_true z
          omega
      rw [e1, e2, List.map_nil, List.append_nil]
  rw [e]
theorem swap_perm {α : Type} (l : List α) (k : Nat) : (l.take k ++ ((l.drop k).take 2).reverse ++ (l.drop k).drop 2).Perm l := by
  have h1 : (((l.drop k).take 2).reverse ++ (l.drop k).drop 2).Perm (l.drop k) := by
    refine ((List.reverse_perm _).append_right _).trans ?_
    rw [List.take_append_drop]
  rw [List.append_assoc]
  refine (h1.append_left _).trans ?_
  rw [List.take_append_drop]
end Rf

/-! rules for tuples of ints: sorted(t), t.index(x), t[::-1] -/
namespace Rf
open PySem PySem.Spec PyProof.Rows L2
section
variable {prog : Program} {w : World} {A : Around} {E : Value → Shared → Prop} {s : Shared}
/-- what sorted gathers, of a tuple -/
theorem gather_tup {l : Addr} {vs : List Value} {Q : List Value → Shared → Prop} (hl : IsTup s.heap l vs.toArray) (hsz : vs.length ≤ sizeLine)
    (h : Q vs { s with heap := (s.heap.push (seqObj "list" #[] 0)).update s.heap.objs.size (Obj.mapSeq (· ++ vs.toArray)) }) :
    wpAny (model prog w) A (collect (.ref l)) Q E s := by
  obtain ⟨o, ho, hc, n, hd⟩ := hl
  have hnew : (s.heap.push (seqObj "list" #[] 0)).get? s.heap.objs.size = some (seqObj "list" #[] 0) := Heap.get?_push_size _ rfl
  have hold : (s.heap.push (seqObj "list" #[] 0)).get? l = some o := Heap.get?_push_of_some _ ho
  unfold collect
  refine wpAny_bind ?_
  refine wpAny_runValue (codeAny_builtin entry_proto_collect' ?_)
  show wpAny _ _ (do again (.builtin "list.__iadd__" ⟨[← newList [], .ref l], []⟩)) _ _ s
  refine wpAny_bind (wpAny_newList ?_)
  refine wpAny_pure ⟨Code.quiet_builtin _ (by decide +kernel), codeAny_builtin entry_list_iadd' ?_⟩
  show wpAny _ _ (Builtin.List.listExtendWith (.ref s.heap.objs.size) (.ref l) (.ref s.heap.objs.size)) _ _
    { s with heap := s.heap.push (seqObj "list" #[] 0) }
  unfold Builtin.List.listExtendWith
  refine wpAny_bind (wpAny_typeOf (T := "tuple") ⟨o, hold, hc⟩ ?_)
  have yes : (Builtin.List.listSameRef (.ref s.heap.objs.size) (.ref l) || Value.type "tuple" == Value.type "list" || Value.type "tuple" == Value.type "tuple") = true := by
    rw [show (Value.type "tuple" == Value.type "tuple") = true from rfl, Bool.or_true]
  rw [if_pos yes]
  refine wpAny_bind (listItems_at hold hd ?_)
  refine wpAny_bind (listItems_at (xs := #[]) (n := 0) hnew rfl ?_)
  rw [if_neg (by simp)]
  refine wpAny_bind ?_
  refine listUpdate_at (xs := #[]) (n := 0) hnew rfl ?_ (Nat.zero_le _)
    (by show (#[] ++ vs.toArray).size ≤ sizeLine + 1; simp only [Array.size_append, List.size_toArray, List.length_nil]; omega)
  refine wpAny_pure ?_
  show wpAny (model prog w) A (load s.heap.objs.size >>= fun o => _) Q E _
  refine wpAny_bind ?_
  refine wpAny_load (get?_update_seq hnew _) ?_
  show wpAny _ _ (pure ((#[] : Array Value) ++ vs.toArray).toList) Q E _
  have e : ((#[] : Array Value) ++ vs.toArray).toList = vs := by simp
  rw [e]
  exact wpAny_pure h
theorem sorted_tup {l : Addr} {vs : List Value} {ns : List Int} {Q : Value → Shared → Prop} (hl : IsTup s.heap l vs.toArray) (hI : IntsAre vs ns) (h64 : vs.length < 64)
    (h : ∀ (out : Array Value) (ns' : List Int), IntsAre out.toList ns' → ns'.Perm ns → ns'.Pairwise (· ≤ ·) →
      Q (.ref (s.heap.objs.size + 1)) { s with heap := sortedAll s.heap vs out }) :
    wpAny (model prog w) A (call (.builtin "sorted") [.ref l]) Q E s := by
  refine Calls.call_function_entry kind_sorted plain_sorted entry_sorted (args_sorted1 _) ?_
  unfold Builtin.«sorted»
  refine wpAny_bind (m := checkCount "sorted" 1 1 _) ?_
  refine wpAny_pure ?_
  refine wpAny_bind ?_
  refine gather_tup hl (by rw [sizeLine_eq]; omega) ?_
  refine wpAny_bind ?_
  refine wpAny_newList ?_
  generalize hg : (s.heap.push (seqObj "list" #[] 0)).update s.heap.objs.size (Obj.mapSeq (· ++ vs.toArray)) = g
  have hsz : g.objs.size = s.heap.objs.size + 1 := by rw [← hg, Heap.size_update, size_push']
  have hoL : (g.push (seqObj "list" vs.toArray 0)).get? (s.heap.objs.size + 1) = some (seqObj "list" vs.toArray 0) := by
    rw [← hsz]
    exact Heap.get?_push_size _ rfl
  show wpAny _ _ _ _ _ { s with heap := g.push (seqObj "list" vs.toArray 0) }
  rw [hsz]
  refine wpAny_bind (wpAny_holding ?_)
  refine wpAny_call_entry slot_list_sort ⟨_, hoL, rfl⟩ entry_list_sort ?_ (args_list_sort _)
  refine list_sort_tree hoL hI h64 fun out ns' a1 a2 a3 => ⟨_, rfl, ?_⟩
  refine wpAny_pure ⟨_, rfl, ?_⟩
  have hh := h out ns' a1 a2 a3
  unfold sortedAll at hh
  rw [hg] at hh
  exact hh
end
theorem adjust_back (n : Nat) : Builtin.Slice.sliceAdjust none none (-1) (n : Int) = ((n : Int) - 1, -1) := by
  unfold Builtin.Slice.sliceAdjust
  have h : ((-1 : Int) < 0) := by decide
  simp only [h, if_true]
theorem places_back (n : Nat) : Builtin.Slice.slicePlaces ((n : Int) - 1) (-1) (-1) = n := by
  unfold Builtin.Slice.slicePlaces
  have h1 : ¬ ((-1 : Int) > 0) := by decide
  simp only [h1, if_false]
  have e : (-(-1) : Int) = 1 := by decide
  rw [e, Int.ediv_one]
  split <;> omega
theorem fm_congr {α β : Type} {f g : α → Option β} : ∀ {l : List α}, (∀ x ∈ l, f x = g x) → l.filterMap f = l.filterMap g
  | [], _ => rfl
  | a :: l, h => by
    rw [List.filterMap_cons, List.filterMap_cons, h a (by simp), fm_congr fun x hx => h x (by simp [hx])]
theorem pick_back (xs : List Value) : ((List.range xs.length).filterMap fun (k : Nat) => xs.toArray[(((xs.length : Int) - 1) + (k : Int) * (-1)).toNat]?).toArray = xs.reverse.toArray := by
  congr 1
  have e : ((List.range xs.length).map fun k => xs.length - 1 - k) = (List.range xs.length).reverse := PySem.W.krv_range xs.length
  have h1 : ((List.range xs.length).filterMap fun (k : Nat) => xs.toArray[(((xs.length : Int) - 1) + (k : Int) * (-1)).toNat]?) = ((List.range xs.length).map fun k => xs.length - 1 - k).filterMap (fun j => xs.toArray[j]?) := by
    rw [List.filterMap_map]
    refine fm_congr fun k hk => ?_
    have hk' := List.mem_range.mp hk
    show xs.toArray[(((xs.length : Int) - 1) + (k : Int) * (-1)).toNat]? = xs.toArray[xs.length - 1 - k]?
    rw [show (((xs.length : Int) - 1) + (k : Int) * (-1)).toNat = xs.length - 1 - k by omega]
  have h2 := PySem.W.krv_all xs.toArray
  rw [List.size_toArray] at h2
  rw [h1, e, List.filterMap_reverse, h2]
section
variable {prog : Program} {w : World} {A : Around} {E : Value → Shared → Prop} {s : Shared}
theorem getItem_tup_back {t sl : Addr} {items : List Value} {vl vu vs : Value} {Q : Value → Shared → Prop} (ht : IsTup s.heap t items.toArray)
    (hs : s.heap.IsSliceOf sl vl vu vs) (pl : IsPart vl none) (pu : IsPart vu none) (ps : IsPart vs (some (-1))) (hsz : items.length ≤ sizeLine)
    (h : Q (.ref s.heap.objs.size) { s with heap := s.heap.push { cls := .type "tuple", data := .seq items.reverse.toArray } }) :
    wpAny (model prog w) A (getItem (.ref t) (.ref sl)) Q E s := by
  have fits : sizeOk (.seq items.reverse.toArray) := by
    show items.reverse.toArray.size ≤ sizeLine
    rw [List.size_toArray, List.length_reverse]
    exact hsz
  obtain ⟨os, hos, hcs, hds⟩ := hs
  have hTs : s.TypeIs (.ref sl) "slice" := ⟨os, hos, hcs⟩
  unfold getItem
  try with_reducible refine wpAny_holding ?_
  first | refine wpAny_bind (wpAny_pure ?_) | skip
  refine wpAny_bind ?_
  refine wpAny_sequenceKey ht.typeIs (by decide) ?_
  refine wpAny_bind ?_
  refine wpAny_callSpecial?_slot (name := Str.ofString "__getitem__") ht.typeIs PyProof.Rows.slot_tuple_getitem ?_
  refine wpAny_call_entry PyProof.Rows.slot_tuple_getitem ht.typeIs entry_tuple_getitem ?_ (args_tuple_getitem _ _)
  show wpAny _ _ (Builtin.Tuple.tupleItemsOf (.ref t) >>= _) _ _ s
  refine wpAny_bind ?_
  refine tupleItemsOf_ ht ?_
  refine wpAny_bind ?_
  refine wpAny_typeOf hTs ?_
  rw [if_pos (by decide)]
  refine wpAny_bind ?_
  unfold Builtin.Slice.sliceApplied Builtin.Slice.sliceFields
  refine wpAny_bind (wpAny_bind (wpAny_field hos hds (x := vl) rfl ?_))
  refine wpAny_bind (wpAny_field hos hds (x := vu) rfl ?_)
  refine wpAny_bind (wpAny_field hos hds (x := vs) rfl ?_)
  refine wpAny_pure ?_
  refine wpAny_bind (HT.slicePart_ ps ?_)
  show wpAny _ _ (if ((-1 : Int) == 0) = true then _ else _) _ _ s
  rw [if_neg (by decide)]
  refine wpAny_bind (HT.slicePart_ pl ?_)
  refine wpAny_bind (HT.slicePart_ pu ?_)
  refine wpAny_bind (wpAny_pure ?_)
  show wpAny _ _ (match Builtin.Slice.sliceAdjust none none (-1) ((items.toArray.size : Nat) : Int) with | (lo, hi) => pure (lo, (-1 : Int), Builtin.Slice.slicePlaces lo hi (-1))) _ _ s
  rw [List.size_toArray, adjust_back]
  show wpAny _ _ (pure (((items.length : Int) - 1), (-1 : Int), Builtin.Slice.slicePlaces ((items.length : Int) - 1) (-1) (-1))) _ _ s
  rw [places_back]
  refine wpAny_pure ?_
  show wpAny _ _ (if (((items.length : Int) - 1) == 0 && (-1 : Int) == 1 && items.length == items.length) = true then _ else _) _ _ s
  rw [if_neg (by simp), pick_back]
  first
    | exact wpAny_bind (m := Builtin.Tuple.tupleExact _) (wpAny_newObj_type (wpAny_pure ⟨_, rfl, wpAny_pure h⟩) fits)
    | exact wpAny_bind (m := Builtin.Tuple.tupleExact _) (wpAny_newObj_type (wpAny_bind (wpAny_pure (wpAny_pure ⟨_, rfl, wpAny_pure h⟩))) fits)
    | exact wpAny_bind (wpAny_bind (m := Builtin.Tuple.tupleExact _) (wpAny_newObj_type (wpAny_pure (wpAny_pure ⟨_, rfl, wpAny_pure h⟩)) fits))
    | exact wpAny_bind (wpAny_bind (m := Builtin.Tuple.tupleExact _) (wpAny_newObj_type (wpAny_pure ⟨_, rfl, wpAny_pure h⟩) fits))
end
section
variable {X : Cx}
/-- t[::-1] -/
def tStepT (K : PySem.W.Frag) (te ts : TE) : TE := fun σ H Q => te σ H fun x H1 => ts σ H1 fun y H2 => ∃ a xs, x = .ref a ∧ SqT K H2 a xs ∧ y = .int (-1) ∧
  ∀ p, H2 p = none → Q (.ref p) (upd H2 p (.tup xs.reverse))
theorem stepTK (K : PySem.W.Frag) {e st : Expr} {te ts : TE} {p3 pos : Pos} (he : PE X e te) (hst : PE X st ts) (hK : X.K = K := by rfl)
    (hs : ∀ u v, subscripted (.Slice none none (some st) p3) false u v = operate [u, v] (getItem u v) := by intro u v; with_unfolding_all rfl) :
    PE X (.Subscript e (.Slice none none (some st) p3) pos) (tStepT K te ts) := by
  subst hK
  constructor
  intro pins s σ H Q I h
  refine Subscript_ (thn (he.run pins s σ H _ I h) fun v s1 ⟨x, H1, I1, r1, q1⟩ => ?_)
  refine wpAny_Slice (thn ((po_none (X := X)).run pins s1 σ H1 (fun o H2 => o = none ∧ H2 = H1) I1 ⟨rfl, rfl⟩) fun vl s2 ⟨l, H2, I2, pl, el, e2⟩ => ?_)
  subst el e2
  refine thn ((po_none (X := X)).run pins s2 σ H2 (fun o H3 => o = none ∧ H3 = H2) I2 ⟨rfl, rfl⟩) fun vu s3 ⟨u, H3, I3, pu, eu, e3⟩ => ?_
  subst eu e3
  rw [evalPart_some]
  refine thn (hst.run pins s3 σ H3 _ I3 q1) fun vs s4 ⟨y, H4, I4, r4, a, xs, ex, hx, ey, q⟩ => ?_
  subst ex ey
  obtain rfl : v = Value.ref a := r1
  obtain ⟨t, rfl⟩ := r4
  have I5 : Inv X pins σ H4 { s4 with heap := s4.heap.push { cls := .type "slice", data := .fields #[vl, vu, .int (-1) t] } } :=
    I4.kept (t' := s4.toks) fun b ob z => Heap.get?_push_of_some _ z
  obtain ⟨its, r, ht, hz⟩ := I5.tuple hx
  have hlen := r.length
  show wpAny (model X.prog X.w) X.A (subscriptTail e (.Slice none none (some st) p3) (.ref a) (.ref s4.heap.objs.size)) (EP X pins σ Q) X.xe
    { s4 with heap := s4.heap.push { cls := .type "slice", data := .fields #[vl, vu, .int (-1) t] } }
  refine tail_any (ops := [.ref a, .ref s4.heap.objs.size]) ht.typeIs (PyProof.Rows.slot_tuple_getitem.lookup) ?_ (hs _ _)
  refine getItem_tup_back ht (Heap.IsSliceOf.new _ vl vu _) pl pu (.int (-1) t) (by omega) ?_
  refine ⟨.ref _, _, I5.laid (t' := s4.toks) (o := .tup xs.reverse) (fun b ob z => Heap.get?_push_of_some _ z) (Nat.le_refl _) ?_, rfl, q _ (I5.hok.fresh (Nat.le_refl _))⟩
  exact ⟨by rw [List.length_reverse]; exact hz, _, r.reverse, IsTup.new _ _⟩
/-- sorted(t), a tuple of ints -/
def rSortTu (K : PySem.W.Frag) : List V → Hp → VK → Prop := fun vs H Q => ∃ (a : Addr) (ns : List Int), vs = [V.ref a] ∧ SqT K H a (ns.map V.int) ∧ ns.length < 64 ∧
  ∀ (ms : List Int) (p : Addr), ms.Perm ns → ms.Pairwise (· ≤ ·) → H p = none → Q (.ref p) (upd H p (.lst (ms.map V.int)))
theorem sortTuK (K : PySem.W.Frag) (hK : X.K = K := by rfl) : CallR X (.builtin "sorted") (rSortTu K) := by
  subst hK
  intro pins s σ H vs us Q I r h
  obtain ⟨a, ns, rfl, hs, h64, q⟩ := h
  obtain ⟨its, rv, hl, hz⟩ := I.tuple hs
  rw [Vals.ref1 r]
  have hi := rv.ints
  refine sorted_tup hl hi (by rw [hi.length]; exact h64) fun out ms h1 h2 h3 => ?_
  obtain ⟨ep, he⟩ := sortedAll_at s.heap its out
  have hlen : (ms.map V.int).length ≤ sizeLine := by
    rw [List.length_map, h2.length_eq]
    exact small64 h64
  have J := I.laid (t' := s.toks) (o := .lst (ms.map V.int)) (fun _ _ => sortedAll_old) (Nat.le_succ _) ⟨hlen, out.toList, ep, vals_of_ints h1, he⟩
  exact ⟨.ref _, _, J, rfl, q ms _ h2 h3 (I.hok.fresh (Nat.le_succ _))⟩
/-- t.index(x), ints -/
def rIndexT (K : PySem.W.Frag) : V → List V → Hp → VK → Prop := fun x xs H Q => ∃ (a : Addr) (ns : List Int) (n : Int) (j : Nat), x = V.ref a ∧ xs = [.int n] ∧ SqT K H a (ns.map V.int) ∧
  ns[j]? = some n ∧ (∀ m, m < j → ns[m]? ≠ some n) ∧ Q (.int (j : Nat)) H
theorem mt_tindex (K : PySem.W.Frag) (hK : X.K = K := by rfl) : MtR X "tuple.index" (rIndexT K) := by
  subst hK
  intro pins s σ H x xs v us Q I rx rs h
  obtain ⟨p, ns, n, j, rfl, rfl, hq, hy, hno, q⟩ := h
  cases rx
  obtain ⟨u, rfl, t, rfl⟩ := vals1 rs
  obtain ⟨its, r, pl, hz⟩ := I.tuple hq
  obtain ⟨⟨cls, dd, dt, sl⟩, ho, hc, nn, hd⟩ := pl
  simp only at hc hd
  subst hc
  subst hd
  have hl : its.toArray.size = ns.length := by rw [List.size_toArray, ← r.length, List.length_map]
  have hj : j < its.toArray.size := by rw [hl]; exact (List.getElem?_eq_some_iff.mp hy).1
  have item : ∀ (m : Nat) (hm : m < its.toArray.size), ∃ y t', ns[m]? = some y ∧ its.toArray[m] = Value.int y t' := fun m hm => by
    have hm' : m < ns.length := by rw [← hl]; exact hm
    obtain ⟨w, hw, t', hw'⟩ := r.get (i := m) (x := .int ns[m]) (by simp [hm'])
    refine ⟨ns[m], t', List.getElem?_eq_getElem hm', ?_⟩
    have e := (List.getElem?_eq_some_iff.mp hw).2
    rw [← hw', ← e]
    simp
  have flat : (ns.map V.int).all flatV = true := List.all_eq_true.mpr fun z hz => by
    obtain ⟨i, _, rfl⟩ := List.mem_map.mp hz
    rfl
  refine call_meets PySem.F.slot_tuple_index ⟨_, ho, rfl⟩ PySem.F.entry_tuple_index (PySem.F.args_tuple_index_2 _ _)
    (TI.tuple_indexAt p its.toArray nn dd sl (.int n t) (eqU (.int n)) j hj ?_ ?_)
    ⟨ho, fun w hw => mem_eqAt (x := .int n) ⟨t, rfl⟩ rfl r flat w (by simpa using hw), ⟨.int (j : Nat), H, I.tok _, ⟨_, rfl⟩, q⟩⟩
  · obtain ⟨y, t', h1, h2⟩ := item j hj
    rw [hy] at h1
    cases h1
    rw [h2]
    show (n == n) = true
    exact beq_self_eq_true n
  · intro m hm hmj
    obtain ⟨y, t', h1, h2⟩ := item m hm
    rw [h2]
    show (y == n) = false
    exact beq_eq_false_iff_ne.mpr fun e => hno m hmj (by rw [h1, e])
end
end Rf

namespace Rf
open PySem L2
/-! the built-in names are the built-ins -/
structure Txt (mg : Str → Option Value) : Prop where
  b_len : mg "len" = none
  b_abs : mg "abs" = none
  b_int : mg "int" = none
  b_list : mg "list" = none
  b_tuple : mg "tuple" = none
  b_range : mg "range" = none
  b_sorted : mg "sorted" = none
  b_repr : mg "repr" = none
  b_isinstance : mg "isinstance" = none
  b_bool : mg "bool" = none
  b_str : mg "str" = none
  b_enumerate : mg "enumerate" = none
  b_sum : mg "sum" = none
  b_max : mg "max" = none
  b_min : mg "min" = none
  b_all : mg "all" = none
  b_any : mg "any" = none
  b_zip : mg "zip" = none
  b_set : mg "set" = none
theorem at_map {ns : List Int} {z : Int} (h0 : 0 ≤ z) (h1 : z < (ns.length : Int)) : atI (ns.map V.int) z = some (.int (ns.getD z.toNat 0)) := by
  have hk : z.toNat < ns.length := by omega
  have q : atI (ns.map V.int) ((z.toNat : Nat) : Int) = some (.int (ns.getD z.toNat 0)) :=
    atI_nat (by rw [List.getElem?_map, List.getElem?_eq_getElem hk, List.getD_eq_getElem?_getD, List.getElem?_eq_getElem hk]; rfl)
  have e : ((z.toNat : Nat) : Int) = z := by omega
  rw [e] at q
  exact q
theorem ixN_of {n : Nat} {z : Int} (h0 : 0 ≤ z) (h1 : z < (n : Int)) : ixN n z = some z.toNat := by
  unfold ixN
  rw [if_pos h0, if_pos h1]
theorem map_set {ns : List Int} {j : Nat} {z : Int} : (ns.map V.int).set j (.int z) = (ns.set j z).map V.int := by
  rw [List.map_set]
def absV : V → V
  | .int i => .int (if i < 0 then -i else i)
  | v => v
def absI (i : Int) : Int := if i < 0 then -i else i
def keepI (i : Int) : Int := i * (if decide (i ≥ 10 ^ 18) = true then 1 else 0)
def keepV : V → V
  | .int i => .int (keepI i)
  | v => v
theorem sz (n : Nat) (h : n ≤ 1000) : n ≤ sizeLine := Nat.le_of_lt (small1000 h)
theorem map_ints (f : V → V) (g : Int → Int) (h : ∀ i, f (.int i) = .int (g i)) (ns : List Int) : (ns.map V.int).map f = (ns.map g).map V.int := by
  rw [List.map_map, List.map_map]
  exact List.map_congr_left fun i _ => h i
theorem mem_int {ns : List Int} {x : V} (h : x ∈ ns.map V.int) : ∃ i, x = .int i ∧ i ∈ ns := by
  obtain ⟨i, hi, e⟩ := List.mem_map.mp h
  exact ⟨i, e.symm, hi⟩
/-- deck(script): a new deck, nothing drawn -/
def spDeck (K : PySem.W.Frag) : Sp := fun vs H Q _ => ∃ (a : Addr) (ns : List Int), vs = [.ref a] ∧ SqL K H a (ns.map V.int) ∧ ns.length ≤ 63 ∧
  ∀ (H' : Hp) (r : Addr), Deck H H' r 0 → Q (.ref r) H'
/-- mixed(deck, items): a new list of the items in some order -/
def spMixed (K : PySem.W.Frag) : Sp := fun vs H Q _ => ∃ (H0 : Hp) (a l : Addr) (c : Int) (ns : List Int), vs = [.ref a, .ref l] ∧ Deck H0 H a c ∧ SqL K H0 l (ns.map V.int) ∧ ns.length ≤ 100 ∧ c < 900000 ∧
  ∀ (H0' H' : Hp) (r : Addr) (ms : List Int), Same H0 H0' → Deck H0' H' a (c + ns.length) → H0 r = none → H0' r = some (.lst (ms.map V.int)) → ms.Perm ns → Q (.ref r) H'
theorem map_erase {α β : Type} (f : α → β) : ∀ (l : List α) (i : Nat), (l.map f).eraseIdx i = (l.eraseIdx i).map f
  | [], _ => rfl
  | _ :: _, 0 => rfl
  | x :: l, i + 1 => by
    show f x :: (l.map f).eraseIdx i = f x :: (l.eraseIdx i).map f
    rw [map_erase f l i]
theorem erase_perm {α : Type} : ∀ {l : List α} {i : Nat} (h : i < l.length), (l[i] :: l.eraseIdx i).Perm l
  | _ :: _, 0, _ => .refl _
  | x :: l, i + 1, h => by
    have hi : i < l.length := Nat.lt_of_succ_lt_succ h
    have ih := erase_perm (l := l) (i := i) hi
    show (l[i] :: x :: l.eraseIdx i).Perm (x :: l)
    exact (List.Perm.swap x l[i] (l.eraseIdx i)).trans (ih.cons x)
/-! ### lists of ints as data -/
def dI (ns : List Int) : List PyData := ns.map PyData.int
theorem dpI {K : PySem.W.Frag} {H : Hp} : ∀ ns : List Int, DpAll K H (ns.map V.int) (dI ns)
  | [] => .nil
  | n :: ns => .cons (.int n) (dpI ns)
theorem dI_lay : ∀ ns : List Int, PyData.canLayAll0 (dI ns) = true
  | [] => by simp [dI, PyData.canLayAll0]
  | n :: ns => by
    have h := dI_lay ns
    unfold dI at h ⊢
    simp [PyData.canLayAll0, PyData.canLay0, h]
theorem dI_depth : ∀ ns : List Int, PyData.depthAll (dI ns) = 0
  | [] => by simp [dI, PyData.depthAll]
  | n :: ns => by
    have h := dI_depth ns
    unfold dI at h ⊢
    simp only [List.map_cons, PyData.depthAll, PyData.depth, h]; rfl
theorem dI_shL (ns : List Int) : SeqAt.shaped (.list (dI ns)) = true := by
  have h2 : PyData.depth (.list (dI ns)) ≤ 64 := by
    simp only [PyData.depth, dI_depth]
    omega
  show (PyData.canLay0 (.list (dI ns)) && decide (PyData.depth (.list (dI ns)) ≤ 64)) = true
  rw [Bool.and_eq_true]
  exact ⟨by simp only [PyData.canLay0]; exact dI_lay ns, decide_eq_true h2⟩
theorem dI_nil (ns : List Int) : PyData.eqv (.list (dI ns)) (.list []) = ns.isEmpty := by
  cases ns with
  | nil => simp [dI, PyData.eqv, PyData.eqvAll]
  | cons n ns => simp [dI, PyData.eqv, PyData.eqvAll]
theorem catA_of {K : PySem.W.Frag} {H : Hp} {Q : VK} {a b : Addr} {xs ys : List V} (ha : SqT K H a xs) (hb : SqT K H b ys) (hl : xs.length + ys.length ≤ sizeLine)
    (k : ∀ (r : Addr) (H' : Hp), Same H H' → SqT K H' r (xs ++ ys) → Q (.ref r) H') : rCatA K (.ref a) (.ref b) H Q := by
  refine ⟨a, b, xs, ys, rfl, rfl, ha, hb, hl, fun e => ?_, fun _ e => ?_, fun _ _ p hp => ?_⟩
  · refine k b H (Same.refl H) ?_
    rw [e, List.nil_append]
    exact hb
  · refine k a H (Same.refl H) ?_
    rw [e, List.append_nil]
    exact ha
  · exact k p _ (same_new hp) (SqT.of upd_same)
/-- all but the deck's three lists -/
theorem Deck.grow {H0 H H' : Hp} {a : Addr} {c : Int} (D : Deck H0 H a c) (s : Same H H') :
    ∃ H0', Same H0 H0' ∧ Deck H0' H' a c ∧ ∀ b o, H' b = some o → (H b = none ∨ ∀ xs, o ≠ .lst xs) → H0' b = some o := by
  obtain ⟨s0, ⟨p, q, cs, rs, h1, h2, h3, e1, e2, e3, n1, n2, n3, e4⟩, lo, hi⟩ := D
  refine ⟨fun b => if b = a ∨ b = p ∨ b = q then none else H' b, fun b o z => ?_, ⟨fun b o z => ?_, ⟨p, q, cs, rs, s _ _ h1, s _ _ h2, s _ _ h3, e1, e2, e3, ?_, ?_, ?_, e4⟩, lo, hi⟩, fun b o z w => ?_⟩
  · have nb : ¬ (b = a ∨ b = p ∨ b = q) := by
      rintro (e | e | e)
      · rw [e, n1] at z; cases z
      · rw [e, n2] at z; cases z
      · rw [e, n3] at z; cases z
    show (if b = a ∨ b = p ∨ b = q then none else H' b) = some o
    rw [if_neg nb]
    exact s _ _ (s0 _ _ z)
  · have z' : (if b = a ∨ b = p ∨ b = q then none else H' b) = some o := z
    split at z'
    · cases z'
    · exact z'
  · exact if_pos (.inl rfl)
  · exact if_pos (.inr (.inl rfl))
  · exact if_pos (.inr (.inr rfl))
  · have nb : ¬ (b = a ∨ b = p ∨ b = q) := by
      rintro (e | e | e)
      · rcases w with w | w
        · rw [e, h1] at w; cases w
        · rw [e, s _ _ h1] at z; cases z; exact w _ rfl
      · rcases w with w | w
        · rw [e, h2] at w; cases w
        · rw [e, s _ _ h2] at z; cases z; exact w _ rfl
      · rcases w with w | w
        · rw [e, h3] at w; cases w
        · rw [e, s _ _ h3] at z; cases z; exact w _ rfl
    show (if b = a ∨ b = p ∨ b = q then none else H' b) = some o
    rw [if_neg nb]
    exact z
/-- a tuple that a call has left -/
theorem Deck.tup {K : PySem.W.Frag} {H0 H H' : Hp} {a r : Addr} {c : Int} {xs : List V} (D : Deck H0 H a c) (s : Same H H') (h : SqT K H' r xs) :
    ∃ H0', Same H0 H0' ∧ Deck H0' H' a c ∧ SqT K H0' r xs := by
  obtain ⟨H0', g1, g2, g3⟩ := D.grow s
  refine ⟨H0', g1, g2, ?_⟩
  rcases h with (h | ⟨o, h⟩) | h
  · exact .inl (.inl (g3 _ _ h (.inr fun _ z => nomatch z)))
  · exact .inl (.inr ⟨o, g3 _ _ h (.inr fun _ z => nomatch z)⟩)
  · exact .inr h
/-- two rows side by side -/
def beside (xs ys : List Int) (t : Bool) : List Int := if t = true then xs.map (fun x => x + (ys.length : Int)) ++ ys else xs ++ ys.map (fun y => y + (xs.length : Int))
def spBeside (K : PySem.W.Frag) : Sp := fun vs H Q _ => ∃ (a b : Addr) (t : Bool) (xs ys : List Int), vs = [.ref a, .ref b, .bl t] ∧ SqT K H a (xs.map V.int) ∧ SqT K H b (ys.map V.int) ∧ xs.length ≤ 100 ∧ ys.length ≤ 100 ∧
  ∀ (r : Addr) (H' : Hp), Same H H' → SqT K H' r ((beside xs ys t).map V.int) → Q (.ref r) H'
def addV (n : Int) : V → V
  | .int i => .int (i + n)
  | v => v
theorem Deck.add {H0 H : Hp} {a : Addr} {c : Int} (D : Deck H0 H a c) {x : Addr} (o : HO) (hx : H x = none) : ∃ H0', Same H0 H0' ∧ Deck H0' (upd H x o) a c ∧ H0' x = some o ∧ H0 x = none :=
  ⟨_, same_new (D.free hx), D.new o hx, upd_same, D.free hx⟩
theorem dec_int {i j : Int} (h : decide (V.int i = V.int j) = true) : i = j := by
  have e := of_decide_eq_true h
  injection e
theorem ndec_int {i j : Int} (h : ¬ decide (V.int i = V.int j) = true) : i ≠ j := fun e => h (decide_eq_true (by rw [e]))
theorem at_lst {xs : List V} {z : Int} {v : V} (h0 : 0 ≤ z) (h : xs[z.toNat]? = some v) : atI xs z = some v := by
  have q := atI_nat h
  rw [show ((z.toNat : Nat) : Int) = z by omega] at q
  exact q
theorem two_of {α : Type} {l : List α} {d : Nat} (h : d + 1 < l.length) : ∃ A x y B, l = A ++ x :: y :: B ∧ A.length = d := by
  refine ⟨l.take d, l[d], l[d + 1], l.drop (d + 2), ?_, by rw [List.length_take]; omega⟩
  rw [← List.drop_eq_getElem_cons h, ← List.drop_eq_getElem_cons (by omega), List.take_append_drop]
def lowV : V → Bool
  | .int i => decide (i < 5)
  | _ => false
/-- row(deck, limit): a row of one to limit places -/
def spRow (K : PySem.W.Frag) : Sp := fun vs H Q _ => ∃ (H0 : Hp) (a : Addr) (c lim : Int), vs = [.ref a, .int lim] ∧ Deck H0 H a c ∧ 1 ≤ lim ∧ lim ≤ 50 ∧ c < 800000 ∧
  ∀ (H0' H' : Hp) (r : Addr) (xs : List Int) (c' : Int), Same H0 H0' → Deck H0' H' a c' → c' ≤ c + 200 → SqT K H0' r (xs.map V.int) → Row xs → 1 ≤ xs.length → (xs.length : Int) ≤ lim → Q (.ref r) H'
end Rf

/-! the end of a law's proof, for a law's def that is known where no repr runs -/
namespace Rf
open PySem PySem.Spec PyProof.Rows L2
theorem law_callG {P : Program} {w : World} {K : PySem.W.Frag} {mg mb : Str → Option Value} {k : Nat} {fa a : Addr} {fd : FuncData} {x : Str} {sp : Sp}
    {s₁ : Shared} {vs : List Value} {ns : List Int}
    (KX : K.In s₁.heap) (hns : s₁.heap.Ns mainGlobals mg) (hb : s₁.heap.Ns builtinsNs mb) (hbb : ∀ x : Str, x ≠ "__name__" → mb x = bootBuiltins x)
    (hlim : s₁.heap.NoLimit) (hg : s₁.gens = #[])
    (ha : s₁.heap.get? a = some { cls := .type "list", data := .seq vs.toArray }) (hi : IntsAre vs ns) (hl : ns.length ≤ sizeLine) (hr : Room k callerA)
    (F : ∀ base : Heap, K.In base → base.Ns mainGlobals mg → FnG P w K mg base CX0 k fa fd [x] sp)
    (hbind : ∀ (s : Shared) (u : Value), BindsTo s fd ⟨[u], []⟩ [(x, u)])
    (hsp : ∀ H : Hp, SqL K H a (ns.map V.int) → sp [.ref a] H (fun v _ => v = .bl true) fun _ _ _ => False) :
    codeAny (model P w) callerA (.call (.ref fa) ⟨[.ref a], []⟩)
      (fun r s' => r = .ok (.ret (.bool true)) ∧ OldK s₁.heap s'.heap ∧ s'.os = s₁.os ∧ AllBare s'.gens) s₁ := by
  have rv := vals_ints hi
  have lenV := hi.length
  have core : ∀ H : Hp, (∀ b, H b = none ∨ ∃ o xs, H b = some (.frz o (.lst xs))) → SqL K H a (ns.map V.int) → HOk P w H s₁.heap →
      (∀ b, H b ≠ none → b = a) → (H a ≠ none → K.lookup a = none) →
      codeAny (model P w) callerA (.call (.ref fa) ⟨[.ref a], []⟩)
        (fun r s' => r = .ok (.ret (.bool true)) ∧ OldK s₁.heap s'.heap ∧ s'.os = s₁.os ∧ AllBare s'.gens) s₁ := by
    intro H hO hS hok hA hK
    -- what is not tracked stands in the base
    have dictFree : ∀ {b : Addr} {o : Obj} {es : Array DictEntry} {ep : Nat}, s₁.heap.get? b = some o → o.data = .dict es ep → H b = none := by
      intro b o es ep e d
      cases q : H b with
      | none => rfl
      | some u =>
        have eb : b = a := hA b (by rw [q]; exact fun z => nomatch z)
        rw [eb, ha] at e
        cases e
        exact nomatch (show Data.seq vs.toArray _ = Data.dict es ep from d)
    have nsK : ∀ {b : Addr} {m : Str → Option Value}, s₁.heap.Ns b m → (hidT s₁.heap H).Ns b m := by
      rintro b m ⟨o, es, ep, e, d, r⟩
      exact ⟨o, es, ep, hidT_get e (dictFree e d), d, r⟩
    have kin : K.In (hidT s₁.heap H) := by
      intro b o e
      refine hidT_get (KX b o e) ?_
      cases q : H b with
      | none => rfl
      | some u =>
        have eb : b = a := hA b (by rw [q]; exact fun z => nomatch z)
        subst eb
        rw [hK (by rw [q]; exact fun z => nomatch z)] at e
        cases e
    have lim : (hidT s₁.heap H).NoLimit := by
      obtain ⟨mc, h1, h2⟩ := hlim
      exact ⟨mc, nsK h1, h2⟩
    have M : Mod K mg (hidT s₁.heap H) := ⟨kin, nsK hns, ⟨mb, nsK hb, hbb⟩, lim⟩
    have e0 : Env0 P w K mg (hidT s₁.heap H) callerA [] s₁ H :=
      ⟨rfl, M, fun b o e => of_hidT e, Nat.le_of_eq (hidT_size _ _), trivial, fun b hb => (List.not_mem_nil (show b ∈ ([] : List Addr) from hb)).elim, hok, AllBare.of_eq hg⟩
    have run := (F _ kin (nsK hns)).runG callerA [] s₁ H ⟨[.ref a], []⟩ [.ref a] [.ref a] _ _ rfl hr e0 (hbind s₁ (.ref a)) (.cons rfl .nil) (hsp H hS)
    refine codeAny_mono run ?_
    intro r s' h
    match r, h with
    | .error e, h => exact (show False from h).elim
    | .ok (.ret u), h =>
      obtain ⟨v, H', os, bare, un, hok', r', q⟩ := h
      obtain rfl : v = .bl true := q
      obtain rfl : u = Value.bool true := r'
      refine ⟨rfl, OldK.of_keep fun b o e => ?_, os, bare⟩
      cases q : H b with
      | none => exact un.keep b o e q (fun z => (List.not_mem_nil (show b ∈ ([] : List Addr) from z)).elim) (fun z => (List.not_mem_nil z).elim)
      | some u =>
        rcases hO b with z | ⟨ob, xs, z⟩
        · rw [q] at z
          cases z
        · have k1 := (hok b _ z).1
          have k2 := (hok' b _ (un.frzs b ob _ z)).1
          rw [e] at k1
          cases k1
          exact k2
  cases hk : K.lookup a with
  | some o =>
    have e := KX a o hk
    rw [ha] at e
    cases e
    refine core (fun _ => none) (fun _ => .inl rfl) (.inr ⟨_, vs.toArray, _, hk, rfl, rfl, rfl, ?_, by simpa using rv⟩) (fun b u z => nomatch z) (fun b z => absurd rfl z) (fun z => absurd rfl z)
    rw [List.size_toArray, lenV]
    exact hl
  | none =>
    have at_a : ∀ {b : Addr} {u : HO}, (if b = a then some (HO.frz { cls := .type "list", data := .seq vs.toArray } (.lst (ns.map V.int))) else none) = some u →
        b = a ∧ u = .frz { cls := .type "list", data := .seq vs.toArray } (.lst (ns.map V.int)) := by
      intro b u z
      by_cases hb : b = a
      · rw [if_pos hb] at z
        exact ⟨hb, (Option.some.inj z).symm⟩
      · rw [if_neg hb] at z
        cases z
    refine core (fun b => if b = a then some (.frz { cls := .type "list", data := .seq vs.toArray } (.lst (ns.map V.int))) else none) (fun b => ?_)
      (.inl (.inr ⟨_, if_pos rfl⟩)) (fun b u z => ?_) (fun b z => ?_) (fun _ => hk)
    · by_cases hb : b = a
      · exact .inr ⟨_, _, if_pos hb⟩
      · exact .inl (if_neg hb)
    · obtain ⟨rfl, rfl⟩ := at_a z
      exact ⟨ha, by rw [List.length_map]; exact hl, vs, _, rv, ha⟩
    · by_cases hb : b = a
      · exact hb
      · exact absurd (if_neg hb) z
theorem walk_ofG {l : PySem.W.OpenLaw} {n k : Nat} {q : Program} {loose : List Str} {XP : (Str → Option Value) → Heap → Prop} {YP : World → Heap → Prop} {d : DefRec}
    {K : Params → PySem.W.Frag} {sp : PySem.W.Frag → Sp} {x : Str}
    (hn : l.most = some n) (hn2 : n ≤ sizeLine) (hdf : d.params.defaults = []) (hr : Room k callerA)
    (hY : ∀ (w : World) (h : Heap), YP w h → (K w.params).In h)
    (F : ∀ (w : World) (mg : Str → Option Value) (fa : Addr) (h : Heap), (K w.params).In h → h.Ns mainGlobals mg → mg d.name = some (.ref fa) →
      ∃ fd : FuncData, (∀ (s : Shared) (u : Value), BindsTo s fd ⟨[u], []⟩ [(x, u)]) ∧
        ∀ base : Heap, (K w.params).In base → base.Ns mainGlobals mg → FnG l.prog w (K w.params) mg base CX0 k fa fd [x] (sp (K w.params)))
    (hsp : ∀ (K : PySem.W.Frag) (H : Hp) (a : Addr) (ns : List Int), ns.length ≤ n → SqL K H a (ns.map V.int) → sp K [.ref a] H (fun v _ => v = .bl true) fun _ _ _ => False) :
    PySem.W.WalkO q loose XP YP l.row.toRowW d [] (fun f vs => PySem.call f vs) := by
  refine Att.attach_call hn hdf ?_
  intro w s₀ s₁ mg mb fa o pm cd doc a vs ns G Y ho hd hcd hmg hobj hints hlen hg
  have kx := hY w _ Y
  obtain ⟨fd, bind, ok⟩ := F w mg fa _ kx G.T.g hmg
  exact law_callG kx G.T.g G.T.b G.T.builtins G.T.nolimit hg hobj hints (Nat.le_trans hlen hn2) hr ok bind fun H hS => hsp _ H a ns hlen hS
end Rf

/-! tuples whose object is known to have no dict of its own: their methods can be called -/
namespace Rf
open PySem PySem.Spec PyProof.Rows L2
def PT (H : Hp) (a : Addr) (xs : List V) : Prop := ∃ o, H a = some (.frz o (.tup xs)) ∧ o.dict = none
theorem PT.sq {K : PySem.W.Frag} {H : Hp} {a : Addr} {xs : List V} (h : PT H a xs) : SqT K H a xs := by
  obtain ⟨o, e, _⟩ := h
  exact .inl (.inr ⟨o, e⟩)
theorem PT.same {H H' : Hp} {a : Addr} {xs : List V} (h : PT H a xs) (s : Same H H') : PT H' a xs := by
  obtain ⟨o, e, d⟩ := h
  exact ⟨o, s _ _ e, d⟩
theorem Deck.pt {H0 H H' : Hp} {a r : Addr} {c : Int} {xs : List V} (D : Deck H0 H a c) (s : Same H H') (h : PT H' r xs) :
    ∃ H0', Same H0 H0' ∧ Deck H0' H' a c ∧ PT H0' r xs := by
  obtain ⟨H0', g1, g2, g3⟩ := D.grow s
  obtain ⟨o, e, d⟩ := h
  exact ⟨H0', g1, g2, o, g3 _ _ e (.inr fun _ z => nomatch z), d⟩
def spBesideP (K : PySem.W.Frag) : Sp := fun vs H Q _ => ∃ (a b : Addr) (t : Bool) (xs ys : List Int), vs = [.ref a, .ref b, .bl t] ∧ PT H a (xs.map V.int) ∧ PT H b (ys.map V.int) ∧ xs.length ≤ 100 ∧ ys.length ≤ 100 ∧
  ∀ (r : Addr) (H' : Hp), Same H H' → PT H' r ((beside xs ys t).map V.int) → Q (.ref r) H'
def spRowP (K : PySem.W.Frag) : Sp := fun vs H Q _ => ∃ (H0 : Hp) (a : Addr) (c lim : Int), vs = [.ref a, .int lim] ∧ Deck H0 H a c ∧ 1 ≤ lim ∧ lim ≤ 50 ∧ c < 800000 ∧
  ∀ (H0' H' : Hp) (r : Addr) (xs : List Int) (c' : Int), Same H0 H0' → Deck H0' H' a c' → c' ≤ c + 200 → PT H0' r (xs.map V.int) → Row xs → 1 ≤ xs.length → (xs.length : Int) ≤ lim → Q (.ref r) H'
/-! l.index(x) and methods, with the written part named -/
section
variable {X : Cx} {e : Expr} {es : List Expr} {te : TE} {t : TA} {pos p : Pos}
theorem laid_pt {pins : List (Addr × Obj)} {σ : L2.St} {H : Hp} {s : Shared} {xs : List V} {its : List Value} {tk : Nat} (I : Inv X pins σ H s) (hz : xs.length ≤ sizeLine) (r : Vals xs its) :
    Inv X pins σ (upd H s.heap.objs.size (.frz { cls := .type "tuple", data := .seq its.toArray } (.tup xs)))
      { s with heap := s.heap.push { cls := .type "tuple", data := .seq its.toArray }, toks := tk } := by
  refine I.laid (t' := tk) (fun b u q => Heap.get?_push_of_some _ q) (Nat.le_refl _) ?_
  exact ⟨Heap.get?_push_size _ rfl, hz, its, r, IsTup.new _ _⟩
/-- (a, b, ..) -/
def tTupP (t : TA) : TE := fun σ H Q => t σ H fun xs H1 => xs.length ≤ sizeLine ∧ ∀ p o, H1 p = none → o.dict = none → Q (.ref p) (upd H1 p (.frz o (.tup xs)))
theorem pe_tupP {x1} (h : PA X es t) : PE X (.Tuple es x1 pos) (tTupP t) := by
  constructor
  intro pins s σ H Q I hq
  refine wpAny_Tuple_spliced (thn (h.run pos pins s σ H _ I hq) fun us s1 ⟨xs, H1, I1, r, z, q⟩ => ⟨by rw [← r.length]; exact z, ?_⟩)
  exact ⟨.ref s1.heap.objs.size, _, laid_pt (tk := s1.toks) I1 z r, rfl, q _ _ (I1.hok.fresh (Nat.le_refl _)) rfl⟩
/-- tuple(list) -/
def rTupP (K : PySem.W.Frag) : List V → Hp → VK → Prop := fun xs H Q => ∃ p ys, xs = [.ref p] ∧ SqL K H p ys ∧ ∀ l o, H l = none → o.dict = none → Q (.ref l) (upd H l (.frz o (.tup ys)))
theorem tupP (K : PySem.W.Frag) (hK : X.K = K := by rfl) : CallR X (.type "tuple") (rTupP K) := by
  subst hK
  intro pins s σ H xs us Q I r h
  obtain ⟨p, ys, rfl, hq, q⟩ := h
  obtain ⟨u, rfl, rx⟩ := vals1 r
  cases rx
  obtain ⟨its, r', pl, hz⟩ := I.list hq
  have hlen := r'.length
  refine call_tuple_list pl.isList (fun h' kp => ?_) (by simp only [List.size_toArray] <;> omega)
  have I1 : Inv X pins σ H { s with heap := h' } := I.kept (t' := s.toks) kp
  exact ⟨.ref h'.objs.size, _, laid_pt (tk := s.toks) I1 hz r', rfl, q _ _ (I1.hok.fresh (Nat.le_refl _)) rfl⟩
/-- t + u -/
def rCatP (K : PySem.W.Frag) : R2 := fun x y H Q => ∃ a b xs ys, x = .ref a ∧ y = .ref b ∧ SqT K H a xs ∧ SqT K H b ys ∧ xs.length + ys.length ≤ sizeLine ∧
  (xs = [] → Q (.ref b) H) ∧ (xs ≠ [] → ys = [] → Q (.ref a) H) ∧ (xs ≠ [] → ys ≠ [] → ∀ p o, H p = none → o.dict = none → Q (.ref p) (upd H p (.frz o (.tup (xs ++ ys)))))
theorem catP (K : PySem.W.Frag) (hK : X.K = K := by rfl) : OpR X (binaryOp .Add) (rCatP K) := by
  subst hK
  intro pins s σ H x y v u Q I rx ry h
  obtain ⟨a, b, xs, ys, rfl, rfl, ha, hb, hz, q0, q1, q2⟩ := h
  by_cases hx : xs = []
  · exact op_catA pins s σ H _ _ v u Q I rx ry ⟨a, b, xs, ys, rfl, rfl, ha, hb, hz, q0, q1, fun z => absurd hx z⟩
  by_cases hy : ys = []
  · exact op_catA pins s σ H _ _ v u Q I rx ry ⟨a, b, xs, ys, rfl, rfl, ha, hb, hz, q0, q1, fun _ z => absurd hy z⟩
  cases rx
  cases ry
  obtain ⟨its, r1, p1, _⟩ := I.tuple ha
  obtain ⟨its2, r2, p2, _⟩ := I.tuple hb
  refine HT.cat_tup p1 p2 (fun z => hx (r1.nil_iff.mp z)) (fun z => absurd (r2.nil_iff.mp z) hy) (fun _ => ?_) (by rw [← r1.length, ← r2.length]; exact hz)
  have J := laid_pt (tk := s.toks) (xs := xs ++ ys) I (by rw [List.length_append]; exact hz) (r1.append r2)
  exact ⟨.ref s.heap.objs.size, _, J, rfl, q2 hx hy _ _ (I.hok.fresh (Nat.le_refl _)) rfl⟩
theorem catP_of {K : PySem.W.Frag} {H : Hp} {Q : VK} {a b : Addr} {xs ys : List V} (ha : PT H a xs) (hb : PT H b ys) (hl : xs.length + ys.length ≤ sizeLine)
    (k : ∀ (r : Addr) (H' : Hp), Same H H' → PT H' r (xs ++ ys) → Q (.ref r) H') : rCatP K (.ref a) (.ref b) H Q := by
  refine ⟨a, b, xs, ys, rfl, rfl, ha.sq, hb.sq, hl, fun e => ?_, fun _ e => ?_, fun _ _ p o hp ho => ?_⟩
  · refine k b H (Same.refl H) ?_
    rw [e, List.nil_append]
    exact hb
  · refine k a H (Same.refl H) ?_
    rw [e, List.append_nil]
    exact ha
  · exact k p _ (same_new hp) ⟨o, upd_same, ho⟩
/-- tuple(range(..)) -/
def tTupRgP (te : L2.St → Hp → (Int → Int → Hp → Prop) → Prop) : TE := fun σ H Q => te σ H fun a b H1 => RgOk a b ∧ ∀ q o, H1 q = none → o.dict = none → Q (.ref q) (upd H1 q (.frz o (.tup (rgV a b))))
theorem tupRgP {te : L2.St → Hp → (Int → Int → Hp → Prop) → Prop} (hc : X.calm = true) (hg : Gl X "tuple") (hm : X.mg "tuple" = none) (he : PRg X e te)
    (na : starEach [e] X.env = (false, eval e X.env) :: starEach [] X.env := by rfl) : PE X (.Call (.Name "tuple" p) [e] [] pos) (tTupRgP te) := by
  constructor
  intro pins s σ H Q I h
  refine Call_ (ld_blt I hg hm bt_tuple ?_)
  refine PyProof.Rows.callWith_type1 ?_ na
  refine args_cons (thn (he pins s σ H _ I h) fun x s1 ⟨r, a, b, t, u, v, H1, ex, hr, I1, ok, q⟩ => args_nil ?_) na
  subst ex
  obtain ⟨b1, b2, b3, b4, b5⟩ := ok
  refine call_tuple_range (n := (b - a).toNat) (I1.ok.hd hc) hr (small_one b1 b2 b3 b4) (rangeSize_nat a b) b5 fun h' tk acc hk hi => ?_
  have I2 : Inv X pins σ H1 { s1 with heap := h', toks := tk } := I1.kept hk
  have J := laid_pt (tk := tk) (xs := rgV a b) I2 (by rw [rgV_length, sizeLine_eq]; omega) (vals_rg hi)
  rw [Array.toArray_toList] at J
  exact ⟨.ref h'.objs.size, _, J, rfl, q _ _ (I2.hok.fresh (Nat.le_refl _)) rfl⟩
theorem bmK (K : PySem.W.Frag) {o : Expr} {to : TE} {name : Str} {apos cpos : Pos} {T id : String} {r : V → List V → Hp → VK → Prop}
    (pa : PlainAttrs T) (slot : Slot T name id) (hty : typeOf (.builtin id) = pure (.type "method_descriptor")) (hm : MtR X id r) (ho : PE X o to) (ha : PA X (e :: es) t)
    (hK : X.K = K := by rfl) (hbase : attributeBase o name X.env (eval o X.env) = eval o X.env := by rfl)
    (hfew : ((backTo cpos (starEach (e :: es) X.env)).all (fun x => !x.1) && (backToKw cpos (keywordEach [] X.env)).all (fun x => x.1.isSome) &&
      decide ((e :: es).length + ([] : List Keyword).length + (if ([] : List Keyword).isEmpty then 0 else 1) < 30)) = true := by rfl)
    (hline : (apos.endLine == cpos.line) = true := by rfl)
    (hs : starEach (e :: es) X.env = (false, eval e X.env) :: starEach es X.env := by rfl)
    (hplain : (backTo cpos (starEach es X.env)).any (·.1) = false := by rfl) :
    PE X (.Call (.Attribute o name apos) (e :: es) [] cpos) (tBM K T r to t) := by
  subst hK
  exact pe_bm pa slot hty hm ho ha hbase hfew hline hs hplain
theorem indexK (K : PySem.W.Frag) (hK : X.K = K := by rfl) : MtR X "list.index" (rIndex K) := by
  subst hK
  exact mt_index
/-- t.index(e) -/
def tTix (K : PySem.W.Frag) (to : TE) (t : TA) : TE := fun σ H Q => to σ H fun x H1 => (∃ a xs, x = .ref a ∧ PT H1 a xs) ∧ t σ H1 fun xs H2 => rIndexT K x xs H2 Q
theorem pe_tix (K : PySem.W.Frag) {o : Expr} {to : TE} {apos cpos : Pos} (ho : PE X o to) (ha : PA X (e :: es) t) (hK : X.K = K := by rfl)
    (hbase : attributeBase o "index" X.env (eval o X.env) = eval o X.env := by rfl)
    (hfew : ((backTo cpos (starEach (e :: es) X.env)).all (fun x => !x.1) && (backToKw cpos (keywordEach [] X.env)).all (fun x => x.1.isSome) &&
      decide ((e :: es).length + ([] : List Keyword).length + (if ([] : List Keyword).isEmpty then 0 else 1) < 30)) = true := by rfl)
    (hline : (apos.endLine == cpos.line) = true := by rfl)
    (hs : starEach (e :: es) X.env = (false, eval e X.env) :: starEach es X.env := by rfl)
    (hplain : (backTo cpos (starEach es X.env)).any (·.1) = false := by rfl) :
    PE X (.Call (.Attribute o "index" apos) (e :: es) [] cpos) (tTix K to t) := by
  subst hK
  constructor
  intro pins s σ H Q I h
  refine wpAny_Call_method_late hbase hfew hline rfl (thn (ho.run pins s σ H _ I h) fun v s1 ⟨x, H1, I1, r1, hpt, q1⟩ => ?_)
  obtain ⟨a, xs, rfl, ob, ea, hd⟩ := hpt
  obtain rfl : v = Value.ref a := r1
  obtain ⟨g1, _, its, _, o', g2, g3, _⟩ := I1.hok a _ ea
  rw [g1] at g2
  cases g2
  refine ⟨"tuple", "tuple.index", PySem.F.plainAttrs_tuple, PySem.F.slot_tuple_index, PySem.F.type_tuple_index, ⟨_, g1, g3⟩, fun b eb => ?_, ?_⟩
  · cases eb
    exact ⟨_, g1, hd⟩
  have hA := ha.run cpos pins s1 σ H1 _ I1 q1
  rw [hs] at hA ⊢
  refine Calls.callWith_builtin (by show (false || (backTo cpos (starEach es X.env)).any (·.1)) = false; rw [hplain] <;> rfl) ?_
  refine Calls.evalArgs_plain ?_
  exact thn hA fun us s2 ⟨vs, H2, I2, r2, q2⟩ => mt_tindex X.K rfl pins s2 σ H2 (.ref a) vs (.ref a) us Q I2 rfl r2 q2
end
end Rf

namespace Rf
open PySem L2
/-! ### the type of data -/
def tyD : PyData → String
  | .none => "NoneType"
  | .bool _ => "bool"
  | .int _ => "int"
  | .str _ => "str"
  | .list _ => "list"
  | .tuple _ => "tuple"
  | .dict _ => "dict"
theorem tyx_lst {K : PySem.W.Frag} {H : Hp} {a : Addr} {xs : List V} (h : SqL K H a xs) : TyX K H (.ref a) (.type "list") := by
  rcases h with (h | ⟨o, h⟩) | ⟨o, _, _, h, c, _⟩
  · exact .base (.lst h)
  · exact .base (.frz h)
  · exact .kList h c
theorem tyx_tup {K : PySem.W.Frag} {H : Hp} {a : Addr} {xs : List V} (h : SqT K H a xs) : TyX K H (.ref a) (.type "tuple") := by
  rcases h with (h | ⟨o, h⟩) | ⟨o, _, _, h, c, _⟩
  · exact .base (.tup h)
  · exact .fTuple h
  · exact .kTuple h c
theorem Dp.tyx {K : PySem.W.Frag} {H : Hp} {v : V} {d : PyData} (h : Dp K H v d) : TyX K H v (.type (tyD d)) := by
  cases h with
  | non => exact .base .non
  | bl b => exact .base (.bl b)
  | int i => exact .base (.int i)
  | str x => exact .base (.str x)
  | lst h1 _ => exact tyx_lst h1
  | tup h1 _ => exact tyx_tup h1
theorem kit_bb : kitB "bool" "bool" = some true := by decide +kernel
theorem kit_ib : kitB "int" "bool" = some false := by decide +kernel
theorem kit_bi : kitB "bool" "int" = some true := by decide +kernel
theorem kit_ii : kitB "int" "int" = some true := by decide +kernel
theorem kit_ll : kitB "list" "list" = some true := by decide +kernel
theorem kit_lt : kitB "list" "tuple" = some false := by decide +kernel
theorem kit_tl : kitB "tuple" "list" = some false := by decide +kernel
theorem kit_tt : kitB "tuple" "tuple" = some true := by decide +kernel
theorem kit_nl : kitB "NoneType" "list" = some false := by decide +kernel
theorem kit_nt : kitB "NoneType" "tuple" = some false := by decide +kernel
theorem kit_bl : kitB "bool" "list" = some false := by decide +kernel
theorem kit_bt : kitB "bool" "tuple" = some false := by decide +kernel
theorem kit_il : kitB "int" "list" = some false := by decide +kernel
theorem kit_it : kitB "int" "tuple" = some false := by decide +kernel
theorem kit_sl : kitB "str" "list" = some false := by decide +kernel
theorem kit_st : kitB "str" "tuple" = some false := by decide +kernel
theorem kit_ss : kitB "str" "str" = some true := by decide +kernel
theorem kit_is : kitB "int" "str" = some false := by decide +kernel
theorem kit_bs : kitB "bool" "str" = some false := by decide +kernel
theorem kit_ns : kitB "NoneType" "str" = some false := by decide +kernel
def seqD : PyData → Bool
  | .list _ | .tuple _ => true
  | _ => false
/-- isinstance(x, (list, tuple)) -/
theorem kit_seq {K : PySem.W.Frag} : ∀ {d : PyData}, d.hasDict = false → PySem.W.kitAny K (.type (tyD d)) [.type "list", .type "tuple"] = some (seqD d)
  | .none, _ => kitAny_cons (kit_ty kit_nl) (fun _ => kitAny_cons (kit_ty kit_nt) (fun _ => rfl) (fun z => nomatch z)) (fun z => nomatch z)
  | .bool _, _ => kitAny_cons (kit_ty kit_bl) (fun _ => kitAny_cons (kit_ty kit_bt) (fun _ => rfl) (fun z => nomatch z)) (fun z => nomatch z)
  | .int _, _ => kitAny_cons (kit_ty kit_il) (fun _ => kitAny_cons (kit_ty kit_it) (fun _ => rfl) (fun z => nomatch z)) (fun z => nomatch z)
  | .str _, _ => kitAny_cons (kit_ty kit_sl) (fun _ => kitAny_cons (kit_ty kit_st) (fun _ => rfl) (fun z => nomatch z)) (fun z => nomatch z)
  | .list _, _ => kitAny_cons (kit_ty kit_ll) (fun z => nomatch z) (fun _ => rfl)
  | .tuple _, _ => kitAny_cons (kit_ty kit_tl) (fun _ => kitAny_cons (kit_ty kit_tt) (fun z => nomatch z) (fun _ => rfl)) (fun z => nomatch z)
  | .dict _, h => by simp [PyData.hasDict] at h
/-! ### one by one -/
theorem DpAll.len {K : PySem.W.Frag} {H : Hp} : ∀ {vs : List V} {ds : List PyData}, DpAll K H vs ds → vs.length = ds.length
  | _, _, .nil => rfl
  | _, _, .cons _ t => by rw [List.length_cons, List.length_cons, DpAll.len t]
theorem DpAll.at {K : PySem.W.Frag} {H : Hp} : ∀ {vs : List V} {ds : List PyData} {i : Nat}, DpAll K H vs ds → i < ds.length → ∃ v d, vs[i]? = some v ∧ ds[i]? = some d ∧ Dp K H v d
  | _, _, _, .nil, h => absurd h (Nat.not_lt_zero _)
  | _, _, 0, .cons (v := v) (d := d) h _, _ => ⟨v, d, rfl, rfl, h⟩
  | _, _, i + 1, .cons _ t, h => by
    obtain ⟨v, d, h1, h2, h3⟩ := DpAll.at (i := i) t (Nat.lt_of_succ_lt_succ h)
    exact ⟨v, d, h1, h2, h3⟩
theorem depthAll_at : ∀ {ds : List PyData} {i : Nat} {d : PyData}, ds[i]? = some d → d.depth ≤ PyData.depthAll ds
  | x :: ds, 0, d, h => by
    cases (show some x = some d from h)
    simp only [PyData.depthAll]
    omega
  | x :: ds, i + 1, d, h => by
    have := depthAll_at (ds := ds) (i := i) h
    simp only [PyData.depthAll]
    omega
/-! ### data of no great width, without dicts -/
mutual
def small : PyData → Bool
  | .list xs => decide (xs.length ≤ 1000) && smallAll xs
  | .tuple xs => decide (xs.length ≤ 1000) && smallAll xs
  | .dict _ => false
  | .none => true
  | .bool _ => true
  | .int _ => true
  | .str x => PyData.strOk x
def smallAll : List PyData → Bool
  | [] => true
  | x :: xs => small x && smallAll xs
end
mutual
theorem small_lay : ∀ d : PyData, small d = true → d.canLay0 = true ∧ d.hasDict = false
  | .none, _ => ⟨by simp only [PyData.canLay0], by simp only [PyData.hasDict]⟩
  | .bool _, _ => ⟨by simp only [PyData.canLay0], by simp only [PyData.hasDict]⟩
  | .int _, _ => ⟨by simp only [PyData.canLay0], by simp only [PyData.hasDict]⟩
  | .str x, h => ⟨by simp only [PyData.canLay0]; simpa only [small] using h, by simp only [PyData.hasDict]⟩
  | .list xs, h => by
    simp only [small, Bool.and_eq_true] at h
    have q := small_layAll xs h.2
    exact ⟨by simp only [PyData.canLay0]; exact q.1, by simp only [PyData.hasDict]; exact q.2⟩
  | .tuple xs, h => by
    simp only [small, Bool.and_eq_true] at h
    have q := small_layAll xs h.2
    exact ⟨by simp only [PyData.canLay0]; exact q.1, by simp only [PyData.hasDict]; exact q.2⟩
  | .dict _, h => by simp only [small] at h; cases h
theorem small_layAll : ∀ ds : List PyData, smallAll ds = true → PyData.canLayAll0 ds = true ∧ PyData.hasDictAll ds = false
  | [], _ => ⟨by simp only [PyData.canLayAll0], by simp only [PyData.hasDictAll]⟩
  | x :: xs, h => by
    simp only [smallAll, Bool.and_eq_true] at h
    have q := small_lay x h.1
    have r := small_layAll xs h.2
    exact ⟨by simp only [PyData.canLayAll0, q.1, r.1, Bool.and_self], by simp only [PyData.hasDictAll, q.2, r.2, Bool.or_self]⟩
end
theorem small_at : ∀ {ds : List PyData} {i : Nat} {d : PyData}, smallAll ds = true → ds[i]? = some d → small d = true
  | x :: ds, 0, d, h, e => by
    cases (show some x = some d from e)
    simp only [smallAll, Bool.and_eq_true] at h
    exact h.1
  | x :: ds, i + 1, d, h, e => by
    simp only [smallAll, Bool.and_eq_true] at h
    exact small_at (ds := ds) (i := i) h.2 e
/-- same(found, due), of equal data -/
def spSame (K : PySem.W.Frag) (n : Nat) : Sp := fun vs H Q _ => ∃ (x y : V) (d : PyData), vs = [x, y] ∧ Dp K H x d ∧ Dp K H y d ∧ d.depth < n ∧ small d = true ∧ d.depth ≤ 60 ∧
  ∀ H' : Hp, Same H H' → Q (.bl true) H'
theorem filter_none {xs : List V} {p : V → Bool} (h : ∀ x ∈ xs, p x = false) : xs.filter p = [] := List.filter_eq_nil_iff.mpr fun x hx => by rw [h x hx]; exact Bool.false_ne_true
theorem shp {d : PyData} (h : d.canLay0 = true) (h2 : d.depth ≤ 60) : SeqAt.shaped d = true := by
  show (d.canLay0 && decide (d.depth ≤ 64)) = true
  rw [h, decide_eq_true (show d.depth ≤ 64 by omega)]; rfl
theorem eqv_bool (b : Bool) : PyData.eqv (.bool b) (.bool b) = true := by cases b <;> decide +kernel
theorem eqv_int (i : Int) : PyData.eqv (.int i) (.int i) = true := by simp [PyData.eqv]
theorem eqv_str (x : Str) : PyData.eqv (.str x) (.str x) = true := by simp [PyData.eqv]
theorem sh_nil : SeqAt.shaped (.list []) = true := dI_shL []
theorem eqv_nil : PyData.eqv (.list []) (.list []) = true := dI_nil []
/-- one of a list or a tuple -/
def Sq (K : PySem.W.Frag) (H : Hp) (a : Addr) (xs : List V) : Prop := SqL K H a xs ∨ SqT K H a xs
theorem Sq.same {K : PySem.W.Frag} {H H' : Hp} {a : Addr} {xs : List V} (h : Sq K H a xs) (s : Same H H') : Sq K H' a xs := h.elim (fun z => .inl (s.seq z)) fun z => .inr (Same.tup s z)
theorem rIx_of {K : PySem.W.Frag} {H : Hp} {a : Addr} {xs : List V} {i : Int} {v : V} {Q : VK} (h : Sq K H a xs) (e : atI xs i = some v) (q : Q v H) : rIx K (.ref a) (.int i) H Q := by
  rcases h with h | h
  · exact .inl ⟨a, xs, i, v, rfl, rfl, h, e, q⟩
  · exact .inr (.inl ⟨a, xs, i, v, rfl, rfl, h, e, q⟩)
end Rf

/-! patterns, turned rows -/
namespace Rf
open PySem L2
/-- the first place of x -/
def pos (x : Int) : List Int → Nat
  | [] => 0
  | y :: r => if y = x then 0 else pos x r + 1
theorem pos_at {x : Int} : ∀ {l : List Int}, x ∈ l → l[pos x l]? = some x
  | y :: r, h => by
    unfold pos
    by_cases e : y = x
    · rw [if_pos e, e]; rfl
    · rw [if_neg e]
      exact pos_at (l := r) ((List.mem_cons.mp h).resolve_left fun z => e z.symm)
theorem pos_no {x : Int} : ∀ {l : List Int} {m : Nat}, m < pos x l → l[m]? ≠ some x
  | [], _, h => absurd h (Nat.not_lt_zero _)
  | y :: r, m, h => by
    unfold pos at h
    by_cases e : y = x
    · rw [if_pos e] at h
      exact absurd h (Nat.not_lt_zero _)
    · rw [if_neg e] at h
      cases m with
      | zero => exact fun z => e (Option.some.inj z)
      | succ m => exact pos_no (l := r) (m := m) (by omega)
theorem pos_lt {x : Int} {l : List Int} (h : x ∈ l) : pos x l < l.length := (List.getElem?_eq_some_iff.mp (pos_at h)).1
theorem pos_eq {x : Int} {l : List Int} {j : Nat} (nd : l.Nodup) (h : l[j]? = some x) : pos x l = j := by
  have hm := List.mem_of_getElem? h
  exact nd_ix nd (pos_at hm) h
/-- how many are smaller -/
def smaller (l : List Int) (x : Int) : Nat := (l.filter fun y => decide (y < x)).length
theorem pos_sorted {x : Int} : ∀ {l : List Int}, l.Pairwise (· ≤ ·) → x ∈ l → pos x l = smaller l x
  | y :: r, hp, h => by
    obtain ⟨h1, h2⟩ := List.pairwise_cons.mp hp
    unfold pos
    by_cases e : y = x
    · rw [if_pos e]
      have e0 : (y :: r).filter (fun z => decide (z < x)) = [] := by
        refine List.filter_eq_nil_iff.mpr fun z hz => ?_
        rcases List.mem_cons.mp hz with q | q
        · rw [q, e]
          exact fun w => by
            have := of_decide_eq_true w
            omega
        · have := h1 z q
          exact fun w => by
            have := of_decide_eq_true w
            omega
      unfold smaller
      rw [e0]; rfl
    · rw [if_neg e]
      have hx : x ∈ r := (List.mem_cons.mp h).resolve_left fun z => e z.symm
      have hl := h1 x hx
      have ih := pos_sorted h2 hx
      unfold smaller at ih ⊢
      rw [List.filter_cons_of_pos (p := fun y => decide (y < x)) (a := y) (l := r) (decide_eq_true (by omega)), List.length_cons, ih]
theorem smaller_perm {l m : List Int} (h : l.Perm m) (x : Int) : smaller l x = smaller m x := (h.filter _).length_eq
/-- each number replaced by how many are smaller -/
def pat (l : List Int) : List Int := l.map fun x => (smaller l x : Int)
theorem smaller_iota (n : Nat) : ∀ {x : Int}, 0 ≤ x → x ≤ n → (smaller (iota n) x : Int) = x := by
  induction n with
  | zero =>
    intro x h0 h1
    have : x = 0 := by omega
    subst this
    rfl
  | succ n ih =>
    intro x h0 h1
    have e : iota (n + 1) = iota n ++ [(n : Int)] := by
      rw [iota_add n 1]
      congr 1
      show [(0 : Int) + (n : Int)] = [(n : Int)]
      rw [Int.zero_add]
    unfold smaller
    rw [e, List.filter_append, List.length_append]
    by_cases hx : x ≤ n
    · have := ih h0 hx
      unfold smaller at this
      rw [List.filter_cons_of_neg (p := fun y => decide (y < x)) (a := (n : Int)) (l := []) (fun w => by have := of_decide_eq_true w; omega), List.filter_nil, List.length_nil]
      omega
    · have hx2 : x = n + 1 := by omega
      have := ih (x := n) (by omega) (Int.le_refl _)
      have full : (iota n).filter (fun y => decide (y < x)) = iota n := List.filter_eq_self.mpr fun y hy => decide_eq_true (by have := iota_mem.mp hy; omega)
      rw [full, iota_len, List.filter_cons_of_pos (p := fun y => decide (y < x)) (a := (n : Int)) (l := []) (decide_eq_true (by omega)), List.filter_nil, List.length_cons, List.length_nil]
      omega
theorem Row.mem {l : List Int} (h : Row l) {x : Int} : x ∈ l ↔ 0 ≤ x ∧ x < l.length := by
  rw [h.mem_iff, iota_mem]
theorem Row.nodup {l : List Int} (h : Row l) : l.Nodup := h.nodup_iff.mpr (iota_nodup _)
theorem Row.pat {l : List Int} (h : Row l) : Rf.pat l = l := by
  unfold Rf.pat
  have e : l.map (fun x => (smaller l x : Int)) = l.map id := by
    refine List.map_congr_left fun x hx => ?_
    have hm := h.mem.mp hx
    rw [smaller_perm h]
    exact smaller_iota _ hm.1 (by omega)
  rw [e, List.map_id]
def flip (l : List Int) : List Int := l.map fun x => (l.length : Int) - 1 - x
def inv (l : List Int) : List Int := (iota l.length).map fun x => (pos x l : Int)
theorem flip_len (l : List Int) : (flip l).length = l.length := List.length_map _
theorem inv_len (l : List Int) : (inv l).length = l.length := by unfold inv; rw [List.length_map, iota_len]
theorem flip_flip (l : List Int) : flip (flip l) = l := by
  unfold flip
  rw [List.map_map, List.length_map]
  have e : l.map ((fun x => (l.length : Int) - 1 - x) ∘ fun x => (l.length : Int) - 1 - x) = l.map id := List.map_congr_left fun x _ => by
    show (l.length : Int) - 1 - ((l.length : Int) - 1 - x) = x
    omega
  rw [e, List.map_id]
theorem flip_rev (l : List Int) : flip l.reverse = (flip l).reverse := by
  unfold flip
  rw [List.length_reverse, List.map_reverse]
theorem iota_at {n i : Nat} (h : i < n) : (iota n)[i]? = some (i : Int) := by
  unfold iota
  rw [List.getElem?_map, List.getElem?_range h]; rfl
theorem inv_at {l : List Int} {i : Nat} (h : i < l.length) : (inv l)[i]? = some (pos i l : Int) := by
  unfold inv
  rw [List.getElem?_map, iota_at h]; rfl
/-- the places, put where the numbers are, are the inverse -/
theorem inv_of {l ps : List Int} (h : Row l) (hl : ps.length = l.length) (hp : ∀ (j : Nat) (x : Int), l[j]? = some x → ps[x.toNat]? = some (j : Int)) : ps = inv l := by
  apply List.ext_getElem?
  intro i
  by_cases hi : i < l.length
  · have hm : (i : Int) ∈ l := h.mem.mpr ⟨by omega, by omega⟩
    have q := hp (pos i l) i (pos_at hm)
    rw [inv_at hi, ← q]
    congr 1
  · rw [List.getElem?_eq_none_iff.mpr (by omega), List.getElem?_eq_none_iff.mpr (by rw [inv_len]; omega)]
theorem nodup_of_at {l : List Int} (h : ∀ (i j : Nat) (x : Int), l[i]? = some x → l[j]? = some x → i = j) : l.Nodup := by
  refine List.pairwise_iff_getElem.mpr fun i j hi hj hij e => ?_
  have a : l[i]? = some l[j] := by rw [List.getElem?_eq_getElem hi, e]
  have := h i j _ a (List.getElem?_eq_getElem hj)
  omega
theorem inv_pos {l : List Int} (h : Row l) {j : Nat} (hj : j < l.length) : ∃ x : Nat, l[j]? = some (x : Int) ∧ x < l.length ∧ pos (x : Int) l = j := by
  have e := List.getElem?_eq_getElem hj
  have hm := h.mem.mp (List.getElem_mem hj)
  refine ⟨l[j].toNat, ?_, by omega, ?_⟩
  · rw [e, show ((l[j].toNat : Nat) : Int) = l[j] by omega]
  · rw [show ((l[j].toNat : Nat) : Int) = l[j] by omega]
    exact pos_eq h.nodup e
theorem inv_nodup {l : List Int} (h : Row l) : (inv l).Nodup := by
  refine nodup_of_at fun i j x a b => ?_
  have hi : i < l.length := by
    have := (List.getElem?_eq_some_iff.mp a).1
    rw [inv_len] at this
    exact this
  have hj : j < l.length := by
    have := (List.getElem?_eq_some_iff.mp b).1
    rw [inv_len] at this
    exact this
  rw [inv_at hi] at a
  rw [inv_at hj] at b
  have e : pos (i : Int) l = pos (j : Int) l := by
    have a' := Option.some.inj a
    have b' := Option.some.inj b
    omega
  have p1 := pos_at (l := l) (x := (i : Int)) (h.mem.mpr ⟨by omega, by omega⟩)
  have p2 := pos_at (l := l) (x := (j : Int)) (h.mem.mpr ⟨by omega, by omega⟩)
  rw [e, p2] at p1
  have := Option.some.inj p1
  omega
theorem perm_of_sub : ∀ {a b : List Int}, a.Nodup → (∀ x ∈ a, x ∈ b) → a.length = b.length → a.Perm b
  | [], b, _, _, hl => by
    cases b with
    | nil => exact .refl _
    | cons y r => simp at hl
  | x :: a, b, nd, hs, hl => by
    have hx : x ∈ b := hs x (by simp)
    obtain ⟨nx, nd'⟩ := List.nodup_cons.mp nd
    have p := List.perm_cons_erase hx
    have hle := p.length_eq
    rw [List.length_cons] at hle hl
    refine .trans (.cons x (perm_of_sub nd' (fun y hy => ?_) (by omega))) p.symm
    have hy' := hs y (by simp [hy])
    exact (List.mem_erase_of_ne fun (e : y = x) => nx (by rw [← e]; exact hy)).mpr hy'
theorem row_of_nodup {l : List Int} (nd : l.Nodup) (h : ∀ x ∈ l, 0 ≤ x ∧ x < l.length) : Row l :=
  perm_of_sub nd (fun x hx => iota_mem.mpr (h x hx)) (iota_len _).symm
theorem Row.inv {l : List Int} (h : Row l) : Row (inv l) := by
  refine row_of_nodup (inv_nodup h) fun x hx => ?_
  rw [inv_len]
  unfold Rf.inv at hx
  obtain ⟨y, hy, rfl⟩ := List.mem_map.mp hx
  have hm := iota_mem.mp hy
  have := pos_lt (h.mem.mpr hm)
  omega
theorem inv_inv {l : List Int} (h : Row l) : Rf.inv (Rf.inv l) = l := by
  refine (inv_of h.inv (inv_len l).symm fun j x e => ?_).symm
  have hj : j < l.length := by
    have := (List.getElem?_eq_some_iff.mp e).1
    rw [inv_len] at this
    exact this
  rw [inv_at hj] at e
  have ex := Option.some.inj e
  rw [← ex, Int.toNat_natCast]
  exact pos_at (h.mem.mpr ⟨by omega, by omega⟩)
theorem Row.rev {l : List Int} (h : Row l) : Row l.reverse := h.perm (List.reverse_perm l)
theorem inv_rev {l : List Int} (h : Row l) : Rf.inv l.reverse = flip (Rf.inv l) := by
  refine (inv_of h.rev (by rw [flip_len, inv_len, List.length_reverse]) fun j x e => ?_).symm
  have hj : j < l.length := by
    have := (List.getElem?_eq_some_iff.mp e).1
    rw [List.length_reverse] at this
    exact this
  rw [List.getElem?_reverse hj] at e
  have hx := h.mem.mp (List.mem_of_getElem? e)
  have px := pos_eq h.nodup e
  unfold flip
  rw [List.getElem?_map, inv_at (by omega), show ((x.toNat : Nat) : Int) = x by omega, px, inv_len]
  show some ((l.length : Int) - 1 - ((l.length - 1 - j : Nat) : Int)) = some (j : Int)
  congr 1
  omega
end Rf

/-! rows as data: their texts -/
namespace Rf
open PySem L2
def rowD (xs : List Int) : PyData := .tuple (dI xs)
theorem rowD_dp {K : PySem.W.Frag} {H : Hp} {r : Addr} {xs : List Int} (h : SqT K H r (xs.map V.int)) : Dp K H (.ref r) (rowD xs) := .tup h (dpI xs)
theorem dI_small : ∀ xs : List Int, smallAll (dI xs) = true
  | [] => by simp [dI, smallAll]
  | x :: xs => by
    have h := dI_small xs
    unfold dI at h ⊢
    simp only [List.map_cons, smallAll, small, h, Bool.and_self]
theorem dI_len (xs : List Int) : (dI xs).length = xs.length := List.length_map _
theorem rowD_small {xs : List Int} (h : xs.length ≤ 1000) : small (rowD xs) = true := by
  unfold rowD
  simp only [small, dI_small, dI_len, decide_eq_true h, Bool.and_self]
theorem rowD_depth (xs : List Int) : (rowD xs).depth = 1 := by
  unfold rowD
  simp only [PyData.depth, dI_depth]
theorem join_le (sep : Str) : ∀ ts : List Str, (Str.join sep ts).length ≤ (ts.map fun t => t.length + sep.length).sum
  | [] => Nat.zero_le _
  | [x] => by
    show x.length ≤ _
    rw [List.map_cons, List.sum_cons]
    omega
  | x :: y :: r => by
    have h := join_le sep (y :: r)
    show (x ++ sep ++ Str.join sep (y :: r)).length ≤ _
    rw [strLen_append, strLen_append, List.map_cons, List.sum_cons]
    omega
theorem num_len : ∀ i : Fin 100, ((toString ((i.val : Nat) : Int) : String) : Str).length ≤ 2 := by decide +kernel
theorem num_log {x : Int} (h0 : 0 ≤ x) (h1 : x < 100) : x.natAbs.log2 < 1920 := by
  have h : x.natAbs < 2 ^ 1920 := Nat.lt_of_lt_of_le (show x.natAbs < 2 ^ 7 by omega) (Nat.pow_le_pow_right (by decide) (by decide))
  exact PySem.Flt.log2_lt_of (by decide) h
theorem shown_sum : ∀ {xs : List Int}, (∀ x ∈ xs, 0 ≤ x ∧ x < 100) → ((PyData.shownAll (dI xs)).map fun t => t.length + 2).sum ≤ 4 * xs.length ∧ PyData.showableAll (dI xs) = true
  | [], _ => by simp [dI, PyData.shownAll, PyData.showableAll]
  | x :: xs, h => by
    have ih := shown_sum (xs := xs) fun y hy => h y (by simp [hy])
    have hx := h x (by simp)
    have hl := num_len ⟨x.toNat, by omega⟩
    have ex : ((x.toNat : Nat) : Int) = x := by omega
    have hl2 : (PyData.shown (.int x)).length ≤ 2 := by
      simp only [PyData.shown]
      have hl3 : ((toString ((x.toNat : Nat) : Int) : String) : Str).length ≤ 2 := hl
      rw [ex] at hl3
      exact hl3
    unfold dI at ih ⊢
    simp only [List.map_cons, PyData.shownAll, List.sum_cons, List.length_cons, PyData.showableAll, PyData.showable, decide_eq_true (num_log hx.1 hx.2), ih.2, Bool.and_self, and_true]
    have := ih.1
    omega
theorem row_shows {xs : List Int} (h : ∀ x ∈ xs, 0 ≤ x ∧ x < 100) (hl : xs.length ≤ 100) :
    (rowD xs).showable = true ∧ (rowD xs).hasDict = false ∧ (rowD xs).depth ≤ 60 ∧ (rowD xs).shown.length ≤ sizeLine := by
  have q := shown_sum h
  refine ⟨?_, (small_lay _ (rowD_small (by omega))).2, by rw [rowD_depth]; omega, ?_⟩
  · unfold rowD
    simp only [PyData.showable]
    exact q.2
  · unfold rowD
    simp only [PyData.shown]
    have j := join_le ", " (PyData.shownAll (dI xs))
    have e2 : ((", " : String) : Str).length = 2 := by decide +kernel
    rw [e2] at j
    unfold tupleText
    rw [strLen_append, strLen_append]
    refine sz _ ?_
    have e1 : ((("(" : String) : Str)).length = 1 := by decide +kernel
    have e3 : ∀ b : Bool, (Str.ofString (if b = true then ",)" else ")")).length ≤ 2 := by decide +kernel
    have e4 := e3 ((PyData.shownAll (dI xs)).length == 1)
    have q1 := q.1
    omega
end Rf

namespace K2
open PySem L2 Rf
def top (i : Nat) : Stmt := PySem.Challenge.pw_rowfolds_k02_patterns_and_turned_rows.main.body.getD i (.Pass ⟨0, 0, 0, 0⟩)
abbrev sNext : Stmt := top 7
section
variable {P : Program} {w : World} {K : PySem.W.Frag} {mg : Str → Option Value} {base : Heap}
theorem scNext : FnScope ["_law_deck_here", "_law_many", "_law_cells", "_law_rests", "_law_count", "_law_index", "_law_digit", "_law_mixed_here"] ["_law_deck_here", "_law_many"] (defScope sNext) := ⟨rfl, rfl, rfl, by decide +kernel, rfl, by decide +kernel, by decide +kernel⟩
theorem ok_next {f : Addr} {fd : FuncData} (F : Fun K "_law_next" "_law_next" sNext f fd) (T : Txt mg) : FnOk P w K mg base CX0 1 f fd ["_law_deck_here", "_law_many"] spNext := by
  refine F.ok scNext (fun vs H Q E h => ?_) (fun cdv A outer s H vs Q E hr h => ?_)
  · obtain ⟨H0, a, c, m, rfl, _⟩ := h
    rfl
  obtain ⟨H0, a, c, m, rfl, D, hc, hm, hm2, k⟩ := h
  refine ⟨_, (pss_cons (ps_asg (pv 0) (pg_unl rfl (pgs_cons (pg_name (i := 2) scNext.nd rfl (Or.inl rfl)) (pgs_cons (pg_name (i := 3) scNext.nd rfl (Or.inl rfl)) (pgs_cons (pg_name (i := 4) scNext.nd rfl (Or.inl rfl)) pgs_nil)))))
    (pss_cons (ps_asg (pe_op op_add (pv 4) pe_int) (pg_sub (pv 0) pe_int set_list))
    (pss_cons (ps_set (i := 5) scNext.nd rfl (Or.inl rfl) (pe_op op_mod (pv 4) (pe_callB (lenK K) (by rfl) T.b_len bt_len (pa_cons (pv 2) pa_nil))))
    (pss_cons (ps_if (pt_cmpR op_gt (pe_ix (ixLK K) (pv 3) (pv 5) (fun _ _ => rfl)) pe_int (nomark _)) (pss_cons (ps_set (i := 6) scNext.nd rfl (Or.inl rfl) (pe_op op_mod (pe_ix (ixLK K) (pv 3) (pv 5) (fun _ _ => rfl)) (pv 1)))
    (pss_cons (ps_asg (pe_op op_fdivW (pe_ix (ixLK K) (pv 3) (pv 5) (fun _ _ => rfl)) (pv 1)) (pg_sub (pv 3) (pv 5) set_list))
    (pss_one (ps_ret (pv 6))))) pss_nil)
    (pss_cons (ps_set (i := 7) scNext.nd rfl (Or.inl rfl) (pe_op op_mul (pe_op op_add (pe_op op_add (pe_ix (ixLK K) (pv 2) (pv 5) (fun _ _ => rfl)) (pe_op op_mul pe_int (pv 4))) pe_int) (pe_op op_add pe_int (pe_op op_mul pe_int (pv 4)))))
    (pss_cons (ps_set (i := 7) scNext.nd rfl (Or.inl rfl) (pe_op op_mod (pe_op op_add (pv 7) (pe_op op_mul pe_int (pv 4))) pe_int))
    (pss_cons (ps_set (i := 7) scNext.nd rfl (Or.inl rfl) (pe_op op_mod (pe_op op_add (pe_op op_mul (pv 7) (pv 7)) pe_int) pe_int))
    (pss_cons (ps_set (i := 7) scNext.nd rfl (Or.inl rfl) (pe_op op_mod (pe_op op_mul (pv 7) (pv 7)) pe_int))
    (pss_one (ps_ret (pe_op op_mod (pe_op op_fdivW (pv 7) pe_int) (pv 1)))))))))))), ?_⟩
  obtain ⟨sm, ⟨p, q, cs, rs, h1, h2, h3, e1, e2, e3, n1, n2, n3, e4⟩, lo, hi⟩ := D
  have hlen : (0 : Int) < ((cs.map V.int).length : Nat) := by rw [List.length_map]; omega
  have apq : a ≠ q := ne_of h1 h3 (by
    cases rs with
    | nil => rw [List.length_nil] at e1; omega
    | cons x r => intro z; cases z)
  have app : a ≠ p := ne_of h1 h2 (by
    cases cs with
    | nil => exact absurd e2 (Nat.lt_irrefl 0)
    | cons x r => intro z; cases z)
  have g1 : upd H a (.lst [.ref p, .ref q, .int (c + 1)]) a = some (.lst [.ref p, .ref q, .int (c + 1)]) := upd_same
  have g2 : upd H a (.lst [.ref p, .ref q, .int (c + 1)]) p = some (.lst (cs.map V.int)) := by rw [upd_ne app.symm]; exact h2
  have g3 : upd H a (.lst [.ref p, .ref q, .int (c + 1)]) q = some (.lst (rs.map V.int)) := by rw [upd_ne apq.symm]; exact h3
  have gs : Same H0 (upd H a (.lst [.ref p, .ref q, .int (c + 1)])) := fun b o z => by
    rw [upd_ne (ne_of_none z n1)]
    exact sm _ _ z
  -- the three names, the count, the index
  refine ⟨_, rfl, a, _, rfl, SqL.of h1, rfl, _, _, rfl, _, _, rfl, _, _, rfl, rfl, ?_⟩
  refine ⟨_, rfl, _, _, rfl, rfl, _, rfl, a, _, _, 2, rfl, rfl, h1, rfl, ?_⟩
  refine ⟨_, rfl, _, rfl, p, _, rfl, .inl (SqL.of g2), _, _, rfl, rfl, hlen, ?_⟩
  have i0 : 0 ≤ c % ((cs.map V.int).length : Nat) := Int.emod_nonneg _ (by omega)
  have i1 : c % ((cs.map V.int).length : Nat) < ((cs.map V.int).length : Nat) := Int.emod_lt_of_pos _ hlen
  rw [List.length_map] at i0 i1
  have j1 : c % ((cs.length : Nat) : Int) < (rs.length : Int) := by omega
  have hlm : (cs.map V.int).length = cs.length := List.length_map _
  rw [hlm]
  obtain ⟨ix, hix⟩ : ∃ ix, ix = c % ((cs.length : Nat) : Int) := ⟨_, rfl⟩
  have bx : ∀ {G : Int → Prop}, G ix → G (c % ((cs.length : Nat) : Int)) := fun g => hix ▸ g
  rw [← hix] at i0 i1 j1
  refine bx (G := fun z => tSeq _ _ _ (_ :: _ :: _ :: _ :: _ :: some (V.int z) :: _) _) ?_
  -- if rests[index] > 0
  refine ⟨_, rfl, _, rfl, q, _, _, _, rfl, rfl, SqL.of g3, at_map i0 j1, _, _, rfl, rfl, _, rfl, ?_⟩
  refine ite2 (fun _ => ?_) (fun _ => ?_)
  · refine ⟨_, rfl, _, rfl, q, _, _, _, rfl, rfl, SqL.of g3, at_map i0 j1, _, rfl, _, _, rfl, rfl, hm, ?_⟩
    refine ⟨_, rfl, _, rfl, q, _, _, _, rfl, rfl, SqL.of g3, at_map i0 j1, _, rfl, _, _, rfl, rfl, wide_div hm (b := 100) (by omega) (by decide) (by decide), ?_⟩
    refine ⟨_, rfl, _, rfl, q, _, _, _, rfl, rfl, g3, ixN_of i0 (by rw [List.length_map]; exact j1), ?_⟩
    refine ⟨_, rfl, ?_⟩
    refine k _ _ ⟨fun b o z => ?_, ⟨p, q, cs, rs.set ix.toNat (rs.getD ix.toNat 0 / m), ?_, ?_, ?_, ?_, e2, e3, n1, n2, n3, e4⟩, by omega, by omega⟩ (Int.emod_nonneg _ (by omega)) (Int.emod_lt_of_pos _ hm)
    · rw [upd_ne (ne_of_none z n3)]
      exact gs _ _ z
    · rw [upd_ne apq]
      exact g1
    · rw [upd_ne e4]
      exact g2
    · rw [upd_same, map_set]
    · rw [List.length_set]
      exact e1
  · refine ⟨_, rfl, _, rfl, p, _, _, _, rfl, rfl, SqL.of g2, at_map i0 i1, _, rfl, _, _, rfl, rfl, .inl ⟨by decide, by decide⟩, _, _, rfl, rfl, _, _, rfl, rfl, _, rfl, _, _, rfl, rfl, .inl ⟨by decide, by decide⟩, _, _, rfl, rfl, _, _, rfl, rfl, .inr ⟨by omega, by omega⟩, ?_⟩
    refine ⟨_, rfl, _, rfl, _, _, rfl, rfl, .inl ⟨by decide, by decide⟩, _, _, rfl, rfl, _, _, rfl, rfl, (by show (0 : Int) < 2305843009213693951; decide), ?_⟩
    generalize ez : ((cs.getD ix.toNat 0 + 1523 * c + 37) * (50069 + 2 * c) + 90001 * c) % 2305843009213693951 = z1
    have z1a : 0 ≤ z1 := by rw [← ez]; exact Int.emod_nonneg _ (by decide)
    have z1b : z1 < 2305843009213693951 := by rw [← ez]; exact Int.emod_lt_of_pos _ (by decide)
    refine ⟨_, rfl, _, rfl, _, _, rfl, rfl, .inl ⟨by omega, by omega⟩, _, _, rfl, rfl, _, _, rfl, rfl, (by show (0 : Int) < 2305843009213693921; decide), ?_⟩
    generalize ey : (z1 * z1 + 60013) % 2305843009213693921 = z2
    have z2a : 0 ≤ z2 := by rw [← ey]; exact Int.emod_nonneg _ (by decide)
    have z2b : z2 < 2305843009213693921 := by rw [← ey]; exact Int.emod_lt_of_pos _ (by decide)
    refine ⟨_, rfl, _, rfl, _, _, rfl, rfl, .inl ⟨by omega, by omega⟩, _, _, rfl, rfl, (by show (0 : Int) < 2305843009213693951; decide), ?_⟩
    refine ⟨_, rfl, _, _, rfl, rfl, wide_div (by decide) (b := 100) (by decide) (by decide) (by decide), _, rfl, _, _, rfl, rfl, hm, ?_⟩
    exact k _ _ ⟨gs, ⟨p, q, cs, rs, g1, g2, g3, e1, e2, e3, n1, n2, n3, e4⟩, by omega, by omega⟩ (Int.emod_nonneg _ (by omega)) (Int.emod_lt_of_pos _ hm)
end
abbrev sDeck : Stmt := top 6
section
variable {P : Program} {w : World} {K : PySem.W.Frag} {mg : Str → Option Value} {base : Heap}
theorem scDeck : FnScope ["_law_script", "_law_cells", "_law_cell"] ["_law_script"] (defScope sDeck) := ⟨rfl, rfl, rfl, by decide +kernel, rfl, by decide +kernel, by decide +kernel⟩
theorem ok_deck {f : Addr} {fd : FuncData} (F : Fun K "_law_deck" "_law_deck" sDeck f fd) (T : Txt mg) : FnOk P w K mg base CX0 1 f fd ["_law_script"] (spDeck K) := by
  refine F.ok scDeck (fun vs H Q E h => ?_) (fun cdv A outer s H vs Q E hr h => ?_)
  · obtain ⟨a, ns, rfl, _⟩ := h
    rfl
  obtain ⟨a, ns, rfl, hS, hl, k⟩ := h
  refine ⟨_, (pss_cons (ps_set (i := 1) scDeck.nd rfl (Or.inl rfl) (pe_op op_cat (pe_lc (own := [("_law_cell", 2)]) rfl scDeck.nd (piLK K (pe_slice (slLK K) (pv 0) po_none (po_some pe_int))) (blkOk_by (N := ["_law_script", "_law_cells", "_law_cell"]) (sc := defScope sDeck) (by decide +kernel)) (fun _ _ _ _ _ => (pg_name (i := 2) scDeck.nd rfl (Or.inl rfl))) (fun _ _ _ _ _ => pts_nil) (fun _ _ _ _ _ => (pe_callB call_abs (by rfl) T.b_abs bt_abs (pa_cons (pv 2) pa_nil)))) (pe_op op_rep (pe_lst (pa_cons pe_int pa_nil)) (pe_callTy call_int1 (by rfl) T.b_int bt_int (pa_cons (pe_cmpR op_eq (pe_callB (lenK K) (by rfl) T.b_len bt_len (pa_cons (pv 0) pa_nil)) pe_int (nomark _)) pa_nil)))))
    (pss_one (ps_ret (pe_lst (pa_cons (pv 1) (pa_cons (pe_lc (own := [("_law_cell", 2)]) rfl scDeck.nd (piLK K (pv 1)) (blkOk_by (N := ["_law_script", "_law_cells", "_law_cell"]) (sc := defScope sDeck) (by decide +kernel)) (fun _ _ _ _ _ => (pg_name (i := 2) scDeck.nd rfl (Or.inl rfl))) (fun _ _ _ _ _ => pts_nil) (fun _ _ _ _ _ => (pe_op op_mul (pv 2) (pe_callTy call_int1 (by rfl) T.b_int bt_int (pa_cons (pe_cmpR op_ge (pv 2) (pe_op op_pow pe_int pe_int) (nomark _)) pa_nil))))) (pa_cons pe_int pa_nil))))))), ?_⟩
  refine ⟨_, rfl, _, rfl, a, _, rfl, hS, fun p hp => ?_⟩
  refine ⟨p, rfl, ⟨_, SqL.of upd_same⟩, fun D hD => ?_⟩
  have e1 : cutV (ns.map V.int) none (some 61) = (ns.take 61).map V.int := by
    rw [cut_to _ _ (by decide), List.map_take]; rfl
  rw [e1] at hD ⊢
  have hz : ((ns.take 61).map V.int).length ≤ sizeLine := by
    rw [List.length_map, List.length_take]
    exact sz _ (by omega)
  refine lc_fmL (fun _ => true) absV (SqL.of upd_same) hD hz (fun x hx H' hs => tst_yes) (fun x hx _ H' hs => ?_) (fun H2 s2 h2 => ?_)
  · obtain ⟨i, rfl, _⟩ := mem_int hx
    intro R hR
    exact ⟨_, rfl, i, rfl, hR _ (Same.refl _)⟩
  rw [all_fm, map_ints absV absI (fun _ => rfl)] at h2
  have s3 : Same H H2 := (same_new hp).trans s2
  -- [0] * int(len(script) == 0)
  refine ⟨by show 1 ≤ sizeLine; decide, fun l hl2 => ?_⟩
  have s4 : Same H2 (upd H2 l (.lst [.int 0])) := same_new hl2
  refine ⟨_, rfl, a, _, rfl, .inl (s4.seq (s3.seq hS)), rfl, .inr ⟨_, rfl, ?_⟩⟩
  obtain ⟨r, hr0, hr1⟩ : ∃ r : Nat, (if (decide (V.int ((ns.map V.int).length : Nat) = V.int 0)) = true then (1 : Int) else 0) = (r : Int) ∧ r ≤ 1 ∧ (ns = [] → r = 1) := by
    cases ns with
    | nil => exact ⟨1, rfl, Nat.le_refl _, fun _ => rfl⟩
    | cons x t =>
      refine ⟨0, ?_, Nat.zero_le _, fun z => nomatch z⟩
      rw [if_neg]
      · rfl
      · intro z
        have z2 := of_decide_eq_true z
        injection z2 with z3
        rw [List.map_cons, List.length_cons] at z3
        omega
  have bx : ∀ {G : Int → Prop}, G (r : Int) → G (if (decide (V.int ((ns.map V.int).length : Nat) = V.int 0)) = true then (1 : Int) else 0) := fun g => hr0 ▸ g
  refine bx (G := fun z => rRep (V.ref l) (V.int z) _ _) ?_
  refine ⟨l, _, _, rfl, rfl, upd_same, by omega, by omega, ?_, fun y hy => ?_⟩
  · rw [List.length_singleton, Int.toNat_natCast, Nat.one_mul]
    exact sz _ (by omega)
  have e2 : (List.replicate ((r : Int)).toNat [V.int 0]).flatten = (List.replicate r (0 : Int)).map V.int := by
    rw [Int.toNat_natCast, rep_flat, List.map_replicate]
  rw [e2]
  have s5 : Same (upd H2 l (.lst [.int 0])) (upd (upd H2 l (.lst [.int 0])) y (.lst ((List.replicate r (0 : Int)).map V.int))) := same_new hy
  have hDy := s5 _ _ (s4 _ _ h2)
  refine ⟨D, y, _, _, rfl, rfl, hDy, upd_same, ?_, fun c hc => ?_⟩
  · rw [List.length_map, List.length_map, List.length_map, List.length_take, List.length_replicate]
    exact sz _ (by omega)
  have e3 : ((ns.take 61).map absI).map V.int ++ (List.replicate r (0 : Int)).map V.int = ((ns.take 61).map absI ++ List.replicate r (0 : Int)).map V.int := by rw [List.map_append]
  rw [e3]
  obtain ⟨cs, hcs⟩ : ∃ cs, cs = (ns.take 61).map absI ++ List.replicate r (0 : Int) := ⟨_, rfl⟩
  have c1 : 0 < cs.length := by
    rw [hcs, List.length_append, List.length_map, List.length_take, List.length_replicate]
    cases ns with
    | nil => rw [hr1.2 rfl]; omega
    | cons x t => rw [List.length_cons]; omega
  have c2 : cs.length ≤ 1000 := by
    rw [hcs, List.length_append, List.length_map, List.length_take, List.length_replicate]
    omega
  rw [← hcs]
  have s6 := s3.trans (s4.trans (s5.trans (same_new (o := .lst (cs.map V.int)) hc)))
  -- the list of the rests
  refine ⟨_, rfl, _, rfl, c, rfl, ⟨_, SqL.of upd_same⟩, fun e he => ?_⟩
  refine lc_fmL (fun _ => true) keepV (SqL.of upd_same) he (by rw [List.length_map]; exact sz _ c2) (fun x hx H' hs => tst_yes) (fun x hx _ H' hs => ?_) (fun H3 s7 h3 => ?_)
  · obtain ⟨i, rfl, _⟩ := mem_int hx
    intro R hR
    refine ⟨_, rfl, _, rfl, _, _, rfl, rfl, ⟨by decide, by decide, by decide⟩, _, _, rfl, rfl, .inr ⟨_, rfl, _, _, rfl, rfl, .inr ?_, ?_⟩⟩
    · split <;> decide
    · exact hR _ (Same.refl _)
  rw [all_fm, map_ints keepV keepI (fun _ => rfl)] at h3
  refine ⟨by show 3 ≤ sizeLine; decide, fun z hz2 => ?_⟩
  have cz := s7 _ _ (upd_same (H := upd (upd H2 l (.lst [.int 0])) y (.lst ((List.replicate r (0 : Int)).map V.int))) (a := c) (o := .lst (cs.map V.int)))
  have hc0 : H c = none := (s3.trans (s4.trans s5)).free hc
  have he0 : H e = none := s6.free he
  refine k _ z ⟨(s6.trans s7).trans (same_new hz2), ⟨c, e, cs, cs.map keepI, upd_same, ?_, ?_, ?_, c1, c2, (s6.trans s7).free hz2, hc0, he0, ?_⟩, Int.le_refl 0, by decide⟩
  · rw [upd_ne (ne_of_none cz hz2)]
    exact cz
  · rw [upd_ne (ne_of_none h3 hz2)]
    exact h3
  · rw [List.length_map]
  · exact fun q => by
      rw [q, upd_same] at he
      cases he
end
abbrev sMixed : Stmt := top 10
section
variable {P : Program} {w : World} {K : PySem.W.Frag} {mg : Str → Option Value} {base : Heap}
theorem scMixed : FnScope ["_law_deck_here", "_law_items", "_law_left", "_law_found"] ["_law_deck_here", "_law_items"] (defScope sMixed) := ⟨rfl, rfl, rfl, by decide +kernel, rfl, by decide +kernel, by decide +kernel⟩
theorem ok_mixed {f : Addr} {fd : FuncData} (F : Fun K "_law_mixed" "_law_mixed" sMixed f fd) (T : Txt mg) (F__law_next : Dfn P w K mg base "_law_next" 1 ["_law_deck_here", "_law_many"] spNext) : FnOk P w K mg base CX0 2 f fd ["_law_deck_here", "_law_items"] (spMixed K) := by
  refine F.ok scMixed (fun vs H Q E h => ?_) (fun cdv A outer s H vs Q E hr h => ?_)
  · obtain ⟨H0, a, l, c, ns, rfl, _⟩ := h
    rfl
  obtain ⟨H0, a, l, c, ns, rfl, D, hS, hl, hc, k⟩ := h
  have hu64 := hr.units
  refine ⟨_, (pss_cons (ps_par rfl scMixed.nd (i := 2) (j := 3) rfl rfl (by decide) rfl rfl (pa_cons (pe_callTy (listOfK K) (by rfl) T.b_list bt_list (pa_cons (pv 1) pa_nil)) (pa_cons (pe_lst pa_nil) pa_nil)) rfl)
    (pss_cons (ps_while PassesOwn.never (pt_cmpR (neDK K hu64) (pv 2) (pe_lst pa_nil) (nomark _))
      (pss_one (ps_expr (pe_bm PySem.F.plainAttrs_list PySem.F.slot_list_append PySem.F.type_list_append mt_append (pv 3) (pa_cons (pe_bm PySem.F.plainAttrs_list PySem.F.slot_list_pop PySem.F.type_list_pop mt_popAt (pv 2) (pa_cons (pe_call F__law_next.ok (hr.mono (by omega)) rfl F__law_next.mg F__law_next.kp F__law_next.bd .nil pass0 (pa_cons (pv 0) (pa_cons (pe_callB (lenK K) (by rfl) T.b_len bt_len (pa_cons (pv 2) pa_nil)) pa_nil))) pa_nil)) pa_nil)))))
    (pss_one (ps_ret (pv 3))))), ?_⟩
  refine ⟨_, rfl, l, _, rfl, .inl (D.same.seq hS), fun p hp => ?_⟩
  refine ⟨Nat.zero_le _, fun q hq => ?_⟩
  refine ⟨_, _, rfl, ?_⟩
  have D1 := (D.new (.lst (ns.map V.int)) hp).new (.lst []) hq
  have npq : p ≠ q := fun z => by
    rw [← z, upd_same] at hq
    cases hq
  have hp0 := D.free hp
  have hq0 : H0 q = none := D.free (by rw [upd_ne npq.symm] at hq; exact hq)
  refine ⟨fun m σ H' => ∃ (H0' : Hp) (c' : Int) (ls fs : List Int), m = ls.length ∧ σ = [some (.ref a), some (.ref l), some (.ref p), some (.ref q)] ∧ Same H0 H0' ∧ Deck H0' H' a c' ∧
    H0' p = some (.lst (ls.map V.int)) ∧ H0' q = some (.lst (fs.map V.int)) ∧ c' = c + fs.length ∧ (fs ++ ls).Perm ns,
    ⟨_, _, c, ns, [], rfl, rfl, ?_, D1, ?_, upd_same, by rw [List.length_nil]; omega, .refl _⟩, ?_⟩
  · intro b o z
    rw [upd_ne (ne_of_none z hq0), upd_ne (ne_of_none z hp0)]
    exact z
  · rw [upd_ne npq, upd_same]
  rintro m σ H1 ⟨H0', c', ls, fs, rfl, rfl, s1, E1, hp1, hq1, ec, pm⟩
  have hlen := pm.length_eq
  rw [List.length_append] at hlen
  refine ⟨_, rfl, Nat.zero_le _, fun r hr1 => ?_⟩
  have E2 := E1.new (.lst []) hr1
  have s2 : Same H0' (upd H0' r (.lst [])) := same_new (E1.free hr1)
  refine ⟨.list (dI ls), .list [], .lst (SqL.of (E2.same _ _ (s2 _ _ hp1))) (dpI ls), .lst (SqL.of upd_same) .nil, dI_shL ls, dI_shL [], _, rfl, ?_⟩
  rw [dI_nil]
  cases ls with
  | nil =>
    refine ⟨_, rfl, ?_⟩
    have pm2 : fs.Perm ns := by rw [List.append_nil] at pm; exact pm
    rw [List.length_nil] at hlen
    refine k _ _ q fs (s1.trans s2) ?_ hq0 (s2 _ _ hq1) pm2
    rw [ec] at E2
    rw [show ((ns.length : Nat) : Int) = ((fs.length : Nat) : Int) by omega]
    exact E2
  | cons x ls =>
    have hp2 := s2 _ _ hp1
    have hq2 := s2 _ _ hq1
    refine iteT ?_
    generalize el : x :: ls = gs at hp1 hp2 pm hlen ⊢
    have g0 : 0 < gs.length := by rw [← el, List.length_cons]; omega
    refine ⟨fun σ' H' => ∃ (H0'' : Hp) (c'' : Int) (ls' fs' : List Int), ls'.length < gs.length ∧ σ' = [some (.ref a), some (.ref l), some (.ref p), some (.ref q)] ∧ Same H0 H0'' ∧ Deck H0'' H' a c'' ∧
      H0'' p = some (.lst (ls'.map V.int)) ∧ H0'' q = some (.lst (fs'.map V.int)) ∧ c'' = c + fs'.length ∧ (fs' ++ ls').Perm ns, fun σ' H' h => ?_, ?_⟩
    · obtain ⟨a1, a2, a3, a4, a5, a6⟩ := h
      exact ⟨_, a5, a1, a2, a3, a4, rfl, a6⟩
    refine ⟨_, rfl, .inl ⟨rfl, _, SqL.of (E2.same _ _ hq2)⟩, ?_⟩
    refine ⟨_, rfl, .inl ⟨rfl, _, SqL.of (E2.same _ _ hp2)⟩, ?_⟩
    refine ⟨_, rfl, _, rfl, p, _, rfl, .inl (SqL.of (E2.same _ _ hp2)), ?_⟩
    refine ⟨_, a, c', _, rfl, E2, by omega, by rw [List.length_map]; omega, by rw [List.length_map]; omega, fun H3 d E3 d0 d1 => ?_⟩
    rw [List.length_map] at d1
    have hd : d.toNat < gs.length := by omega
    refine ⟨p, _, d, d.toNat, .int gs[d.toNat], rfl, rfl, E3.same _ _ hp2, by omega, by omega, ?_, ?_, ?_⟩
    · exact seqIndex_of d0 (by rw [List.length_map]; exact d1)
    · rw [List.getElem?_map, List.getElem?_eq_getElem hd]; rfl
    have E4 := E3.put (.lst ((gs.map V.int).eraseIdx d.toNat)) hp2
    have hq3 : upd (upd H0' r (.lst [])) p (.lst ((gs.map V.int).eraseIdx d.toNat)) q = some (.lst (fs.map V.int)) := by
      rw [upd_ne npq.symm]
      exact hq2
    refine ⟨q, _, _, rfl, rfl, E4.same _ _ hq3, by rw [List.length_map]; exact small1000 (by omega), ?_⟩
    have E5 := E4.put (.lst (fs.map V.int ++ [.int gs[d.toNat]])) hq3
    refine ⟨_, _, gs.eraseIdx d.toNat, fs ++ [gs[d.toNat]], ?_, rfl, ?_, E5, ?_, ?_, ?_, ?_⟩
    · rw [List.length_eraseIdx, if_pos hd]
      omega
    · intro b o z
      rw [upd_ne (ne_of_none z hq0), upd_ne (ne_of_none z hp0)]
      exact s2 _ _ (s1 _ _ z)
    · rw [upd_ne npq, upd_same, map_erase]
    · rw [upd_same, List.map_append]; rfl
    · rw [List.length_append, List.length_singleton, ec]
      omega
    · rw [List.append_assoc]
      refine (List.Perm.append_left fs ?_).trans pm
      exact erase_perm hd
end
abbrev sBeside : Stmt := top 11
section
variable {P : Program} {w : World} {K : PySem.W.Frag} {mg : Str → Option Value} {base : Heap}
theorem scBeside : FnScope ["_law_one_here", "_law_other", "_law_is_falling", "_law_number"] ["_law_one_here", "_law_other", "_law_is_falling"] (defScope sBeside) := ⟨rfl, rfl, rfl, by decide +kernel, rfl, by decide +kernel, by decide +kernel⟩
theorem ok_beside {f : Addr} {fd : FuncData} (F : Fun K "_law_beside" "_law_beside" sBeside f fd) (T : Txt mg) : FnOk P w K mg base CX0 1 f fd ["_law_one_here", "_law_other", "_law_is_falling"] (spBesideP K) := by
  refine F.ok scBeside (fun vs H Q E h => ?_) (fun cdv A outer s H vs Q E hr h => ?_)
  · obtain ⟨a, b, t, xs, ys, rfl, _⟩ := h
    rfl
  obtain ⟨a, b, t, xs, ys, rfl, ha, hb, hx, hy, k⟩ := h
  refine ⟨_, (pss_cons (ps_if (pt_val (pv 2)) (pss_one (ps_ret (pe_op (catP K) (pe_callTy (tupP K) (by rfl) T.b_tuple bt_tuple (pa_cons (pe_lc (own := [("_law_number", 3)]) rfl scBeside.nd (piTK K (pv 0)) (blkOk_by (N := ["_law_one_here", "_law_other", "_law_is_falling", "_law_number"]) (sc := defScope sBeside) (by decide +kernel)) (fun _ _ _ _ _ => (pg_name (i := 3) scBeside.nd rfl (Or.inl rfl))) (fun _ _ _ _ _ => pts_nil) (fun _ _ _ _ _ => (pe_op op_add (pv 3) (pe_callB (lenK K) (by rfl) T.b_len bt_len (pa_cons (pv 1) pa_nil))))) pa_nil)) (pv 1)))) pss_nil)
    (pss_one (ps_ret (pe_op (catP K) (pv 0) (pe_callTy (tupP K) (by rfl) T.b_tuple bt_tuple (pa_cons (pe_lc (own := [("_law_number", 3)]) rfl scBeside.nd (piTK K (pv 1)) (blkOk_by (N := ["_law_one_here", "_law_other", "_law_is_falling", "_law_number"]) (sc := defScope sBeside) (by decide +kernel)) (fun _ _ _ _ _ => (pg_name (i := 3) scBeside.nd rfl (Or.inl rfl))) (fun _ _ _ _ _ => pts_nil) (fun _ _ _ _ _ => (pe_op op_add (pv 3) (pe_callB (lenK K) (by rfl) T.b_len bt_len (pa_cons (pv 0) pa_nil))))) pa_nil)))))), ?_⟩
  have lx : (xs.map V.int).length ≤ sizeLine := by rw [List.length_map]; exact sz _ (by omega)
  have ly : (ys.map V.int).length ≤ sizeLine := by rw [List.length_map]; exact sz _ (by omega)
  refine ⟨_, rfl, _, rfl, ?_⟩
  cases t with
  | true =>
    refine iteT ?_
    refine ⟨_, rfl, a, rfl, ⟨_, ha.sq⟩, fun D hD => ?_⟩
    refine lc_fmT (fun _ => true) (addV ((ys.map V.int).length : Nat)) ha.sq hD lx (fun x hx H' hs => tst_yes) (fun x hx _ H' hs => ?_) (fun H2 s2 h2 => ?_)
    · obtain ⟨i, rfl, _⟩ := mem_int hx
      intro R hR
      exact ⟨_, rfl, _, rfl, b, _, rfl, .inr (hb.same hs).sq, _, _, rfl, rfl, hR _ (Same.refl _)⟩
    rw [all_fm, List.length_map, map_ints (addV (ys.length : Nat)) (fun x => x + (ys.length : Int)) (fun _ => rfl)] at h2
    refine ⟨D, _, rfl, SqL.of h2, fun r o hr2 ho => ?_⟩
    have s3 : Same H2 (upd H2 r (.frz o (.tup ((xs.map fun x => x + (ys.length : Int)).map V.int)))) := same_new hr2
    refine ⟨_, rfl, ?_⟩
    refine catP_of ⟨o, upd_same, ho⟩ (hb.same (s2.trans s3)) (by rw [List.length_map, List.length_map, List.length_map]; exact sz _ (by omega)) fun u H4 s4 h4 => ?_
    refine k u H4 (s2.trans (s3.trans s4)) ?_
    rw [← List.map_append] at h4
    exact h4
  | false =>
    refine iteF ?_
    refine ⟨_, rfl, _, rfl, b, rfl, ⟨_, hb.sq⟩, fun D hD => ?_⟩
    refine lc_fmT (fun _ => true) (addV ((xs.map V.int).length : Nat)) hb.sq hD ly (fun x hx H' hs => tst_yes) (fun x hx _ H' hs => ?_) (fun H2 s2 h2 => ?_)
    · obtain ⟨i, rfl, _⟩ := mem_int hx
      intro R hR
      exact ⟨_, rfl, _, rfl, a, _, rfl, .inr (ha.same hs).sq, _, _, rfl, rfl, hR _ (Same.refl _)⟩
    rw [all_fm, List.length_map, map_ints (addV (xs.length : Nat)) (fun x => x + (xs.length : Int)) (fun _ => rfl)] at h2
    refine ⟨D, _, rfl, SqL.of h2, fun r o hr2 ho => ?_⟩
    have s3 : Same H2 (upd H2 r (.frz o (.tup ((ys.map fun x => x + (xs.length : Int)).map V.int)))) := same_new hr2
    refine catP_of (ha.same (s2.trans s3)) ⟨o, upd_same, ho⟩ (by rw [List.length_map, List.length_map, List.length_map]; exact sz _ (by omega)) fun u H4 s4 h4 => ?_
    refine k u H4 (s2.trans (s3.trans s4)) ?_
    rw [← List.map_append] at h4
    exact h4
end
abbrev sRow : Stmt := top 12
section
variable {P : Program} {w : World} {K : PySem.W.Frag} {mg : Str → Option Value} {base : Heap}
theorem scRow : FnScope ["_law_deck_here", "_law_limit", "_law_size", "_law_way", "_law_order", "_law_row_here", "_law_k", "_law_place", "_law_left", "_law_right", "_law_rows", "_law_core", "_law_number", "_law_rest"] ["_law_deck_here", "_law_limit"] (defScope sRow) := ⟨rfl, rfl, rfl, by decide +kernel, rfl, by decide +kernel, by decide +kernel⟩
theorem ok_row {f : Addr} {fd : FuncData} (F : Fun K "_law_row" "_law_row" sRow f fd) (T : Txt mg) (F__law_next : Dfn P w K mg base "_law_next" 1 ["_law_deck_here", "_law_many"] spNext)
    (F__law_mixed : Dfn P w K mg base "_law_mixed" 2 ["_law_deck_here", "_law_items"] (spMixed K)) (F__law_beside : Dfn P w K mg base "_law_beside" 1 ["_law_one_here", "_law_other", "_law_is_falling"] (spBesideP K)) :
    FnOk P w K mg base CX0 3 f fd ["_law_deck_here", "_law_limit"] (spRowP K) := by
  refine F.ok scRow (fun vs H Q E h => ?_) (fun cdv A outer s H vs Q E hr h => ?_)
  · obtain ⟨H0, a, c, lim, rfl, _⟩ := h
    rfl
  obtain ⟨H0, a, c, lim, rfl, D, l1, l2, hc, k⟩ := h
  refine ⟨_, (pss_cons (ps_par rfl scRow.nd (i := 2) (j := 3) rfl rfl (by decide) rfl rfl (pa_cons (pe_op op_add pe_int (pe_call F__law_next.ok (hr.mono (by omega)) rfl F__law_next.mg F__law_next.kp F__law_next.bd .nil pass0 (pa_cons (pv 0) (pa_cons (pv 1) pa_nil)))) (pa_cons (pe_call F__law_next.ok (hr.mono (by omega)) rfl F__law_next.mg F__law_next.kp F__law_next.bd .nil pass0 (pa_cons (pv 0) (pa_cons pe_int pa_nil))) pa_nil)) rfl)
    (pss_cons (ps_set (i := 4) scRow.nd rfl (Or.inl rfl) (pe_call F__law_mixed.ok (hr.mono (by omega)) rfl F__law_mixed.mg F__law_mixed.kp F__law_mixed.bd .nil pass0 (pa_cons (pv 0) (pa_cons (pe_listRg rfl rfl T.b_list (prg_1 rfl T.b_range (pv 2))) pa_nil))))
    (pss_cons (ps_if (pt_cmpR op_eq (pv 3) pe_int (nomark _)) (pss_one (ps_ret (pe_callTy (tupP K) (by rfl) T.b_tuple bt_tuple (pa_cons (pv 4) pa_nil)))) pss_nil)
    (pss_cons (ps_if (pt_cmpR op_eq (pv 3) pe_int (nomark _)) (pss_cons (ps_set (i := 5) scRow.nd rfl (Or.inl rfl) (pe_listRg rfl rfl T.b_list (prg_1 rfl T.b_range (pv 2))))
    (pss_cons (ps_for PassesOwn.never rfl (pi_range1 rfl T.b_range (pa_cons (pe_call F__law_next.ok (hr.mono (by omega)) rfl F__law_next.mg F__law_next.kp F__law_next.bd .nil pass0 (pa_cons (pv 0) (pa_cons pe_int pa_nil))) pa_nil)) (pg_name (i := 6) scRow.nd rfl (Or.inl rfl))
      (pss_cons (ps_set (i := 7) scRow.nd rfl (Or.inl rfl) (pe_call F__law_next.ok (hr.mono (by omega)) rfl F__law_next.mg F__law_next.kp F__law_next.bd .nil pass0 (pa_cons (pv 0) (pa_cons (pv 2) pa_nil))))
    (pss_cons (ps_par rfl scRow.nd (i := 8) (j := 9) rfl rfl (by decide) rfl rfl (pa_cons (pe_slice (slLK K) (pv 5) po_none (po_some (pv 7))) (pa_cons (pe_slice (slLK K) (pv 5) (po_some (pv 7)) po_none) pa_nil)) rfl)
    (pss_one (ps_set (i := 5) scRow.nd rfl (Or.inl rfl) (pe_op op_cat (pe_op op_cat (pv 8) (stepLK K (pe_slice (slLK K) (pv 9) po_none (po_some pe_int)) (pe_un un_neg pe_int))) (pe_slice (slLK K) (pv 9) (po_some pe_int) po_none)))))))
    (pss_one (ps_ret (pe_callTy (tupP K) (by rfl) T.b_tuple bt_tuple (pa_cons (stepLK K (pv 5) (pe_ix (ixLK K) (pe_lst (pa_cons pe_int (pa_cons (pe_un un_neg pe_int) pa_nil))) (pe_call F__law_next.ok (hr.mono (by omega)) rfl F__law_next.mg F__law_next.kp F__law_next.bd .nil pass0 (pa_cons (pv 0) (pa_cons pe_int pa_nil))) (fun _ _ => rfl))) pa_nil)))))) pss_nil)
    (pss_cons (ps_if (pt_cmpR op_eq (pv 3) pe_int (nomark _)) (pss_cons (ps_set (i := 10) scRow.nd rfl (Or.inl rfl) (pe_op op_rep (pe_lst (pa_cons (pe_tupP (pa_cons pe_int pa_nil)) pa_nil)) (pv 2)))
    (pss_cons (ps_while PassesOwn.never (pt_cmpR op_gt (pe_callB (lenK K) (by rfl) T.b_len bt_len (pa_cons (pv 10) pa_nil)) pe_int (nomark _))
      (pss_cons (ps_set (i := 6) scRow.nd rfl (Or.inl rfl) (pe_call F__law_next.ok (hr.mono (by omega)) rfl F__law_next.mg F__law_next.kp F__law_next.bd .nil pass0 (pa_cons (pv 0) (pa_cons (pe_op op_sub (pe_callB (lenK K) (by rfl) T.b_len bt_len (pa_cons (pv 10) pa_nil)) pe_int) pa_nil))))
    (pss_one (ps_set (i := 10) scRow.nd rfl (Or.inl rfl) (pe_op op_cat (pe_op op_cat (pe_slice (slLK K) (pv 10) po_none (po_some (pv 6))) (pe_lst (pa_cons (pe_call F__law_beside.ok (hr.mono (by omega)) rfl F__law_beside.mg F__law_beside.kp F__law_beside.bd .nil pass0 (pa_cons (pe_ix (ixLK K) (pv 10) (pv 6) (fun _ _ => rfl)) (pa_cons (pe_ix (ixLK K) (pv 10) (pe_op op_add (pv 6) pe_int) (fun _ _ => rfl)) (pa_cons (pe_cmpR op_eq (pe_call F__law_next.ok (hr.mono (by omega)) rfl F__law_next.mg F__law_next.kp F__law_next.bd .nil pass0 (pa_cons (pv 0) (pa_cons pe_int pa_nil))) pe_int (nomark _)) pa_nil)))) pa_nil))) (pe_slice (slLK K) (pv 10) (po_some (pe_op op_add (pv 6) pe_int)) po_none))))))
    (pss_one (ps_ret (pe_ix (ixLK K) (pv 10) pe_int (fun _ _ => rfl)))))) pss_nil)
    (pss_cons (ps_set (i := 11) scRow.nd rfl (Or.inl rfl) (pe_callTy (tupP K) (by rfl) T.b_tuple bt_tuple (pa_cons (pe_lc (own := [("_law_number", 12)]) rfl scRow.nd (piLK K (pv 4)) (blkOk_by (N := ["_law_deck_here", "_law_limit", "_law_size", "_law_way", "_law_order", "_law_row_here", "_law_k", "_law_place", "_law_left", "_law_right", "_law_rows", "_law_core", "_law_number", "_law_rest"]) (sc := defScope sRow) (by decide +kernel)) (fun _ _ _ _ _ => (pg_name (i := 12) scRow.nd rfl (Or.inl rfl))) (fun _ _ _ _ _ => (pts_one (pt_cmpR op_lt (pv 12) pe_int (nomark _)))) (fun _ _ _ _ _ => (pv 12))) pa_nil)))
    (pss_cons (ps_set (i := 13) scRow.nd rfl (Or.inl rfl) (tupRgP rfl rfl T.b_tuple (prg_1 rfl T.b_range (pe_op op_sub (pv 2) (pe_callB (lenK K) (by rfl) T.b_len bt_len (pa_cons (pv 11) pa_nil))))))
    (pss_cons (ps_if (pt_cmpR op_eq (pe_call F__law_next.ok (hr.mono (by omega)) rfl F__law_next.mg F__law_next.kp F__law_next.bd .nil pass0 (pa_cons (pv 0) (pa_cons pe_int pa_nil))) pe_int (nomark _)) (pss_one (ps_ret (pe_call F__law_beside.ok (hr.mono (by omega)) rfl F__law_beside.mg F__law_beside.kp F__law_beside.bd .nil pass0 (pa_cons (pv 11) (pa_cons (pv 13) (pa_cons (pe_cmpR op_eq (pe_call F__law_next.ok (hr.mono (by omega)) rfl F__law_next.mg F__law_next.kp F__law_next.bd .nil pass0 (pa_cons (pv 0) (pa_cons pe_int pa_nil))) pe_int (nomark _)) pa_nil)))))) pss_nil)
    (pss_one (ps_ret (pe_call F__law_beside.ok (hr.mono (by omega)) rfl F__law_beside.mg F__law_beside.kp F__law_beside.bd .nil pass0 (pa_cons (pv 13) (pa_cons (pv 11) (pa_cons pe_bl pa_nil)))))))))))))), ?_⟩
  -- size, way
  refine ⟨_, rfl, _, rfl, H0, a, c, lim, rfl, D, by omega, by omega, by omega, fun H1 d1 D1 d10 d11 => ?_⟩
  refine ⟨_, _, rfl, rfl, _, rfl, H0, a, c + 1, 4, rfl, D1, by omega, by decide, by decide, fun H2 w2 D2 w0 w1 => ?_⟩
  refine ⟨_, _, rfl, ?_⟩
  obtain ⟨n, hn⟩ : ∃ n : Nat, 1 + d1 = (n : Int) := ⟨(1 + d1).toNat, by omega⟩
  have hg : ∀ {G : Int → Prop}, G (n : Int) → G (1 + d1) := fun g => hn ▸ g
  refine hg (G := fun z => tSeq _ _ _ [some (.ref a), some (.int lim), some (.int z), some (.int w2), none, none, none, none, none, none, none, none, none, none] _) ?_
  have rg : RgOk 0 (n : Int) := ⟨by omega, by omega, by omega, by omega, by omega⟩
  -- order
  refine ⟨_, rfl, _, rfl, _, rfl, rg, fun p hp => ?_⟩
  rw [← iota_map]
  obtain ⟨G1, s1, D3, hp1, _⟩ := D2.add (.lst ((iota n).map V.int)) hp
  refine ⟨G1, a, p, _, iota n, rfl, D3, SqL.of hp1, by rw [iota_len]; omega, by omega, fun G2 H3 r ms s2 D4 hr0 hr1 pm => ?_⟩
  rw [iota_len] at D4
  have s02 := s1.trans s2
  have row_ms : Row ms := Row.of pm
  have len_ms : ms.length = n := by rw [pm.length_eq, iota_len]
  -- if way == 0
  refine ⟨_, rfl, rfl, _, rfl, ?_⟩
  refine ite2 (fun _ => ?_) (fun e0 => ?_)
  · refine ⟨_, rfl, r, _, rfl, SqL.of (D4.same _ _ hr1), fun l ob hl ho => ?_⟩
    obtain ⟨G3, s3, D5, hl1, _⟩ := D4.add (.frz ob (.tup (ms.map V.int))) hl
    exact k G3 _ l ms _ (s02.trans s3) D5 (by omega) ⟨ob, hl1, ho⟩ row_ms (by omega) (by omega)
  -- if way == 1
  refine ⟨_, rfl, rfl, _, rfl, ?_⟩
  refine ite2 (fun _ => ?_) (fun e1 => ?_)
  · refine ⟨_, rfl, _, rfl, rg, fun l hl => ?_⟩
    rw [← iota_map]
    obtain ⟨G3, s3, D5, hl1, _⟩ := D4.add (.lst ((iota n).map V.int)) hl
    refine ⟨_, rfl, G3, a, _, 4, rfl, D5, by omega, by decide, by decide, fun H4 d D6 d0 d1' => ?_⟩
    refine ⟨d, rfl, by omega, by omega, ?_⟩
    refine for_range (lo := 0) (n := d.toNat) (fun i σ H' => ∃ (G : Hp) (c' : Int) (l' : Addr) (xs : List Int) (v6 v7 v8 v9 : Option V),
      σ = [some (.ref a), some (.int lim), some (.int n), some (.int w2), some (.ref r), some (.ref l'), v6, v7, v8, v9, none, none, none, none] ∧ Same H0 G ∧ Deck G H' a c' ∧ c' ≤ c + 60 + i ∧
      G l' = some (.lst (xs.map V.int)) ∧ xs.Perm (iota n)) ⟨G3, _, l, iota n, none, none, none, none, rfl, s02.trans s3, D6, by omega, hl1, .refl _⟩ ?_ ?_
    · rintro i σ H5 hi ⟨G4, c5, l', xs, v6, v7, v8, v9, rfl, s4, D7, hc5, hl', px⟩
      refine ⟨_, rfl, _, rfl, G4, a, c5, n, rfl, D7, by omega, by omega, by omega, fun H6 e D8 e0' e1' => ?_⟩
      -- left, right
      refine ⟨_, rfl, _, rfl, _, rfl, l', _, rfl, SqL.of (D8.same _ _ hl'), fun u hu => ?_⟩
      rw [cut_to _ _ e0', ← List.map_take]
      obtain ⟨G5, s5, D9, hu1, _⟩ := D8.add (.lst ((xs.take e.toNat).map V.int)) hu
      refine ⟨_, rfl, _, rfl, _, rfl, l', _, rfl, SqL.of (D9.same _ _ (s5 _ _ hl')), fun v hv => ?_⟩
      rw [cut_from _ _ e0', ← List.map_drop]
      obtain ⟨G6, s6, D10, hv1, _⟩ := D9.add (.lst ((xs.drop e.toNat).map V.int)) hv
      refine ⟨_, _, rfl, ?_⟩
      -- left + right[:2][::-1] + right[2:]
      refine ⟨_, rfl, _, rfl, _, rfl, v, _, rfl, SqL.of (D10.same _ _ hv1), fun x hx => ?_⟩
      rw [cut_to _ _ (by decide), ← List.map_take]
      obtain ⟨G7, s7, D11, hx1, _⟩ := D10.add (.lst (((xs.drop e.toNat).take (2 : Int).toNat).map V.int)) hx
      refine ⟨_, rfl, x, _, rfl, SqL.of (D11.same _ _ hx1), .inr ⟨rfl, fun y hy => ?_⟩⟩
      rw [← List.map_reverse]
      obtain ⟨G8, s8, D12, hy1, _⟩ := D11.add (.lst (((xs.drop e.toNat).take (2 : Int).toNat).reverse.map V.int)) hy
      have s68 := s6.trans (s7.trans s8)
      have hxl := px.length_eq
      rw [iota_len] at hxl
      refine ⟨u, y, _, _, rfl, rfl, D12.same _ _ (s68 _ _ hu1), D12.same _ _ hy1, ?_, fun z hz => ?_⟩
      · rw [List.length_map, List.length_map, List.length_reverse, List.length_take, List.length_take]
        exact sz _ (by omega)
      rw [← List.map_append]
      obtain ⟨G9, s9, D13, hz1, _⟩ := D12.add (.lst ((xs.take e.toNat ++ ((xs.drop e.toNat).take (2 : Int).toNat).reverse).map V.int)) hz
      refine ⟨_, rfl, _, rfl, v, _, rfl, SqL.of (D13.same _ _ (s9 _ _ (s8 _ _ (s7 _ _ hv1)))), fun t ht => ?_⟩
      rw [cut_from _ _ (by decide), ← List.map_drop]
      obtain ⟨G10, s10, D14, ht1, _⟩ := D13.add (.lst (((xs.drop e.toNat).drop (2 : Int).toNat).map V.int)) ht
      refine ⟨z, t, _, _, rfl, rfl, D14.same _ _ (s10 _ _ hz1), D14.same _ _ ht1, ?_, fun y2 hy2 => ?_⟩
      · simp only [List.length_map, List.length_append, List.length_reverse, List.length_take, List.length_drop]
        exact sz _ (by omega)
      rw [← List.map_append]
      obtain ⟨G11, s11, D15, hy3, _⟩ := D14.add (.lst ((xs.take e.toNat ++ ((xs.drop e.toNat).take (2 : Int).toNat).reverse ++ (xs.drop e.toNat).drop (2 : Int).toNat).map V.int)) hy2
      exact ⟨G11, _, y2, _, _, _, _, _, rfl, s4.trans (s5.trans (s68.trans (s9.trans (s10.trans s11)))), D15, by omega, hy3, (swap_perm xs e.toNat).trans px⟩
    · rintro σ H5 ⟨G4, c5, l', xs, v6, v7, v8, v9, rfl, s4, D7, hc5, hl', px⟩
      have hxl := px.length_eq
      rw [iota_len] at hxl
      refine ⟨_, rfl, _, rfl, (by show 2 ≤ sizeLine; decide), fun u hu => ?_⟩
      obtain ⟨G5, s5, D8, hu1, _⟩ := D7.add (.lst [V.int 1, V.int (-1)]) hu
      refine ⟨_, rfl, G5, a, _, 2, rfl, D8, by omega, by decide, by decide, fun H6 e D9 e0' e1' => ?_⟩
      have hu2 := D9.same _ _ hu1
      have hl2 := D9.same _ _ (s5 _ _ hl')
      have e2 : e = 0 ∨ e = 1 := by omega
      rcases e2 with rfl | rfl
      · refine ⟨u, _, _, .int 1, rfl, rfl, SqL.of hu2, rfl, l', _, rfl, SqL.of hl2, .inl ⟨rfl, fun v hv => ?_⟩⟩
        obtain ⟨G6, s6, D10, hv1, _⟩ := D9.add (.lst (xs.map V.int)) hv
        refine ⟨v, _, rfl, SqL.of (D10.same _ _ hv1), fun x ob hx ho => ?_⟩
        obtain ⟨G7, s7, D11, hx1, _⟩ := D10.add (.frz ob (.tup (xs.map V.int))) hx
        exact k G7 _ x xs _ (s4.trans (s5.trans (s6.trans s7))) D11 (by omega) ⟨ob, hx1, ho⟩ (Row.of px) (by omega) (by omega)
      · refine ⟨u, _, _, .int (-1), rfl, rfl, SqL.of hu2, rfl, l', _, rfl, SqL.of hl2, .inr ⟨rfl, fun v hv => ?_⟩⟩
        rw [← List.map_reverse]
        obtain ⟨G6, s6, D10, hv1, _⟩ := D9.add (.lst (xs.reverse.map V.int)) hv
        refine ⟨v, _, rfl, SqL.of (D10.same _ _ hv1), fun x ob hx ho => ?_⟩
        obtain ⟨G7, s7, D11, hx1, _⟩ := D10.add (.frz ob (.tup (xs.reverse.map V.int))) hx
        exact k G7 _ x xs.reverse _ (s4.trans (s5.trans (s6.trans s7))) D11 (by omega) ⟨ob, hx1, ho⟩ (Row.of ((List.reverse_perm xs).trans px)) (by rw [List.length_reverse]; omega) (by rw [List.length_reverse]; omega)
  -- if way == 2
  refine ⟨_, rfl, rfl, _, rfl, ?_⟩
  refine ite2 (fun _ => ?_) (fun e2 => ?_)
  · refine ⟨(by show 1 ≤ sizeLine; decide), fun t ob ht ho => ?_⟩
    obtain ⟨G3, s3, D5, ht1, _⟩ := D4.add (.frz ob (.tup [V.int 0])) ht
    refine ⟨(by show 1 ≤ sizeLine; decide), fun u hu => ?_⟩
    obtain ⟨G4, s4, D6, hu1, _⟩ := D5.add (.lst [V.ref t]) hu
    refine ⟨_, rfl, u, _, _, rfl, rfl, D6.same _ _ hu1, by omega, by omega, ?_, fun l hl => ?_⟩
    · rw [List.length_singleton, Nat.one_mul]
      exact sz _ (by omega)
    rw [Int.toNat_natCast, rep_flat]
    obtain ⟨G5, s5, D7, hl1, _⟩ := D6.add (.lst (List.replicate n (V.ref t))) hl
    refine ⟨fun m σ H' => ∃ (G : Hp) (c' : Int) (l' : Addr) (ps : List (Addr × List Int)) (v6 : Option V),
      m = ps.length ∧ σ = [some (.ref a), some (.int lim), some (.int n), some (.int w2), some (.ref r), none, v6, none, none, none, some (.ref l'), none, none, none] ∧ Same H0 G ∧ Deck G H' a c' ∧
      c' + 2 * ps.length ≤ c + 160 ∧ G l' = some (.lst (ps.map fun p => V.ref p.1)) ∧ (∀ p ∈ ps, PT G p.1 (p.2.map V.int) ∧ Row p.2) ∧ (ps.map fun p => p.2.length).sum = n ∧ 1 ≤ ps.length ∧ ps.length ≤ 50,
      ⟨n, G5, _, l, List.replicate n (t, [0]), none, ?_, rfl, s02.trans (s3.trans (s4.trans s5)), D7, ?_, ?_, ?_, ?_, ?_, ?_⟩, ?_⟩
    · rw [List.length_replicate]
    · rw [List.length_replicate]; omega
    · rw [hl1, List.map_replicate]
    · intro p hp
      rw [(List.mem_replicate.mp hp).2]
      exact ⟨⟨ob, s5 _ _ (s4 _ _ ht1), ho⟩, Row.of (n := 1) (.refl _)⟩
    · rw [List.map_replicate, List.sum_replicate_nat]; simp
    · rw [List.length_replicate]; omega
    · rw [List.length_replicate]; omega
    rintro m σ H5 ⟨G, c5, l', ps, v6, rfl, rfl, sG, DG, hc5, hl', hps, hsum, hp1', hp2'⟩
    refine ⟨_, rfl, l', _, rfl, .inl (SqL.of (DG.same _ _ hl')), _, _, rfl, rfl, _, rfl, ?_⟩
    rw [List.length_map]
    refine ite2 (fun q => ?_) (fun q => ?_)
    · have q1 : 1 < ps.length := by have := of_decide_eq_true q; omega
      refine ⟨fun σ' H' => ∃ (G : Hp) (c' : Int) (l' : Addr) (ps' : List (Addr × List Int)) (v6 : Option V),
        ps'.length < ps.length ∧ σ' = [some (.ref a), some (.int lim), some (.int n), some (.int w2), some (.ref r), none, v6, none, none, none, some (.ref l'), none, none, none] ∧ Same H0 G ∧ Deck G H' a c' ∧
        c' + 2 * ps'.length ≤ c + 160 ∧ G l' = some (.lst (ps'.map fun p => V.ref p.1)) ∧ (∀ p ∈ ps', PT G p.1 (p.2.map V.int) ∧ Row p.2) ∧ (ps'.map fun p => p.2.length).sum = n ∧ 1 ≤ ps'.length ∧ ps'.length ≤ 50,
        fun σ' H' h => ?_, ?_⟩
      · obtain ⟨a1, a2, a3, a4, a5, a6, a7⟩ := h
        exact ⟨_, a6, a1, a2, a3, a4, a5, rfl, a7⟩
      refine ⟨_, rfl, _, rfl, l', _, rfl, .inl (SqL.of (DG.same _ _ hl')), _, _, rfl, rfl, G, a, c5, _, rfl, DG, by omega, by rw [List.length_map]; omega, by rw [List.length_map]; omega, fun H6 d D8 d0 d1' => ?_⟩
      rw [List.length_map] at d1'
      obtain ⟨A1, x1, x2, B1, eps, hA1⟩ := two_of (l := ps) (d := d.toNat) (by omega)
      have hlen : ps.length = A1.length + (B1.length + 2) := by rw [eps, List.length_append, List.length_cons, List.length_cons]
      have t1 : (ps.map fun p => V.ref p.1).take d.toNat = A1.map fun p => V.ref p.1 := by
        rw [eps, List.map_append, List.take_append_of_le_length (by rw [List.length_map]; omega), List.take_of_length_le (by rw [List.length_map]; omega)]
      have t2 : (ps.map fun p => V.ref p.1).drop (d + 2).toNat = B1.map fun p => V.ref p.1 := by
        rw [eps, show (d + 2).toNat = A1.length + 2 by omega, List.map_append, List.drop_append, List.length_map, List.drop_of_length_le (by rw [List.length_map]; omega), show A1.length + 2 - A1.length = 2 by omega]; rfl
      have t3 : (ps.map fun p => V.ref p.1)[d.toNat]? = some (V.ref x1.1) := by
        rw [eps, List.map_append, List.getElem?_append_right (by rw [List.length_map]; omega), List.length_map, show d.toNat - A1.length = 0 by omega]; rfl
      have t4 : (ps.map fun p => V.ref p.1)[(d + 1).toNat]? = some (V.ref x2.1) := by
        rw [eps, List.map_append, List.getElem?_append_right (by rw [List.length_map]; omega), List.length_map, show (d + 1).toNat - A1.length = 1 by omega]; rfl
      have m1 := hps x1 (by rw [eps]; simp)
      have m2 := hps x2 (by rw [eps]; simp)
      have hs2 : (A1.map fun p => p.2.length).sum + (x1.2.length + (x2.2.length + (B1.map fun p => p.2.length).sum)) = n := by
        rw [eps, List.map_append, List.sum_append_nat, List.map_cons, List.sum_cons, List.map_cons, List.sum_cons] at hsum
        exact hsum
      -- rows[:k]
      refine ⟨_, rfl, _, rfl, _, rfl, l', _, rfl, SqL.of (D8.same _ _ hl'), fun u2 hu2 => ?_⟩
      rw [cut_to _ _ d0, t1]
      obtain ⟨G6, s6, D9, hu3, _⟩ := D8.add (.lst (A1.map fun p => V.ref p.1)) hu2
      have hl6 := s6 _ _ hl'
      -- beside
      refine ⟨_, rfl, _, rfl, l', _, _, _, rfl, rfl, SqL.of (D9.same _ _ hl6), at_lst d0 t3, ?_⟩
      refine ⟨_, rfl, _, rfl, _, _, rfl, rfl, l', _, _, _, rfl, rfl, SqL.of (D9.same _ _ hl6), at_lst (by omega) t4, ?_⟩
      refine ⟨_, rfl, G6, a, _, 2, rfl, D9, by omega, by decide, by decide, fun H7 e D10 e0' e1' => ?_⟩
      refine ⟨rfl, x1.1, x2.1, _, x1.2, x2.2, rfl, m1.1.same (s6.trans D10.same), m2.1.same (s6.trans D10.same), by omega, by omega, fun r2 H8 s8 h8 => ?_⟩
      obtain ⟨G7, s7, D11, hr2⟩ := D10.pt s8 h8
      refine ⟨(by show 1 ≤ sizeLine; decide), fun u4 hu4 => ?_⟩
      obtain ⟨G8, s9, D12, hu5, _⟩ := D11.add (.lst [V.ref r2]) hu4
      have s79 := s7.trans s9
      refine ⟨u2, u4, _, _, rfl, rfl, D12.same _ _ (s79 _ _ hu3), D12.same _ _ hu5, ?_, fun u6 hu6 => ?_⟩
      · rw [List.length_map, List.length_singleton]
        exact sz _ (by omega)
      obtain ⟨G9, s10, D13, hu7, _⟩ := D12.add (.lst ((A1.map fun p => V.ref p.1) ++ [V.ref r2])) hu6
      refine ⟨_, rfl, _, rfl, _, _, rfl, rfl, _, rfl, l', _, rfl, SqL.of (D13.same _ _ (s10 _ _ (s79 _ _ hl6))), fun u8 hu8 => ?_⟩
      rw [cut_from _ _ (by omega), t2]
      obtain ⟨G10, s11, D14, hu9, _⟩ := D13.add (.lst (B1.map fun p => V.ref p.1)) hu8
      refine ⟨u6, u8, _, _, rfl, rfl, D14.same _ _ (s11 _ _ hu7), D14.same _ _ hu9, ?_, fun u10 hu10 => ?_⟩
      · rw [List.length_append, List.length_map, List.length_singleton, List.length_map]
        exact sz _ (by omega)
      obtain ⟨G11, s12, D15, hu11, _⟩ := D14.add (.lst ((A1.map fun p => V.ref p.1) ++ [V.ref r2] ++ (B1.map fun p => V.ref p.1))) hu10
      have sAll := s6.trans (s79.trans (s10.trans (s11.trans s12)))
      have lenb : (beside x1.2 x2.2 (decide (V.int e = V.int 1))).length = x1.2.length + x2.2.length := beside_len _ _ _
      refine ⟨G11, _, u10, A1 ++ (r2, beside x1.2 x2.2 (decide (V.int e = V.int 1))) :: B1, _, ?_, rfl, sG.trans sAll, D15, ?_, ?_, ?_, ?_, ?_, ?_⟩
      · rw [List.length_append, List.length_cons]; omega
      · rw [List.length_append, List.length_cons]; omega
      · rw [hu11, List.map_append, List.map_cons, List.append_assoc]; rfl
      · intro p hp
        rcases List.mem_append.mp hp with z | z
        · have := hps p (by rw [eps]; exact List.mem_append_left _ z)
          exact ⟨this.1.same sAll, this.2⟩
        · rcases List.mem_cons.mp z with z | z
          · rw [z]
            exact ⟨hr2.same (s9.trans (s10.trans (s11.trans s12))), beside_row m1.2 m2.2 _⟩
          · have := hps p (by rw [eps]; simp [z])
            exact ⟨this.1.same sAll, this.2⟩
      · rw [List.map_append, List.sum_append_nat, List.map_cons, List.sum_cons, lenb]; omega
      · rw [List.length_append, List.length_cons]; omega
      · rw [List.length_append, List.length_cons]; omega
    · have q1 : ps.length = 1 := by
        have : ¬ ((1 : Int) < (ps.length : Int)) := fun z => q (decide_eq_true z)
        omega
      obtain ⟨x1, rfl⟩ : ∃ x, ps = [x] := List.length_eq_one_iff.mp q1
      have m1 := hps x1 (by simp)
      have hs2 : x1.2.length = n := by
        rw [List.map_cons, List.sum_cons, List.map_nil, List.sum_nil] at hsum
        exact hsum
      refine ⟨_, rfl, l', _, _, _, rfl, rfl, SqL.of (DG.same _ _ hl'), rfl, ?_⟩
      exact k G H5 x1.1 x1.2 _ sG DG (by omega) m1.1 m1.2 (by omega) (by omega)
  -- core, rest
  refine ⟨_, rfl, r, rfl, ⟨_, SqL.of (D4.same _ _ hr1)⟩, fun E1 hE1 => ?_⟩
  refine lc_fmL lowV id (SqL.of (D4.same _ _ hr1)) hE1 (by rw [List.length_map]; exact sz _ (by omega)) (fun x hx H' hs => ?_) (fun x hx _ H' hs => ?_) (fun H4 s4 h4 => ?_)
  · obtain ⟨i, rfl, _⟩ := mem_int hx
    intro R hR
    exact ⟨_, rfl, _, _, rfl, rfl, _, rfl, hR _ (Same.refl _)⟩
  · intro R hR
    exact ⟨_, rfl, hR _ (Same.refl _)⟩
  have e4 : ((ms.map V.int).filter lowV).map id = (ms.filter fun x => decide (x < 5)).map V.int := by
    rw [List.map_id, List.filter_map]; rfl
  rw [e4] at h4
  have pc := low_perm pm
  generalize ms.filter (fun x => decide (x < 5)) = cr at h4 pc
  have lc : cr.length = min n 5 := by rw [pc.length_eq, iota_len]
  obtain ⟨G3, s5, D5, g5⟩ := D4.grow s4
  refine ⟨E1, _, rfl, SqL.of h4, fun t ob ht ho => ?_⟩
  obtain ⟨G4, s6, D6, ht1, _⟩ := D5.add (.frz ob (.tup (cr.map V.int))) ht
  have pt1 : PT G4 t (cr.map V.int) := ⟨ob, ht1, ho⟩
  refine ⟨_, rfl, _, rfl, t, _, rfl, .inr (pt1.same D6.same).sq, _, _, rfl, rfl, _, rfl, ?_⟩
  rw [List.length_map]
  refine ⟨⟨by omega, by omega, by omega, by omega, by omega⟩, fun u ob2 hu ho2 => ?_⟩
  rw [show ((n : Int) - ((cr.length : Nat) : Int)) = ((n - cr.length : Nat) : Int) by omega, ← iota_map]
  obtain ⟨G5, s7, D7, hu1, _⟩ := D6.add (.frz ob2 (.tup ((iota (n - cr.length)).map V.int))) hu
  have pu1 : PT G5 u ((iota (n - cr.length)).map V.int) := ⟨ob2, hu1, ho2⟩
  have li := iota_len (n - cr.length)
  have sAll := s02.trans (s5.trans (s6.trans s7))
  refine ⟨_, rfl, G5, a, _, 2, rfl, D7, by omega, by decide, by decide, fun H5 e D8 e0' e1' => ?_⟩
  refine ⟨rfl, _, rfl, ?_⟩
  refine ite2 (fun _ => ?_) (fun _ => ?_)
  · refine ⟨_, rfl, _, rfl, _, rfl, G5, a, _, 2, rfl, D8, by omega, by decide, by decide, fun H6 g D9 g0 g1 => ?_⟩
    refine ⟨rfl, t, u, _, cr, iota (n - cr.length), rfl, (pt1.same s7).same D9.same, pu1.same D9.same, by omega, by omega, fun r2 H7 s8 h8 => ?_⟩
    obtain ⟨G6, s9, D10, hr2⟩ := D9.pt s8 h8
    have lb : (beside cr (iota (n - cr.length)) (decide (V.int g = V.int 1))).length = cr.length + (iota (n - cr.length)).length := beside_len _ _ _
    exact k G6 _ r2 _ _ (sAll.trans s9) D10 (by omega) hr2 (beside_row (Row.of pc) (Row.iota _) _) (by omega) (by omega)
  · refine ⟨_, rfl, _, rfl, u, t, false, iota (n - cr.length), cr, rfl, pu1.same D8.same, (pt1.same s7).same D8.same, by omega, by omega, fun r2 H7 s8 h8 => ?_⟩
    obtain ⟨G6, s9, D10, hr2⟩ := D8.pt s8 h8
    have lb : (beside (iota (n - cr.length)) cr false).length = (iota (n - cr.length)).length + cr.length := beside_len _ _ _
    exact k G6 _ r2 _ _ (sAll.trans s9) D10 (by omega) hr2 (beside_row (Row.iota _) (Row.of pc) _) (by omega) (by omega)
end
end K2

namespace K2
open PySem L2 Rf
abbrev sSame : Stmt := top 9
section
variable {P : Program} {w : World} {K : PySem.W.Frag} {mg : Str → Option Value} {base : Heap}
theorem scSame : FnScope ["_law_found", "_law_due", "_law_k"] ["_law_found", "_law_due"] (defScope sSame) := ⟨rfl, rfl, rfl, by decide +kernel, rfl, by decide +kernel, by decide +kernel⟩
theorem ok_same {n : Nat} {f : Addr} {fd : FuncData} (F : Fun K "_law_same" "_law_same" sSame f fd) (T : Txt mg) (F__law_same : Dfn P w K mg base "_law_same" n ["_law_found", "_law_due"] (spSame K n)) :
    FnOk P w K mg base CX0 (n + 1) f fd ["_law_found", "_law_due"] (spSame K (n + 1)) := by
  refine F.ok scSame (fun vs H Q E h => ?_) (fun cdv A outer s H vs Q E hr h => ?_)
  · obtain ⟨x, y, d, rfl, _⟩ := h
    rfl
  obtain ⟨x, y, d, rfl, dx, dy, hd, hsm, h60, k⟩ := h
  obtain ⟨hl, hn⟩ := small_lay d hsm
  have hu64 := hr.units
  refine ⟨_, (pss_cons (ps_if (pt_val (pe_callB (isiTK K) (by rfl) T.b_isinstance bt_isinstance (pa_cons (pv 1) (pa_cons (pe_tup (pa_cons (pe_bltn (v := .ty "list") rfl T.b_list bt_list rfl) (pa_cons (pe_bltn (v := .ty "tuple") rfl T.b_tuple bt_tuple rfl) pa_nil))) pa_nil)))) (pss_cons (ps_if (PW.pt (pw_or (pt_cmpR op_ne (pe_callB (isiK K) (by rfl) T.b_isinstance bt_isinstance (pa_cons (pv 0) (pa_cons (pe_bltn (v := .ty "list") rfl T.b_list bt_list rfl) pa_nil))) (pe_callB (isiK K) (by rfl) T.b_isinstance bt_isinstance (pa_cons (pv 1) (pa_cons (pe_bltn (v := .ty "list") rfl T.b_list bt_list rfl) pa_nil))) (nomark _)) (pw_or1 (pt_cmpR op_ne (pe_callB (isiK K) (by rfl) T.b_isinstance bt_isinstance (pa_cons (pv 0) (pa_cons (pe_bltn (v := .ty "tuple") rfl T.b_tuple bt_tuple rfl) pa_nil))) (pe_callB (isiK K) (by rfl) T.b_isinstance bt_isinstance (pa_cons (pv 1) (pa_cons (pe_bltn (v := .ty "tuple") rfl T.b_tuple bt_tuple rfl) pa_nil))) (nomark _))))) (pss_one (ps_ret pe_bl)) pss_nil)
    (pss_cons (ps_if (pt_cmpR op_ne (pe_callB (lenK K) (by rfl) T.b_len bt_len (pa_cons (pv 0) pa_nil)) (pe_callB (lenK K) (by rfl) T.b_len bt_len (pa_cons (pv 1) pa_nil)) (nomark _)) (pss_one (ps_ret pe_bl)) pss_nil)
    (pss_one (ps_ret (pe_cmpR (eqDK K hu64) (pe_lc (own := [("_law_k", 2)]) rfl scSame.nd (pi_range1 rfl T.b_range (pa_cons (pe_callB (lenK K) (by rfl) T.b_len bt_len (pa_cons (pv 1) pa_nil)) pa_nil)) (blkOk_by (N := ["_law_found", "_law_due", "_law_k"]) (sc := defScope sSame) (by decide +kernel)) (fun _ _ _ _ _ => (pg_name (i := 2) scSame.nd rfl (Or.inl rfl))) (fun _ _ _ _ _ => (pts_one (pt_not (pt_val (pe_call F__law_same.ok (hr.mono (by omega)) rfl F__law_same.mg F__law_same.kp F__law_same.bd .nil pass0 (pa_cons (pe_ix (ixSK K) (pv 0) (pv 2) (fun _ _ => rfl)) (pa_cons (pe_ix (ixSK K) (pv 1) (pv 2) (fun _ _ => rfl)) pa_nil))))))) (fun _ _ _ _ _ => (pv 2))) (pe_lst pa_nil) (nomark _)))))) pss_nil)
    (pss_cons (ps_if (pt_cmpR op_isN (pv 1) pe_non (nomark _)) (pss_one (ps_ret (pe_cmpR op_isN (pv 0) pe_non (nomark _)))) pss_nil)
    (pss_cons (ps_if (pt_val (pe_callB (isiK K) (by rfl) T.b_isinstance bt_isinstance (pa_cons (pv 1) (pa_cons (pe_bltn (v := .ty "str") rfl T.b_str bt_str rfl) pa_nil)))) (pss_one (ps_ret (pe_and (pe_callB (isiK K) (by rfl) T.b_isinstance bt_isinstance (pa_cons (pv 0) (pa_cons (pe_bltn (v := .ty "str") rfl T.b_str bt_str rfl) pa_nil))) (pe_one (pe_cmpR (eqDK K hu64) (pv 0) (pv 1) (nomark _)))))) pss_nil)
    (pss_one (ps_ret (pe_and (pe_callB (isiK K) (by rfl) T.b_isinstance bt_isinstance (pa_cons (pv 0) (pa_cons (pe_bltn (v := .ty "int") rfl T.b_int bt_int rfl) pa_nil))) (pe_and (pe_cmpR op_eq (pe_callB (isiK K) (by rfl) T.b_isinstance bt_isinstance (pa_cons (pv 0) (pa_cons (pe_bltn (v := .ty "bool") rfl T.b_bool bt_bool rfl) pa_nil))) (pe_callB (isiK K) (by rfl) T.b_isinstance bt_isinstance (pa_cons (pv 1) (pa_cons (pe_bltn (v := .ty "bool") rfl T.b_bool bt_bool rfl) pa_nil))) (nomark _)) (pe_one (pe_cmpR (eqDK K hu64) (pv 0) (pv 1) (nomark _)))))))))), ?_⟩
  refine ⟨_, rfl, by show 2 ≤ sizeLine; decide, fun tp htp => ?_⟩
  have s1 : Same H (upd H tp (.tup [.ty "list", .ty "tuple"])) := same_new htp
  have dx1 := Same.dp s1 dx
  have dy1 := Same.dp s1 dy
  refine ⟨y, tp, _, _, _, _, rfl, upd_same, .cons (.ty _) (.cons (.ty _) .nil), Dp.tyx dy1, kit_seq hn, _, rfl, ?_⟩
  have flat : ∀ {b : Bool} {e : PyData}, True := fun {_ _} => trivial
  cases dx1 with
  | non =>
    cases dy1
    refine iteF ?_
    refine ⟨_, rfl, rfl, _, rfl, ?_⟩
    refine iteT ?_
    exact ⟨_, rfl, rfl, k _ s1⟩
  | bl b =>
    cases dy1
    refine iteF ?_
    refine ⟨_, rfl, rfl, _, rfl, ?_⟩
    refine iteF ?_
    refine ⟨_, rfl, _, _, _, _, _, rfl, .ty _, .base (.bl b), kit_ty kit_bs, _, rfl, ?_⟩
    refine iteF ?_
    refine ⟨_, rfl, _, _, _, _, _, rfl, .ty _, .base (.bl b), kit_ty kit_bi, _, rfl, ?_⟩
    refine iteT ?_
    refine ⟨_, rfl, _, _, _, _, _, rfl, .ty _, .base (.bl b), kit_ty kit_bb, _, rfl, _, _, _, _, _, rfl, .ty _, .base (.bl b), kit_ty kit_bb, rfl, _, rfl, ?_⟩
    refine iteT ?_
    refine ⟨_, rfl, _, rfl, .bool b, .bool b, .bl b, .bl b, shp hl h60, shp hl h60, ?_⟩
    rw [eqv_bool]
    exact k _ s1
  | int i =>
    cases dy1
    refine iteF ?_
    refine ⟨_, rfl, rfl, _, rfl, ?_⟩
    refine iteF ?_
    refine ⟨_, rfl, _, _, _, _, _, rfl, .ty _, .base (.int i), kit_ty kit_is, _, rfl, ?_⟩
    refine iteF ?_
    refine ⟨_, rfl, _, _, _, _, _, rfl, .ty _, .base (.int i), kit_ty kit_ii, _, rfl, ?_⟩
    refine iteT ?_
    refine ⟨_, rfl, _, _, _, _, _, rfl, .ty _, .base (.int i), kit_ty kit_ib, _, rfl, _, _, _, _, _, rfl, .ty _, .base (.int i), kit_ty kit_ib, rfl, _, rfl, ?_⟩
    refine iteT ?_
    refine ⟨_, rfl, _, rfl, .int i, .int i, .int i, .int i, shp hl h60, shp hl h60, ?_⟩
    rw [eqv_int]
    exact k _ s1
  | str z =>
    cases dy1
    refine iteF ?_
    refine ⟨_, rfl, rfl, _, rfl, ?_⟩
    refine iteF ?_
    refine ⟨_, rfl, _, _, _, _, _, rfl, .ty _, .base (.str z), kit_ty kit_ss, _, rfl, ?_⟩
    refine iteT ?_
    refine ⟨_, rfl, _, _, _, _, _, rfl, .ty _, .base (.str z), kit_ty kit_ss, _, rfl, ?_⟩
    refine iteT ?_
    refine ⟨_, rfl, _, rfl, .str z, .str z, .str z, .str z, shp hl h60, shp hl h60, ?_⟩
    rw [eqv_str]
    exact k _ s1
  | lst h1 h2 =>
    rename_i a xs ds
    cases dy1 with
    | lst g1 g2 =>
      rename_i b ys
      refine iteT ?_
      refine ⟨_, rfl, _, _, _, _, _, rfl, .ty _, tyx_lst h1, kit_ty kit_ll, _, rfl, _, _, _, _, _, rfl, .ty _, tyx_lst g1, kit_ty kit_ll, rfl, _, rfl, ?_⟩
      refine iteF ?_
      refine ⟨_, rfl, _, _, _, _, _, rfl, .ty _, tyx_lst h1, kit_ty kit_lt, _, rfl, _, _, _, _, _, rfl, .ty _, tyx_lst g1, kit_ty kit_lt, rfl, _, rfl, ?_⟩
      refine iteF ?_
      refine ⟨_, rfl, a, _, rfl, .inl h1, _, rfl, b, _, rfl, .inl g1, rfl, _, rfl, ?_⟩
      have el : (V.int (xs.length : Nat)) = V.int (ys.length : Nat) := by rw [DpAll.len h2, DpAll.len g2]
      refine iteNS el ?_
      have q1 : Sq K (upd H tp (.tup [.ty "list", .ty "tuple"])) a xs := Or.inl h1
      have q2 : Sq K (upd H tp (.tup [.ty "list", .ty "tuple"])) b ys := Or.inl g1
      have hdd : PyData.depthAll ds < n := by simp only [PyData.depth] at hd; omega
      have h60' : PyData.depthAll ds ≤ 60 := by simp only [PyData.depth] at h60; omega
      have hsa : decide (ds.length ≤ 1000) = true ∧ smallAll ds = true := by simpa only [small, Bool.and_eq_true] using hsm
      have hdl : ds.length ≤ 1000 := of_decide_eq_true hsa.1
      have lx := DpAll.len h2
      have ly := DpAll.len g2
      have hz : ys.length ≤ sizeLine := by rw [ly]; exact sz _ hdl
      refine ⟨_, rfl, b, _, rfl, q2, _, rfl, by omega, by rw [sizeLine_eq] at hz; omega, fun D hD => ?_⟩
      refine lc_fmR (fun _ => false) id hD (by omega) (fun i hi H' hs => ?_) (fun i hi z => nomatch z) (fun H2 s2 h2' => ?_)
      · intro R hR
        have hi' : i < ds.length := by omega
        obtain ⟨v1, d1, a1, a2, a3⟩ := DpAll.at h2 hi'
        obtain ⟨v2, d2, b1, b2, b3⟩ := DpAll.at g2 hi'
        rw [a2] at b2
        cases b2
        have e0 : (0 + (i : Int)).toNat = i := by omega
        refine ⟨_, rfl, _, rfl, ?_⟩
        refine rIx_of (q1.same hs) (at_lst (by omega) (by rw [e0]; exact a1)) ?_
        refine ⟨_, rfl, _, rfl, ?_⟩
        refine rIx_of (q2.same hs) (at_lst (by omega) (by rw [e0]; exact b1)) ?_
        have dep := depthAll_at a2
        exact ⟨v1, v2, d1, rfl, Same.dp hs a3, Same.dp hs b3, by omega, small_at hsa.2 a2, by omega, fun H'' s'' => ⟨_, rfl, hR _ s''⟩⟩
      · rw [filter_none (fun _ _ => rfl)] at h2'
        refine ⟨Nat.zero_le _, fun e he => ?_⟩
        have s3 : Same H2 (upd H2 e (.lst [])) := same_new he
        refine ⟨.list [], .list [], .lst (SqL.of (s3 _ _ h2')) .nil, .lst (SqL.of upd_same) .nil, sh_nil, sh_nil, ?_⟩
        rw [eqv_nil]
        exact k _ (s1.trans (s2.trans s3))
  | tup h1 h2 =>
    rename_i a xs ds
    cases dy1 with
    | tup g1 g2 =>
      rename_i b ys
      refine iteT ?_
      refine ⟨_, rfl, _, _, _, _, _, rfl, .ty _, tyx_tup h1, kit_ty kit_tl, _, rfl, _, _, _, _, _, rfl, .ty _, tyx_tup g1, kit_ty kit_tl, rfl, _, rfl, ?_⟩
      refine iteF ?_
      refine ⟨_, rfl, _, _, _, _, _, rfl, .ty _, tyx_tup h1, kit_ty kit_tt, _, rfl, _, _, _, _, _, rfl, .ty _, tyx_tup g1, kit_ty kit_tt, rfl, _, rfl, ?_⟩
      refine iteF ?_
      refine ⟨_, rfl, a, _, rfl, .inr h1, _, rfl, b, _, rfl, .inr g1, rfl, _, rfl, ?_⟩
      have el : (V.int (xs.length : Nat)) = V.int (ys.length : Nat) := by rw [DpAll.len h2, DpAll.len g2]
      refine iteNS el ?_
      have q1 : Sq K (upd H tp (.tup [.ty "list", .ty "tuple"])) a xs := Or.inr h1
      have q2 : Sq K (upd H tp (.tup [.ty "list", .ty "tuple"])) b ys := Or.inr g1
      have hdd : PyData.depthAll ds < n := by simp only [PyData.depth] at hd; omega
      have h60' : PyData.depthAll ds ≤ 60 := by simp only [PyData.depth] at h60; omega
      have hsa : decide (ds.length ≤ 1000) = true ∧ smallAll ds = true := by simpa only [small, Bool.and_eq_true] using hsm
      have hdl : ds.length ≤ 1000 := of_decide_eq_true hsa.1
      have lx := DpAll.len h2
      have ly := DpAll.len g2
      have hz : ys.length ≤ sizeLine := by rw [ly]; exact sz _ hdl
      refine ⟨_, rfl, b, _, rfl, q2, _, rfl, by omega, by rw [sizeLine_eq] at hz; omega, fun D hD => ?_⟩
      refine lc_fmR (fun _ => false) id hD (by omega) (fun i hi H' hs => ?_) (fun i hi z => nomatch z) (fun H2 s2 h2' => ?_)
      · intro R hR
        have hi' : i < ds.length := by omega
        obtain ⟨v1, d1, a1, a2, a3⟩ := DpAll.at h2 hi'
        obtain ⟨v2, d2, b1, b2, b3⟩ := DpAll.at g2 hi'
        rw [a2] at b2
        cases b2
        have e0 : (0 + (i : Int)).toNat = i := by omega
        refine ⟨_, rfl, _, rfl, ?_⟩
        refine rIx_of (q1.same hs) (at_lst (by omega) (by rw [e0]; exact a1)) ?_
        refine ⟨_, rfl, _, rfl, ?_⟩
        refine rIx_of (q2.same hs) (at_lst (by omega) (by rw [e0]; exact b1)) ?_
        have dep := depthAll_at a2
        exact ⟨v1, v2, d1, rfl, Same.dp hs a3, Same.dp hs b3, by omega, small_at hsa.2 a2, by omega, fun H'' s'' => ⟨_, rfl, hR _ s''⟩⟩
      · rw [filter_none (fun _ _ => rfl)] at h2'
        refine ⟨Nat.zero_le _, fun e he => ?_⟩
        have s3 : Same H2 (upd H2 e (.lst [])) := same_new he
        refine ⟨.list [], .list [], .lst (SqL.of (s3 _ _ h2')) .nil, .lst (SqL.of upd_same) .nil, sh_nil, sh_nil, ?_⟩
        rw [eqv_nil]
        exact k _ (s1.trans (s2.trans s3))
theorem same_all {f : Addr} {fd : FuncData} (F : Fun K "_law_same" "_law_same" sSame f fd) (T : Txt mg) (hm : mg "_law_same" = some (.ref f)) (hb : Binds K fd ["_law_found", "_law_due"] []) :
    ∀ n : Nat, FnOk P w K mg base CX0 n f fd ["_law_found", "_law_due"] (spSame K n)
  | 0 => by
    refine ⟨fun vs H Q E h => ?_, fun A outer s H args us vs Q E _ _ _ _ h => ?_⟩
    · obtain ⟨x, y, d, rfl, _⟩ := h
      rfl
    · obtain ⟨x, y, d, _, _, _, hd, _⟩ := h
      exact absurd hd (Nat.not_lt_zero _)
  | n + 1 => ok_same F T ⟨f, fd, same_all F T hm hb n, hm, F.kp, hb⟩
end
end K2

namespace K2
open PySem L2 Rf
abbrev sPattern : Stmt := top 1
abbrev sReversed : Stmt := top 2
abbrev sFlipped : Stmt := top 3
abbrev sInverse : Stmt := top 4
section
variable {P : Program} {w : World} {K : PySem.W.Frag} {mg : Str → Option Value} {base : Heap}
/-- pattern_of(numbers) -/
def spPattern (K : PySem.W.Frag) : Sp := fun vs H Q _ => ∃ (a : Addr) (ns : List Int), vs = [.ref a] ∧ SqT K H a (ns.map V.int) ∧ ns.length < 64 ∧
  ∀ (r : Addr) (H' : Hp), Same H H' → SqT K H' r ((pat ns).map V.int) → Q (.ref r) H'
def patV (ns : List Int) : V → V
  | .int i => .int (smaller ns i)
  | v => v
theorem scPattern : FnScope ["numbers", "ascending", "number"] ["numbers"] (defScope sPattern) := ⟨rfl, rfl, rfl, by decide +kernel, rfl, by decide +kernel, by decide +kernel⟩
theorem ok_pattern {f : Addr} {fd : FuncData} (F : Fun K "pattern_of" "pattern_of" sPattern f fd) (T : Txt mg) : FnOk P w K mg base CX0 1 f fd ["numbers"] (spPattern K) := by
  refine F.ok scPattern (fun vs H Q E h => ?_) (fun cdv A outer s H vs Q E hr h => ?_)
  · obtain ⟨a, ns, rfl, _⟩ := h
    rfl
  obtain ⟨a, ns, rfl, ha, h64, k⟩ := h
  refine ⟨_, (pss_cons (ps_set (i := 1) scPattern.nd rfl (Or.inr rfl) (pe_callB (sortTuK K) (by rfl) T.b_sorted bt_sorted (pa_cons (pv 0) pa_nil)))
    (pss_one (ps_ret (pe_callTy (tupOfK K) (by rfl) T.b_tuple bt_tuple (pa_cons (pe_lc (own := [("number", 2)]) rfl scPattern.nd (piTK K (pv 0)) (blkOk_by (N := ["numbers", "ascending", "number"]) (sc := defScope sPattern) (by decide +kernel)) (fun _ _ _ _ _ => (pg_name (i := 2) scPattern.nd rfl (Or.inl rfl))) (fun _ _ _ _ _ => pts_nil) (fun _ _ _ _ _ => (bmK K PySem.F.plainAttrs_list PySem.F.slot_list_index PySem.F.type_list_index (indexK K) (pv 1) (pa_cons (pv 2) pa_nil)))) pa_nil))))), ?_⟩
  refine ⟨_, rfl, a, ns, rfl, ha, h64, fun ms p pm so hp => ?_⟩
  have s1 : Same H (upd H p (.lst (ms.map V.int))) := same_new hp
  refine ⟨_, rfl, a, rfl, ⟨_, Same.tup s1 ha⟩, fun D hD => ?_⟩
  refine lc_fmT (fun _ => true) (patV ns) (Same.tup s1 ha) hD (by rw [List.length_map]; exact sz _ (by omega)) (fun x hx H' hs => tst_yes) (fun x hx _ H' hs => ?_) (fun H2 s2 h2 => ?_)
  · obtain ⟨i, rfl, hi⟩ := mem_int hx
    intro R hR
    have him : i ∈ ms := pm.mem_iff.mpr hi
    have hq : SqL K H' p (ms.map V.int) := hs.seq (SqL.of upd_same)
    have flat : (ms.map V.int).all flatV = true := List.all_eq_true.mpr fun z hz => by
      obtain ⟨j, _, rfl⟩ := List.mem_map.mp hz
      rfl
    refine ⟨_, rfl, .inl ⟨rfl, _, hq⟩, _, rfl, p, _, _, pos i ms, .int i, rfl, rfl, hq, rfl, flat, ?_, ?_, ?_, ?_⟩
    · rw [List.getElem?_map, pos_at him]; rfl
    · exact beq_self_eq_true i
    · intro m z hm hz
      rw [List.getElem?_map] at hz
      cases e : ms[m]? with
      | none => rw [e] at hz; cases hz
      | some j =>
        rw [e] at hz
        cases hz
        show (j == i) = false
        exact beq_eq_false_iff_ne.mpr fun q => pos_no hm (by rw [e, q])
    · rw [pos_sorted so him, smaller_perm pm]
      exact hR _ (Same.refl _)
  rw [all_fm, map_ints (patV ns) (fun x => (smaller ns x : Int)) (fun _ => rfl)] at h2
  refine ⟨D, _, rfl, .inl ⟨SqL.of h2, fun r hr2 => ?_⟩⟩
  exact k r _ (s1.trans (s2.trans (same_new hr2))) (SqT.of upd_same)
/-- reversed_row(row) -/
def spReversed (K : PySem.W.Frag) : Sp := fun vs H Q _ => ∃ (a : Addr) (ns : List Int), vs = [.ref a] ∧ SqT K H a (ns.map V.int) ∧
  ∀ (r : Addr) (H' : Hp), Same H H' → SqT K H' r (ns.reverse.map V.int) → Q (.ref r) H'
theorem scReversed : FnScope ["row"] ["row"] (defScope sReversed) := ⟨rfl, rfl, rfl, by decide +kernel, rfl, by decide +kernel, by decide +kernel⟩
theorem ok_reversed {f : Addr} {fd : FuncData} (F : Fun K "reversed_row" "reversed_row" sReversed f fd) (T : Txt mg) : FnOk P w K mg base CX0 1 f fd ["row"] (spReversed K) := by
  refine F.ok scReversed (fun vs H Q E h => ?_) (fun cdv A outer s H vs Q E hr h => ?_)
  · obtain ⟨a, ns, rfl, _⟩ := h
    rfl
  obtain ⟨a, ns, rfl, ha, k⟩ := h
  refine ⟨_, (pss_one (ps_ret (stepTK K (pv 0) (pe_un un_neg pe_int)))), ?_⟩
  refine ⟨_, rfl, _, rfl, a, _, rfl, ha, rfl, fun p hp => ?_⟩
  rw [← List.map_reverse]
  exact k p _ (same_new hp) (SqT.of upd_same)
/-- flipped_row(row) -/
def spFlipped (K : PySem.W.Frag) : Sp := fun vs H Q _ => ∃ (a : Addr) (ns : List Int), vs = [.ref a] ∧ SqT K H a (ns.map V.int) ∧ ns.length ≤ 100 ∧
  ∀ (r : Addr) (H' : Hp), Same H H' → SqT K H' r ((flip ns).map V.int) → Q (.ref r) H'
def flipV (n : Int) : V → V
  | .int i => .int (n - 1 - i)
  | v => v
theorem scFlipped : FnScope ["row", "number"] ["row"] (defScope sFlipped) := ⟨rfl, rfl, rfl, by decide +kernel, rfl, by decide +kernel, by decide +kernel⟩
theorem ok_flipped {f : Addr} {fd : FuncData} (F : Fun K "flipped_row" "flipped_row" sFlipped f fd) (T : Txt mg) : FnOk P w K mg base CX0 1 f fd ["row"] (spFlipped K) := by
  refine F.ok scFlipped (fun vs H Q E h => ?_) (fun cdv A outer s H vs Q E hr h => ?_)
  · obtain ⟨a, ns, rfl, _⟩ := h
    rfl
  obtain ⟨a, ns, rfl, ha, hl, k⟩ := h
  refine ⟨_, (pss_one (ps_ret (pe_callTy (tupOfK K) (by rfl) T.b_tuple bt_tuple (pa_cons (pe_lc (own := [("number", 1)]) rfl scFlipped.nd (piTK K (pv 0)) (blkOk_by (N := ["row", "number"]) (sc := defScope sFlipped) (by decide +kernel)) (fun _ _ _ _ _ => (pg_name (i := 1) scFlipped.nd rfl (Or.inl rfl))) (fun _ _ _ _ _ => pts_nil) (fun _ _ _ _ _ => (pe_op op_sub (pe_op op_sub (pe_callB (lenK K) (by rfl) T.b_len bt_len (pa_cons (pv 0) pa_nil)) pe_int) (pv 1)))) pa_nil)))), ?_⟩
  refine ⟨_, rfl, a, rfl, ⟨_, ha⟩, fun D hD => ?_⟩
  refine lc_fmT (fun _ => true) (flipV ((ns.map V.int).length : Nat)) ha hD (by rw [List.length_map]; exact sz _ (by omega)) (fun x hx H' hs => tst_yes) (fun x hx _ H' hs => ?_) (fun H2 s2 h2 => ?_)
  · obtain ⟨i, rfl, hi⟩ := mem_int hx
    intro R hR
    exact ⟨_, rfl, a, _, rfl, .inr (Same.tup hs ha), _, _, rfl, rfl, _, rfl, _, _, rfl, rfl, hR _ (Same.refl _)⟩
  rw [all_fm, List.length_map, map_ints (flipV (ns.length : Nat)) (fun x => (ns.length : Int) - 1 - x) (fun _ => rfl)] at h2
  refine ⟨D, _, rfl, .inl ⟨SqL.of h2, fun r hr2 => ?_⟩⟩
  exact k r _ (s2.trans (same_new hr2)) (SqT.of upd_same)
/-- inverse_row(row) -/
def spInverse (K : PySem.W.Frag) : Sp := fun vs H Q _ => ∃ (a : Addr) (ns : List Int), vs = [.ref a] ∧ PT H a (ns.map V.int) ∧ ns.length ≤ 100 ∧ Row ns ∧
  ∀ (r : Addr) (H' : Hp), Same H H' → SqT K H' r ((inv ns).map V.int) → Q (.ref r) H'
def posV (ns : List Int) : V → V
  | .int i => .int (pos i ns)
  | v => v
theorem scInverse : FnScope ["row", "number"] ["row"] (defScope sInverse) := ⟨rfl, rfl, rfl, by decide +kernel, rfl, by decide +kernel, by decide +kernel⟩
theorem ok_inverse {f : Addr} {fd : FuncData} (F : Fun K "inverse_row" "inverse_row" sInverse f fd) (T : Txt mg) : FnOk P w K mg base CX0 1 f fd ["row"] (spInverse K) := by
  refine F.ok scInverse (fun vs H Q E h => ?_) (fun cdv A outer s H vs Q E hr h => ?_)
  · obtain ⟨a, ns, rfl, _⟩ := h
    rfl
  obtain ⟨a, ns, rfl, ha, hl, hrow, k⟩ := h
  refine ⟨_, (pss_one (ps_ret (pe_callTy (tupOfK K) (by rfl) T.b_tuple bt_tuple (pa_cons (pe_lc (own := [("number", 1)]) rfl scInverse.nd (pi_range1 rfl T.b_range (pa_cons (pe_callB (lenK K) (by rfl) T.b_len bt_len (pa_cons (pv 0) pa_nil)) pa_nil)) (blkOk_by (N := ["row", "number"]) (sc := defScope sInverse) (by decide +kernel)) (fun _ _ _ _ _ => (pg_name (i := 1) scInverse.nd rfl (Or.inl rfl))) (fun _ _ _ _ _ => pts_nil) (fun _ _ _ _ _ => (pe_tix K (pv 0) (pa_cons (pv 1) pa_nil)))) pa_nil)))), ?_⟩
  refine ⟨_, rfl, a, _, rfl, .inr ha.sq, _, rfl, by omega, by rw [List.length_map]; omega, fun D hD => ?_⟩
  rw [List.length_map, Int.toNat_natCast]
  refine lc_fmR (fun _ => true) (posV ns) hD (sz _ (by omega)) (fun i hi H' hs => tst_yes) (fun i hi _ H' hs => ?_) (fun H2 s2 h2 => ?_)
  · intro R hR
    have hp := ha.same hs
    have hm : (0 + (i : Int)) ∈ ns := hrow.mem.mpr ⟨by omega, by omega⟩
    exact ⟨_, rfl, ⟨a, _, rfl, hp⟩, _, rfl, a, ns, _, pos (0 + (i : Int)) ns, rfl, rfl, hp.sq, pos_at hm, fun m hm2 => pos_no hm2, hR _ (Same.refl _)⟩
  have e : rng 0 ns.length = (iota ns.length).map V.int := by
    unfold rng iota
    rw [List.map_map]
    refine List.map_congr_left fun i _ => ?_
    show V.int (0 + (i : Nat)) = V.int (i : Int)
    rw [Int.zero_add]
  rw [all_fm, e, map_ints (posV ns) (fun x => (pos x ns : Int)) (fun _ => rfl)] at h2
  refine ⟨D, _, rfl, .inl ⟨SqL.of h2, fun r hr2 => ?_⟩⟩
  exact k r _ (s2.trans (same_new hr2)) (SqT.of upd_same)
end
end K2

namespace K2
open PySem L2 Rf
abbrev sOne : Stmt := top 8
abbrev sNumbers : Stmt := top 13
section
variable {P : Program} {w : World} {K : PySem.W.Frag} {mg : Str → Option Value} {base : Heap}
/-- one(deck, items): one of some ints -/
def spOne (K : PySem.W.Frag) : Sp := fun vs H Q _ => ∃ (H0 : Hp) (a l : Addr) (c : Int) (ns : List Int), vs = [.ref a, .ref l] ∧ Deck H0 H a c ∧ SqL K H0 l (ns.map V.int) ∧ 0 < ns.length ∧ ns.length ≤ 100 ∧ c < 900000 ∧
  ∀ (H' : Hp) (x : Int), Deck H0 H' a (c + 1) → x ∈ ns → Q (.int x) H'
theorem scOne : FnScope ["_law_deck_here", "_law_items"] ["_law_deck_here", "_law_items"] (defScope sOne) := ⟨rfl, rfl, rfl, by decide +kernel, rfl, by decide +kernel, by decide +kernel⟩
theorem ok_one {f : Addr} {fd : FuncData} (F : Fun K "_law_one" "_law_one" sOne f fd) (T : Txt mg) (F__law_next : Dfn P w K mg base "_law_next" 1 ["_law_deck_here", "_law_many"] spNext) : FnOk P w K mg base CX0 2 f fd ["_law_deck_here", "_law_items"] (spOne K) := by
  refine F.ok scOne (fun vs H Q E h => ?_) (fun cdv A outer s H vs Q E hr h => ?_)
  · obtain ⟨H0, a, l, c, ns, rfl, _⟩ := h
    rfl
  obtain ⟨H0, a, l, c, ns, rfl, D, hS, h0, hl, hc, k⟩ := h
  refine ⟨_, (pss_one (ps_ret (pe_ix (ixLK K) (pv 1) (pe_call F__law_next.ok (hr.mono (by omega)) rfl F__law_next.mg F__law_next.kp F__law_next.bd .nil pass0 (pa_cons (pv 0) (pa_cons (pe_callB (lenK K) (by rfl) T.b_len bt_len (pa_cons (pv 1) pa_nil)) pa_nil))) (fun _ _ => rfl)))), ?_⟩
  refine ⟨_, rfl, _, rfl, _, rfl, l, _, rfl, .inl (D.same.seq hS), H0, a, c, _, rfl, D, by omega, by rw [List.length_map]; omega, by rw [List.length_map]; omega, fun H1 d D1 d0 d1 => ?_⟩
  rw [List.length_map] at d1
  refine ⟨l, _, _, _, rfl, rfl, D1.same.seq hS, at_map d0 d1, ?_⟩
  refine k H1 _ D1 ?_
  rw [List.getD_eq_getElem?_getD, List.getElem?_eq_getElem (show d.toNat < ns.length by omega)]
  exact List.getElem_mem _
/-- numbers(deck, many): a tuple of so many ints -/
def spNumbers (K : PySem.W.Frag) : Sp := fun vs H Q _ => ∃ (H0 : Hp) (a : Addr) (c z : Int) (n : Nat), vs = [.ref a, .int z] ∧ z = (n : Int) ∧ Deck H0 H a c ∧ n ≤ 50 ∧ c < 800000 ∧
  ∀ (H0' H' : Hp) (r : Addr) (ms : List Int) (c' : Int), Same H0 H0' → Deck H0' H' a c' → c' ≤ c + 200 → PT H0' r (ms.map V.int) → ms.length = n → Q (.ref r) H'
theorem scNumbers : FnScope ["_law_deck_here", "_law_many", "_law_gap", "_law_low", "_law_found", "_law_k"] ["_law_deck_here", "_law_many"] (defScope sNumbers) := ⟨rfl, rfl, rfl, by decide +kernel, rfl, by decide +kernel, by decide +kernel⟩
theorem ok_numbers {f : Addr} {fd : FuncData} (F : Fun K "_law_numbers" "_law_numbers" sNumbers f fd) (T : Txt mg) (F__law_next : Dfn P w K mg base "_law_next" 1 ["_law_deck_here", "_law_many"] spNext)
    (F__law_one : Dfn P w K mg base "_law_one" 2 ["_law_deck_here", "_law_items"] (spOne K)) (F__law_mixed : Dfn P w K mg base "_law_mixed" 2 ["_law_deck_here", "_law_items"] (spMixed K)) : FnOk P w K mg base CX0 3 f fd ["_law_deck_here", "_law_many"] (spNumbers K) := by
  refine F.ok scNumbers (fun vs H Q E h => ?_) (fun cdv A outer s H vs Q E hr h => ?_)
  · obtain ⟨H0, a, c, z, n, rfl, _⟩ := h
    rfl
  obtain ⟨H0, a, c, z, n, rfl, rfl, D, hn, hc, k⟩ := h
  refine ⟨_, (pss_cons (ps_par rfl scNumbers.nd (i := 2) (j := 3) rfl rfl (by decide) rfl rfl (pa_cons (pe_call F__law_one.ok (hr.mono (by omega)) rfl F__law_one.mg F__law_one.kp F__law_one.bd .nil pass0 (pa_cons (pv 0) (pa_cons (pe_lst (pa_cons pe_int (pa_cons pe_int (pa_cons (pe_op op_pow pe_int pe_int) (pa_cons (pe_op op_pow pe_int pe_int) pa_nil))))) pa_nil))) (pa_cons (pe_call F__law_one.ok (hr.mono (by omega)) rfl F__law_one.mg F__law_one.kp F__law_one.bd .nil pass0 (pa_cons (pv 0) (pa_cons (pe_lst (pa_cons pe_int (pa_cons (pe_un un_neg pe_int) (pa_cons (pe_op op_sub pe_int (pe_op op_pow pe_int pe_int)) pa_nil)))) pa_nil))) pa_nil)) rfl)
    (pss_cons (ps_set (i := 4) scNumbers.nd rfl (Or.inl rfl) (pe_lst pa_nil))
    (pss_cons (ps_for PassesOwn.never rfl (pi_range1 rfl T.b_range (pa_cons (pv 1) pa_nil)) (pg_name (i := 5) scNumbers.nd rfl (Or.inl rfl))
      (pss_cons (ps_set (i := 3) scNumbers.nd rfl (Or.inl rfl) (pe_op op_add (pe_op op_add (pv 3) pe_int) (pe_call F__law_next.ok (hr.mono (by omega)) rfl F__law_next.mg F__law_next.kp F__law_next.bd .nil pass0 (pa_cons (pv 0) (pa_cons (pv 2) pa_nil)))))
    (pss_one (ps_expr (pe_bm PySem.F.plainAttrs_list PySem.F.slot_list_append PySem.F.type_list_append mt_append (pv 4) (pa_cons (pv 3) pa_nil))))))
    (pss_one (ps_ret (pe_callTy (tupP K) (by rfl) T.b_tuple bt_tuple (pa_cons (pe_call F__law_mixed.ok (hr.mono (by omega)) rfl F__law_mixed.mg F__law_mixed.kp F__law_mixed.bd .nil pass0 (pa_cons (pv 0) (pa_cons (pv 4) pa_nil))) pa_nil))))))), ?_⟩
  have pw1 : CPow 10 6 := ⟨by decide, by decide, by decide⟩
  have pw2 : CPow 10 27 := ⟨by decide, by decide, by decide⟩
  have pw3 : CPow 10 29 := ⟨by decide, by decide, by decide⟩
  -- gap
  refine ⟨_, rfl, _, _, rfl, rfl, pw1, _, _, rfl, rfl, pw2, by show 4 ≤ sizeLine; decide, fun p hp => ?_⟩
  obtain ⟨G1, s1, D1, hp1, _⟩ := D.add (.lst ([1, 3, 10 ^ 6, 10 ^ 27].map V.int)) hp
  refine ⟨G1, a, p, c, [1, 3, 10 ^ 6, 10 ^ 27], rfl, D1, SqL.of hp1, by decide, by decide, by omega, fun H1 gap D2 hgap => ?_⟩
  have g0 : 0 < gap ∧ gap < 2 ^ 100 := by
    simp only [List.mem_cons, List.not_mem_nil, or_false] at hgap
    omega
  -- low
  refine ⟨_, rfl, _, rfl, _, _, rfl, rfl, pw3, _, _, rfl, rfl, by show 3 ≤ sizeLine; decide, fun q hq => ?_⟩
  obtain ⟨G2, s2, D3, hq1, _⟩ := D2.add (.lst ([0, -4, 1 - 10 ^ 29].map V.int)) hq
  refine ⟨G2, a, q, _, [0, -4, 1 - 10 ^ 29], rfl, D3, SqL.of hq1, by decide, by decide, by omega, fun H2 low D4 _ => ?_⟩
  refine ⟨_, _, rfl, ?_⟩
  refine ⟨Nat.zero_le _, fun l hl => ?_⟩
  obtain ⟨G3, s3, D5, hl1, hl0⟩ := D4.add (.lst []) hl
  refine ⟨_, rfl, _, rfl, by omega, by omega, ?_⟩
  rw [Int.toNat_natCast]
  refine for_range (lo := 0) (n := n) (fun i σ H' => ∃ (G : Hp) (c' low' : Int) (v6 : Option V) (ms : List Int),
    σ = [some (.ref a), some (.int n), some (.int gap), some (.int low'), some (.ref l), v6] ∧ Same G2 G ∧ Deck G H' a c' ∧ c' ≤ c + 2 + i ∧ G l = some (.lst (ms.map V.int)) ∧ ms.length = i)
    ⟨G3, _, low, none, [], rfl, s3, D5, by omega, hl1, rfl⟩ ?_ ?_
  · rintro i σ H5 hi ⟨G, c', low', v6, ms, rfl, sG, DG, hc', hG, hms⟩
    refine ⟨_, rfl, _, _, rfl, rfl, _, rfl, _, rfl, G, a, c', gap, rfl, DG, by omega, g0.1, g0.2, fun H6 d D6 d0 d1 => ?_⟩
    refine ⟨_, _, rfl, rfl, ?_⟩
    refine ⟨_, rfl, .inl ⟨rfl, _, SqL.of (D6.same _ _ hG)⟩, _, rfl, l, _, _, rfl, rfl, D6.same _ _ hG, by rw [List.length_map]; exact small1000 (by omega), ?_⟩
    have D7 := D6.put (.lst (ms.map V.int ++ [.int (low' + 1 + d)])) hG
    refine ⟨_, _, _, _, ms ++ [low' + 1 + d], rfl, ?_, D7, by omega, ?_, by rw [List.length_append, List.length_singleton, hms]⟩
    · intro b o z
      rw [upd_ne (ne_of_none z hl0)]
      exact sG _ _ z
    · rw [upd_same, List.map_append]; rfl
  · rintro σ H5 ⟨G, c', low', v6, ms, rfl, sG, DG, hc', hG, hms⟩
    refine ⟨_, rfl, _, rfl, G, a, l, c', ms, rfl, DG, SqL.of hG, by omega, by omega, fun G4 H6 r ks s4 D6 hr0 hr1 pm => ?_⟩
    refine ⟨r, _, rfl, SqL.of (D6.same _ _ hr1), fun t ob ht ho => ?_⟩
    obtain ⟨G5, s5, D7, ht1, _⟩ := D6.add (.frz ob (.tup (ks.map V.int))) ht
    exact k G5 _ t ks _ (s1.trans (s2.trans (sG.trans (s4.trans s5)))) D7 (by omega) ⟨ob, ht1, ho⟩ (by rw [pm.length_eq, hms])
end
end K2

namespace K2
open PySem L2 Rf
abbrev sLaw : Stmt := top 14
/-- law(script) -/
def spLaw (K : PySem.W.Frag) : Sp := fun vs H Q _ => ∃ (a : Addr) (ns : List Int), vs = [.ref a] ∧ SqL K H a (ns.map V.int) ∧ ns.length ≤ 63 ∧ ∀ H', Q (.bl true) H'
def backV (xs : List Int) (n : Int) : V → V
  | .int k => .int (xs.getD (n - 1 - k).toNat 0)
  | v => v
theorem back_list (xs : List Int) : (rng 0 xs.length).map (backV xs xs.length) = xs.reverse.map V.int := by
  apply List.ext_getElem?
  intro i
  by_cases hi : i < xs.length
  · rw [List.getElem?_map, rng_at hi, List.getElem?_map, List.getElem?_reverse hi]
    have e : ((xs.length : Int) - 1 - (0 + (i : Int))).toNat = xs.length - 1 - i := by omega
    show some (V.int (xs.getD ((xs.length : Int) - 1 - (0 + (i : Int))).toNat 0)) = _
    rw [e, List.getD_eq_getElem?_getD, List.getElem?_eq_getElem (show xs.length - 1 - i < xs.length by omega)]
    rfl
  · rw [List.getElem?_eq_none_iff.mpr (by rw [List.length_map, rng_len]; omega), List.getElem?_eq_none_iff.mpr (by rw [List.length_map, List.length_reverse]; omega)]
theorem list3 {K : PySem.W.Frag} {H : Hp} {l a b c : Addr} {x y z : List Int} (hl : H l = some (.lst [.ref a, .ref b, .ref c])) (ha : SqT K H a (x.map V.int)) (hb : SqT K H b (y.map V.int)) (hc : SqT K H c (z.map V.int)) :
    Dp K H (.ref l) (.list [rowD x, rowD y, rowD z]) := .lst (SqL.of hl) (.cons (rowD_dp ha) (.cons (rowD_dp hb) (.cons (rowD_dp hc) .nil)))
theorem small3 {x y z : List Int} (h1 : x.length ≤ 1000) (h2 : y.length ≤ 1000) (h3 : z.length ≤ 1000) : small (.list [rowD x, rowD y, rowD z]) = true := by
  simp only [small, smallAll, rowD_small h1, rowD_small h2, rowD_small h3, List.length_cons, List.length_nil]
  rfl
theorem depth3 {x y z : List Int} : (PyData.list [rowD x, rowD y, rowD z]).depth = 2 := by
  simp only [PyData.depth, PyData.depthAll, rowD_depth]
  decide
theorem PTput {H : Hp} {a u : Addr} {xs ys : List V} {o : HO} (h : PT H a xs) (hu : H u = some (.lst ys)) : PT (upd H u o) a xs := by
  obtain ⟨ob, e, d⟩ := h
  have ne : a ≠ u := ne_of e hu (by intro z; cases z)
  exact ⟨ob, by rw [upd_ne ne]; exact e, d⟩
theorem list4 {K : PySem.W.Frag} {H : Hp} {l a b c d : Addr} {x y z t : List Int} (hl : H l = some (.lst [.ref a, .ref b, .ref c, .ref d])) (ha : SqT K H a (x.map V.int)) (hb : SqT K H b (y.map V.int)) (hc : SqT K H c (z.map V.int)) (hd : SqT K H d (t.map V.int)) :
    Dp K H (.ref l) (.list [rowD x, rowD y, rowD z, rowD t]) := .lst (SqL.of hl) (.cons (rowD_dp ha) (.cons (rowD_dp hb) (.cons (rowD_dp hc) (.cons (rowD_dp hd) .nil))))
theorem small4 {x y z t : List Int} (h1 : x.length ≤ 1000) (h2 : y.length ≤ 1000) (h3 : z.length ≤ 1000) (h4 : t.length ≤ 1000) : small (.list [rowD x, rowD y, rowD z, rowD t]) = true := by
  simp only [small, smallAll, rowD_small h1, rowD_small h2, rowD_small h3, rowD_small h4, List.length_cons, List.length_nil]
  rfl
theorem depth4 {x y z t : List Int} : (PyData.list [rowD x, rowD y, rowD z, rowD t]).depth = 2 := by
  simp only [PyData.depth, PyData.depthAll, rowD_depth]
  decide
def lessV (x : Int) : V → Bool
  | .int i => decide (i < x)
  | _ => false
def oneV : V → V := fun _ => .int 1
theorem less_count (ms : List Int) (x : Int) : (((ms.map V.int).filter (lessV x)).map oneV).length = smaller ms x := by
  rw [List.length_map, List.filter_map, List.length_map]; rfl
section
variable {P : Program} {w : World} {K : PySem.W.Frag} {mg : Str → Option Value} {base : Heap}
theorem scLaw : FnScope ["_law_script", "_law_deck_here", "_law_turn", "_law_row_here", "_law_size", "_law_kept", "_law_due", "_law_k", "_law_number", "_law_places", "_law_place", "_law_both", "_law_numbers_here", "_law_one_here"] ["_law_script"] (defScope sLaw) := ⟨rfl, rfl, rfl, by decide +kernel, rfl, by decide +kernel, by decide +kernel⟩
theorem ok_law {f : Addr} {fd : FuncData} (F : Fun K "law" "law" sLaw f fd) (T : Txt mg) (F__law_deck : Dfn P w K mg base "_law_deck" 1 ["_law_script"] (spDeck K)) (F__law_next : Dfn P w K mg base "_law_next" 1 ["_law_deck_here", "_law_many"] spNext)
    (F__law_row : Dfn P w K mg base "_law_row" 3 ["_law_deck_here", "_law_limit"] (spRowP K)) (F__law_numbers : Dfn P w K mg base "_law_numbers" 3 ["_law_deck_here", "_law_many"] (spNumbers K))
    (F__law_same : Dfn P w K mg base "_law_same" 3 ["_law_found", "_law_due"] (spSame K 3)) (F_pattern_of : Dfn P w K mg base "pattern_of" 1 ["numbers"] (spPattern K))
    (F_reversed_row : Dfn P w K mg base "reversed_row" 1 ["row"] (spReversed K)) (F_flipped_row : Dfn P w K mg base "flipped_row" 1 ["row"] (spFlipped K))
    (F_inverse_row : Dfn P w K mg base "inverse_row" 1 ["row"] (spInverse K)) :
    FnG P w K mg base CX0 4 f fd ["_law_script"] (spLaw K) := by
  refine okG F scLaw (fun vs H Q E h => ?_) (fun cdv A outer s H vs Q E hcm hr h => ?_)
  · obtain ⟨a, ns, rfl, _⟩ := h
    rfl
  obtain ⟨a, ns, rfl, hS, h63, k⟩ := h
  have hu64 := hr.units
  refine ⟨_, (pss_cons (ps_set (i := 1) scLaw.nd rfl (Or.inl rfl) (pe_call F__law_deck.ok (hr.mono (by omega)) rfl F__law_deck.mg F__law_deck.kp F__law_deck.bd .nil pass0 (pa_cons (pv 0) pa_nil)))
    (pss_cons (ps_for PassesOwn.never rfl (pi_range1 rfl T.b_range (pa_cons pe_int pa_nil)) (pg_name (i := 2) scLaw.nd rfl (Or.inl rfl))
      (pss_cons (ps_set (i := 3) scLaw.nd rfl (Or.inr rfl) (pe_call F__law_row.ok (hr.mono (by omega)) rfl F__law_row.mg F__law_row.kp F__law_row.bd .nil pass0 (pa_cons (pv 1) (pa_cons pe_int pa_nil))))
    (pss_cons (ps_asg (pe_tupP (pa_cons (pe_callB (lenK K) (by rfl) T.b_len bt_len (pa_cons (pv 3) pa_nil)) (pa_cons (pe_callB (reprK K hcm hu64) (by rfl) T.b_repr bt_repr (pa_cons (pv 3) pa_nil)) pa_nil))) (pg_tup rfl (pgs_cons (pg_name (i := 4) scLaw.nd rfl (Or.inr rfl)) (pgs_cons (pg_name (i := 5) scLaw.nd rfl (Or.inl rfl)) pgs_nil))))
    (pss_cons (ps_set (i := 6) scLaw.nd rfl (Or.inl rfl) (pe_lst (pa_cons (pe_callTy (tupP K) (by rfl) T.b_tuple bt_tuple (pa_cons (pe_lc (own := [("_law_k", 7)]) rfl scLaw.nd (pi_range1 rfl T.b_range (pa_cons (pv 4) pa_nil)) (blkOk_by (N := ["_law_script", "_law_deck_here", "_law_turn", "_law_row_here", "_law_size", "_law_kept", "_law_due", "_law_k", "_law_number", "_law_places", "_law_place", "_law_both", "_law_numbers_here", "_law_one_here"]) (sc := defScope sLaw) (by decide +kernel)) (fun _ _ _ _ _ => (pg_name (i := 7) scLaw.nd rfl (Or.inl rfl))) (fun _ _ _ _ _ => pts_nil) (fun _ _ _ _ _ => (pe_ix (ixTK K) (pv 3) (pe_op op_sub (pe_op op_sub (pv 4) pe_int) (pv 7)) (fun _ _ => rfl)))) pa_nil)) (pa_cons (pe_callTy (tupP K) (by rfl) T.b_tuple bt_tuple (pa_cons (pe_lc (own := [("_law_number", 8)]) rfl scLaw.nd (piTK K (pv 3)) (blkOk_by (N := ["_law_script", "_law_deck_here", "_law_turn", "_law_row_here", "_law_size", "_law_kept", "_law_due", "_law_k", "_law_number", "_law_places", "_law_place", "_law_both", "_law_numbers_here", "_law_one_here"]) (sc := defScope sLaw) (by decide +kernel)) (fun _ _ _ _ _ => (pg_name (i := 8) scLaw.nd rfl (Or.inl rfl))) (fun _ _ _ _ _ => pts_nil) (fun _ _ _ _ _ => (pe_op op_sub (pe_op op_sub (pv 4) pe_int) (pv 8)))) pa_nil)) pa_nil))))
    (pss_cons (ps_set (i := 9) scLaw.nd rfl (Or.inl rfl) (pe_op op_rep (pe_lst (pa_cons pe_int pa_nil)) (pv 4)))
    (pss_cons (ps_for PassesOwn.never rfl (pi_range1 rfl T.b_range (pa_cons (pv 4) pa_nil)) (pg_name (i := 10) scLaw.nd rfl (Or.inl rfl))
      (pss_one (ps_asg (pv 10) (pg_sub (pv 9) (pe_ix (ixTK K) (pv 3) (pv 10) (fun _ _ => rfl)) set_list))))
    (pss_cons (ps_expr (pe_bm PySem.F.plainAttrs_list PySem.F.slot_list_append PySem.F.type_list_append mt_append (pv 6) (pa_cons (pe_callTy (tupP K) (by rfl) T.b_tuple bt_tuple (pa_cons (pv 9) pa_nil)) pa_nil)))
    (pss_cons (ps_if (pt_not (pt_val (pe_call F__law_same.ok (hr.mono (by omega)) rfl F__law_same.mg F__law_same.kp F__law_same.bd .nil pass0 (pa_cons (pe_lst (pa_cons (pe_call F_reversed_row.ok (hr.mono (by omega)) rfl F_reversed_row.mg F_reversed_row.kp F_reversed_row.bd .nil pass0 (pa_cons (pv 3) pa_nil)) (pa_cons (pe_call F_flipped_row.ok (hr.mono (by omega)) rfl F_flipped_row.mg F_flipped_row.kp F_flipped_row.bd .nil pass0 (pa_cons (pv 3) pa_nil)) (pa_cons (pe_call F_inverse_row.ok (hr.mono (by omega)) rfl F_inverse_row.mg F_inverse_row.kp F_inverse_row.bd .nil pass0 (pa_cons (pv 3) pa_nil)) pa_nil)))) (pa_cons (pv 6) pa_nil))))) (pss_one (ps_ret pe_bl)) pss_nil)
    (pss_cons (ps_if (pt_not (pt_val (pe_call F__law_same.ok (hr.mono (by omega)) rfl F__law_same.mg F__law_same.kp F__law_same.bd .nil pass0 (pa_cons (pe_lst (pa_cons (pe_call F_reversed_row.ok (hr.mono (by omega)) rfl F_reversed_row.mg F_reversed_row.kp F_reversed_row.bd .nil pass0 (pa_cons (pe_ix (ixLK K) (pv 6) pe_int (fun _ _ => rfl)) pa_nil)) (pa_cons (pe_call F_flipped_row.ok (hr.mono (by omega)) rfl F_flipped_row.mg F_flipped_row.kp F_flipped_row.bd .nil pass0 (pa_cons (pe_ix (ixLK K) (pv 6) pe_int (fun _ _ => rfl)) pa_nil)) (pa_cons (pe_call F_inverse_row.ok (hr.mono (by omega)) rfl F_inverse_row.mg F_inverse_row.kp F_inverse_row.bd .nil pass0 (pa_cons (pe_ix (ixLK K) (pv 6) pe_int (fun _ _ => rfl)) pa_nil)) (pa_cons (pe_call F_pattern_of.ok (hr.mono (by omega)) rfl F_pattern_of.mg F_pattern_of.kp F_pattern_of.bd .nil pass0 (pa_cons (pv 3) pa_nil)) pa_nil))))) (pa_cons (pe_op op_rep (pe_lst (pa_cons (pv 3) pa_nil)) pe_int) pa_nil))))) (pss_one (ps_ret pe_bl)) pss_nil)
    (pss_cons (ps_set (i := 11) scLaw.nd rfl (Or.inl rfl) (pe_lst (pa_cons (pe_call F_reversed_row.ok (hr.mono (by omega)) rfl F_reversed_row.mg F_reversed_row.kp F_reversed_row.bd .nil pass0 (pa_cons (pe_call F_flipped_row.ok (hr.mono (by omega)) rfl F_flipped_row.mg F_flipped_row.kp F_flipped_row.bd .nil pass0 (pa_cons (pv 3) pa_nil)) pa_nil)) (pa_cons (pe_call F_flipped_row.ok (hr.mono (by omega)) rfl F_flipped_row.mg F_flipped_row.kp F_flipped_row.bd .nil pass0 (pa_cons (pe_call F_reversed_row.ok (hr.mono (by omega)) rfl F_reversed_row.mg F_reversed_row.kp F_reversed_row.bd .nil pass0 (pa_cons (pv 3) pa_nil)) pa_nil)) pa_nil))))
    (pss_cons (ps_if (PW.pt (pw_or (pt_not (pt_val (pe_call F__law_same.ok (hr.mono (by omega)) rfl F__law_same.mg F__law_same.kp F__law_same.bd .nil pass0 (pa_cons (pe_ix (ixLK K) (pv 11) pe_int (fun _ _ => rfl)) (pa_cons (pe_ix (ixLK K) (pv 11) pe_int (fun _ _ => rfl)) pa_nil))))) (pw_or1 (pt_not (pt_val (pe_call F__law_same.ok (hr.mono (by omega)) rfl F__law_same.mg F__law_same.kp F__law_same.bd .nil pass0 (pa_cons (pe_call F_inverse_row.ok (hr.mono (by omega)) rfl F_inverse_row.mg F_inverse_row.kp F_inverse_row.bd .nil pass0 (pa_cons (pe_ix (ixLK K) (pv 6) pe_int (fun _ _ => rfl)) pa_nil)) (pa_cons (pe_call F_flipped_row.ok (hr.mono (by omega)) rfl F_flipped_row.mg F_flipped_row.kp F_flipped_row.bd .nil pass0 (pa_cons (pe_ix (ixLK K) (pv 6) pe_int (fun _ _ => rfl)) pa_nil)) pa_nil)))))))) (pss_one (ps_ret pe_bl)) pss_nil)
    (pss_cons (ps_set (i := 12) scLaw.nd rfl (Or.inr rfl) (pe_call F__law_numbers.ok (hr.mono (by omega)) rfl F__law_numbers.mg F__law_numbers.kp F__law_numbers.bd .nil pass0 (pa_cons (pv 1) (pa_cons (pe_op op_add pe_int (pe_call F__law_next.ok (hr.mono (by omega)) rfl F__law_next.mg F__law_next.kp F__law_next.bd .nil pass0 (pa_cons (pv 1) (pa_cons pe_int pa_nil)))) pa_nil))))
    (pss_cons (ps_set (i := 6) scLaw.nd rfl (Or.inl rfl) (pe_callTy (tupP K) (by rfl) T.b_tuple bt_tuple (pa_cons (pe_lc (own := [("_law_number", 8)]) rfl scLaw.nd (piTK K (pv 12)) (blkOk_by (N := ["_law_script", "_law_deck_here", "_law_turn", "_law_row_here", "_law_size", "_law_kept", "_law_due", "_law_k", "_law_number", "_law_places", "_law_place", "_law_both", "_law_numbers_here", "_law_one_here"]) (sc := defScope sLaw) (by decide +kernel)) (fun _ _ _ _ _ => (pg_name (i := 8) scLaw.nd rfl (Or.inr rfl))) (fun _ _ _ _ _ => pts_nil) (fun _ _ _ _ _ => (pe_callB (lenK K) (by rfl) T.b_len bt_len (pa_cons (pe_lc (own := [("_law_one_here", 13)]) rfl scLaw.nd (piTK K (pv 12)) (blkOk_by (by kernel_rfl)) (fun _ _ _ _ _ => (pg_name (i := 13) scLaw.nd rfl (Or.inl rfl))) (fun _ _ _ _ _ => (pts_one (pt_cmpR op_lt (pv 13) (pv 8) (nomark _)))) (fun _ _ _ _ _ => pe_int)) pa_nil)))) pa_nil)))
    (pss_one (ps_if (PW.pt (pw_or (pt_not (pt_val (pe_call F__law_same.ok (hr.mono (by omega)) rfl F__law_same.mg F__law_same.kp F__law_same.bd .nil pass0 (pa_cons (pe_call F_pattern_of.ok (hr.mono (by omega)) rfl F_pattern_of.mg F_pattern_of.kp F_pattern_of.bd .nil pass0 (pa_cons (pv 12) pa_nil)) (pa_cons (pv 6) pa_nil))))) (pw_or (pt_not (pt_val (pe_call F__law_same.ok (hr.mono (by omega)) rfl F__law_same.mg F__law_same.kp F__law_same.bd .nil pass0 (pa_cons (pe_call F_pattern_of.ok (hr.mono (by omega)) rfl F_pattern_of.mg F_pattern_of.kp F_pattern_of.bd .nil pass0 (pa_cons (pv 12) pa_nil)) (pa_cons (pv 6) pa_nil))))) (pw_or1 (pt_cmpR op_ne (pe_callB (reprK K hcm hu64) (by rfl) T.b_repr bt_repr (pa_cons (pv 3) pa_nil)) (pv 5) (nomark _)))))) (pss_one (ps_ret pe_bl)) pss_nil)))))))))))))))
    (pss_one (ps_ret pe_bl)))), ?_⟩
  refine ⟨_, rfl, a, ns, rfl, hS, h63, fun H0 dk D0 => ?_⟩
  refine ⟨8, rfl, by decide, by decide, ?_⟩
  refine for_range (lo := 0) (n := 8) (fun i σ H' => ∃ (G : Hp) (c : Int) (v2 v3 v4 v5 v6 v7 v8 v9 v10 v11 v12 v13 : Option V),
    σ = [some (.ref a), some (.ref dk), v2, v3, v4, v5, v6, v7, v8, v9, v10, v11, v12, v13] ∧ Deck G H' dk c ∧ c ≤ 600 * i)
    ⟨_, 0, none, none, none, none, none, none, none, none, none, none, none, none, rfl, D0, by omega⟩ ?_ ?_
  · rintro i σ H1 hi ⟨G, c, v2, v3, v4, v5, v6, v7, v8, v9, v10, v11, v12, v13, rfl, D, hc⟩
    -- row
    refine ⟨_, rfl, G, dk, c, 12, rfl, D, by decide, by decide, by omega, fun G1 H2 r xs c1 s1 D1 hc1 pr rowx l1 l12 => ?_⟩
    have hx100 : ∀ x ∈ xs, 0 ≤ x ∧ x < 100 := fun x hx => by
      have := rowx.mem.mp hx
      omega
    obtain ⟨sh1, sh2, sh3, sh4⟩ := row_shows hx100 (by omega)
    have pr2 := pr.same D1.same
    -- size, kept
    refine ⟨_, rfl, r, _, rfl, .inr pr2.sq, _, rfl, r, rowD xs, rfl, rowD_dp pr2.sq, sh1, sh2, sh3, sh4, by show 2 ≤ sizeLine; decide, fun t ob ht ho => ?_⟩
    rw [List.length_map]
    obtain ⟨txt, etxt⟩ : ∃ txt, txt = (rowD xs).shown := ⟨_, rfl⟩
    rw [← etxt]
    obtain ⟨n, hn⟩ : ∃ n, n = xs.length := ⟨_, rfl⟩
    rw [← hn]
    obtain ⟨G2, s2, D2, ht1, _⟩ := D1.add (.frz ob (.tup [.int (n : Nat), .str txt])) ht
    refine ⟨t, _, rfl, .inl (.inr ⟨ob, upd_same⟩), rfl, _, _, rfl, _, _, rfl, rfl, ?_⟩
    have prG2 := pr.same s2
    have q2 := (prG2.same D2.same).sq (K := K)
    -- due: the row backwards
    refine ⟨_, rfl, _, rfl, by omega, by omega, fun E1 hE1 => ?_⟩
    rw [Int.toNat_natCast]
    refine lc_fmR (fun _ => true) (backV xs n) hE1 (sz _ (by omega)) (fun i hi H' hs => tst_yes) (fun i hi _ H' hs => ?_) (fun H3 s3 h3 => ?_)
    · intro R hR
      exact ⟨_, rfl, _, rfl, _, _, rfl, rfl, _, rfl, _, _, rfl, rfl, r, _, _, _, rfl, rfl, Same.tup hs q2, at_map (by omega) (by omega), hR _ (Same.refl _)⟩
    rw [all_fm, hn, back_list] at h3
    refine ⟨E1, _, rfl, SqL.of h3, fun d0 o0 hd0 ho0 => ?_⟩
    have s4 : Same H3 (upd H3 d0 (.frz o0 (.tup (xs.reverse.map V.int)))) := same_new hd0
    have q3 := Same.tup (s3.trans s4) q2
    -- the row upside down
    refine ⟨_, rfl, r, rfl, ⟨_, q3⟩, fun E2 hE2 => ?_⟩
    refine lc_fmT (fun _ => true) (flipV n) q3 hE2 (by rw [List.length_map]; exact sz _ (by omega)) (fun x hx H' hs => tst_yes) (fun x hx _ H' hs => ?_) (fun H4 s5 h4 => ?_)
    · obtain ⟨j, rfl, _⟩ := mem_int hx
      intro R hR
      exact ⟨_, rfl, _, _, rfl, rfl, _, rfl, _, _, rfl, rfl, hR _ (Same.refl _)⟩
    rw [all_fm, map_ints (flipV n) (fun x => (n : Int) - 1 - x) (fun _ => rfl), hn] at h4
    refine ⟨E2, _, rfl, SqL.of h4, fun d1 o1 hd1 ho1 => ?_⟩
    have s6 : Same H4 (upd H4 d1 (.frz o1 (.tup ((flip xs).map V.int)))) := same_new hd1
    refine ⟨by show 2 ≤ sizeLine; decide, fun du hdu => ?_⟩
    have s7 : Same (upd H4 d1 (.frz o1 (.tup ((flip xs).map V.int)))) (upd (upd H4 d1 (.frz o1 (.tup ((flip xs).map V.int)))) du (.lst [.ref d0, .ref d1])) := same_new hdu
    have sA := s3.trans (s4.trans (s5.trans s6))
    obtain ⟨G3, t3, D3, g3⟩ := D2.grow (sA.trans s7)
    have k0 : PT G3 d0 (xs.reverse.map V.int) := ⟨o0, g3 _ _ (s7 _ _ (s6 _ _ (s5 _ _ upd_same))) (.inr fun _ z => nomatch z), ho0⟩
    have k1 : PT G3 d1 ((flip xs).map V.int) := ⟨o1, g3 _ _ (s7 _ _ upd_same) (.inr fun _ z => nomatch z), ho1⟩
    have kdu : G3 du = some (.lst [.ref d0, .ref d1]) := g3 _ _ upd_same (.inl (sA.free hdu))
    have kr := prG2.same t3
    -- places
    refine ⟨by show 1 ≤ sizeLine; decide, fun u hu => ?_⟩
    obtain ⟨G4, t4, D4, ku, _⟩ := D3.add (.lst [.int 0]) hu
    refine ⟨_, rfl, u, _, _, rfl, rfl, D4.same _ _ ku, by omega, by omega, by rw [List.length_singleton, Nat.one_mul]; exact sz _ (by omega), fun pl hpl => ?_⟩
    rw [Int.toNat_natCast, rep_flat]
    have erep : List.replicate n (V.int 0) = (List.replicate n (0 : Int)).map V.int := by rw [List.map_replicate]
    rw [erep]
    obtain ⟨G5, t5, D5, kpl, npl⟩ := D4.add (.lst ((List.replicate n (0 : Int)).map V.int)) hpl
    refine ⟨_, rfl, _, rfl, by omega, by omega, ?_⟩
    rw [Int.toNat_natCast]
    refine for_range (lo := 0) (n := n) (fun j σ H' => ∃ (G' : Hp) (v10 : Option V) (ps : List Int),
      σ = [some (.ref a), some (.ref dk), some (.int (0 + (i : Int))), some (.ref r), some (.int n), some (.str txt), some (.ref du), v7, v8, some (.ref pl), v10, v11, v12, v13] ∧
      Same G4 G' ∧ Deck G' H' dk c1 ∧ G' pl = some (.lst (ps.map V.int)) ∧ ps.length = n ∧ ∀ (m : Nat) (x : Int), m < j → xs[m]? = some x → ps[x.toNat]? = some (m : Int))
      ⟨G5, v10, List.replicate n 0, rfl, t5, D5, kpl, List.length_replicate, fun m x hm => absurd hm (Nat.not_lt_zero m)⟩ ?_ ?_
    · rintro j σ H7 hj ⟨G', v10', ps, rfl, sG, DG, hG, hps, hall⟩
      have hjx : j < xs.length := by omega
      have xm := rowx.mem.mp (List.getElem_mem hjx)
      have krG := (((kr.same t4).same sG).same DG.same).sq (K := K)
      refine ⟨_, rfl, _, rfl, _, rfl, _, rfl, r, _, _, _, rfl, rfl, krG, at_map (by omega) (by omega), ?_⟩
      have eg : xs.getD (0 + (j : Int)).toNat 0 = xs[j] := by
        rw [show (0 + (j : Int)).toNat = j by omega, List.getD_eq_getElem?_getD, List.getElem?_eq_getElem hjx]; rfl
      rw [eg]
      refine ⟨pl, _, _, xs[j].toNat, rfl, rfl, DG.same _ _ hG, ixN_of xm.1 (by rw [List.length_map]; omega), ?_⟩
      rw [map_set]
      have D6 := DG.put (.lst ((ps.set xs[j].toNat (0 + (j : Int))).map V.int)) hG
      refine ⟨_, _, ps.set xs[j].toNat (0 + (j : Int)), rfl, ?_, D6, upd_same, by rw [List.length_set]; exact hps, ?_⟩
      · intro b o z
        rw [upd_ne (ne_of_none z npl)]
        exact sG _ _ z
      · intro m x hm hx
        by_cases hmj : m = j
        · subst hmj
          rw [List.getElem?_eq_getElem hjx] at hx
          cases hx
          rw [List.getElem?_set_self (by omega)]
          congr 1
          omega
        · have hm2 : m < j := by omega
          have q := hall m x hm2 hx
          have hxm := rowx.mem.mp (List.mem_of_getElem? hx)
          have ne : xs[j].toNat ≠ x.toNat := fun e => by
            have ex : xs[j] = x := by omega
            have := nd_ix rowx.nodup (List.getElem?_eq_getElem hjx) (by rw [ex]; exact hx)
            omega
          rw [List.getElem?_set_ne ne]
          exact q
    rintro σ H7 ⟨G', v10', ps, rfl, sG, DG, hG, hps, hall⟩
    have eps : ps = inv xs := inv_of rowx (by omega) fun m x hx => hall m x (by have := (List.getElem?_eq_some_iff.mp hx).1; omega) hx
    subst eps
    have k0' := (k0.same t4).same sG
    have k1' := (k1.same t4).same sG
    have kr' := (kr.same t4).same sG
    have kdu' := sG _ _ (t4 _ _ kdu)
    -- due.append(tuple(places))
    refine ⟨_, rfl, .inl ⟨rfl, _, SqL.of (DG.same _ _ kdu')⟩, _, rfl, pl, _, rfl, SqL.of (DG.same _ _ hG), fun d2 o2 hd2 ho2 => ?_⟩
    obtain ⟨G6, t6, D6, kd2, _⟩ := DG.add (.frz o2 (.tup ((inv xs).map V.int))) hd2
    refine ⟨du, _, _, rfl, rfl, D6.same _ _ (t6 _ _ kdu'), by show 2 < sizeLine; decide, ?_⟩
    have D7 := D6.put (.lst [.ref d0, .ref d1, .ref d2]) (t6 _ _ kdu')
    have j0 := PTput (o := .lst [.ref d0, .ref d1, .ref d2]) (k0'.same t6) (t6 _ _ kdu')
    have j1 := PTput (o := .lst [.ref d0, .ref d1, .ref d2]) (k1'.same t6) (t6 _ _ kdu')
    have j2 := PTput (o := .lst [.ref d0, .ref d1, .ref d2]) (show PT G6 d2 ((inv xs).map V.int) from ⟨o2, kd2, ho2⟩) (t6 _ _ kdu')
    have jr := PTput (o := .lst [.ref d0, .ref d1, .ref d2]) (kr'.same t6) (t6 _ _ kdu')
    have f0 := j0.same D7.same
    have f1 := j1.same D7.same
    have f2 := j2.same D7.same
    have fr := jr.same D7.same
    have fdu := D7.same _ _ (upd_same (H := G6) (a := du) (o := .lst [.ref d0, .ref d1, .ref d2]))
    have lr : xs.reverse.length = xs.length := List.length_reverse
    have lf := flip_len xs
    have li := inv_len xs
    -- the three turned rows
    refine ⟨_, rfl, r, xs, rfl, fr.sq, fun p1 H8 s8 h8 => ?_⟩
    refine ⟨_, rfl, r, xs, rfl, (fr.same s8).sq, by omega, fun p2 H9 s9 h9 => ?_⟩
    refine ⟨_, rfl, r, xs, rfl, fr.same (s8.trans s9), by omega, rowx, fun p3 H10 s10 h10 => ?_⟩
    refine ⟨by show 3 ≤ sizeLine; decide, fun e1 he1 => ?_⟩
    have s11 : Same H10 (upd H10 e1 (.lst [.ref p1, .ref p2, .ref p3])) := same_new he1
    have s8a := s8.trans (s9.trans (s10.trans s11))
    refine ⟨_, rfl, _, _, .list [rowD xs.reverse, rowD (flip xs), rowD (inv xs)], rfl, list3 upd_same (Same.tup (s9.trans (s10.trans s11)) h8) (Same.tup (s10.trans s11) h9) (Same.tup s11 h10),
      list3 (s8a _ _ fdu) (f0.same s8a).sq (f1.same s8a).sq (f2.same s8a).sq, by rw [depth3]; decide, small3 (by omega) (by omega) (by omega), by rw [depth3]; decide, fun H12 s12 => ⟨_, rfl, ?_⟩⟩
    refine iteF ?_
    have u12 := s8a.trans s12
    -- each of them done twice, the pattern
    refine ⟨_, rfl, du, _, _, _, rfl, rfl, SqL.of (u12 _ _ fdu), rfl, d0, xs.reverse, rfl, (f0.same u12).sq, fun p4 H13 s13 h13 => ?_⟩
    rw [List.reverse_reverse] at h13
    refine ⟨_, rfl, du, _, _, _, rfl, rfl, SqL.of (s13 _ _ (u12 _ _ fdu)), rfl, d1, flip xs, rfl, (f1.same (u12.trans s13)).sq, by omega, fun p5 H14 s14 h14 => ?_⟩
    rw [Rf.flip_flip] at h14
    have u14 := u12.trans (s13.trans s14)
    refine ⟨_, rfl, du, _, _, _, rfl, rfl, SqL.of (u14 _ _ fdu), rfl, d2, inv xs, rfl, f2.same u14, by omega, rowx.inv, fun p6 H15 s15 h15 => ?_⟩
    rw [inv_inv rowx] at h15
    refine ⟨_, rfl, r, xs, rfl, (fr.same (u14.trans s15)).sq, by omega, fun p7 H16 s16 h16 => ?_⟩
    rw [rowx.pat] at h16
    refine ⟨by show 4 ≤ sizeLine; decide, fun e2 he2 => ?_⟩
    have s17 : Same H16 (upd H16 e2 (.lst [.ref p4, .ref p5, .ref p6, .ref p7])) := same_new he2
    refine ⟨_, rfl, by show 1 ≤ sizeLine; decide, fun e3 he3 => ?_⟩
    have s18 : Same (upd H16 e2 (.lst [.ref p4, .ref p5, .ref p6, .ref p7])) (upd (upd H16 e2 (.lst [.ref p4, .ref p5, .ref p6, .ref p7])) e3 (.lst [.ref r])) := same_new he3
    refine ⟨e3, 4, _, rfl, rfl, upd_same, by decide, by decide, by show 4 ≤ sizeLine; decide, fun e4 he4 => ?_⟩
    have s19 : Same (upd (upd H16 e2 (.lst [.ref p4, .ref p5, .ref p6, .ref p7])) e3 (.lst [.ref r])) (upd (upd (upd H16 e2 (.lst [.ref p4, .ref p5, .ref p6, .ref p7])) e3 (.lst [.ref r])) e4 (.lst [.ref r, .ref r, .ref r, .ref r])) := same_new he4
    have w17 := s17.trans (s18.trans s19)
    have w16 := s16.trans w17
    have w15 := s15.trans w16
    have w14 := s14.trans w15
    have u20 := u12.trans (s13.trans w14)
    have frn := (fr.same u20).sq (K := K)
    refine ⟨_, _, .list [rowD xs, rowD xs, rowD xs, rowD xs], rfl, list4 (s19 _ _ (s18 _ _ upd_same)) (Same.tup w14 h13) (Same.tup w15 h14) (Same.tup w16 h15) (Same.tup w17 h16),
      list4 upd_same frn frn frn frn, by rw [depth4]; decide, small4 (by omega) (by omega) (by omega) (by omega), by rw [depth4]; decide, fun H21 s21 => ⟨_, rfl, ?_⟩⟩
    refine iteF ?_
    have u21 := u20.trans s21
    -- both
    refine ⟨_, rfl, r, xs, rfl, (fr.same u21).sq, by omega, fun p8 H22 s22 h22 => ?_⟩
    refine ⟨p8, flip xs, rfl, h22, fun p9 H23 s23 h23 => ?_⟩
    refine ⟨_, rfl, r, xs, rfl, (fr.same (u21.trans (s22.trans s23))).sq, fun p10 H24 s24 h24 => ?_⟩
    refine ⟨p10, xs.reverse, rfl, h24, by omega, fun p11 H25 s25 h25 => ?_⟩
    rw [flip_rev] at h25
    refine ⟨by show 2 ≤ sizeLine; decide, fun bo hbo => ?_⟩
    have s26 : Same H25 (upd H25 bo (.lst [.ref p9, .ref p11])) := same_new hbo
    have kbo : upd H25 bo (.lst [.ref p9, .ref p11]) bo = some (.lst [.ref p9, .ref p11]) := upd_same
    have h23' := Same.tup (s24.trans (s25.trans s26)) h23
    have h25' := Same.tup s26 h25
    have u26 := u21.trans (s22.trans (s23.trans (s24.trans (s25.trans s26))))
    have lfr : (flip xs).reverse.length = xs.length := by rw [List.length_reverse, lf]
    refine ⟨_, rfl, bo, _, _, _, rfl, rfl, SqL.of kbo, rfl, _, rfl, bo, _, _, _, rfl, rfl, SqL.of kbo, rfl, ?_⟩
    refine ⟨_, _, rowD (flip xs).reverse, rfl, rowD_dp h23', rowD_dp h25', by rw [rowD_depth]; decide, rowD_small (by omega), by rw [rowD_depth]; decide, fun H27 s27 => ⟨_, rfl, ?_⟩⟩
    refine iteF ?_
    have u27 := u26.trans s27
    refine ⟨_, rfl, du, _, _, _, rfl, rfl, SqL.of (u27 _ _ fdu), rfl, d0, xs.reverse, rfl, f0.same u27, by omega, rowx.rev, fun p12 H28 s28 h28 => ?_⟩
    rw [inv_rev rowx] at h28
    refine ⟨_, rfl, du, _, _, _, rfl, rfl, SqL.of (s28 _ _ (u27 _ _ fdu)), rfl, d2, inv xs, rfl, (f2.same (u27.trans s28)).sq, by omega, fun p13 H29 s29 h29 => ?_⟩
    have lfi : (flip (inv xs)).length = xs.length := by rw [flip_len, li]
    refine ⟨_, _, rowD (flip (inv xs)), rfl, rowD_dp (Same.tup s29 h28), rowD_dp h29, by rw [rowD_depth]; decide, rowD_small (by omega), by rw [rowD_depth]; decide, fun H30 s30 => ⟨_, rfl, ?_⟩⟩
    refine iteF ?_
    have u30 := u27.trans (s28.trans (s29.trans s30))
    obtain ⟨G8, t8, D8, _⟩ := D7.grow u30
    -- the numbers
    refine ⟨_, rfl, _, rfl, G8, dk, c1, 12, rfl, D8, by omega, by decide, by decide, fun H31 dd D9 dd0 dd1 => ?_⟩
    refine ⟨_, _, rfl, rfl, G8, dk, _, _, (1 + dd).toNat, rfl, by omega, D9, by omega, by omega, fun G9 H32 m ms c2 t9 D10 hc2 pm lm => ?_⟩
    have fm := (pm.same D10.same).sq (K := K)
    have lm64 : ms.length < 64 := by omega
    -- how many are smaller, each
    refine ⟨_, rfl, m, rfl, ⟨_, fm⟩, fun E3 hE3 => ?_⟩
    refine lc_fmT (fun _ => true) (patV ms) fm hE3 (by rw [List.length_map]; exact sz _ (by omega)) (fun x hx H' hs => tst_yes) (fun x hx _ H' hs => ?_) (fun H33 s33 h33 => ?_)
    · obtain ⟨y, rfl, _⟩ := mem_int hx
      intro R hR
      refine ⟨_, rfl, m, rfl, ⟨_, Same.tup hs fm⟩, fun E4 hE4 => ?_⟩
      refine lc_fmT (lessV y) oneV (Same.tup hs fm) hE4 (by rw [List.length_map]; exact sz _ (by omega)) (fun z hz H'' hs2 => ?_) (fun z hz _ H'' hs2 => ?_) (fun H34 s34 h34 => ?_)
      · obtain ⟨q, rfl, _⟩ := mem_int hz
        intro R2 hR2
        exact ⟨_, rfl, _, rfl, _, _, rfl, rfl, _, rfl, hR2 _ (Same.refl _)⟩
      · intro R2 hR2
        exact hR2 _ (Same.refl _)
      · refine ⟨E4, _, rfl, .inl (SqL.of h34), ?_⟩
        rw [less_count]
        exact hR _ s34
    rw [all_fm, map_ints (patV ms) (fun x => (smaller ms x : Int)) (fun _ => rfl)] at h33
    refine ⟨E3, _, rfl, SqL.of h33, fun d3 o3 hd3 ho3 => ?_⟩
    have s34 : Same H33 (upd H33 d3 (.frz o3 (.tup ((pat ms).map V.int)))) := same_new hd3
    have k3 : SqT K (upd H33 d3 (.frz o3 (.tup ((pat ms).map V.int)))) d3 ((pat ms).map V.int) := .inl (.inr ⟨o3, upd_same⟩)
    have z34 := s33.trans s34
    have lp : (pat ms).length = ms.length := List.length_map _
    refine ⟨_, rfl, m, ms, rfl, Same.tup z34 fm, lm64, fun p14 H35 s35 h35 => ?_⟩
    refine ⟨_, rfl, _, _, rowD (pat ms), rfl, rowD_dp h35, rowD_dp (Same.tup s35 k3), by rw [rowD_depth]; decide, rowD_small (by omega), by rw [rowD_depth]; decide, fun H36 s36 => ⟨_, rfl, ?_⟩⟩
    refine iteF ?_
    have z36 := z34.trans (s35.trans s36)
    refine ⟨_, rfl, m, ms, rfl, Same.tup z36 fm, lm64, fun p15 H37 s37 h37 => ?_⟩
    refine ⟨_, rfl, _, _, rowD (pat ms), rfl, rowD_dp h37, rowD_dp (Same.tup (s35.trans (s36.trans s37)) k3), by rw [rowD_depth]; decide, rowD_small (by omega), by rw [rowD_depth]; decide, fun H38 s38 => ⟨_, rfl, ?_⟩⟩
    refine iteF ?_
    have z38 := z36.trans (s37.trans s38)
    have frl := (((((jr.same t8).same t9).same D10.same).same z38)).sq (K := K)
    refine ⟨_, rfl, r, rowD xs, rfl, rowD_dp frl, sh1, sh2, sh3, sh4, _, rfl, rfl, _, rfl, ?_⟩
    refine iteNS (by rw [etxt]) ?_
    obtain ⟨G10, t10, D11, _⟩ := D10.grow z38
    exact ⟨G10, c2, _, _, _, _, _, _, _, _, _, _, _, _, rfl, D11, by omega⟩
  · rintro σ H1 ⟨G, c, v2, v3, v4, v5, v6, v7, v8, v9, v10, v11, v12, v13, rfl, D, hc⟩
    exact k _
end
end K2

namespace K2
open PySem L2 Rf
theorem all_mk {l : PySem.W.OpenLaw} {w : World} {K : PySem.W.Frag} {h : Heap} {mg : Str → Option Value} {fa f1 f2 f3 f4 f5 f6 f7 f8 f9 f10 f11 f12 f13 : Addr} (X : K.In h) (G : h.Ns mainGlobals mg) (hfa : mg "law" = some (.ref fa))
    {od1 od2 od3 od4 od5 od6 od7 od8 od9 od10 od11 od12 od13 an1 an2 an3 an4 an5 an6 an7 an8 an9 an10 an11 an12 an13 : Option Addr} {sl1 sl2 sl3 sl4 sl5 sl6 sl7 sl8 sl9 sl10 sl11 sl12 sl13 : Array (Option Value)} {oc1 oc2 oc3 oc4 oc5 oc6 oc7 oc8 oc9 oc10 oc11 oc12 oc13 kV1 kV2 kV3 kV4 kV5 kV6 kV7 kV8 kV9 kV10 kV11 kV12 kV13 dc1 dc2 dc3 dc4 dc5 dc6 dc7 dc8 dc9 dc10 dc11 dc12 dc13 pm1 pm2 pm3 pm4 pm5 pm6 pm7 pm8 pm9 pm10 pm11 pm12 pm13 cd1 cd2 cd3 cd4 cd5 cd6 cd7 cd8 cd9 cd10 cd11 cd12 cd13 ct1 ct2 ct3 ct4 ct5 ct6 ct7 ct8 ct9 ct10 ct11 ct12 ct13 : Value}
    (a1 : PySem.W.nsIn K mainGlobals "pattern_of" = some (some (.ref f1)))
    (l1 : K.lookup f1 = some ⟨oc1, od1, .func (PySem.W.fnOf "pattern_of" "pattern_of" (defArgs sPattern) (defBody sPattern) (defScope sPattern) .none kV1 dc1 pm1 an1 cd1 ct1), sl1⟩)
    (c1 : PySem.W.codeIn K cd1 "pattern_of" = true) (k1 : PySem.W.keepIn K (.ref f1) = true)
    (a2 : PySem.W.nsIn K mainGlobals "reversed_row" = some (some (.ref f2)))
    (l2 : K.lookup f2 = some ⟨oc2, od2, .func (PySem.W.fnOf "reversed_row" "reversed_row" (defArgs sReversed) (defBody sReversed) (defScope sReversed) .none kV2 dc2 pm2 an2 cd2 ct2), sl2⟩)
    (c2 : PySem.W.codeIn K cd2 "reversed_row" = true) (k2 : PySem.W.keepIn K (.ref f2) = true)
    (a3 : PySem.W.nsIn K mainGlobals "flipped_row" = some (some (.ref f3)))
    (l3 : K.lookup f3 = some ⟨oc3, od3, .func (PySem.W.fnOf "flipped_row" "flipped_row" (defArgs sFlipped) (defBody sFlipped) (defScope sFlipped) .none kV3 dc3 pm3 an3 cd3 ct3), sl3⟩)
    (c3 : PySem.W.codeIn K cd3 "flipped_row" = true) (k3 : PySem.W.keepIn K (.ref f3) = true)
    (a4 : PySem.W.nsIn K mainGlobals "inverse_row" = some (some (.ref f4)))
    (l4 : K.lookup f4 = some ⟨oc4, od4, .func (PySem.W.fnOf "inverse_row" "inverse_row" (defArgs sInverse) (defBody sInverse) (defScope sInverse) .none kV4 dc4 pm4 an4 cd4 ct4), sl4⟩)
    (c4 : PySem.W.codeIn K cd4 "inverse_row" = true) (k4 : PySem.W.keepIn K (.ref f4) = true)
    (a5 : PySem.W.nsIn K mainGlobals "_law_deck" = some (some (.ref f5)))
    (l5 : K.lookup f5 = some ⟨oc5, od5, .func (PySem.W.fnOf "_law_deck" "_law_deck" (defArgs sDeck) (defBody sDeck) (defScope sDeck) .none kV5 dc5 pm5 an5 cd5 ct5), sl5⟩)
    (c5 : PySem.W.codeIn K cd5 "_law_deck" = true) (k5 : PySem.W.keepIn K (.ref f5) = true)
    (a6 : PySem.W.nsIn K mainGlobals "_law_next" = some (some (.ref f6)))
    (l6 : K.lookup f6 = some ⟨oc6, od6, .func (PySem.W.fnOf "_law_next" "_law_next" (defArgs sNext) (defBody sNext) (defScope sNext) .none kV6 dc6 pm6 an6 cd6 ct6), sl6⟩)
    (c6 : PySem.W.codeIn K cd6 "_law_next" = true) (k6 : PySem.W.keepIn K (.ref f6) = true)
    (a7 : PySem.W.nsIn K mainGlobals "_law_one" = some (some (.ref f7)))
    (l7 : K.lookup f7 = some ⟨oc7, od7, .func (PySem.W.fnOf "_law_one" "_law_one" (defArgs sOne) (defBody sOne) (defScope sOne) .none kV7 dc7 pm7 an7 cd7 ct7), sl7⟩)
    (c7 : PySem.W.codeIn K cd7 "_law_one" = true) (k7 : PySem.W.keepIn K (.ref f7) = true)
    (a8 : PySem.W.nsIn K mainGlobals "_law_same" = some (some (.ref f8)))
    (l8 : K.lookup f8 = some ⟨oc8, od8, .func (PySem.W.fnOf "_law_same" "_law_same" (defArgs sSame) (defBody sSame) (defScope sSame) .none kV8 dc8 pm8 an8 cd8 ct8), sl8⟩)
    (c8 : PySem.W.codeIn K cd8 "_law_same" = true) (k8 : PySem.W.keepIn K (.ref f8) = true)
    (a9 : PySem.W.nsIn K mainGlobals "_law_mixed" = some (some (.ref f9)))
    (l9 : K.lookup f9 = some ⟨oc9, od9, .func (PySem.W.fnOf "_law_mixed" "_law_mixed" (defArgs sMixed) (defBody sMixed) (defScope sMixed) .none kV9 dc9 pm9 an9 cd9 ct9), sl9⟩)
    (c9 : PySem.W.codeIn K cd9 "_law_mixed" = true) (k9 : PySem.W.keepIn K (.ref f9) = true)
    (a10 : PySem.W.nsIn K mainGlobals "_law_beside" = some (some (.ref f10)))
    (l10 : K.lookup f10 = some ⟨oc10, od10, .func (PySem.W.fnOf "_law_beside" "_law_beside" (defArgs sBeside) (defBody sBeside) (defScope sBeside) .none kV10 dc10 pm10 an10 cd10 ct10), sl10⟩)
    (c10 : PySem.W.codeIn K cd10 "_law_beside" = true) (k10 : PySem.W.keepIn K (.ref f10) = true)
    (a11 : PySem.W.nsIn K mainGlobals "_law_row" = some (some (.ref f11)))
    (l11 : K.lookup f11 = some ⟨oc11, od11, .func (PySem.W.fnOf "_law_row" "_law_row" (defArgs sRow) (defBody sRow) (defScope sRow) .none kV11 dc11 pm11 an11 cd11 ct11), sl11⟩)
    (c11 : PySem.W.codeIn K cd11 "_law_row" = true) (k11 : PySem.W.keepIn K (.ref f11) = true)
    (a12 : PySem.W.nsIn K mainGlobals "_law_numbers" = some (some (.ref f12)))
    (l12 : K.lookup f12 = some ⟨oc12, od12, .func (PySem.W.fnOf "_law_numbers" "_law_numbers" (defArgs sNumbers) (defBody sNumbers) (defScope sNumbers) .none kV12 dc12 pm12 an12 cd12 ct12), sl12⟩)
    (c12 : PySem.W.codeIn K cd12 "_law_numbers" = true) (k12 : PySem.W.keepIn K (.ref f12) = true)
    (a13 : PySem.W.nsIn K mainGlobals "law" = some (some (.ref f13)))
    (l13 : K.lookup f13 = some ⟨oc13, od13, .func (PySem.W.fnOf "law" "law" (defArgs sLaw) (defBody sLaw) (defScope sLaw) .none kV13 dc13 pm13 an13 cd13 ct13), sl13⟩)
    (c13 : PySem.W.codeIn K cd13 "law" = true) (k13 : PySem.W.keepIn K (.ref f13) = true)
    (z1 : PySem.W.nsIn K mainGlobals "len" = some none)
    (z2 : PySem.W.nsIn K mainGlobals "abs" = some none)
    (z3 : PySem.W.nsIn K mainGlobals "int" = some none)
    (z4 : PySem.W.nsIn K mainGlobals "list" = some none)
    (z5 : PySem.W.nsIn K mainGlobals "tuple" = some none)
    (z6 : PySem.W.nsIn K mainGlobals "range" = some none)
    (z7 : PySem.W.nsIn K mainGlobals "sorted" = some none)
    (z8 : PySem.W.nsIn K mainGlobals "repr" = some none)
    (z9 : PySem.W.nsIn K mainGlobals "isinstance" = some none)
    (z10 : PySem.W.nsIn K mainGlobals "bool" = some none)
    (z11 : PySem.W.nsIn K mainGlobals "str" = some none)
    (z12 : PySem.W.nsIn K mainGlobals "enumerate" = some none)
    (z13 : PySem.W.nsIn K mainGlobals "sum" = some none)
    (z14 : PySem.W.nsIn K mainGlobals "max" = some none)
    (z15 : PySem.W.nsIn K mainGlobals "min" = some none)
    (z16 : PySem.W.nsIn K mainGlobals "all" = some none)
    (z17 : PySem.W.nsIn K mainGlobals "any" = some none)
    (z18 : PySem.W.nsIn K mainGlobals "zip" = some none)
    (z19 : PySem.W.nsIn K mainGlobals "set" = some none) :
    ∃ fd : FuncData, (∀ (s : Shared) (u : Value), BindsTo s fd ⟨[u], []⟩ [("_law_script", u)]) ∧
      ∀ base : Heap, K.In base → base.Ns mainGlobals mg → FnG l.prog w K mg base CX0 4 fa fd ["_law_script"] (spLaw K) := by
  have e := hfa.symm.trans (PySem.W.mg_of X G a13)
  cases e
  have T : Txt mg := ⟨PySem.W.mg_none_of X G z1, PySem.W.mg_none_of X G z2, PySem.W.mg_none_of X G z3, PySem.W.mg_none_of X G z4, PySem.W.mg_none_of X G z5, PySem.W.mg_none_of X G z6, PySem.W.mg_none_of X G z7, PySem.W.mg_none_of X G z8, PySem.W.mg_none_of X G z9, PySem.W.mg_none_of X G z10, PySem.W.mg_none_of X G z11, PySem.W.mg_none_of X G z12, PySem.W.mg_none_of X G z13, PySem.W.mg_none_of X G z14, PySem.W.mg_none_of X G z15, PySem.W.mg_none_of X G z16, PySem.W.mg_none_of X G z17, PySem.W.mg_none_of X G z18, PySem.W.mg_none_of X G z19⟩
  have F1 := fun_mk (st := sPattern) l1 c1 k1
  have m1 := PySem.W.mg_of X G a1
  have b1 := F1.binds (ps := ["numbers"]) fun _ _ _ _ _ _ us hl => match us, hl with | [_], _ => rfl
  have F2 := fun_mk (st := sReversed) l2 c2 k2
  have m2 := PySem.W.mg_of X G a2
  have b2 := F2.binds (ps := ["row"]) fun _ _ _ _ _ _ us hl => match us, hl with | [_], _ => rfl
  have F3 := fun_mk (st := sFlipped) l3 c3 k3
  have m3 := PySem.W.mg_of X G a3
  have b3 := F3.binds (ps := ["row"]) fun _ _ _ _ _ _ us hl => match us, hl with | [_], _ => rfl
  have F4 := fun_mk (st := sInverse) l4 c4 k4
  have m4 := PySem.W.mg_of X G a4
  have b4 := F4.binds (ps := ["row"]) fun _ _ _ _ _ _ us hl => match us, hl with | [_], _ => rfl
  have F5 := fun_mk (st := sDeck) l5 c5 k5
  have m5 := PySem.W.mg_of X G a5
  have b5 := F5.binds (ps := ["_law_script"]) fun _ _ _ _ _ _ us hl => match us, hl with | [_], _ => rfl
  have F6 := fun_mk (st := sNext) l6 c6 k6
  have m6 := PySem.W.mg_of X G a6
  have b6 := F6.binds (ps := ["_law_deck_here", "_law_many"]) fun _ _ _ _ _ _ us hl => match us, hl with | [_, _], _ => rfl
  have F7 := fun_mk (st := sOne) l7 c7 k7
  have m7 := PySem.W.mg_of X G a7
  have b7 := F7.binds (ps := ["_law_deck_here", "_law_items"]) fun _ _ _ _ _ _ us hl => match us, hl with | [_, _], _ => rfl
  have F8 := fun_mk (st := sSame) l8 c8 k8
  have m8 := PySem.W.mg_of X G a8
  have b8 := F8.binds (ps := ["_law_found", "_law_due"]) fun _ _ _ _ _ _ us hl => match us, hl with | [_, _], _ => rfl
  have F9 := fun_mk (st := sMixed) l9 c9 k9
  have m9 := PySem.W.mg_of X G a9
  have b9 := F9.binds (ps := ["_law_deck_here", "_law_items"]) fun _ _ _ _ _ _ us hl => match us, hl with | [_, _], _ => rfl
  have F10 := fun_mk (st := sBeside) l10 c10 k10
  have m10 := PySem.W.mg_of X G a10
  have b10 := F10.binds (ps := ["_law_one_here", "_law_other", "_law_is_falling"]) fun _ _ _ _ _ _ us hl => match us, hl with | [_, _, _], _ => rfl
  have F11 := fun_mk (st := sRow) l11 c11 k11
  have m11 := PySem.W.mg_of X G a11
  have b11 := F11.binds (ps := ["_law_deck_here", "_law_limit"]) fun _ _ _ _ _ _ us hl => match us, hl with | [_, _], _ => rfl
  have F12 := fun_mk (st := sNumbers) l12 c12 k12
  have m12 := PySem.W.mg_of X G a12
  have b12 := F12.binds (ps := ["_law_deck_here", "_law_many"]) fun _ _ _ _ _ _ us hl => match us, hl with | [_, _], _ => rfl
  have F13 := fun_mk (st := sLaw) l13 c13 k13
  have m13 := PySem.W.mg_of X G a13
  refine ⟨PySem.W.fnOf "law" "law" (defArgs sLaw) (defBody sLaw) (defScope sLaw) .none kV13 dc13 pm13 an13 cd13 ct13, fun s u => .of_eq rfl, fun base _ _ => ?_⟩
  let D_pattern_of : Dfn l.prog w K mg base "pattern_of" 1 ["numbers"] (spPattern K) := ⟨f1, _, ok_pattern F1 T, m1, k1, b1⟩
  let D_reversed_row : Dfn l.prog w K mg base "reversed_row" 1 ["row"] (spReversed K) := ⟨f2, _, ok_reversed F2 T, m2, k2, b2⟩
  let D_flipped_row : Dfn l.prog w K mg base "flipped_row" 1 ["row"] (spFlipped K) := ⟨f3, _, ok_flipped F3 T, m3, k3, b3⟩
  let D_inverse_row : Dfn l.prog w K mg base "inverse_row" 1 ["row"] (spInverse K) := ⟨f4, _, ok_inverse F4 T, m4, k4, b4⟩
  let D__law_deck : Dfn l.prog w K mg base "_law_deck" 1 ["_law_script"] (spDeck K) := ⟨f5, _, ok_deck F5 T, m5, k5, b5⟩
  let D__law_next : Dfn l.prog w K mg base "_law_next" 1 ["_law_deck_here", "_law_many"] spNext := ⟨f6, _, ok_next F6 T, m6, k6, b6⟩
  let D__law_one : Dfn l.prog w K mg base "_law_one" 2 ["_law_deck_here", "_law_items"] (spOne K) := ⟨f7, _, ok_one F7 T D__law_next, m7, k7, b7⟩
  let D__law_same : Dfn l.prog w K mg base "_law_same" 3 ["_law_found", "_law_due"] (spSame K 3) := ⟨f8, _, same_all F8 T m8 b8 3, m8, k8, b8⟩
  let D__law_mixed : Dfn l.prog w K mg base "_law_mixed" 2 ["_law_deck_here", "_law_items"] (spMixed K) := ⟨f9, _, ok_mixed F9 T D__law_next, m9, k9, b9⟩
  let D__law_beside : Dfn l.prog w K mg base "_law_beside" 1 ["_law_one_here", "_law_other", "_law_is_falling"] (spBesideP K) := ⟨f10, _, ok_beside F10 T, m10, k10, b10⟩
  let D__law_row : Dfn l.prog w K mg base "_law_row" 3 ["_law_deck_here", "_law_limit"] (spRowP K) := ⟨f11, _, ok_row F11 T D__law_next D__law_mixed D__law_beside, m11, k11, b11⟩
  let D__law_numbers : Dfn l.prog w K mg base "_law_numbers" 3 ["_law_deck_here", "_law_many"] (spNumbers K) := ⟨f12, _, ok_numbers F12 T D__law_next D__law_one D__law_mixed, m12, k12, b12⟩
  exact ok_law F13 T D__law_deck D__law_next D__law_row D__law_numbers D__law_same D_pattern_of D_reversed_row D_flipped_row D_inverse_row
theorem walk {l : PySem.W.OpenLaw} {q : Program} {loose : List Str} {XP : (Str → Option Value) → Heap → Prop} {YP : World → Heap → Prop} {d : DefRec} {K : Params → PySem.W.Frag}
    (hn : l.most = some 63) (hdf : d.params.defaults = []) (hY : ∀ (w : World) (h : Heap), YP w h → (K w.params).In h)
    (F : ∀ (w : World) (mg : Str → Option Value) (fa : Addr) (h : Heap), (K w.params).In h → h.Ns mainGlobals mg → mg d.name = some (.ref fa) →
      ∃ fd : FuncData, (∀ (s : Shared) (u : Value), BindsTo s fd ⟨[u], []⟩ [("_law_script", u)]) ∧ ∀ base : Heap, (K w.params).In base → base.Ns mainGlobals mg →
        FnG l.prog w (K w.params) mg base CX0 4 fa fd ["_law_script"] (spLaw (K w.params))) :
    PySem.W.WalkO q loose XP YP l.row.toRowW d [] (fun f vs => PySem.call f vs) :=
  walk_ofG (n := 63) (k := 4) (x := "_law_script") (sp := spLaw) hn (by decide) hdf ⟨rfl, by decide, by decide⟩ hY F (fun _ _ a ns hl hS => ⟨a, ns, rfl, hS, hl, fun _ => rfl⟩)
end K2
open PySem PySem.W PyProof.Rows
set_option maxRecDepth 100000 in
set_option maxHeartbeats 0 in
theorem PySem.Challenge.cw_rowfolds_k02_patterns_and_turned_rows_holds : PySem.Challenge.rw_rowfolds_k02_patterns_and_turned_rows.Holds := by
  w_on; o_law; k_head; (case hw => w_witness2)
  k_fill
  refine K2.walk (l := PySem.Challenge.rw_rowfolds_k02_patterns_and_turned_rows) rfl rfl (fun w h Y => PySem.W.kIn_of Y) ?F
  case F =>
    intro w mg fa h KX G hmg
    refine' K2.all_mk KX G hmg ?a1 ?l1 ?c1 ?k1 ?a2 ?l2 ?c2 ?k2 ?a3 ?l3 ?c3 ?k3 ?a4 ?l4 ?c4 ?k4 ?a5 ?l5 ?c5 ?k5 ?a6 ?l6 ?c6 ?k6 ?a7 ?l7 ?c7 ?k7 ?a8 ?l8 ?c8 ?k8 ?a9 ?l9 ?c9 ?k9 ?a10 ?l10 ?c10 ?k10 ?a11 ?l11 ?c11 ?k11 ?a12 ?l12 ?c12 ?k12 ?a13 ?l13 ?c13 ?k13 ?z1 ?z2 ?z3 ?z4 ?z5 ?z6 ?z7 ?z8 ?z9 ?z10 ?z11 ?z12 ?z13 ?z14 ?z15 ?z16 ?z17 ?z18 ?z19
    (case a1 => k_is); (case l1 => k_is); (case c1 => k_is); (case k1 => k_is)
    (case a2 => k_is); (case l2 => k_is); (case c2 => k_is); (case k2 => k_is)
    (case a3 => k_is); (case l3 => k_is); (case c3 => k_is); (case k3 => k_is)
    (case a4 => k_is); (case l4 => k_is); (case c4 => k_is); (case k4 => k_is)
    (case a5 => k_is); (case l5 => k_is); (case c5 => k_is); (case k5 => k_is)
    (case a6 => k_is); (case l6 => k_is); (case c6 => k_is); (case k6 => k_is)
    (case a7 => k_is); (case l7 => k_is); (case c7 => k_is); (case k7 => k_is)
    (case a8 => k_is); (case l8 => k_is); (case c8 => k_is); (case k8 => k_is)
    (case a9 => k_is); (case l9 => k_is); (case c9 => k_is); (case k9 => k_is)
    (case a10 => k_is); (case l10 => k_is); (case c10 => k_is); (case k10 => k_is)
    (case a11 => k_is); (case l11 => k_is); (case c11 => k_is); (case k11 => k_is)
    (case a12 => k_is); (case l12 => k_is); (case c12 => k_is); (case k12 => k_is)
    (case a13 => k_is); (case l13 => k_is); (case c13 => k_is); (case k13 => k_is)
    (case z1 => k_is)
    (case z2 => k_is)
    (case z3 => k_is)
    (case z4 => k_is)
    (case z5 => k_is)
    (case z6 => k_is)
    (case z7 => k_is)
    (case z8 => k_is)
    (case z9 => k_is)
    (case z10 => k_is)
    (case z11 => k_is)
    (case z12 => k_is)
    (case z13 => k_is)
    (case z14 => k_is)
    (case z15 => k_is)
    (case z16 => k_is)
    (case z17 => k_is)
    (case z18 => k_is)
    (case z19 => k_is)
namespace K2
end K2

