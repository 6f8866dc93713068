import PyProof.Rows.All
import Wide.All
import OpenK.AllK
import Wide.FinOn
import HandS.ForMost
import HandS.ForExc
import HandS.Wide
import HandS.Codes
import HandS.IsInst
import HandS.FStr
import HandS.Walk
import HandS.Defaults
import HandS.ListItems
import HandS.DictComp
import KE.KDictList
import PyProof.DictValues
import PyProof.ReprRoads
import PyProof.CallFns
import PyProof.TupleOfSeq
import HandS.OwnEq
import HandS.More
import HandS.Finally
import HandS.Style
import PyProof.InstNe
import OpenK.KOps
import PyProof.StrLawsRepr
import KE.KDictZip
import KE.KItemsList
import KE.KTurns
import HandS.TupLe
import HandS.NoneIn
import HandS.SortInts
import HandS.ExcIs
import HandS.ExcValue
import KE.GoesRaise
import HandS.SetKeys
import HandS.SetBool
import KE.GoesZip
import KE.GoesMore
import HandS.TupAny
import KE.KRevSl
import KE.KEqNest
import HandS.ExcInit
import HandS.Nested
import HandS.ExcField
import KE.KExcSuper
import KE.KExcIs
import KE.KxText
import PyProof.CollectStr
import PyProof.ListStr
import HandS.RevTup
import KE.GoesEnumKw
import HandS.SortKw
import HandS.SetFor
import HandS.Strs
import PyProof.P3Eq
import PyProof.DictUpdate
import PyProof.DictDisplay
import HandS.SortRule
import PySem.Challenge.RW_keptcode_k22_canonical_codes
set_option Elab.async false
set_option linter.all false
set_option maxRecDepth 100000
set_option maxHeartbeats 4000000
namespace KC
open PySem PySem.Spec PyProof.Rows L2
/-! ### lists of ints as data -/
theorem dpAll_ints {K : PySem.W.Frag} {H : Hp} : ∀ ns : List Int, DpAll K H (ns.map V.int) (ns.map PyData.int)
  | [] => .nil
  | n :: r => .cons (.int n) (dpAll_ints r)
theorem lay_ints : ∀ ns : List Int, PyData.canLayAll0 (ns.map PyData.int) = true
  | [] => rfl
  | n :: r => by
    show (PyData.canLay0 (.int n) && PyData.canLayAll0 (r.map PyData.int)) = true
    rw [lay_ints r]
    rfl
theorem depth_ints : ∀ ns : List Int, PyData.depthAll (ns.map PyData.int) = 0
  | [] => rfl
  | n :: r => by
    show max (PyData.depth (.int n)) (PyData.depthAll (r.map PyData.int)) = 0
    rw [depth_ints r]
    rfl
theorem shaped_ints (ns : List Int) : SeqAt.shaped (.list (ns.map PyData.int)) = true := by
  unfold SeqAt.shaped
  have h1 : PyData.canLay0 (.list (ns.map PyData.int)) = true := lay_ints ns
  have h2 : PyData.depth (.list (ns.map PyData.int)) = 1 := by
    show PyData.depthAll (ns.map PyData.int) + 1 = 1
    rw [depth_ints]
  rw [h1, h2]
  decide
/-! ### the frame G below a heap H -/
theorem same_new {H H' : Hp} {p : Addr} {o : HO} (s : Same H H') (h : H p = none) : Same H (upd H' p o) := fun b u e => by
  rw [upd_ne (ne_of_none e h)]
  exact s b u e
theorem same_upd2 {H H' : Hp} {p : Addr} {o : HO} (s : Same H H') : Same (L2.upd H p o) (L2.upd H' p o) := fun b u e => by
  by_cases hb : b = p
  · subst hb
    rw [upd_same] at e ⊢
    exact e
  · rw [upd_ne hb] at e ⊢
    exact s b u e
theorem same_seqT {K : PySem.W.Frag} {H H' : Hp} {a : Addr} {xs : List V} (e : Same H H') (h : SqT K H a xs) : SqT K H' a xs := by
  rcases h with (h | ⟨o, h⟩) | h
  · exact .inl (.inl (e _ _ h))
  · exact .inl (.inr ⟨o, e _ _ h⟩)
  · exact .inr h
/-- the pen at p and its numbers: G is all that stands beside it; at most n draws of the script were made -/
structure PenG (G H : Hp) (p : Addr) (n : Nat) : Prop where
  sub : Same G H
  free : G p = none
  pen : ∃ (q : Addr) (ns : List Int) (i v : Int), H p = some (.lst [.ref q, .int i, .int v]) ∧ H q = some (.lst (ns.map V.int)) ∧ G q = none ∧ q ≠ p ∧ ns.length ≤ 60 ∧ 0 ≤ i ∧ i ≤ n ∧ 0 ≤ v
section
variable {G H H' : Hp} {p : Addr} {n m : Nat}
theorem PenG.mono (h : PenG G H p n) (le : n ≤ m) : PenG G H p m := by
  obtain ⟨s, f, q, ns, i, v, hp, hq, hg, hne, hl, h0, hi, hv⟩ := h
  exact ⟨s, f, q, ns, i, v, hp, hq, hg, hne, hl, h0, by omega, hv⟩
theorem PenG.here (h : PenG G H p n) : ∃ o, H p = some o := by
  obtain ⟨s, f, q, ns, i, v, hp, _⟩ := h
  exact ⟨_, hp⟩
theorem PenG.ne_new (h : PenG G H p n) {l : Addr} (hl : H l = none) : l ≠ p := fun e => by
  obtain ⟨o, ho⟩ := h.here
  rw [e, ho] at hl
  cases hl
theorem PenG.ne_old (h : PenG G H p n) {l : Addr} {o : HO} (hl : G l = some o) : l ≠ p := fun e => by
  rw [e, h.free] at hl
  cases hl
/-- a new object beside the pen -/
theorem PenG.new (h : PenG G H p n) {l : Addr} {o : HO} (hl : H l = none) : PenG (L2.upd G l o) (L2.upd H l o) p n := by
  have hne := h.ne_new hl
  obtain ⟨s, f, q, ns, i, v, hp, hq, hg, hr⟩ := h
  have hlq : q ≠ l := fun e => by rw [← e, hq] at hl; cases hl
  exact ⟨same_upd2 s, by rw [upd_ne (Ne.symm hne)]; exact f, q, ns, i, v, by rw [upd_ne (Ne.symm hne)]; exact hp, by rw [upd_ne hlq]; exact hq, by rw [upd_ne hlq]; exact hg, hr⟩
/-- a new object that is not kept in mind -/
theorem PenG.drop (h : PenG G H p n) {l : Addr} {o : HO} (hl : H l = none) : PenG G (L2.upd H l o) p n := by
  have hne := h.ne_new hl
  have gl : G l = none := h.sub.free hl
  obtain ⟨s, f, q, ns, i, v, hp, hq, hr⟩ := h
  have hlq : q ≠ l := fun e => by rw [← e, hq] at hl; cases hl
  exact ⟨same_new s gl, f, q, ns, i, v, by rw [upd_ne (Ne.symm hne)]; exact hp, by rw [upd_ne hlq]; exact hq, hr⟩
theorem PenG.same (h : PenG G H p n) (s : Same H H') : PenG G H' p n := by
  obtain ⟨sub, f, q, ns, i, v, hp, hq, hr⟩ := h
  exact ⟨Same.trans sub s, f, q, ns, i, v, s _ _ hp, s _ _ hq, hr⟩
/-- an object beside the pen is changed -/
theorem PenG.put {D : Addr} {o o' : HO} (h : PenG (L2.upd G D o) H p n) : PenG (L2.upd G D o') (L2.upd H D o') p n := by
  obtain ⟨s, f, q, ns, i, v, hp, hq, hg, hr⟩ := h
  have ne : p ≠ D := fun e => by rw [e, upd_same] at f; cases f
  have nq : q ≠ D := fun e => by rw [e, upd_same] at hg; cases hg
  refine ⟨fun b u e => ?_, by rw [upd_ne ne] at f ⊢; exact f, q, ns, i, v, by rw [upd_ne ne]; exact hp, by rw [upd_ne nq]; exact hq, by rw [upd_ne nq] at hg ⊢; exact hg, hr⟩
  by_cases hb : b = D
  · subst hb
    rw [upd_same] at e ⊢
    exact e
  · rw [upd_ne hb] at e ⊢
    exact s b u (by rw [upd_ne hb]; exact e)
/-- an object is no longer kept in mind -/
theorem PenG.forget {D : Addr} {o : HO} (h : PenG (L2.upd G D o) H p n) (g : G D = none) : PenG G H p n := by
  obtain ⟨s, f, q, ns, i, v, hp, hq, hg, hr⟩ := h
  have ne : p ≠ D := fun e => by rw [e, upd_same] at f; cases f
  have nq : q ≠ D := fun e => by rw [e, upd_same] at hg; cases hg
  refine ⟨fun b u e => s b u ?_, by rw [upd_ne ne] at f; exact f, q, ns, i, v, hp, hq, by rw [upd_ne nq] at hg; exact hg, hr⟩
  rw [upd_ne (ne_of_none e g)]
  exact e
/-- less is kept in mind -/
theorem PenG.sub_of {G0 : Hp} (h : PenG G H p n) (s : Same G0 G) : PenG G0 H p n := by
  obtain ⟨s1, f, q, ns, i, v, hp, hq, hg, hr⟩ := h
  exact ⟨Same.trans s s1, s.free f, q, ns, i, v, hp, hq, s.free hg, hr⟩
end
theorem same_del {G G2 : Hp} {D : Addr} {o : HO} (s : Same (L2.upd G D o) G2) (g : G D = none) : ∃ G3 : Hp, G3 D = none ∧ Same G G3 ∧ G2 = L2.upd G3 D o := by
  refine ⟨fun b => if b = D then none else G2 b, by simp, fun b u e => ?_, ?_⟩
  · have hb : b ≠ D := fun q => by rw [q, g] at e; cases e
    show (if b = D then none else G2 b) = some u
    rw [if_neg hb]
    exact s b u (by rw [upd_ne hb]; exact e)
  · funext b
    by_cases hb : b = D
    · subst hb
      rw [upd_same]
      exact s b o upd_same
    · rw [upd_ne hb]
      show G2 b = if b = D then none else G2 b
      rw [if_neg hb]
/-! ### tests that are known -/
theorem if_t {c : Bool} {A B : Prop} (hc : c = true) (h : A) : if c = true then A else B := by rw [if_pos hc]; exact h
theorem if_f {c : Bool} {A B : Prop} (hc : c = false) (h : B) : if c = true then A else B := by rw [hc, if_neg Bool.false_ne_true]; exact h
theorem if_b {c : Bool} {A B : Prop} (h1 : c = true → A) (h2 : c = false → B) : if c = true then A else B := by
  cases c with
  | true => exact iteT (h1 rfl)
  | false => exact iteF (h2 rfl)
theorem at_int {ns : List Int} {j : Nat} (h : j < ns.length) : atI (ns.map V.int) (j : Int) = some (.int ns[j]) := atI_nat (by rw [List.getElem?_map, List.getElem?_eq_getElem h]; rfl)
/-- room, and no repr is going on -/
structure RoomG (k : Nat) (A : Around) : Prop extends Room k A where
  gd : A.guards = some []
theorem RoomG.mono {j k : Nat} {A : Around} (r : RoomG k A) (h : j ≤ k) : RoomG j A := ⟨r.toRoom.mono h, r.gd⟩
theorem RoomG.deeper {k : Nat} {A : Around} (r : RoomG (k + 1) A) (env : Env) : RoomG k (A.deeper env) := ⟨r.toRoom.deeper env, r.gd⟩
theorem make_guards {A : Around} {C : Addr} {us : List Value} {kw : List (Str × Value)} : (A.under (.builtin "type.__call__" ⟨.ref C :: us, kw⟩)).guards = A.guards := by
  first
    | rfl
    | simp [Around.under, Code.guards, Code.isGuard, guardIds, pushGuards]
theorem RoomG.make {k : Nat} {A : Around} (r : RoomG (k + 1) A) (C : Addr) (us : List Value) (kw : List (Str × Value)) : RoomG k (A.under (.builtin "type.__call__" ⟨.ref C :: us, kw⟩)) :=
  ⟨r.toRoom.make C us kw, by rw [make_guards]; exact r.gd⟩
/-- the def at f keeps the promise sp, wherever no repr is going on -/
structure FnG (P : Program) (w : World) (K : PySem.W.Frag) (mg : Str → Option Value) (base : Heap) (CX : CXT) (k : Nat) (f : Addr) (fd : FuncData) (ps : List Str) (sp : Sp) : Prop where
  len : ∀ vs H Q E, sp vs H Q E → vs.length = ps.length
  run : ∀ (A : Around) (outer : List Env) (s : Shared) (H : Hp) (args : Args) (us : List Value) (vs : List V) (Q : VK) (E : XK), RoomG k A → Env0 P w K mg base A outer s H → BindsTo s fd args (ps.zip us) → Vals vs us → sp vs H Q E →
    codeAny (model P w) A (.call (.ref f) args) (CR CX outer P w H s Q E) s
theorem FnG.mono {P : Program} {w : World} {K : PySem.W.Frag} {mg : Str → Option Value} {base : Heap} {CX : CXT} {j k : Nat} {f : Addr} {fd : FuncData} {ps : List Str} {sp : Sp} (F : FnG P w K mg base CX j f fd ps sp) (h : j ≤ k) :
    FnG P w K mg base CX k f fd ps sp := ⟨F.len, fun A outer s H args us vs Q E hr => F.run A outer s H args us vs Q E (hr.mono h)⟩
theorem fnG_of {CX : CXT} {P : Program} {w : World} {K : PySem.W.Frag} {mg : Str → Option Value} {base : Heap} {k : Nat} {f : Addr} {name qual : Str} {params : Arguments} {body : List Stmt} {scope : Scope} {dV kV doc pm cdv ct oc : Value} {an od : Option Addr}
    {osl : Array (Option Value)} {N ps : List Str} {sp : Sp} (lk : K.lookup f = some ⟨oc, od, .func (PySem.W.fnOf name qual params body scope dV kV doc pm an cdv ct), osl⟩) (hcd : PySem.W.codeIn K cdv qual = true) (S : FnScope N ps scope)
    (len : ∀ vs H Q E, sp vs H Q E → vs.length = ps.length)
    (hbody : ∀ (A : Around) (outer : List Env) (s : Shared) (H : Hp) (vs : List V) (Q : VK) (E : XK), RoomG k (A.deeper (envOfC qual scope s.heap.objs.size f cdv)) → sp vs H Q E →
      ∃ t, PSs (cxOf CX P w K mg base N qual scope f cdv A outer s H E) body t ∧ t { nx := fun _ H' => Q .non H', rt := Q } (start N vs) H) :
    FnG P w K mg base CX (k + 1) f (PySem.W.fnOf name qual params body scope dV kV doc pm an cdv ct) ps sp := by
  refine ⟨len, fun A outer s H args us vs Q E hr e0 hb r hsp => ?_⟩
  have hl := len _ _ _ _ hsp
  have KX : K.In s.heap := e0.mod.kin.keeps fun b o e => (e0.bs b o e).1
  have lim : s.heap.NoLimit := e0.mod.nolimit.keeps fun b o e => (e0.bs b o e).1
  have hkind : ∀ y ∈ ps.zip us, scope.names.lookup y.1 = some .local ∨ (scope.names.lookup y.1 = some .cell ∧ ((cellsFrom (s.heap.objs.size + 1) scope.names []).lookup y.1).isSome = true) := fun ⟨n, v⟩ hy => by
    rcases S.par n (List.of_mem_zip hy).1 with q | q
    · exact .inl q
    · exact .inr ⟨q, PySem.W.cellsFrom_some _ _ _ (.inl q)⟩
  refine codeAny_call_function hr.toRoom.depth (KX _ _ lk) rfl S.co S.gen rfl (PySem.W.codeRec_of KX hcd) (hb _ _ _ _ ?_)
  refine wpAny_newFunctionEnv_cells S.kind hkind fun env he s1 x => ?_
  subst he
  refine ⟨lim.keeps x.toInCall.keep, codeAny_func ?_⟩
  obtain ⟨t, ht, hq⟩ := hbody A outer s H vs Q E (hr.deeper _) hsp
  have I : Inv (cxOf CX P w K mg base N qual scope f cdv A outer s H E) [] (start N vs) H s1 := inv_start S hr.hd e0 hl r x
  refine wpAny_mono (ht.run [] s1 (start N vs) H _ I hq) (fun fl s' hs => ?_) fun e s' hs => hs
  have fin : ∀ {σ' : L2.St} {H' : Hp} {v : V} {u : Value}, Inv (cxOf CX P w K mg base N qual scope f cdv A outer s H E) [] σ' H' s' → RelV v u → Q v H' → CE outer P w H s Q u s' :=
    fun {σ' H' v u} J rv q => ⟨v, H', J.os, J.bare, J.base, J.hok, rv, q⟩
  cases fl with
  | ret u =>
    obtain ⟨v, σ', H', J, rv, q⟩ := hs
    exact fin J rv q
  | next =>
    obtain ⟨σ', H', J, q⟩ := hs
    exact fin (v := V.non) (u := Value.none) J rfl q
  | brk =>
    obtain ⟨_, _, _, q⟩ := hs
    exact False.elim q
  | cont =>
    obtain ⟨_, _, _, q⟩ := hs
    exact False.elim q
section
variable {P : Program} {w : World} {K : PySem.W.Frag} {mg : Str → Option Value} {base : Heap}
/-- a def that lets no exception out -/
theorem Fun.okG {x qual : Str} {st : Stmt} {f : Addr} {fd : FuncData} {N ps : List Str} {k : Nat} {sp : Sp} (F : Fun K x qual st f fd) (S : FnScope N ps (defScope st)) (len : ∀ vs H Q E, sp vs H Q E → vs.length = ps.length)
    (hbody : ∀ (cdv : Value) (A : Around) (outer : List Env) (s : Shared) (H : Hp) (vs : List V) (Q : VK) (E : XK), RoomG k (A.deeper (envOfC qual (defScope st) s.heap.objs.size f cdv)) → sp vs H Q E →
      ∃ t, PSs (cxOf CX0 P w K mg base N qual (defScope st) f cdv A outer s H E).nox (defBody st) t ∧ t { nx := fun _ H' => Q .non H', rt := Q } (start N vs) H) : FnG P w K mg base CX0 (k + 1) f fd ps sp := by
  obtain ⟨oc, od, kV, doc, pm, an, cdv, ct, osl, rfl, lk, hcd⟩ := F.ex
  refine fnG_of lk hcd S len fun A outer s H vs Q E hr hsp => ?_
  obtain ⟨t, h, q⟩ := hbody cdv A outer s H vs Q E hr hsp
  exact ⟨t, h.nox, q⟩
/-- .. that may raise -/
theorem Fun.okGX {x qual : Str} {st : Stmt} {f : Addr} {fd : FuncData} {N ps : List Str} {k : Nat} {sp : Sp} (F : Fun K x qual st f fd) (S : FnScope N ps (defScope st)) (len : ∀ vs H Q E, sp vs H Q E → vs.length = ps.length)
    (hbody : ∀ (cdv : Value) (A : Around) (outer : List Env) (s : Shared) (H : Hp) (vs : List V) (Q : VK) (E : XK), RoomG k (A.deeper (envOfC qual (defScope st) s.heap.objs.size f cdv)) → sp vs H Q E →
      ∃ t, PSs (cxOf (L2.CX P w) P w K mg base N qual (defScope st) f cdv A outer s H E) (defBody st) t ∧ t { nx := fun _ H' => Q .non H', rt := Q } (start N vs) H) : FnG P w K mg base (L2.CX P w) (k + 1) f fd ps sp := by
  obtain ⟨oc, od, kV, doc, pm, an, cdv, ct, osl, rfl, lk, hcd⟩ := F.ex
  exact fnG_of lk hcd S len fun A outer s H vs Q E hr hsp => hbody cdv A outer s H vs Q E hr hsp
end
/-! ### a def of the text's top -/
/-- the def st of the name x, as the top has left it: its parameters ps, its defaults ds -/
structure DefT (K : PySem.W.Frag) (mg : Str → Option Value) (x : Str) (st : Stmt) (ps : List Str) (ds : List Value) : Prop where
  ex : ∃ (f : Addr) (fd : FuncData), Fun K x x st f fd ∧ mg x = some (.ref f) ∧ Binds K fd ps ds
/-- the promise of the def x -/
structure CalG (P : Program) (w : World) (K : PySem.W.Frag) (mg : Str → Option Value) (base : Heap) (CX : CXT) (k : Nat) (x : Str) (sp : Sp) (dvs : List V) : Prop where
  ex : ∃ (f : Addr) (fd : FuncData) (ps : List Str) (ds : List Value), FnG P w K mg base CX k f fd ps sp ∧ mg x = some (.ref f) ∧ PySem.W.keepIn K (.ref f) = true ∧ Binds K fd ps ds ∧ Vals dvs ds
/-- of the method m of the class at C -/
structure MetG (P : Program) (w : World) (K : PySem.W.Frag) (mg : Str → Option Value) (base : Heap) (CX : CXT) (k : Nat) (C : Addr) (m : Str) (sp : Sp) (dvs : List V) : Prop where
  ex : ∃ (f : Addr) (fd : FuncData) (ps : List Str) (ds : List Value), Cls K C ∧ Meth K C m f ∧ FnG P w K mg base CX k f fd ps sp ∧ Binds K fd ps ds ∧ Vals dvs ds
/-- of the making of the class x at C -/
structure MakG (P : Program) (w : World) (K : PySem.W.Frag) (mg : Str → Option Value) (base : Heap) (CX : CXT) (k : Nat) (x : Str) (C : Addr) (sp : Sp) (dvs : List V) : Prop where
  ex : ∃ (f : Addr) (fd : FuncData) (ps : List Str) (ds : List Value), Mk K C f ∧ FnG P w K mg base CX k f fd ps sp ∧ mg x = some (.ref C) ∧ Binds K fd ps ds ∧ Vals dvs ds
section
variable {P : Program} {w : World} {K : PySem.W.Frag} {mg : Str → Option Value} {base : Heap}
theorem DefT.cal {x : Str} {st : Stmt} {N ps : List Str} {ds : List Value} {dvs : List V} {k : Nat} {sp : Sp} (D : DefT K mg x st ps ds) (d : Vals dvs ds) (S : FnScope N ps (defScope st)) (len : ∀ vs H Q E, sp vs H Q E → vs.length = ps.length)
    (hbody : ∀ (f : Addr) (cdv : Value) (A : Around) (outer : List Env) (s : Shared) (H : Hp) (vs : List V) (Q : VK) (E : XK), RoomG k (A.deeper (envOfC x (defScope st) s.heap.objs.size f cdv)) → sp vs H Q E →
      ∃ t, PSs (cxOf CX0 P w K mg base N x (defScope st) f cdv A outer s H E).nox (defBody st) t ∧ t { nx := fun _ H' => Q .non H', rt := Q } (start N vs) H) : CalG P w K mg base CX0 (k + 1) x sp dvs := by
  obtain ⟨f, fd, F, hm, b⟩ := D.ex
  exact ⟨f, fd, ps, ds, Fun.okG F S len (hbody f), hm, F.kp, b, d⟩
theorem DefT.calX {x : Str} {st : Stmt} {N ps : List Str} {ds : List Value} {dvs : List V} {k : Nat} {sp : Sp} (D : DefT K mg x st ps ds) (d : Vals dvs ds) (S : FnScope N ps (defScope st)) (len : ∀ vs H Q E, sp vs H Q E → vs.length = ps.length)
    (hbody : ∀ (f : Addr) (cdv : Value) (A : Around) (outer : List Env) (s : Shared) (H : Hp) (vs : List V) (Q : VK) (E : XK), RoomG k (A.deeper (envOfC x (defScope st) s.heap.objs.size f cdv)) → sp vs H Q E →
      ∃ t, PSs (cxOf (L2.CX P w) P w K mg base N x (defScope st) f cdv A outer s H E) (defBody st) t ∧ t { nx := fun _ H' => Q .non H', rt := Q } (start N vs) H) : CalG P w K mg base (L2.CX P w) (k + 1) x sp dvs := by
  obtain ⟨f, fd, F, hm, b⟩ := D.ex
  exact ⟨f, fd, ps, ds, Fun.okGX F S len (hbody f), hm, F.kp, b, d⟩
end
/-! ### the calls -/
def tCallE (sp : Sp) (dvs : List V) (E : L2.St → XK) (t : TA) : TE := fun σ H Q => t σ H fun vs H1 => sp (vs ++ dvs) H1 Q (E σ)
def tMethE (C : Addr) (m : Str) (sp : Sp) (dvs : List V) (E : L2.St → XK) (ta : TE) (t : TA) : TE := fun σ H Q => ta σ H fun x H1 => ∃ a dx fs, x = .ref a ∧ H1 a = some (.ins C dx fs) ∧ fs.lookup m = none ∧
  t σ H1 fun vs H2 => sp (x :: (vs ++ dvs)) H2 Q (E σ)
def tMakeE (C : Addr) (sp : Sp) (dvs : List V) (E : L2.St → XK) (t : TA) : TE := fun σ H Q => t σ H fun vs H1 => ∀ x dx, H1 x = none → H1 dx = none → dx ≠ x →
  sp (.ref x :: (vs ++ dvs)) (L2.upd (L2.upd H1 dx (.own x)) x (.ins C dx [])) (fun v H2 => v = .non ∧ Q (.ref x) H2) (E σ)
abbrev E00 : L2.St → XK := fun _ => E0
theorem pass00 {X : Cx} : ∀ σ : L2.St, PassesAt CX0 X σ (E00 σ) := fun _ _ _ _ _ _ _ h => h.elim
theorem passLL {X : Cx} : ∀ σ : L2.St, PassesAt (L2.CX X.prog X.w) X σ (E00 σ) := fun _ pins H s e s' I h => by
  obtain ⟨_, _, _, _, _, _, _, _, _, _, _, _, z⟩ := h
  exact z.elim
section
variable {X : Cx} {CX : CXT} {k j : Nat} {f C : Addr} {fd : FuncData} {ps : List Str} {sp : Sp} {dvs : List V} {ds : List Value} {E : L2.St → XK} {x m : Str} {p pos apos : Pos} {e o : Expr} {es : List Expr} {ta : TE} {t : TA}
theorem run_fnG {pins : List (Addr × Obj)} {σ : L2.St} {H : Hp} {s : Shared} {Q : VK} {us : List Value} {vs : List V} (F : FnG X.prog X.w X.K X.mg X.base CX k f fd ps sp) (hr : RoomG k X.A) (hb : Binds X.K fd ps ds) (hd : Vals dvs ds) (hx : PassesAt CX X σ (E σ))
    (I : Inv X pins σ H s) (r : Vals vs us) (h : sp (vs ++ dvs) H Q (E σ)) : wpAny (model X.prog X.w) X.A (call (.ref f) us) (EP X pins σ Q) X.xe s := by
  have r2 : Vals (vs ++ dvs) (us ++ ds) := r.append hd
  have hl : (us ++ ds).length = ps.length := by rw [← r2.length]; exact F.len _ _ _ _ h
  refine wpAny_call (codeAny_mono (F.run X.A X.stack s H ⟨us, []⟩ (us ++ ds) (vs ++ dvs) Q (E σ) hr I.env0 (hb s us I.kIn hl) r2 h) fun r s' hq => ?_)
  cases r with
  | error e => exact hx pins H s e s' I hq
  | ok fl =>
    cases fl with
    | ret u => exact I.after hq
    | next => exact False.elim hq
    | brk => exact False.elim hq
    | cont => exact False.elim hq
/-- f(e, ..) -/
theorem pe_gE (c : CalG X.prog X.w X.K X.mg X.base CX k x sp dvs) (hr : RoomG j X.A) (hk : k ≤ j) (hg : Gl X x) (hx : ∀ σ, PassesAt CX X σ (E σ)) (ha : PA X (e :: es) t)
    (hdb : (x == ("__debug__" : Str)) = false := by decide) (he : starEach (e :: es) X.env = (false, eval e X.env) :: starEach es X.env := by rfl) (hpl : (backTo pos (starEach es X.env)).any (·.1) = false := by rfl) :
    PE X (.Call (.Name x p) (e :: es) [] pos) (tCallE sp dvs E t) := by
  obtain ⟨f, fd, ps, ds, F, hm, kp, b, d⟩ := c.ex
  refine ⟨fun pins s σ H Q I h => ?_⟩
  refine wpAny_Call_Name_kw (ld_glob I hg hm ?_ hdb)
  refine PySem.W.callWith_K (h₀ := X.base) I.ok.mod.kin kp (thn (ha.run pos pins s σ H _ I h) fun us s1 ⟨vs, H1, I1, r, q⟩ => ⟨I1.kIn, ?_⟩) he hpl
  exact run_fnG F (hr.mono hk) b d (hx σ) I1 r q
theorem pe_gE0 (c : CalG X.prog X.w X.K X.mg X.base CX k x sp dvs) (hr : RoomG j X.A) (hk : k ≤ j) (hg : Gl X x) (hx : ∀ σ, PassesAt CX X σ (E σ))
    (hdb : (x == ("__debug__" : Str)) = false := by decide) :
    PE X (.Call (.Name x p) [] [] pos) (tCallE sp dvs E tNil) := by
  obtain ⟨f, fd, ps, ds, F, hm, kp, b, d⟩ := c.ex
  refine ⟨fun pins s σ H Q I h => ?_⟩
  refine wpAny_Call_Name_kw (ld_glob I hg hm ?_ hdb)
  exact PySem.W.callWith_K0 I.kIn kp (run_fnG (us := []) F (hr.mono hk) b d (hx σ) I .nil h)
/-- .. of a def that raises nothing -/
theorem pe_g (c : CalG X.prog X.w X.K X.mg X.base CX0 k x sp dvs) (hr : RoomG j X.A) (hk : k ≤ j) (hg : Gl X x) (ha : PA X (e :: es) t)
    (hdb : (x == ("__debug__" : Str)) = false := by decide) (he : starEach (e :: es) X.env = (false, eval e X.env) :: starEach es X.env := by rfl) (hpl : (backTo pos (starEach es X.env)).any (·.1) = false := by rfl) :
    PE X (.Call (.Name x p) (e :: es) [] pos) (tCallE sp dvs E00 t) := pe_gE c hr hk hg pass00 ha hdb he hpl
/-- .. of a def that may raise, where it does not -/
theorem pe_gL (c : CalG X.prog X.w X.K X.mg X.base (L2.CX X.prog X.w) k x sp dvs) (hr : RoomG j X.A) (hk : k ≤ j) (hg : Gl X x) (ha : PA X (e :: es) t)
    (hdb : (x == ("__debug__" : Str)) = false := by decide) (he : starEach (e :: es) X.env = (false, eval e X.env) :: starEach es X.env := by rfl) (hpl : (backTo pos (starEach es X.env)).any (·.1) = false := by rfl) :
    PE X (.Call (.Name x p) (e :: es) [] pos) (tCallE sp dvs E00 t) := pe_gE c hr hk hg passLL ha hdb he hpl
/-- o.m(e, ..) -/
theorem pe_mE {pl : Sem Bool} (c : MetG X.prog X.w X.K X.mg X.base CX k C m sp dvs) (hr : RoomG j X.A) (hk : k ≤ j) (hx : ∀ σ, PassesAt CX X σ (E σ)) (he : PE X o ta) (ha : PA X (e :: es) t)
    (hst : starEach (e :: es) X.env = (false, eval e X.env) :: starEach es X.env := by rfl) (hpl : (backTo pos (starEach es X.env)).any (·.1) = false := by rfl)
    (ht : eval (.Call (.Attribute o m apos) (e :: es) [] pos) X.env = (do
      let ov ← eval o X.env
      standAt apos.atName
      let (f, first) ← holding [ov] (getMethod ov m pl)
      callWith pos f first (backTo pos (starEach (e :: es) X.env)) (backToKw pos (keywordEach [] X.env))) := by rfl) :
    PE X (.Call (.Attribute o m apos) (e :: es) [] pos) (tMethE C m sp dvs E ta t) := by
  obtain ⟨f, fd, ps, ds, cl, hm, F, b, d⟩ := c.ex
  refine ⟨fun pins s σ H Q I h => ?_⟩
  refine PySem.W.methodCall_KW (pl := pl) (thn (he.run pins s σ H _ I h) fun u s1 ⟨x, H1, I1, rx, a, dx, fs, ex, ea, l, q⟩ => ?_) ht
  subst ex
  obtain rfl : u = Value.ref a := rx
  refine getmeth_ok I1 ea cl hm l ?_
  refine PySem.W.callWith_K (first := [.ref a]) (h₀ := X.base) I.ok.mod.kin hm.kp (thn (ha.run pos pins s1 σ H1 _ I1 q) fun us s2 ⟨vs, H2, I2, r, q2⟩ => ⟨I2.kIn, ?_⟩) hst hpl
  exact run_fnG (us := .ref a :: us) (vs := .ref a :: vs) F (hr.mono hk) b d (hx σ) I2 (.cons rfl r) q2
theorem pe_mE0 {pl : Sem Bool} (c : MetG X.prog X.w X.K X.mg X.base CX k C m sp dvs) (hr : RoomG j X.A) (hk : k ≤ j) (hx : ∀ σ, PassesAt CX X σ (E σ)) (he : PE X o ta)
    (ht : eval (.Call (.Attribute o m apos) [] [] pos) X.env = (do
      let ov ← eval o X.env
      standAt apos.atName
      let (f, first) ← holding [ov] (getMethod ov m pl)
      callWith pos f first (backTo pos (starEach [] X.env)) (backToKw pos (keywordEach [] X.env))) := by rfl) :
    PE X (.Call (.Attribute o m apos) [] [] pos) (tMethE C m sp dvs E ta tNil) := by
  obtain ⟨f, fd, ps, ds, cl, hm, F, b, d⟩ := c.ex
  refine ⟨fun pins s σ H Q I h => ?_⟩
  refine PySem.W.methodCall_KW (pl := pl) (thn (he.run pins s σ H _ I h) fun u s1 ⟨x, H1, I1, rx, a, dx, fs, ex, ea, l, q⟩ => ?_) ht
  subst ex
  obtain rfl : u = Value.ref a := rx
  refine getmeth_ok I1 ea cl hm l ?_
  exact PySem.W.callWith_K0 (first := [.ref a]) I1.kIn hm.kp (run_fnG (us := [.ref a]) (vs := [.ref a]) F (hr.mono hk) b d (hx σ) I1 (.cons rfl .nil) q)
/-- C(e, ..) -/
theorem run_makeG {pins : List (Addr × Obj)} {σ : L2.St} {H : Hp} {s : Shared} {Q : VK} {us : List Value} {vs : List V} (M : Mk X.K C f) (F : FnG X.prog X.w X.K X.mg X.base CX k f fd ps sp) (hr : RoomG (k + 1) X.A) (hb : Binds X.K fd ps ds) (hd : Vals dvs ds)
    (hx : ∀ σ, PassesAt CX X σ (E σ)) (I : Inv X pins σ H s) (r : Vals vs us)
    (h : ∀ x dx, H x = none → H dx = none → dx ≠ x → sp (.ref x :: (vs ++ dvs)) (L2.upd (L2.upd H dx (.own x)) x (.ins C dx [])) (fun v H2 => v = .non ∧ Q (.ref x) H2) (E σ)) :
    wpAny (model X.prog X.w) X.A (call (.ref C) us) (EP X pins σ Q) X.xe s := by
  have hq := h (s.heap.objs.size + 1) s.heap.objs.size (I.hok.fresh (Nat.le_succ _)) (I.hok.fresh (Nat.le_refl _)) (Nat.ne_of_lt (Nat.lt_succ_self _))
  have I2 := Inv.made (C := C) I
  have r2 : Vals (V.ref (s.heap.objs.size + 1) :: (vs ++ dvs)) (Value.ref (s.heap.objs.size + 1) :: (us ++ ds)) := .cons rfl (r.append hd)
  have hl : (Value.ref (s.heap.objs.size + 1) :: us ++ ds).length = ps.length := by
    have e := r2.length
    rw [F.len _ _ _ _ hq] at e
    exact e.symm
  refine wpAny_call (make_map (f := f) I.kIn M.makes M.init (beq_iff_eq.mp M.fn) (codeAny_mono (F.run _ X.stack _ _ ⟨Value.ref (s.heap.objs.size + 1) :: us, []⟩ (Value.ref (s.heap.objs.size + 1) :: (us ++ ds)) _ _ (E σ) (hr.make C us [])
    (I2.env0.make C us []) (hb _ (Value.ref (s.heap.objs.size + 1) :: us) I2.kIn hl) r2 hq) fun r s' hq' => ?_))
  cases r with
  | error e => exact hx σ pins _ _ e s' I2 hq'
  | ok fl =>
    cases fl with
    | ret u =>
      obtain ⟨v, H', I3, rv, ev, q3⟩ := I2.after hq'
      subst ev
      exact ⟨rv, ⟨V.ref (s.heap.objs.size + 1), H', I3, rfl, q3⟩⟩
    | next => exact False.elim hq'
    | brk => exact False.elim hq'
    | cont => exact False.elim hq'
theorem pe_kE (c : MakG X.prog X.w X.K X.mg X.base CX k x C sp dvs) (hr : RoomG j X.A) (hk : k + 1 ≤ j) (hg : Gl X x) (hx : ∀ σ, PassesAt CX X σ (E σ))
    (ha : PA X (e :: es) t) (hdb : (x == ("__debug__" : Str)) = false := by decide) (he : starEach (e :: es) X.env = (false, eval e X.env) :: starEach es X.env := by rfl) (hpl : (backTo pos (starEach es X.env)).any (·.1) = false := by rfl) :
    PE X (.Call (.Name x p) (e :: es) [] pos) (tMakeE C sp dvs E t) := by
  obtain ⟨f, fd, ps, ds, M, F, hm, b, d⟩ := c.ex
  refine ⟨fun pins s σ H Q I h => ?_⟩
  refine wpAny_Call_Name_kw (ld_glob I hg hm ?_ hdb)
  refine PySem.W.callWith_K (h₀ := X.base) I.ok.mod.kin M.kp (thn (ha.run pos pins s σ H _ I h) fun us s1 ⟨vs, H1, I1, r, q⟩ => ⟨I1.kIn, ?_⟩) he hpl
  exact run_makeG M F (hr.mono hk) b d hx I1 r q
theorem pe_kE0 (c : MakG X.prog X.w X.K X.mg X.base CX k x C sp dvs) (hr : RoomG j X.A) (hk : k + 1 ≤ j) (hg : Gl X x) (hx : ∀ σ, PassesAt CX X σ (E σ))
    (hdb : (x == ("__debug__" : Str)) = false := by decide) : PE X (.Call (.Name x p) [] [] pos) (tMakeE C sp dvs E tNil) := by
  obtain ⟨f, fd, ps, ds, M, F, hm, b, d⟩ := c.ex
  refine ⟨fun pins s σ H Q I h => ?_⟩
  refine wpAny_Call_Name_kw (ld_glob I hg hm ?_ hdb)
  exact PySem.W.callWith_K0 I.kIn M.kp (run_makeG (us := []) M F (hr.mono hk) b d hx I .nil h)
end
/-! ### the law's own end -/
theorem law_callG {P : Program} {w : World} {K : PySem.W.Frag} {mg mb : Str → Option Value} {k : Nat} {fa a : Addr} {fd : FuncData} {x : Str} {sp : Sp} {s₁ : Shared} {vs : List Value} {ns : List Int}
    (KX : K.In s₁.heap) (hns : s₁.heap.Ns mainGlobals mg) (hb : s₁.heap.Ns builtinsNs mb) (hbb : ∀ x : Str, x ≠ "__name__" → mb x = bootBuiltins x) (hlim : s₁.heap.NoLimit) (hg : s₁.gens = #[])
    (ha : s₁.heap.get? a = some { cls := .type "list", data := .seq vs.toArray }) (hi : IntsAre vs ns) (hl : ns.length ≤ sizeLine) (hr : RoomG k callerA)
    (F : ∀ base : Heap, K.In base → base.Ns mainGlobals mg → FnG P w K mg base CX0 k fa fd [x] sp) (hbind : ∀ (s : Shared) (u : Value), BindsTo s fd ⟨[u], []⟩ [(x, u)])
    (hsp : ∀ H : Hp, Only H → SqL K H a (ns.map V.int) → sp [.ref a] H (fun v _ => v = .bl true) fun _ _ _ => False) :
    codeAny (model P w) callerA (.call (.ref fa) ⟨[.ref a], []⟩) (fun r s' => r = .ok (.ret (.bool true)) ∧ OldK s₁.heap s'.heap ∧ s'.os = s₁.os ∧ AllBare s'.gens) s₁ := by
  have rv := vals_ints hi
  have lenV := hi.length
  have core : ∀ H : Hp, Only H → SqL K H a (ns.map V.int) → HOk P w H s₁.heap → (∀ b, H b ≠ none → b = a) → (H a ≠ none → K.lookup a = none) →
      codeAny (model P w) callerA (.call (.ref fa) ⟨[.ref a], []⟩) (fun r s' => r = .ok (.ret (.bool true)) ∧ OldK s₁.heap s'.heap ∧ s'.os = s₁.os ∧ AllBare s'.gens) s₁ := by
    intro H hO hS hok hA hK
    have base_of : ∀ {b : Addr} {o : Obj}, s₁.heap.get? b = some o → H b = none → (hidT s₁.heap H).get? b = some o := fun e n => hidT_get e n
    have noA : ∀ {b : Addr} {o : Obj} {es : Array DictEntry} {ep : Nat}, s₁.heap.get? b = some o → o.data = .dict es ep → H b = none := fun {b o es ep} e d => by
      cases q : H b with
      | none => rfl
      | some u =>
        have e' : b = a := hA b (by rw [q]; simp)
        subst e'
        rw [ha] at e; cases e
        have d' : Data.seq vs.toArray _ = Data.dict es ep := d
        cases d'
    have nsK : ∀ {b : Addr} {m : Str → Option Value}, s₁.heap.Ns b m → (hidT s₁.heap H).Ns b m := fun {b m} ⟨o, es, ep, e, d, r⟩ => ⟨o, es, ep, base_of e (noA e d), d, r⟩
    have hKb : K.In (hidT s₁.heap H) := fun b o e => base_of (KX b o e) (by
      cases q : H b with
      | none => rfl
      | some u =>
        have e' : b = a := hA b (by rw [q]; simp)
        subst e'
        rw [hK (by rw [q]; simp)] at e; cases e)
    have hM : Mod K mg (hidT s₁.heap H) := ⟨hKb, nsK hns, ⟨mb, nsK hb, hbb⟩, let ⟨mc, h1, h2⟩ := hlim; ⟨mc, nsK h1, h2⟩⟩
    have e0 : Env0 P w K mg (hidT s₁.heap H) callerA [] s₁ H := ⟨rfl, hM, fun b o e => of_hidT e, Nat.le_of_eq (hidT_size _ _), trivial, fun b hb => absurd (show b ∈ ([] : List Addr) from hb) (by simp), hok, .of_eq hg⟩
    refine codeAny_mono ((F _ hKb (nsK hns)).run callerA [] s₁ H ⟨[.ref a], []⟩ [.ref a] [.ref a] _ _ hr e0 (hbind s₁ (.ref a)) (.cons rfl .nil) (hsp H hO hS)) fun r s' h => ?_
    cases r with
    | error e => exact False.elim h
    | ok fl =>
      cases fl with
      | next => exact False.elim h
      | brk => exact False.elim h
      | cont => exact False.elim h
      | ret u =>
        obtain ⟨v, H', os, bare, un, hok', r', q⟩ := h
        have q' : v = .bl true := q
        subst q'
        obtain rfl : u = Value.bool true := r'
        refine ⟨rfl, OldK.of_keep fun b o e => ?_, os, bare⟩
        cases q : H b with
        | none => exact un.keep b o e q (by intro z; exact absurd (show b ∈ ([] : List Addr) from z) (by simp)) (by simp)
        | some u =>
          rcases hO b with z | ⟨ob, xs, z⟩
          · rw [q] at z; cases z
          · have z2 := un.frzs b ob _ z
            obtain ⟨e1, _⟩ := hok b _ z
            obtain ⟨e2, _⟩ := hok' b _ z2
            rw [e] at e1; cases e1
            exact e2
  cases hk : K.lookup a with
  | some o =>
    have e := KX a o hk
    rw [ha] at e
    cases e
    refine core (fun _ => none) (fun _ => .inl rfl) (.inr ⟨_, vs.toArray, _, hk, rfl, rfl, rfl, by rw [List.size_toArray, lenV]; exact hl, by simpa using rv⟩) (fun b u z => by have z' : (none : Option HO) = some u := z; cases z') (fun b z => absurd rfl z) fun z => absurd rfl z
  | none =>
    refine core (fun b => if b = a then some (.frz { cls := .type "list", data := .seq vs.toArray } (.lst (ns.map V.int))) else none) (fun b => ?_) (.inl (.inr ⟨{ cls := .type "list", data := .seq vs.toArray }, if_pos rfl⟩)) (fun b u z => ?_) (fun b z => ?_) fun _ => hk
    · by_cases hb : b = a
      · exact .inr ⟨_, _, if_pos hb⟩
      · exact .inl (if_neg hb)
    · by_cases hb : b = a
      · have z' := (if_pos hb).symm.trans z
        cases z'
        subst hb
        exact ⟨ha, by rw [List.length_map]; exact hl, vs, _, rv, ha⟩
      · have z' := (if_neg hb).symm.trans z
        cases z'
    · by_cases hb : b = a
      · exact hb
      · exact absurd (if_neg hb) z
theorem walk_ofG {l : PySem.W.OpenLaw} {n k : Nat} {q : Program} {loose : List Str} {XP : (Str → Option Value) → Heap → Prop} {YP : World → Heap → Prop} {d : DefRec} {K : Params → PySem.W.Frag} {sp : World → Sp} {x : Str}
    (hn : l.most = some n) (hn2 : n ≤ sizeLine) (hdf : d.params.defaults = []) (hr : RoomG k callerA)
    (hY : ∀ (w : World) (h : Heap), YP w h → (K w.params).In h)
    (F : ∀ (w : World) (mg : Str → Option Value) (fa : Addr) (h : Heap), (K w.params).In h → h.Ns mainGlobals mg → mg d.name = some (.ref fa) →
      ∃ fd : FuncData, (∀ (s : Shared) (u : Value), BindsTo s fd ⟨[u], []⟩ [(x, u)]) ∧
        ∀ base : Heap, (K w.params).In base → base.Ns mainGlobals mg → FnG l.prog w (K w.params) mg base CX0 k fa fd [x] (sp w))
    (hsp : ∀ (w : World) (H : Hp) (a : Addr) (ns : List Int), ns.length ≤ n → Only H → SqL (K w.params) H a (ns.map V.int) → sp w [.ref a] H (fun v _ => v = .bl true) fun _ _ _ => False) :
    PySem.W.WalkO q loose XP YP l.row.toRowW d [] (fun f vs => PySem.call f vs) := by
  refine Att.attach_call hn hdf fun w s₀ s₁ mg mb fa o pm cd doc a vs ns G Y ho hd hcd hmg hobj hints hlen hg => ?_
  have KX := hY w _ Y
  obtain ⟨fd, hb, hF⟩ := F w mg fa _ KX G.T.g hmg
  exact law_callG KX G.T.g G.T.b G.T.builtins G.T.nolimit hg hobj hints (Nat.le_trans hlen hn2) hr hF hb (fun H hO hS => hsp w H a ns hlen hO hS)
/-! ### sizes -/
theorem sz_rfl {n : Nat} (h : Nat.ble n 1000 = true) : n ≤ sizeLine := Nat.le_trans (Nat.le_of_ble_eq_true h) (by decide)
theorem sz_le {n m : Nat} (h : n ≤ m) (h2 : Nat.ble m 16777216 = true) : n ≤ sizeLine := Nat.le_trans h (Nat.le_trans (Nat.le_of_ble_eq_true h2) (by decide))
theorem sz_lt {n m : Nat} (h : n ≤ m) (h2 : Nat.ble m 16777215 = true) : n < sizeLine := Nat.lt_of_le_of_lt h (Nat.lt_of_le_of_lt (Nat.le_of_ble_eq_true h2) (by decide))
/-! ### comprehensions, what they ask -/
abbrev LcG (J : It) (g : TG) (tt : TT) (te : TE) (vs : List Nat) (σ : L2.St) (H1 : Hp) (D : Addr) (Qd : Hp → Prop) : Prop :=
  ∃ W : Nat → Nat → Hp → Prop, (∃ m, W 0 m (L2.upd H1 D (.lst []))) ∧ ∀ i m H, W i m H →
    (J.stop i H ∧ Qd H) ∨ (J.go i H ∧ ∃ Nx : Hp → Prop, (∀ H', Nx H' → ∃ m', m' < m ∧ W (i + 1) m' H') ∧ ∀ x H', J.yld i H x H' → g x (wipe σ vs) H' fun σ2 H2 => wipe σ2 vs = wipe σ vs ∧ tt σ2 H2 fun b H3 =>
      if b = true then te σ2 H3 fun y H4 => ∃ acc, H4 D = some (.lst acc) ∧ acc.length < sizeLine ∧ Nx (L2.upd H4 D (.lst (acc ++ [y]))) else Nx H3)
theorem wipe_set1 (σ : L2.St) (j : Nat) (o : Option V) : wipe ((wipe σ [j]).set j o) [j] = wipe σ [j] := by
  show ((σ.set j none).set j o).set j none = σ.set j none
  rw [List.set_set, List.set_set]
theorem same_mut {H H' : Hp} {D : Addr} {o : HO} (s : Same H H') (h : H D = none) : Same H (L2.upd H' D o) := same_new s h
/-- [f(c) for c in x], x a text, f a truth -/
theorem lc_strB {x : Str} {j : Nat} {te : TE} {σ : L2.St} {H1 : Hp} {D : Addr} {Qd : Hp → Prop} (f : Nat → Bool) (hx : x.cps.size < sizeLine)
    (he : ∀ (c : Nat) (H' : Hp) (Q' : VK), c ∈ x.cps.toList → Q' (.bl (f c)) H' → te ((wipe σ [j]).set j (some (.str ⟨#[c]⟩))) H' Q') (hd : Qd (L2.upd H1 D (.lst ((x.cps.toList.map f).map V.bl)))) :
    LcG (Its x) (gName j) tYes te [j] σ H1 D Qd := by
  refine lc_it walk_str (fun i H => H = L2.upd H1 D (.lst (((x.cps.toList.take i).map f).map V.bl))) rfl (fun _ _ _ _ => trivial) ?_ (fun H e => ?_)
  · rintro i v H H' hi rfl ⟨rfl, c, hc, rfl⟩
    refine ⟨wipe_set1 _ _ _, ?_⟩
    have hm : c ∈ x.cps.toList := by
      obtain ⟨h1, h2⟩ := Array.getElem?_eq_some_iff.mp hc
      rw [← h2]
      exact Array.mem_toList_iff.mpr (Array.getElem_mem h1)
    refine he c _ _ hm ⟨_, upd_same, ?_, ?_⟩
    · rw [List.length_map, List.length_map, List.length_take]
      omega
    · rw [upd_upd]
      have e : x.cps.toList.take (i + 1) = x.cps.toList.take i ++ [c] := by
        rw [List.take_succ, Array.getElem?_toList, hc]
        rfl
      rw [e, List.map_append, List.map_append]
      rfl
  · rw [e]
    have e2 : x.cps.toList.take x.cps.size = x.cps.toList := List.take_of_length_le (by simp)
    rw [e2]
    exact hd
/-- a comprehension over a range that may change the heap: an invariant over the turn, what is made so far, and the heap -/
theorem lc_rangeI {lo : Int} {n j : Nat} {te : TE} {σ : L2.St} {H1 : Hp} {D : Addr} {Qd : Hp → Prop} (Pv : Nat → List V → Hp → Prop) (h0 : Pv 0 [] (L2.upd H1 D (.lst []))) (hn : n < 16777216)
    (hs : ∀ i acc H (Q' : VK), i < n → acc.length = i → H D = some (.lst acc) → Pv i acc H → (∀ y H4, H4 D = some (.lst acc) → Pv (i + 1) (acc ++ [y]) (L2.upd H4 D (.lst (acc ++ [y]))) → Q' y H4) →
      te ((wipe σ [j]).set j (some (.int (lo + i)))) H Q')
    (hd : ∀ acc H, acc.length = n → H D = some (.lst acc) → Pv n acc H → Qd H) :
    LcG (Itr lo n) (gName j) tYes te [j] σ H1 D Qd := by
  refine lc_range (fun i H => ∃ acc, acc.length = i ∧ H D = some (.lst acc) ∧ Pv i acc H) ⟨[], rfl, upd_same, h0⟩ ?_ (fun H ⟨acc, e, hD, h⟩ => hd acc H e hD h)
  rintro i H hi ⟨acc, e, hD, h⟩
  refine ⟨wipe_set1 _ _ _, ?_⟩
  refine hs i acc H _ hi e hD h (fun y H4 q1 q2 => ?_)
  exact ⟨acc, q1, by rw [e]; exact Nat.lt_of_lt_of_le (show i < 16777216 by omega) (by decide), acc ++ [y], by rw [List.length_append, e]; rfl, upd_same, q2⟩
/-! ### what is no text -/
def NotStr (K : PySem.W.Frag) (H : Hp) (v : V) : Prop := ∃ t : String, TyX K H v (.type t) ∧ kitB t "str" = some false
theorem TyX.same {K : PySem.W.Frag} {H H' : Hp} {v : V} {t : String} (s : Same H H') (h : TyX K H v (.type t)) : TyX K H' v (.type t) := by
  cases h with
  | base h =>
    cases h with
    | non => exact .base .non
    | bl x => exact .base (.bl x)
    | int i => exact .base (.int i)
    | str x => exact .base (.str x)
    | flt x => exact .base (.flt x)
    | lst e => exact .base (.lst (s _ _ e))
    | frz e => exact .base (.frz (s _ _ e))
    | tup e => exact .base (.tup (s _ _ e))
    | dK e => exact .base (.dK (s _ _ e))
    | dT e => exact .base (.dT (s _ _ e))
  | byt b => exact .byt b
  | set e => exact .set (s _ _ e)
  | kList e c => exact .kList e c
  | kTuple e c => exact .kTuple e c
  | kDict e c => exact .kDict e c
  | fTuple e => exact .fTuple (s _ _ e)
  | fDict e => exact .fDict (s _ _ e)
theorem NotStr.same {K : PySem.W.Frag} {H H' : Hp} {v : V} (s : Same H H') (h : NotStr K H v) : NotStr K H' v := by
  obtain ⟨t, h, k⟩ := h
  exact ⟨t, TyX.same s h, k⟩
/-- [e for x in range(lo, lo + m)] whose element draws with the pen and makes new objects: c draws a turn -/
theorem lc_rangeP {lo : Int} {m j : Nat} {te : TE} {σ : L2.St} {H1 G : Hp} {D p : Addr} {n : Nat} {Qd : Hp → Prop} (c : Nat) (A : Hp → V → Prop) (mono : ∀ {G1 G2 y}, Same G1 G2 → A G1 y → A G2 y) (h0 : PenG G H1 p n) (hD : H1 D = none) (hm : m < 16777216)
    (hs : ∀ i acc G' H (Q' : VK), i < m → acc.length = i → Same G G' → G' D = none → PenG (L2.upd G' D (.lst acc)) H p (n + i * c) → (∀ y ∈ acc, A G' y) →
      (∀ y G'' H4, Same G' G'' → G'' D = none → A G'' y → PenG (L2.upd G'' D (.lst acc)) H4 p (n + i * c + c) → Q' y H4) →
      te ((wipe σ [j]).set j (some (.int (lo + i)))) H Q')
    (hd : ∀ acc G' H, acc.length = m → Same G G' → G' D = none → (∀ y ∈ acc, A G' y) → PenG (L2.upd G' D (.lst acc)) H p (n + m * c) → Qd H) :
    LcG (Itr lo m) (gName j) tYes te [j] σ H1 D Qd := by
  have gD : G D = none := h0.sub.free hD
  refine lc_rangeI (fun i acc H => ∃ G', Same G G' ∧ G' D = none ∧ (∀ y ∈ acc, A G' y) ∧ PenG (L2.upd G' D (.lst acc)) H p (n + i * c))
    ⟨G, Same.refl G, gD, by simp, by rw [Nat.zero_mul, Nat.add_zero]; exact h0.new hD⟩ hm ?_ ?_
  · rintro i acc H Q' hi hl hDa ⟨G', s, g, hA, hP⟩ k
    refine hs i acc G' H Q' hi hl s g hP hA (fun y G'' H4 s2 g2 ha hP2 => k y H4 (hP2.sub _ _ upd_same) ⟨G'', Same.trans s s2, g2, ?_, ?_⟩)
    · intro z hz
      rcases List.mem_append.mp hz with hz | hz
      · exact mono s2 (hA z hz)
      · rw [List.mem_singleton] at hz
        rw [hz]
        exact ha
    · rw [show n + (i + 1) * c = n + i * c + c by rw [Nat.add_mul, Nat.one_mul, Nat.add_assoc]]
      exact hP2.put
  · rintro acc H hl hDa ⟨G', s, g, hA, hP⟩
    exact hd acc G' H hl s g hA hP
/-! ### texts -/
theorem atI_int {α : Type} {xs : List α} {i : Int} {v : α} (h0 : 0 ≤ i) (h : xs[i.toNat]? = some v) : atI xs i = some v := by
  have e : ((i.toNat : Nat) : Int) = i := Int.toNat_of_nonneg h0
  rw [← e]
  exact atI_nat h
theorem atI_some {α : Type} {xs : List α} {i : Int} (h0 : 0 ≤ i) (h1 : i < xs.length) : ∃ v, atI xs i = some v ∧ v ∈ xs := by
  have hl : i.toNat < xs.length := by omega
  exact ⟨xs[i.toNat], atI_int h0 (List.getElem?_eq_getElem hl), List.getElem_mem hl⟩
theorem tl_join0 : ∀ xs : List Str, TL.tl (Txt.join "" xs) = (xs.map TL.tl).flatten := by
  intro xs
  rw [TL.join_eq]
  have e0 : TL.tl ("" : Str) = [] := by decide +kernel
  induction xs with
  | nil => rfl
  | cons x r ih =>
    cases r with
    | nil => simp [Str.join]
    | cons y r =>
      show TL.tl (x ++ "" ++ Str.join "" (y :: r)) = _
      rw [TL.tl_append, TL.tl_append, e0, List.append_nil, ih]
      rfl
theorem len_join0 (xs : List Str) : (Txt.join "" xs).length = (xs.map (·.length)).sum := by
  rw [TL.len_tl, tl_join0, List.length_flatten, List.map_map]
  congr 1
/-- values that are all texts -/
theorem all_strs {P : Str → Prop} : ∀ {vs : List V}, (∀ v ∈ vs, ∃ x, v = .str x ∧ P x) → ∃ xs : List Str, vs = xs.map V.str ∧ ∀ x ∈ xs, P x
  | [], _ => ⟨[], rfl, by simp⟩
  | v :: r, h => by
    obtain ⟨x, rfl, hx⟩ := h v (List.mem_cons_self ..)
    obtain ⟨xs, rfl, hxs⟩ := all_strs (P := P) (vs := r) fun v hv => h v (List.mem_cons_of_mem _ hv)
    exact ⟨x :: xs, rfl, by simp only [List.mem_cons, forall_eq_or_imp]; exact ⟨hx, hxs⟩⟩
theorem sum_one : ∀ {xs : List Str}, (∀ x ∈ xs, x.length = 1) → (xs.map (·.length)).sum = xs.length
  | [], _ => rfl
  | x :: r, h => by
    have e := sum_one (xs := r) fun z hz => h z (List.mem_cons_of_mem _ hz)
    rw [List.map_cons, List.sum_cons, e, h x (List.mem_cons_self ..), List.length_cons]
    omega
theorem len_cut (z : Str) (lo hi : Option Int) : (cutS z lo hi).length ≤ z.length := by
  unfold cutS
  show (List.toArray _).size ≤ _
  rw [List.size_toArray, List.length_take, List.length_drop]
  have : z.cps.toList.length = z.length := (TL.len_tl z).symm
  omega
theorem len_app (x y : Str) : (x ++ y).length = x.length + y.length := by
  rw [TL.len_tl, TL.tl_append, List.length_append, ← TL.len_tl, ← TL.len_tl]
/-! ### any object, as the laws draw them -/
def Scal (v : V) : Prop := v = .int 0 ∨ v = .int 1 ∨ v = .int (-1) ∨ v = .bl true ∨ v = .non ∨ v = .str "" ∨ v = .str "0" ∨ v = .str "a" ∨ v = .str "aA" ∨ v = .int (10 ^ 39) ∨ v = .str "10"
def AKeys : List Key := [.inr "a", .inr "b", .inr "c", .inl 0]
def AnyV (G : Hp) : Nat → V → Prop
  | 0, v => Scal v
  | L + 1, v => Scal v ∨ (∃ a xs, v = .ref a ∧ (G a = some (.lst xs) ∨ G a = some (.tup xs)) ∧ xs.length ≤ 3 ∧ ∀ x ∈ xs, AnyV G L x) ∨
    (∃ a kvs, v = .ref a ∧ G a = some (.dK kvs) ∧ kvs.length ≤ 3 ∧ ∀ kv ∈ kvs, kv.1 ∈ AKeys ∧ AnyV G L kv.2)
theorem AnyV.same {G G' : Hp} (s : Same G G') : ∀ {L : Nat} {v : V}, AnyV G L v → AnyV G' L v
  | 0, _, h => h
  | L + 1, v, h => by
    rcases h with h | ⟨a, xs, e, ha, hl, hx⟩ | ⟨a, kvs, e, ha, hl, hx⟩
    · exact .inl h
    · refine .inr (.inl ⟨a, xs, e, ?_, hl, fun x m => AnyV.same s (hx x m)⟩)
      rcases ha with ha | ha
      · exact .inl (s _ _ ha)
      · exact .inr (s _ _ ha)
    · exact .inr (.inr ⟨a, kvs, e, s _ _ ha, hl, fun kv m => ⟨(hx kv m).1, AnyV.same s (hx kv m).2⟩⟩)
theorem Scal.any {G : Hp} {L : Nat} {v : V} (h : Scal v) : AnyV G L v := by
  cases L with
  | zero => exact h
  | succ L => exact .inl h
theorem AnyV.kind {K : PySem.W.Frag} {G : Hp} {L : Nat} {v : V} (h : AnyV G L v) : (∃ x : Str, v = .str x ∧ x.length ≤ 2) ∨ NotStr K G v := by
  have hs : ∀ {v : V}, Scal v → (∃ x : Str, v = .str x ∧ x.length ≤ 2) ∨ NotStr K G v := by
    intro v h
    rcases h with rfl | rfl | rfl | rfl | rfl | rfl | rfl | rfl | rfl | rfl | rfl
    · exact .inr ⟨"int", .base (.int _), by decide +kernel⟩
    · exact .inr ⟨"int", .base (.int _), by decide +kernel⟩
    · exact .inr ⟨"int", .base (.int _), by decide +kernel⟩
    · exact .inr ⟨"bool", .base (.bl _), by decide +kernel⟩
    · exact .inr ⟨"NoneType", .base .non, by decide +kernel⟩
    · exact .inl ⟨_, rfl, by decide +kernel⟩
    · exact .inl ⟨_, rfl, by decide +kernel⟩
    · exact .inl ⟨_, rfl, by decide +kernel⟩
    · exact .inl ⟨_, rfl, by decide +kernel⟩
    · exact .inr ⟨"int", .base (.int _), by decide +kernel⟩
    · exact .inl ⟨_, rfl, by decide +kernel⟩
  cases L with
  | zero => exact hs h
  | succ L =>
    rcases h with h | ⟨a, xs, rfl, ha | ha, _⟩ | ⟨a, kvs, rfl, ha, _⟩
    · exact hs h
    · exact .inr ⟨"list", .base (.lst ha), by decide +kernel⟩
    · exact .inr ⟨"tuple", .base (.tup ha), by decide +kernel⟩
    · exact .inr ⟨"dict", .base (.dK ha), by decide +kernel⟩
/-- what stands in G and not in G0 -/
def minus (G G0 : Hp) : Hp := fun a => match G0 a with
  | none => G a
  | some _ => none
theorem minus_sub {G G0 : Hp} : Same (minus G G0) G := fun a o e => by
  unfold minus at e
  cases h : G0 a with
  | none => rw [h] at e; exact e
  | some u => rw [h] at e; cases e
theorem minus_at {G G0 : Hp} {a : Addr} (h : G0 a = none) : minus G G0 a = G a := by
  unfold minus
  rw [h]
theorem minus_mono {G1 G2 G0 : Hp} (s : Same G1 G2) : Same (minus G1 G0) (minus G2 G0) := fun a o e => by
  cases h : G0 a with
  | none => rw [minus_at h] at e ⊢; exact s a o e
  | some u => unfold minus at e; rw [h] at e; cases e
theorem minus_less {G G0 G1 : Hp} (s : Same G0 G1) : Same (minus G G1) (minus G G0) := fun a o e => by
  cases h : G1 a with
  | none => rw [minus_at h] at e; rw [minus_at (s.free h)]; exact e
  | some u => unfold minus at e; rw [h] at e; cases e
theorem minus_del {G0 G1 G3 : Hp} {D : Addr} {o o' : HO} (s : Same G0 G1) : Same (minus (L2.upd G3 D o) (L2.upd G1 D o')) (minus G3 G0) := fun a u e => by
  have hD : a ≠ D := fun q => by
    subst q
    unfold minus at e
    rw [upd_same] at e
    cases e
  cases h : G1 a with
  | none =>
    rw [minus_at (by rw [upd_ne hD]; exact h), upd_ne hD] at e
    rw [minus_at (s.free h)]
    exact e
  | some v =>
    unfold minus at e
    rw [upd_ne hD, h] at e
    cases e
/-! ### readings that name K -/
def rLenQ (K : PySem.W.Frag) : List V → Hp → VK → Prop := fun xs H Q => ∃ p ys, xs = [.ref p] ∧ (SqL K H p ys ∨ SqT K H p ys) ∧ Q (.int ys.length) H
def rListQ (K : PySem.W.Frag) : List V → Hp → VK → Prop := fun xs H Q => ∃ p ys, xs = [.ref p] ∧ (SqL K H p ys ∨ SqT K H p ys) ∧ ∀ l, H l = none → Q (.ref l) (L2.upd H l (.lst ys))
def rTupQ (K : PySem.W.Frag) : List V → Hp → VK → Prop := fun xs H Q => ∃ p ys, xs = [.ref p] ∧ ((SqL K H p ys ∧ ∀ l, H l = none → Q (.ref l) (L2.upd H l (.tup ys))) ∨ (SqT K H p ys ∧ Q (.ref p) H))
def rDictP (K : PySem.W.Frag) : List V → Hp → VK → Prop := fun xs H Q => ∃ (a : Addr) (ps : List Addr) (kvs : List (Key × V)), xs = [.ref a] ∧ SqL K H a (ps.map V.ref) ∧ Paired (fun p kv => SqT K H p [kV kv.1, kv.2]) ps kvs ∧ ∀ p, H p = none → Q (.ref p) (L2.upd H p (.dK (mergeK [] kvs)))
def rJoinQ (K : PySem.W.Frag) : V → List V → Hp → VK → Prop := fun x xs H Q => ∃ a p, ∃ ys : List Str, x = .str a ∧ xs = [.ref p] ∧ (SqL K H p (ys.map V.str) ∨ SqT K H p (ys.map V.str)) ∧ (ys.map (·.length)).sum + ys.length * a.length ≤ 16777216 ∧ Q (.str (Txt.join a ys)) H
section
variable {X : Cx} {K : PySem.W.Frag}
theorem pi_listK {tg l : Expr} {tl : TE} (he : PE X l tl) (hK : X.K = K := by rfl) : PI X tg l (iList K tl) := hK ▸ pi_list he
theorem pi_tupK {tg l : Expr} {tl : TE} (he : PE X l tl) (hK : X.K = K := by rfl) : PI X tg l (iTup K tl) := hK ▸ pi_tup he
end
/-! ### dicts made of pairs -/
theorem put_mem {kvs : List (Key × V)} {k : Key} {v : V} {q : Key × V} (h : q ∈ putK kvs k v) : q ∈ kvs ∨ q = (k, v) := by
  unfold putK at h
  split at h
  · obtain ⟨a, ha, rfl⟩ := List.mem_map.mp h
    by_cases e : a.1 = k
    · rw [if_pos e, e]
      exact .inr rfl
    · rw [if_neg e]
      exact .inl ha
  · rcases List.mem_append.mp h with h | h
    · exact .inl h
    · exact .inr (List.mem_singleton.mp h)
theorem put_len (kvs : List (Key × V)) (k : Key) (v : V) : (putK kvs k v).length ≤ kvs.length + 1 := by
  unfold putK
  split
  · rw [List.length_map]; omega
  · rw [List.length_append]; exact Nat.le_refl _
theorem merge_mem {q : Key × V} : ∀ {more kvs : List (Key × V)}, q ∈ mergeK kvs more → q ∈ kvs ∨ q ∈ more
  | [], _, h => .inl h
  | a :: r, kvs, h => by
    rcases merge_mem (more := r) (kvs := putK kvs a.1 a.2) h with h | h
    · rcases put_mem h with h | h
      · exact .inl h
      · exact .inr (by rw [h]; exact List.mem_cons_self ..)
    · exact .inr (List.mem_cons_of_mem _ h)
theorem merge_len : ∀ (more kvs : List (Key × V)), (mergeK kvs more).length ≤ kvs.length + more.length
  | [], _ => Nat.le_refl _
  | a :: r, kvs => by
    have h := merge_len r (putK kvs a.1 a.2)
    have h2 := put_len kvs a.1 a.2
    show (mergeK (putK kvs a.1 a.2) r).length ≤ _
    rw [List.length_cons]
    omega
/-- a list of pairs, each a tuple of its own -/
theorem pairs_of {K : PySem.W.Frag} {H : Hp} {P : Key × V → Prop} : ∀ {vs : List V}, (∀ v ∈ vs, ∃ t k x, v = .ref t ∧ H t = some (.tup [kV k, x]) ∧ P (k, x)) →
    ∃ (ps : List Addr) (kvs : List (Key × V)), vs = ps.map V.ref ∧ Paired (fun p kv => SqT K H p [kV kv.1, kv.2]) ps kvs ∧ kvs.length = vs.length ∧ ∀ kv ∈ kvs, P kv
  | [], _ => ⟨[], [], rfl, .nil, rfl, by simp⟩
  | v :: r, h => by
    obtain ⟨t, k, x, rfl, ht, hp⟩ := h v (List.mem_cons_self ..)
    obtain ⟨ps, kvs, rfl, hps, hl, hk⟩ := pairs_of (K := K) (H := H) (P := P) (vs := r) fun v hv => h v (List.mem_cons_of_mem _ hv)
    exact ⟨t :: ps, (k, x) :: kvs, rfl, .cons (SqT.of ht) hps, by rw [List.length_cons, List.length_cons, hl], by simp only [List.mem_cons, forall_eq_or_imp]; exact ⟨hp, hk⟩⟩
/-! ### comprehensions over lists -/
/-- [f(x) for x in xs], nothing changed -/
theorem lc_listF {K : PySem.W.Frag} {a : Addr} {xs : List V} {j : Nat} {te : TE} {σ : L2.St} {H1 : Hp} {D : Addr} {Qd : Hp → Prop} (f : V → V) (hS : SqL K H1 a xs) (hD : H1 D = none) (hx : xs.length < 16777216)
    (he : ∀ x ∈ xs, ∀ (H' : Hp) (Q' : VK), Same H1 H' → Q' (f x) H' → te ((wipe σ [j]).set j (some x)) H' Q') (hd : Qd (L2.upd H1 D (.lst (xs.map f)))) :
    LcG (Itl K a) (gName j) tYes te [j] σ H1 D Qd := by
  refine lc_list (K := K) (a := a) (xs := xs) (fun i H => H = L2.upd H1 D (.lst ((xs.take i).map f))) rfl (fun i H _ e => by rw [e]; exact Same.seq (same_new (Same.refl _) hD) hS) ?_ (fun H e => by rw [e, List.take_length]; exact hd)
  rintro i x H hi rfl
  refine ⟨wipe_set1 _ _ _, ?_⟩
  have hl : i < xs.length := (List.getElem?_eq_some_iff.mp hi).1
  refine he x (List.mem_of_getElem? hi) _ _ (same_new (Same.refl _) hD) ⟨_, upd_same, ?_, ?_⟩
  · rw [List.length_map, List.length_take]
    exact Nat.lt_of_lt_of_le (show min i xs.length < 16777216 by omega) (by decide)
  · rw [upd_upd]
    have e : xs.take (i + 1) = xs.take i ++ [x] := by
      rw [List.take_succ, hi]
      rfl
    rw [e, List.map_append]
    rfl
/-- [f(x) for x in xs if p(x)], nothing changed -/
theorem lc_listP {K : PySem.W.Frag} {a : Addr} {xs : List V} {j : Nat} {tt : TT} {te : TE} {σ : L2.St} {H1 : Hp} {D : Addr} {Qd : Hp → Prop} (p : V → Bool) (f : V → V) (hS : SqL K H1 a xs) (hD : H1 D = none) (hx : xs.length < 16777216)
    (ht : ∀ x ∈ xs, ∀ (H' : Hp) (Q' : Bool → Hp → Prop), Same H1 H' → Q' (p x) H' → tt ((wipe σ [j]).set j (some x)) H' Q')
    (he : ∀ x ∈ xs, p x = true → ∀ (H' : Hp) (Q' : VK), Same H1 H' → Q' (f x) H' → te ((wipe σ [j]).set j (some x)) H' Q') (hd : Qd (L2.upd H1 D (.lst ((xs.filter p).map f)))) :
    LcG (Itl K a) (gName j) tt te [j] σ H1 D Qd := by
  refine lc_list (K := K) (a := a) (xs := xs) (fun i H => H = L2.upd H1 D (.lst (((xs.take i).filter p).map f))) rfl (fun i H _ e => by rw [e]; exact Same.seq (same_new (Same.refl _) hD) hS) ?_ (fun H e => by rw [e, List.take_length]; exact hd)
  rintro i x H hi rfl
  refine ⟨wipe_set1 _ _ _, ?_⟩
  have hl : i < xs.length := (List.getElem?_eq_some_iff.mp hi).1
  have e : xs.take (i + 1) = xs.take i ++ [x] := by
    rw [List.take_succ, hi]
    rfl
  refine ht x (List.mem_of_getElem? hi) _ _ (same_new (Same.refl _) hD) ?_
  refine if_b (fun hp => ?_) (fun hp => ?_)
  · refine he x (List.mem_of_getElem? hi) hp _ _ (same_new (Same.refl _) hD) ⟨_, upd_same, ?_, ?_⟩
    · rw [List.length_map]
      have h1 := List.length_filter_le p (xs.take i)
      rw [List.length_take] at h1
      exact Nat.lt_of_lt_of_le (show _ < 16777216 by omega) (by decide)
    · rw [upd_upd, e, List.filter_append, List.map_append, List.filter_cons, hp]
      rfl
  · show L2.upd H1 D _ = L2.upd H1 D _
    rw [e, List.filter_append, List.filter_cons, hp]
    simp
/-- [f(i) for i in range(lo, lo + n)], nothing changed -/
theorem lc_rangeF {lo : Int} {n j : Nat} {te : TE} {σ : L2.St} {H1 : Hp} {D : Addr} {Qd : Hp → Prop} (f : Nat → V) (hD : H1 D = none) (hn : n < 16777216)
    (he : ∀ i, i < n → ∀ (H' : Hp) (Q' : VK), Same H1 H' → Q' (f i) H' → te ((wipe σ [j]).set j (some (.int (lo + i)))) H' Q') (hd : Qd (L2.upd H1 D (.lst ((List.range n).map f)))) :
    LcG (Itr lo n) (gName j) tYes te [j] σ H1 D Qd := by
  refine lc_rangeI (fun i acc H => acc = (List.range i).map f ∧ H = L2.upd H1 D (.lst acc)) ⟨rfl, rfl⟩ hn ?_ ?_
  · rintro i acc H Q' hi hl hDa ⟨rfl, rfl⟩ k
    refine he i hi _ _ (same_new (Same.refl _) hD) (k _ _ upd_same ⟨?_, ?_⟩)
    · rw [List.range_succ, List.map_append]
      rfl
    · rw [upd_upd]
  · rintro acc H hl hDa ⟨rfl, rfl⟩
    exact hd
/-! ### classes -/
structure ClsT (K : PySem.W.Frag) (mg : Str → Option Value) (x : Str) (C : Addr) : Prop where
  cl : Cls K C
  gl : mg x = some (.ref C)
structure MetT (K : PySem.W.Frag) (C : Addr) (m qual : Str) (st : Stmt) (ps : List Str) : Prop where
  ex : ∃ (f : Addr) (fd : FuncData), Meth K C m f ∧ Fun K m qual st f fd ∧ Binds K fd ps []
structure IniT (K : PySem.W.Frag) (C : Addr) (qual : Str) (st : Stmt) (ps : List Str) : Prop where
  ex : ∃ (f : Addr) (fd : FuncData), Mk K C f ∧ Fun K "__init__" qual st f fd ∧ Binds K fd ps []
/-- an empty tuple of the text -/
structure Tup0 (K : PySem.W.Frag) (a : Addr) : Prop where
  ex : ∃ (od : Option Addr) (n : Nat) (sl : Array (Option Value)), K.lookup a = some ⟨.type "tuple", od, .seq #[] n, sl⟩
theorem Tup0.sq {K : PySem.W.Frag} {a : Addr} (h : Tup0 K a) (H : Hp) : SqT K H a [] := by
  obtain ⟨od, n, sl, e⟩ := h.ex
  exact .inr ⟨_, _, n, e, rfl, rfl, Nat.zero_le _, .nil⟩
theorem Tup0.ty {K : PySem.W.Frag} {a : Addr} (h : Tup0 K a) (H : Hp) : TyX K H (.ref a) (.type "tuple") := by
  obtain ⟨od, n, sl, e⟩ := h.ex
  exact .kTuple e rfl
/-- an __init__ whose last parameter has () as its default -/
structure IniD (K : PySem.W.Frag) (C : Addr) (qual : Str) (st : Stmt) (ps : List Str) : Prop where
  ex : ∃ (f a0 : Addr) (fd : FuncData), Mk K C f ∧ FunD K "__init__" qual (defArgs st) (defBody st) (defScope st) [.ref a0] [] f fd ∧ Tup0 K a0 ∧ (∃ ds, Vals [.ref a0] ds ∧ Binds K fd ps ds) ∧ (∃ ds, Vals [] ds ∧ Binds K fd ps ds)
section
variable {P : Program} {w : World} {K : PySem.W.Frag} {mg : Str → Option Value} {base : Heap}
theorem FunD.okG {x qual : Str} {params : Arguments} {body : List Stmt} {scope : Scope} {dvs : List V} {kws : List (Str × V)} {f : Addr} {fd : FuncData} {CX : CXT} {N ps : List Str} {k : Nat} {sp : Sp} (F : FunD K x qual params body scope dvs kws f fd) (S : FnScope N ps scope) (len : ∀ vs H Q E, sp vs H Q E → vs.length = ps.length)
    (hbody : ∀ (cdv : Value) (A : Around) (outer : List Env) (s : Shared) (H : Hp) (vs : List V) (Q : VK) (E : XK), RoomG k (A.deeper (envOfC qual scope s.heap.objs.size f cdv)) → sp vs H Q E →
      ∃ t, PSs (cxOf CX P w K mg base N qual scope f cdv A outer s H E) body t ∧ t { nx := fun _ H' => Q .non H', rt := Q } (start N vs) H) : FnG P w K mg base CX (k + 1) f fd ps sp := by
  obtain ⟨oc, od, dV, kV, doc, pm, an, cdv, ct, osl, rfl, lk, hcd, _, _⟩ := F.ex
  exact fnG_of lk hcd S len fun A outer s H vs Q E hr hsp => hbody cdv A outer s H vs Q E hr hsp
theorem MetT.met {C : Addr} {m qual : Str} {st : Stmt} {N ps : List Str} {k : Nat} {sp : Sp} (D : MetT K C m qual st ps) (c : Cls K C) (S : FnScope N ps (defScope st)) (len : ∀ vs H Q E, sp vs H Q E → vs.length = ps.length)
    (hbody : ∀ (f : Addr) (cdv : Value) (A : Around) (outer : List Env) (s : Shared) (H : Hp) (vs : List V) (Q : VK) (E : XK), RoomG k (A.deeper (envOfC qual (defScope st) s.heap.objs.size f cdv)) → sp vs H Q E →
      ∃ t, PSs (cxOf CX0 P w K mg base N qual (defScope st) f cdv A outer s H E).nox (defBody st) t ∧ t { nx := fun _ H' => Q .non H', rt := Q } (start N vs) H) : MetG P w K mg base CX0 (k + 1) C m sp [] := by
  obtain ⟨f, fd, hm, F, b⟩ := D.ex
  exact ⟨f, fd, ps, [], c, hm, Fun.okG F S len (hbody f), b, .nil⟩
theorem MetT.metX {C : Addr} {m qual : Str} {st : Stmt} {N ps : List Str} {k : Nat} {sp : Sp} (D : MetT K C m qual st ps) (c : Cls K C) (S : FnScope N ps (defScope st)) (len : ∀ vs H Q E, sp vs H Q E → vs.length = ps.length)
    (hbody : ∀ (f : Addr) (cdv : Value) (A : Around) (outer : List Env) (s : Shared) (H : Hp) (vs : List V) (Q : VK) (E : XK), RoomG k (A.deeper (envOfC qual (defScope st) s.heap.objs.size f cdv)) → sp vs H Q E →
      ∃ t, PSs (cxOf (L2.CX P w) P w K mg base N qual (defScope st) f cdv A outer s H E) (defBody st) t ∧ t { nx := fun _ H' => Q .non H', rt := Q } (start N vs) H) : MetG P w K mg base (L2.CX P w) (k + 1) C m sp [] := by
  obtain ⟨f, fd, hm, F, b⟩ := D.ex
  exact ⟨f, fd, ps, [], c, hm, Fun.okGX F S len (hbody f), b, .nil⟩
/-- the making of the class: all arguments given | the last one left out -/
theorem IniD.mak {x : Str} {C : Addr} {qual : Str} {st : Stmt} {N ps : List Str} {k : Nat} {sp : Sp} {CX : CXT} (D : IniD K C qual st ps) (c : ClsT K mg x C) (S : FnScope N ps (defScope st)) (len : ∀ vs H Q E, sp vs H Q E → vs.length = ps.length)
    (hbody : ∀ (f : Addr) (cdv : Value) (A : Around) (outer : List Env) (s : Shared) (H : Hp) (vs : List V) (Q : VK) (E : XK), RoomG k (A.deeper (envOfC qual (defScope st) s.heap.objs.size f cdv)) → sp vs H Q E →
      ∃ t, PSs (cxOf CX P w K mg base N qual (defScope st) f cdv A outer s H E) (defBody st) t ∧ t { nx := fun _ H' => Q .non H', rt := Q } (start N vs) H) :
    MakG P w K mg base CX (k + 1) x C sp [] ∧ ∃ a0, Tup0 K a0 ∧ MakG P w K mg base CX (k + 1) x C sp [.ref a0] := by
  obtain ⟨f, a0, fd, M, F, h0, ⟨ds, d, b⟩, ⟨ds', d', b'⟩⟩ := D.ex
  have FG : FnG P w K mg base CX (k + 1) f fd ps sp := FunD.okG F S len (hbody f)
  exact ⟨⟨f, fd, ps, ds', M, FG, c.gl, b', d'⟩, a0, h0, ⟨f, fd, ps, ds, M, FG, c.gl, b, d⟩⟩
theorem IniT.mak {x : Str} {C : Addr} {qual : Str} {st : Stmt} {N ps : List Str} {k : Nat} {sp : Sp} (D : IniT K C qual st ps) (c : ClsT K mg x C) (S : FnScope N ps (defScope st)) (len : ∀ vs H Q E, sp vs H Q E → vs.length = ps.length)
    (hbody : ∀ (f : Addr) (cdv : Value) (A : Around) (outer : List Env) (s : Shared) (H : Hp) (vs : List V) (Q : VK) (E : XK), RoomG k (A.deeper (envOfC qual (defScope st) s.heap.objs.size f cdv)) → sp vs H Q E →
      ∃ t, PSs (cxOf CX0 P w K mg base N qual (defScope st) f cdv A outer s H E).nox (defBody st) t ∧ t { nx := fun _ H' => Q .non H', rt := Q } (start N vs) H) : MakG P w K mg base CX0 (k + 1) x C sp [] := by
  obtain ⟨f, fd, M, F, b⟩ := D.ex
  exact ⟨f, fd, ps, [], M, Fun.okG F S len (hbody f), c.gl, b, .nil⟩
end
/-! ### items walked -/
theorem wipe_set2 (σ : L2.St) {i j : Nat} (h : i ≠ j) (a b : Option V) : wipe (((wipe σ [i, j]).set i a).set j b) [i, j] = wipe σ [i, j] := by
  show ((((((σ.set j none).set i none).set i a).set j b).set j none).set i none) = (σ.set j none).set i none
  rw [List.set_set, List.set_set, List.set_comm _ _ h, List.set_set, List.set_comm _ _ (Ne.symm h), List.set_comm _ _ h, List.set_set, List.set_comm _ _ (Ne.symm h)]
/-- [f(k, v) for k, v in d.items()], f a truth; new objects may be made -/
theorem lc_itemsB {K : PySem.W.Frag} {d : Addr} {o : Obj} {kvs : List (Key × V)} {i j : Nat} {te : TE} {σ : L2.St} {H1 : Hp} {D : Addr} {Qd : Hp → Prop} (f : Key × V → Bool) (hij : i ≠ j) (hS : H1 d = some (.frz o (.dK kvs))) (hD : H1 D = none) (hx : kvs.length < 16777216)
    (he : ∀ q ∈ kvs, ∀ (H' : Hp) (Q' : VK), Same H1 H' → (∀ H'', Same H' H'' → Q' (.bl (f q)) H'') → te (((wipe σ [i, j]).set i (some (kV q.1))).set j (some q.2)) H' Q') (hd : ∀ H', Same H1 H' → H' D = some (.lst ((kvs.map f).map V.bl)) → Qd H') :
    LcG (Iti d o kvs) (gTup K 2 (gCons (gName i) (gCons (gName j) gNil))) tYes te [i, j] σ H1 D Qd := by
  refine lc_it walk_items (fun n H => Same H1 H ∧ H D = some (.lst (((kvs.take n).map f).map V.bl))) ⟨same_new (Same.refl _) hD, upd_same⟩ (fun n H _ h => h.1 _ _ hS) ?_ (fun H h => hd H h.1 (by rw [h.2, List.take_length]))
  rintro n v H H' hn ⟨s, hDn⟩ ⟨T, x, y, rfl, hT, rfl, e1, e2⟩
  cases e : kvs[n]? with
  | none =>
    have h1 : (kvs[n]?.map fun kv => kV kv.1) = some x := e1
    rw [e] at h1
    cases h1
  | some q =>
    have h1 : (kvs[n]?.map fun kv => kV kv.1) = some x := e1
    have h2 : (kvs[n]?.map Prod.snd) = some y := e2
    rw [e] at h1 h2
    obtain rfl : kV q.1 = x := Option.some.inj h1
    obtain rfl : q.2 = y := Option.some.inj h2
    refine ⟨T, _, rfl, SqT.of upd_same, rfl, _, _, rfl, _, _, rfl, rfl, wipe_set2 σ hij _ _, ?_⟩
    have hDT : D ≠ T := fun z => by rw [z, hT] at hDn; cases hDn
    refine he q (List.mem_of_getElem? e) _ _ (same_new s (s.free hT)) fun H'' s2 => ?_
    have hD2 : H'' D = some (.lst (((kvs.take n).map f).map V.bl)) := s2 _ _ (by rw [upd_ne hDT]; exact hDn)
    refine ⟨_, hD2, ?_, same_new (Same.trans (same_new s (s.free hT)) s2) hD, ?_⟩
    · rw [List.length_map, List.length_map, List.length_take]
      exact Nat.lt_of_lt_of_le (show min n kvs.length < 16777216 by omega) (by decide)
    · rw [upd_same]
      have et : kvs.take (n + 1) = kvs.take n ++ [q] := by
        rw [List.take_succ, e]
        rfl
      rw [et, List.map_append, List.map_append]
      rfl
/-- [f(x) for x in xs], f a truth; new objects may be made -/
theorem lc_listB {K : PySem.W.Frag} {a : Addr} {xs : List V} {j : Nat} {te : TE} {σ : L2.St} {H1 : Hp} {D : Addr} {Qd : Hp → Prop} (f : V → Bool) (hS : SqL K H1 a xs) (hD : H1 D = none) (hx : xs.length < 16777216)
    (he : ∀ x ∈ xs, ∀ (H' : Hp) (Q' : VK), Same H1 H' → (∀ H'', Same H' H'' → Q' (.bl (f x)) H'') → te ((wipe σ [j]).set j (some x)) H' Q') (hd : ∀ H', Same H1 H' → H' D = some (.lst ((xs.map f).map V.bl)) → Qd H') :
    LcG (Itl K a) (gName j) tYes te [j] σ H1 D Qd := by
  refine lc_it walk_list (fun n H => Same H1 H ∧ H D = some (.lst (((xs.take n).map f).map V.bl))) ⟨same_new (Same.refl _) hD, upd_same⟩ (fun n H _ h => Same.seq h.1 hS) ?_ (fun H h => hd H h.1 (by rw [h.2, List.take_length]))
  rintro n x H H' hn ⟨s, hDn⟩ ⟨rfl, e⟩
  refine ⟨wipe_set1 _ _ _, ?_⟩
  refine he x (List.mem_of_getElem? e) _ _ s fun H'' s2 => ⟨_, s2 _ _ hDn, ?_, same_new (Same.trans s s2) hD, ?_⟩
  · rw [List.length_map, List.length_map, List.length_take]
    exact Nat.lt_of_lt_of_le (show min n xs.length < 16777216 by omega) (by decide)
  · rw [upd_same]
    have et : xs.take (n + 1) = xs.take n ++ [x] := by
      rw [List.take_succ, e]
      rfl
    rw [et, List.map_append, List.map_append]
    rfl
theorem lc_tupB {K : PySem.W.Frag} {a : Addr} {xs : List V} {j : Nat} {te : TE} {σ : L2.St} {H1 : Hp} {D : Addr} {Qd : Hp → Prop} (f : V → Bool) (hS : SqT K H1 a xs) (hD : H1 D = none) (hx : xs.length < 16777216)
    (he : ∀ x ∈ xs, ∀ (H' : Hp) (Q' : VK), Same H1 H' → (∀ H'', Same H' H'' → Q' (.bl (f x)) H'') → te ((wipe σ [j]).set j (some x)) H' Q') (hd : ∀ H', Same H1 H' → H' D = some (.lst ((xs.map f).map V.bl)) → Qd H') :
    LcG (Itt K a) (gName j) tYes te [j] σ H1 D Qd := by
  refine lc_it walk_tup (fun n H => Same H1 H ∧ H D = some (.lst (((xs.take n).map f).map V.bl))) ⟨same_new (Same.refl _) hD, upd_same⟩ (fun n H _ h => same_seqT h.1 hS) ?_ (fun H h => hd H h.1 (by rw [h.2, List.take_length]))
  rintro n x H H' hn ⟨s, hDn⟩ ⟨rfl, e⟩
  refine ⟨wipe_set1 _ _ _, ?_⟩
  refine he x (List.mem_of_getElem? e) _ _ s fun H'' s2 => ⟨_, s2 _ _ hDn, ?_, same_new (Same.trans s s2) hD, ?_⟩
  · rw [List.length_map, List.length_map, List.length_take]
    exact Nat.lt_of_lt_of_le (show min n xs.length < 16777216 by omega) (by decide)
  · rw [upd_same]
    have et : xs.take (n + 1) = xs.take n ++ [x] := by
      rw [List.take_succ, e]
      rfl
    rw [et, List.map_append, List.map_append]
    rfl
end KC
namespace KC
open PySem PySem.Spec PyProof.Rows L2
/-! ### list(d.values()) -/
theorem vals_at : ∀ {us : List Value} {vs : List (Key × Value)}, us.length = vs.length → (∀ (j : Nat) (v : Value), us[j]? = some v → ∃ k : Key, vs[j]? = some (k, v)) → us = vs.map (·.2)
  | [], [], _, _ => rfl
  | u :: us, q :: vs, hl, h => by
    obtain ⟨k, e⟩ := h 0 u rfl
    simp only [List.getElem?_cons_zero, Option.some.injEq] at e
    subst e
    rw [List.map_cons, ← vals_at (us := us) (vs := vs) (by simpa using hl) fun j v hv => by simpa using h (j + 1) v (by simpa using hv)]
  | [], _ :: _, hl, _ => by simp at hl
  | _ :: _, [], hl, _ => by simp at hl
theorem kv_vals : ∀ {kvs : List (Key × V)} {vs : List (Key × Value)}, KV kvs vs → Vals (kvs.map (·.2)) (vs.map (·.2))
  | _, _, .nil => .nil
  | _, _, .cons h t => .cons h.2 (kv_vals t)
def tListVals (te : TE) : TE := fun σ H Q => te σ H fun x H1 => ∃ (d : Addr) (kvs : List (Key × V)), x = .ref d ∧ Rd H1 d (.dK kvs) ∧ ∀ p, H1 p = none → Q (.ref p) (L2.upd H1 p (.lst (kvs.map (·.2))))
section
variable {X : Cx} {e : Expr} {te : TE} {p apos cpos pos : Pos}
theorem pe_listVals (hc : X.calm = true) (he : PE X e te) (hg : Gl X "list") (hm : X.mg "list" = none) (hv : bootBuiltins "list" = some (.type "list")) (hbase : attributeBase e "values" X.env (eval e X.env) = eval e X.env := by rfl) (hline : (apos.endLine == cpos.line) = true := by rfl)
    (hs : starEach [.Call (.Attribute e "values" apos) [] [] cpos] X.env = (false, eval (.Call (.Attribute e "values" apos) [] [] cpos) X.env) :: starEach [] X.env := by rfl) :
    PE X (.Call (.Name "list" p) [.Call (.Attribute e "values" apos) [] [] cpos] [] pos) (tListVals te) := by
  refine ⟨fun pins s σ H Q I hq => ?_⟩
  refine wpAny_Call_Name_kw (ld_blt I hg hm hv ?_)
  refine PyProof.Rows.callWith_type1 ?_ hs rfl
  rw [hs]
  show wpAny _ _ (spliced ((false, eval (.Call (.Attribute e "values" apos) [] [] cpos) X.env) :: backTo pos (starEach [] X.env))) _ _ s
  refine Calls.spliced_cons ?_
  refine wpAny_Call_method (T := "dict") (id := "dict.values") hbase rfl hline F.plainAttrs_dict F.slot_dict_values F.type_dict_values (thn (he.run pins s σ H _ I hq) fun u s1 ⟨x, H1, I1, rx, d, kvs, ex, hd, q⟩ => ?_)
  subst ex
  obtain rfl : u = Value.ref d := rx
  obtain ⟨hz, hs0, vs, kv, hdo⟩ := dk_rd I1.hok hd
  obtain ⟨ep, hat⟩ := hdo.dictAt
  have lk : kvs.length = vs.length := Paired.length kv
  have I2 : Inv X pins σ H1 { s1 with heap := s1.heap.push { cls := .type "dict_values", data := .fields #[.ref d] } } := I1.kept (t' := s1.toks) fun b ob q => Heap.get?_push_of_some _ q
  refine ⟨hdo.typeIs, hdo.mapOf.noDict, ?_⟩
  show wpAny _ _ (callWith cpos (.builtin "dict.values") [.ref d] [] []) _ X.xe s1
  refine method_meetsIn F.slot_dict_values F.entry_dict_values rfl (PySem.evalArgs_none ⟨rfl, hdo.typeIs, F.args_dict_values_1 _, _, meets_dict_values (mixKind X.prog X.w) d hs0, ⟨vs, hdo⟩, ?_⟩)
  refine Calls.spliced_nil ?_
  refine PySem.W.kdl_call (PySem.W.kdl_values (knd := mixKind X.prog X.w) (kvs := vs) (ep := ep)) (I1.ok.hd hc) ⟨⟨_, Heap.get?_push_size _ rfl, rfl, rfl⟩, hat.push _⟩ (by omega) fun h' tk acc c' hk hS hacc => ?_
  have ev : acc.toList = vs.map (·.2) := vals_at (by rw [Array.length_toList]; exact hacc.1) fun j v e => hacc.2 j v (by rw [← Array.getElem?_toList]; exact e)
  refine ⟨.ref _, L2.upd H1 _ (.lst (kvs.map (·.2))), I2.laid (t' := tk) hk (Nat.le_refl _) ?_, rfl, q _ (I2.hok.fresh (Nat.le_refl _))⟩
  exact ⟨by rw [List.length_map]; omega, acc.toList, c', by rw [ev]; exact kv_vals kv, by rw [Array.toArray_toList]; exact hS⟩
end
/-! ### repr -/
def flatD : V → PyData
  | .bl b => .bool b
  | .int i => .int i
  | .str x => .str x
  | _ => .none
def flatOk : V → Bool
  | .non => true
  | .bl _ => true
  | .int _ => true
  | .str _ => true
  | _ => false
theorem flat_reads {h : Heap} {v : V} {u : Value} (hf : flatOk v = true) (r : RelV v u) : Reads h u (flatD v) [] := by
  cases v with
  | non => cases r; exact .none
  | bl b => cases r; exact .bool b
  | int i => obtain ⟨t, rfl⟩ := r; exact .int i t
  | str x => obtain ⟨t, rfl⟩ := r; exact .str x t
  | byt b => cases hf
  | flt b => cases hf
  | ref a => cases hf
  | ty n => cases hf
/-- data that is shown: data without dicts, or a dict of flat things -/
def DpS (K : PySem.W.Frag) (H : Hp) (x : V) (d : PyData) : Prop :=
  Dp K H x d ∨ ∃ (a : Addr) (kvs : List (Key × V)), x = .ref a ∧ Rd H a (.dK kvs) ∧ (∀ q ∈ kvs, flatOk q.2 = true) ∧ d = .dict (kvs.map fun q => (flatD (kV q.1), flatD q.2))
theorem readsAll_flat {h : Heap} : ∀ {kvs : List (Key × V)} {vs : List (Key × Value)}, KV kvs vs → (∀ q ∈ kvs, flatOk q.2 = true) → ReadsAll h (vs.map (·.2)) (kvs.map fun q => flatD q.2) []
  | _, _, .nil, _ => .nil
  | _, _, .cons r t, hf => by
    have h1 := flat_reads (h := h) (hf _ (List.mem_cons_self ..)) r.2
    have h2 := readsAll_flat (h := h) t fun q hq => hf q (List.mem_cons_of_mem _ hq)
    exact .cons h1 h2
theorem flat_key (k : Key) : flatOk (kV k) = true := by cases k <;> rfl
theorem keys_reads {h : Heap} : ∀ {kvs : List (Key × V)} {us : List Value}, Vals (kvs.map fun q => kV q.1) us → ReadsAll h us (kvs.map fun q => flatD (kV q.1)) []
  | [], _, r => by cases r; exact .nil
  | q :: t, _, r => by
    cases r with
    | cons r1 r2 => exact .cons (flat_reads (flat_key _) r1) (keys_reads r2)
def rRepr (K : PySem.W.Frag) : List V → Hp → VK → Prop := fun vs H Q => ∃ (x : V) (d : PyData), vs = [x] ∧ DpS K H x d ∧ d.showable = true ∧ d.depth ≤ 8 ∧ d.shown.length ≤ sizeLine ∧ Q (.str d.shown) H
theorem paired_keys {P : Program} {w : World} : ∀ {es : List DictEntry} {kvs : List (Key × V)} {vs : List (Key × Value)}, KV kvs vs → Pairs (mixKind P w) es vs → Vals (kvs.map fun q => kV q.1) (es.map (·.key)) ∧ es.map (·.val) = vs.map (·.2)
  | _, _, _, .nil, .nil => ⟨.nil, rfl⟩
  | _, _, _, .cons r t, .cons h1 h2 h3 => by
    obtain ⟨a, b⟩ := paired_keys t h3
    refine ⟨.cons ?_ a, by rw [List.map_cons, List.map_cons, h2, b]⟩
    have e : keyIs _ _ = true := h1
    rw [← r.1] at e
    rcases keyIs_shape e with ⟨i, t, ek, ev⟩ | ⟨z, t, ek, ev⟩
    · show L2.RelV (kV _) (DictEntry.key _)
      rw [ek, ev]
      exact ⟨t, rfl⟩
    · show L2.RelV (kV _) (DictEntry.key _)
      rw [ek, ev]
      exact ⟨t, rfl⟩
mutual
theorem dp_nodict {K : PySem.W.Frag} {H : Hp} : ∀ (d : PyData) (v : V), Dp K H v d → d.hasDict = false
  | .none, _, _ => rfl
  | .bool _, _, _ => rfl
  | .int _, _, _ => rfl
  | .str _, _, _ => rfl
  | .list ds, _, h => by cases h with | lst _ ha => exact dpAll_nodict ds _ ha
  | .tuple ds, _, h => by cases h with | tup _ ha => exact dpAll_nodict ds _ ha
  | .dict _, _, h => by cases h
theorem dpAll_nodict {K : PySem.W.Frag} {H : Hp} : ∀ (ds : List PyData) (vs : List V), DpAll K H vs ds → PyData.hasDictAll ds = false
  | [], _, _ => rfl
  | d :: ds, _, h => by
    cases h with
    | cons h1 h2 =>
      show (d.hasDict || PyData.hasDictAll ds) = false
      rw [dp_nodict d _ h1, dpAll_nodict ds _ h2]
      rfl
end
theorem call_reprG {X : Cx} {k : Nat} (hr : RoomG k X.A) : CallR X (.builtin "repr") (rRepr X.K) := by
  intro pins s σ H xs us Q I r h
  obtain ⟨x, d, rfl, hd, hs, hdep, hz, q⟩ := h
  obtain ⟨u, rfl, ru⟩ := vals1 r
  have hu : X.A.units + (d.depth + 1) < cLine := by have := hr.toRoom.units; omega
  have go : ∀ {a : Addr} {as : List Addr}, Reads s.heap (.ref a) d as → (d.hasDict = true → sysModules ∉ as) → wpAny (model X.prog X.w) X.A (call (.builtin "repr") [.ref a]) (EP X pins σ Q) X.xe s := fun ra hsm =>
    repr_of_reads' ra hs hsm hr.gd hu (fun _ _ e => e) (fun h' u tk hk => ⟨.str d.shown, H, I.kept (t' := tk) hk, ⟨_, rfl⟩, q⟩) hz
  rcases hd with hd | ⟨a, kvs, rfl, ha, hf, rfl⟩
  · cases hd with
    | non => cases ru; exact PySem.P.repr_of_none ⟨.str _, H, I.tok _, ⟨_, rfl⟩, q⟩
    | bl b => cases ru; exact PySem.P.repr_of_bool ⟨.str _, H, I.tok _, ⟨_, rfl⟩, q⟩
    | int i => obtain ⟨t, rfl⟩ := ru; exact PySem.P.repr_of_int (of_decide_eq_true hs) ⟨.str _, H, I.tok _, ⟨_, rfl⟩, q⟩
    | str z => obtain ⟨t, rfl⟩ := ru; exact PySem.P.repr_of_str ⟨.str _, H, I.tok _, ⟨_, rfl⟩, q⟩ hz
    | lst h1 h2 =>
      cases ru
      obtain ⟨as, ra⟩ := Dp.reads I _ _ _ (.lst h1 h2) rfl
      exact go ra (PyData.noDict_hsm (dp_nodict _ _ (.lst h1 h2)))
    | tup h1 h2 =>
      cases ru
      obtain ⟨as, ra⟩ := Dp.reads I _ _ _ (.tup h1 h2) rfl
      exact go ra (PyData.noDict_hsm (dp_nodict _ _ (.tup h1 h2)))
  · cases ru
    obtain ⟨z, lo, vs, rel, o, es, ep, ho, hex, hda, hks, hps, hnd⟩ := dk_rd I.hok ha
    obtain ⟨hk1, hk2⟩ := paired_keys rel hps
    have r1 := keys_reads (h := s.heap) hk1
    have r2 := readsAll_flat (h := s.heap) rel hf
    rw [← hk2] at r2
    have ra : Reads s.heap (.ref a) (.dict (kvs.map fun q => (flatD (kV q.1), flatD q.2))) (a :: [] ++ []) := by
      refine Reads.dict ho hex.1 hda ?_ ?_
      · rw [List.map_map]; exact r1
      · rw [List.map_map]; exact r2
    refine go ra fun _ hm => ?_
    have e : sysModules = a := by simpa using hm
    rw [← e] at lo
    simp at lo
/-! ### sorted of a list or tuple of texts -/
def rSortedQ (K : PySem.W.Frag) : List V → Hp → VK → Prop := fun vs H Q => ∃ (a : Addr) (xs : List Str), vs = [V.ref a] ∧ (SqL K H a (xs.map V.str) ∨ SqT K H a (xs.map V.str)) ∧ xs.length < 64 ∧
  ∀ (ys : List Str) (p : Addr), ys.Perm xs → sortedS ys = true → H p = none → Q (.ref p) (L2.upd H p (.lst (ys.map V.str)))
theorem cr_sortedQ {X : Cx} : CallR X (.builtin "sorted") (rSortedQ X.K) := by
  intro pins s σ H vs us Q I r h
  obtain ⟨a, xs, rfl, hs, h64, q⟩ := h
  rcases hs with hs | hs
  · exact cr_sortedS pins s σ H _ us Q I r ⟨a, xs, rfl, hs, h64, q⟩
  obtain ⟨its, rv, ⟨o, ho, hc, n, hd⟩, hz⟩ := I.tuple hs
  rw [Vals.ref1 r]
  have hS := rv.strs
  have hal : its.length = xs.length := by rw [← rv.length, List.length_map]
  refine Calls.call_function_entry PyProof.Rows.kind_sorted PyProof.Rows.plain_sorted PyProof.Rows.entry_sorted (PyProof.Rows.args_sorted1 _) ?_
  unfold Builtin.«sorted»
  refine wpAny_bind (m := checkCount "sorted" 1 1 _) (wpAny_pure ?_)
  refine wpAny_bind (wpAny_collect_seq (A := X.A.in1) a (.inr rfl) ho hc hd (fun h' hk => ?_) (by rw [List.size_toArray, hal]; exact sz_rfl (Nat.ble_eq_true_of_le (by omega))))
  have I1 : Inv X pins σ H { s with heap := h' } := I.kept (t' := s.toks) hk
  refine wpAny_bind (wpAny_newList ?_ (by rw [List.toList_toArray, hal, sizeLine_eq]; omega))
  have hoL : (h'.push (seqObj "list" its.toArray.toList.toArray 0)).get? h'.objs.size = some (seqObj "list" its.toArray.toList.toArray 0) := Heap.get?_push_size _ rfl
  have hS' : StrsAre its.toArray.toList xs := by rw [List.toList_toArray]; exact hS
  show wpAny _ _ _ _ _ { s with heap := h'.push (seqObj "list" its.toArray.toList.toArray 0) }
  refine wpAny_bind (wpAny_holding (wpAny_call_entry PyProof.Rows.slot_list_sort ⟨_, hoL, rfl⟩ PyProof.Rows.entry_list_sort
    (list_sort_treeK strKind_oneLt (s := { s with heap := h'.push (seqObj "list" its.toArray.toList.toArray 0) }) hoL hS'.keysOf (fun v₁ v₂ rest e => keyKind_strs (by rw [← e]; exact hS')) (by rw [List.toList_toArray, hal]; exact h64) fun st' hp hs => ⟨_, rfl, ?_⟩)
    (PyProof.Rows.args_list_sort _)))
  obtain ⟨ys, g1, g2, g3⟩ := sorted_out_str hS' hp hs
  obtain ⟨e', he'⟩ := PyProof.Rows.sortedHeap_at (vs := its.toArray.toList) (out := (arrOf st').map (·.2)) hoL
  have hlen : (ys.map V.str).length ≤ sizeLine := by
    rw [List.length_map, g2.length_eq]
    exact Nat.le_trans (Nat.le_of_lt h64) (by decide)
  refine wpAny_pure ⟨_, rfl, .ref h'.objs.size, L2.upd H h'.objs.size (.lst (ys.map V.str)), I1.laid (t' := s.toks) (fun b u e => ?_) (Nat.le_refl _)
    (show ObjOk X.prog X.w _ _ _ (.lst (ys.map V.str)) from ⟨hlen, ((arrOf st').map (·.2)).toList, e', vals_of_strs g1, by rw [Array.toArray_toList]; exact he'⟩), rfl, q ys _ g2 g3 (I1.hok.fresh (Nat.le_refl _))⟩
  have hb : b < h'.objs.size := Heap.lt_size e
  rw [PyProof.Rows.sortedHeap_old (Nat.ne_of_lt hb) (by rw [size_push']; exact Nat.lt_succ_of_lt hb)]
  exact Heap.get?_push_of_some _ e
end KC
namespace KC
open PySem PySem.Spec PyProof.Rows L2
/-! ### prefixes -/
theorem tl_cut (x : Str) (i : Nat) : TL.tl (cutS x none (some (i : Int))) = (TL.tl x).take i := by
  show (List.toArray _).toList = _
  rw [HT.sIx_none, HT.sIx_nat, Nat.sub_zero, List.drop_zero, TL.len_tl]
  show List.take (min i (TL.tl x).length) (TL.tl x) = List.take i (TL.tl x)
  rw [List.take_eq_take_iff]
  omega
theorem tl_cut_from (x : Str) (i : Nat) : TL.tl (cutS x (some (i : Int)) none) = (TL.tl x).drop i := by
  show (List.toArray _).toList = _
  rw [HT.sIx_none, HT.sIx_nat, TL.len_tl]
  show ((TL.tl x).drop (min i (TL.tl x).length)).take ((TL.tl x).length - min i (TL.tl x).length) = (TL.tl x).drop i
  rw [List.take_of_length_le (by rw [List.length_drop]; omega)]
  by_cases h : i ≤ (TL.tl x).length
  · rw [Nat.min_eq_left h]
  · rw [Nat.min_eq_right (by omega), List.drop_eq_nil_of_le (Nat.le_refl _), List.drop_eq_nil_of_le (by omega)]
/-- the proper prefixes, from the empty one on -/
def anc (x : Str) : List Str := (List.range x.length).map fun (i : Nat) => cutS x none (some (i : Int))
theorem anc_len (x : Str) : (anc x).length = x.length := by unfold anc; rw [List.length_map, List.length_range]
theorem mem_anc {x y : Str} : x ∈ anc y ↔ TL.tl x <+: TL.tl y ∧ x.length < y.length := by
  unfold anc
  rw [List.mem_map]
  constructor
  · rintro ⟨i, hi, rfl⟩
    rw [List.mem_range] at hi
    rw [TL.len_tl, tl_cut]
    refine ⟨List.take_prefix _ _, ?_⟩
    rw [List.length_take, TL.len_tl y] at *
    omega
  · rintro ⟨h, hl⟩
    refine ⟨x.length, List.mem_range.mpr hl, TL.ext_tl ?_⟩
    rw [tl_cut, TL.len_tl x]
    exact (List.prefix_iff_eq_take.mp h).symm
/-- one is a prefix of the other, or they are equal -/
def cmpS (x y : Str) : Bool := (TL.tl x).isPrefixOf (TL.tl y) || (TL.tl y).isPrefixOf (TL.tl x)
theorem cmpS_iff {x y : Str} : cmpS x y = true ↔ TL.tl x <+: TL.tl y ∨ TL.tl y <+: TL.tl x := by
  unfold cmpS
  rw [Bool.or_eq_true, List.isPrefixOf_iff_prefix, List.isPrefixOf_iff_prefix]
theorem cmpS_symm (x y : Str) : cmpS x y = cmpS y x := by unfold cmpS; rw [Bool.or_comm]
theorem cmpS_split {x y : Str} : cmpS x y = true ↔ x = y ∨ x ∈ anc y ∨ y ∈ anc x := by
  rw [cmpS_iff, mem_anc, mem_anc]
  constructor
  · rintro (h | h)
    · by_cases e : x.length < y.length
      · exact .inr (.inl ⟨h, e⟩)
      · refine .inl (TL.ext_tl (h.eq_of_length ?_))
        have := h.length_le
        rw [TL.len_tl, TL.len_tl] at e
        omega
    · by_cases e : y.length < x.length
      · exact .inr (.inr ⟨h, e⟩)
      · refine .inl (TL.ext_tl (h.eq_of_length ?_).symm)
        have := h.length_le
        rw [TL.len_tl, TL.len_tl] at e
        omega
  · rintro (rfl | h | h)
    · exact .inl (List.prefix_refl _)
    · exact .inl h.1
    · exact .inr h.1
/-- the index of the first that clashes with an earlier one -/
def clashGo (pre : List Str) : List Str → Nat → Option Nat
  | [], _ => none
  | x :: r, i => if pre.any (cmpS x) = true then some i else clashGo (pre ++ [x]) r (i + 1)
theorem clashGo_step {pre r : List Str} {x : Str} {i : Nat} (h : pre.any (cmpS x) = false) : clashGo pre (x :: r) i = clashGo (pre ++ [x]) r (i + 1) := by
  show (if pre.any (cmpS x) = true then some i else clashGo (pre ++ [x]) r (i + 1)) = _
  rw [h]
  rfl
theorem clashGo_hit {pre r : List Str} {x : Str} {i : Nat} (h : pre.any (cmpS x) = true) : clashGo pre (x :: r) i = some i := by
  show (if pre.any (cmpS x) = true then some i else clashGo (pre ++ [x]) r (i + 1)) = _
  rw [h]
  rfl
def clashAt (ns : List Str) : Option Nat := clashGo [] ns 0
def clashV (ns : List Str) : V := match clashAt ns with
  | none => .non
  | some i => .int (i : Nat)
/-- no two of them clash -/
def PF (ns : List Str) : Prop := ns.Pairwise fun x y => cmpS x y = false
theorem clashGo_none : ∀ (r pre : List Str) (i : Nat), PF pre → (clashGo pre r i = none ↔ PF (pre ++ r))
  | [], pre, i, h => by
    rw [List.append_nil]
    exact ⟨fun _ => h, fun _ => rfl⟩
  | x :: r, pre, i, h => by
    unfold clashGo
    by_cases c : pre.any (cmpS x) = true
    · rw [if_pos c]
      refine ⟨fun e => (by cases e), fun e => ?_⟩
      obtain ⟨y, hy, hc⟩ := List.any_eq_true.mp c
      have := (List.pairwise_append.mp e).2.2 y hy x (List.mem_cons_self ..)
      rw [cmpS_symm, hc] at this
      cases this
    · rw [if_neg c]
      have hx : PF (pre ++ [x]) := by
        refine List.pairwise_append.mpr ⟨h, List.pairwise_singleton .., fun y hy z hz => ?_⟩
        rw [List.mem_singleton] at hz
        subst hz
        rw [cmpS_symm]
        cases q : cmpS z y with
        | false => rfl
        | true => exact absurd (List.any_eq_true.mpr ⟨y, hy, q⟩) c
      rw [clashGo_none r (pre ++ [x]) (i + 1) hx, List.append_assoc]
      rfl
theorem clashAt_none (ns : List Str) : clashAt ns = none ↔ PF ns := by
  have := clashGo_none ns [] 0 List.Pairwise.nil
  rw [List.nil_append] at this
  exact this
theorem take_snoc {α : Type} {l : List α} {i : Nat} {x : α} (h : l[i]? = some x) : l.take (i + 1) = l.take i ++ [x] := by
  rw [List.take_succ, h]
  rfl
theorem drop_at {α : Type} {l : List α} {i : Nat} {x : α} (h : l[i]? = some x) : l.drop i = x :: l.drop (i + 1) := by
  obtain ⟨h1, h2⟩ := List.getElem?_eq_some_iff.mp h
  rw [← h2]
  exact List.drop_eq_getElem_cons h1
theorem getMap {α β : Type} {f : α → β} {l : List α} {i : Nat} {y : β} (h : (l.map f)[i]? = some y) : ∃ x, l[i]? = some x ∧ y = f x := by
  rw [List.getElem?_map] at h
  cases e : l[i]? with
  | none => rw [e] at h; cases h
  | some x => rw [e] at h; exact ⟨x, rfl, (Option.some.inj h).symm⟩
/-- a value whose type is known -/
def Known (K : PySem.W.Frag) (H : Hp) (v : V) : Prop :=
  v = .non ∨ (∃ b, v = .bl b) ∨ (∃ i, v = .int i) ∨ (∃ x, v = .str x) ∨ ∃ (a : Addr) (t : String), v = .ref a ∧ TyX K H v (.type t) ∧ (t = "list" ∨ t = "tuple" ∨ t = "dict")
theorem Known.same {K : PySem.W.Frag} {H H' : Hp} {v : V} (s : Same H H') (h : Known K H v) : Known K H' v := by
  rcases h with h | h | h | h | ⟨a, t, e, ht, h3⟩
  · exact .inl h
  · exact .inr (.inl h)
  · exact .inr (.inr (.inl h))
  · exact .inr (.inr (.inr (.inl h)))
  · exact .inr (.inr (.inr (.inr ⟨a, t, e, TyX.same s ht, h3⟩)))
theorem Known.kind {K : PySem.W.Frag} {H : Hp} {v : V} (h : Known K H v) : (∃ x : Str, v = .str x) ∨ ((∀ x : Str, v ≠ .str x) ∧ NotStr K H v) := by
  rcases h with rfl | ⟨b, rfl⟩ | ⟨i, rfl⟩ | ⟨x, rfl⟩ | ⟨a, t, rfl, ht, h3⟩
  · exact .inr ⟨by simp, "NoneType", .base .non, by decide +kernel⟩
  · exact .inr ⟨by simp, "bool", .base (.bl _), by decide +kernel⟩
  · exact .inr ⟨by simp, "int", .base (.int _), by decide +kernel⟩
  · exact .inl ⟨x, rfl⟩
  · refine .inr ⟨by simp, t, ht, ?_⟩
    rcases h3 with rfl | rfl | rfl <;> decide +kernel
theorem sw_eq (x y : Str) : Txt.startswith x y = (TL.tl y).isPrefixOf (TL.tl x) := by
  show (decide (0 + y.length ≤ x.length) && Builtin.Str.subAt x y 0) = _
  rw [StrLaws.subAt_eq, List.drop_zero, Bool.eq_iff_iff, Bool.and_eq_true, decide_eq_true_eq, beq_iff_eq, List.isPrefixOf_iff_prefix]
  constructor
  · rintro ⟨_, h⟩
    rw [List.prefix_iff_eq_take, ← TL.len_tl]
    exact h.symm
  · intro h
    have hl := h.length_le
    rw [← TL.len_tl, ← TL.len_tl] at hl
    refine ⟨by omega, ?_⟩
    rw [List.prefix_iff_eq_take, ← TL.len_tl] at h
    exact h.symm
theorem sw_cmp (x y : Str) : (Txt.startswith x y || Txt.startswith y x) = cmpS x y := by
  rw [sw_eq, sw_eq]
  unfold cmpS
  rw [Bool.or_comm]
/-- the sign of a digit -/
theorem digit_str {d : Int} (h0 : 0 ≤ d) (h4 : d < 10) : TL.tl (Str.ofString (toString d)) = [48 + d.toNat] := by
  have h : d = 0 ∨ d = 1 ∨ d = 2 ∨ d = 3 ∨ d = 4 ∨ d = 5 ∨ d = 6 ∨ d = 7 ∨ d = 8 ∨ d = 9 := by omega
  rcases h with rfl | rfl | rfl | rfl | rfl | rfl | rfl | rfl | rfl | rfl <;> decide +kernel
theorem strOk_small {x : Str} (h : ∀ c ∈ TL.tl x, c < 1000) : PyData.strOk x = true := by
  unfold PyData.strOk
  rw [Array.all_eq_true]
  intro i hi
  have hm : x.cps[i] ∈ TL.tl x := Array.mem_toList_iff.mpr (Array.getElem_mem hi)
  have := h _ hm
  exact decide_eq_true (by omega)
theorem log_small {d : Int} (h0 : 0 ≤ d) (h4 : d < 10) : d.natAbs.log2 < 1920 := by
  have h : d = 0 ∨ d = 1 ∨ d = 2 ∨ d = 3 ∨ d = 4 ∨ d = 5 ∨ d = 6 ∨ d = 7 ∨ d = 8 ∨ d = 9 := by omega
  rcases h with rfl | rfl | rfl | rfl | rfl | rfl | rfl | rfl | rfl | rfl <;> decide +kernel
theorem digit_len {d : Int} (h0 : 0 ≤ d) (h4 : d < 10) : (Str.ofString (toString d)).length = 1 := by
  rw [TL.len_tl, digit_str h0 h4]
  rfl
theorem tl_empty : TL.tl ("" : Str) = [] := by decide +kernel
theorem inV_strs (t : Str) (fs : List Str) : inV (.str t) (fs.map V.str) = decide (t ∈ fs) := by
  unfold inV
  rw [List.any_map, Bool.eq_iff_iff, List.any_eq_true, decide_eq_true_eq]
  constructor
  · rintro ⟨y, hy, e⟩
    have e' : (y == t) = true := e
    rw [beq_iff_eq.mp e'] at hy
    exact hy
  · intro h
    exact ⟨t, h, by show (t == t) = true; simp⟩
theorem flat_strs (fs : List Str) : (fs.map V.str).all flatV = true := by
  rw [List.all_map, List.all_eq_true]
  intro x _
  rfl
theorem atI_last {α : Type} (xs : List α) (x : α) : atI (xs ++ [x]) (-1) = some x := by
  unfold atI ixN
  rw [if_neg (by decide), if_pos (by rw [List.length_append, List.length_singleton]; omega)]
  have e : (-1 + ((xs ++ [x]).length : Int)).toNat = xs.length := by rw [List.length_append, List.length_singleton]; omega
  rw [e]
  show (xs ++ [x])[xs.length]? = some x
  simp
theorem snoc_of {α : Type} {xs : List α} (h : xs ≠ []) : ∃ ys y, xs = ys ++ [y] := ⟨xs.dropLast, xs.getLast h, (List.dropLast_concat_getLast h).symm⟩
end KC
namespace KC
open PySem PySem.Spec PyProof.Rows L2
/-! ### own classes: ==, !=, len -/
theorem in1_guards {A : Around} : A.in1.guards = A.guards := by
  first
    | rfl
    | simp [Around.in1]
theorem RoomG.in1 {k : Nat} {A : Around} (r : RoomG (k + 1) A) : RoomG k A.in1 := ⟨r.toRoom.in1, by rw [in1_guards]; exact r.gd⟩
section
variable {X : Cx} {CX : CXT} {k j : Nat} {f C : Addr} {fd : FuncData} {ps : List Str} {sp : Sp} {dvs : List V} {ds : List Value} {E : L2.St → XK} {A : Around}
theorem run_fnGA {pins : List (Addr × Obj)} {σ : L2.St} {H : Hp} {s : Shared} {Q : VK} {us : List Value} {vs : List V} (F : FnG X.prog X.w X.K X.mg X.base CX k f fd ps sp) (hfr : A.frames = X.A.frames) (hr : RoomG k A) (hb : Binds X.K fd ps ds) (hd : Vals dvs ds) (hx : PassesAt CX X σ (E σ))
    (I : Inv X pins σ H s) (r : Vals vs us) (h : sp (vs ++ dvs) H Q (E σ)) : wpAny (model X.prog X.w) A (call (.ref f) us) (EP X pins σ Q) X.xe s := by
  have r2 : Vals (vs ++ dvs) (us ++ ds) := r.append hd
  have hl : (us ++ ds).length = ps.length := by rw [← r2.length]; exact F.len _ _ _ _ h
  have e0 : Env0 X.prog X.w X.K X.mg X.base A X.stack s H := by
    have e := I.env0
    exact ⟨by rw [hfr]; exact e.frames, e.mod, e.bs, e.bsz, e.funs, e.frf, e.hok, e.bare⟩
  refine wpAny_call (codeAny_mono (F.run A X.stack s H ⟨us, []⟩ (us ++ ds) (vs ++ dvs) Q (E σ) hr e0 (hb s us I.kIn hl) r2 h) fun r s' hq => ?_)
  cases r with
  | error e => exact hx pins H s e s' I hq
  | ok fl =>
    cases fl with
    | ret u => exact I.after hq
    | next => exact False.elim hq
    | brk => exact False.elim hq
    | cont => exact False.elim hq
theorem ty_looks {pins : List (Addr × Obj)} {σ : L2.St} {H : Hp} {s : Shared} {x : V} {u t : Value} (I : Inv X pins σ H s) (rx : RelV x u) (ty : TyX X.K H x t) : PySem.W.Looks (model X.prog X.w) s.heap (typeOf u) t := by
  obtain ⟨P, kx, hp, _⟩ := kit_of I rx ty
  exact kx.ty _ _ I.kIn hp
/-- the object a of the class C against y by the class' own == -/
def rOwnEq (K : PySem.W.Frag) (C : Addr) (sp : Sp) (neg : Bool) : R2 := fun x y H Q => ∃ (a dx : Addr) (fs : List (Str × V)) (t : Value), x = .ref a ∧ H a = some (.ins C dx fs) ∧ TyX K H y t ∧ PySem.W.notFirst K C t = true ∧
  sp [x, y] H (fun v H' => ∃ b : Bool, v = .bl b ∧ Q (.bl (if neg = true then !b else b)) H') E0
theorem op_ownEq (c : MetG X.prog X.w X.K X.mg X.base CX0 k C "__eq__" sp []) (hr : RoomG j X.A) (hk : k ≤ j) : OpR X (compareOp .Eq) (rOwnEq X.K C sp false) := by
  obtain ⟨f, fd, ps, ds, cl, hm, F, b, d⟩ := c.ex
  intro pins s σ H x y v u Q I rx ry hq
  obtain ⟨a, dx, fs, t, rfl, ha, ty, nf, q⟩ := hq
  obtain rfl : v = Value.ref a := rx
  obtain ⟨mA, J, _⟩ := ins_get I.hok ha
  obtain ⟨od, J, _⟩ := J.look
  obtain ⟨m, hF⟩ := I.fr
  cases d
  show wpAny (model X.prog X.w) X.A (richCompare .Eq (.ref a) u) (EP X pins σ Q) X.xe s
  refine PySem.W.cmp_K (op := .Eq) (tb := t) (hr.toRoom.mono (Nat.zero_le _)).units0 hF I.ok.mod.kin J (ty_looks I ry ty) nf hm.at_ hm.fn ?_
  refine wpAny_mono (run_fnGA (us := [.ref a, u]) (vs := [.ref a, y]) F rfl (hr.mono hk) b .nil (pass00 σ) I (.cons rfl (.cons ry .nil)) q) (fun r s' h => ?_) fun _ _ z => z
  obtain ⟨z, H', I', rz, b', ez, q'⟩ := h
  subst ez
  cases rz
  exact ⟨.bl b', H', I', rfl, q'⟩
/-- the class has no != of its own -/
structure NeT (K : PySem.W.Frag) (C : Addr) : Prop where
  ne : PySem.W.findIn K (.ref C) "__ne__" = some (some (.builtin "object.__ne__"))
  mo : PySem.W.mroIn K C (.type "object") = some true
section
variable {M : Model} {prog : Program} {w : World} {E' : Value → Shared → Prop} {s : Shared} {K : PySem.W.Frag} {x : Addr} {ox : Obj} {od : Option Obj} {y : Value}
theorem objNe_entry_K {Q : Fin → Shared → Prop} (hu : A.units < cLine) (X₀ : K.In s.heap) (I : PySem.W.InstAt s.heap x ox C od) (hs : PySem.W.findIn K (.ref C) "__eq__" = some (some (.ref f))) (hf : PySem.W.isFn K (.ref f) = true)
    (h : wpAny M A (call (.ref f) [.ref x, y]) (fun v s' => ∃ b, v = .bool b ∧ Q (.done (.ret (.bool (!b)))) s') E' s) :
    wpAny M A (Builtin.«object.__ne__» ⟨[.ref x, y], []⟩) Q E' s := by
  unfold Builtin.«object.__ne__»
  repeat (first
    | with_reducible refine wpAny_cRoomFor hu ?_
    | (refine wpAny_bind (m := callSpecialIfBound? (.ref x) (Str.ofString "__eq__") [y])
        (PySem.W.ifBound_K X₀ I hs hf (wpAny_mono h (fun r s' hr => by
          obtain ⟨b, rfl, hq⟩ := hr
          repeat (first | exact hq | exact wpAny_pure hq | exact wpAny_truthy_bool hq | (refine wpAny_bind (m := truthy (.bool _)) (wpAny_truthy_bool ?_)) | wp_step)) fun _ _ e => e)))
    | wp_step)
theorem call_objNe {Q : Value → Shared → Prop} (hu : A.in1.units < cLine) (X : K.In s.heap) (I : PySem.W.InstAt s.heap x ox C od) (n : NeT K C) (hs : PySem.W.findIn K (.ref C) "__eq__" = some (some (.ref f))) (hf : PySem.W.isFn K (.ref f) = true)
    (h : wpAny (model prog w) A.in1 (call (.ref f) [.ref x, y]) (fun v s' => ∃ b, v = .bool b ∧ Q (.bool (!b)) s') E' s) :
    wpAny (model prog w) A (call (.builtin "object.__ne__") [.ref x, y]) Q E' s :=
  wpAny_call (codeAny_call_builtin F.cmp_object.ne.plain F.cmpEntry_ne (PySem.W.check_slot F.cmpKind_ne F.cmpSplit_ne (I.type.andThen (PySem.W.looks_mroIn X n.mo)) (F.cmpArgs_ne _ _) (objNe_entry_K hu X I hs hf (wpAny_mono h (fun v s' ⟨b, e, q⟩ => ⟨b, e, q⟩) fun _ _ z => z))))
theorem ifBound_objNe {args : List Value} {Q : Option Value → Shared → Prop} (X : K.In s.heap) (I : PySem.W.InstAt s.heap x ox C od) (n : NeT K C)
    (h : wpAny M A (call (.builtin "object.__ne__") (.ref x :: args)) (fun v => Q (some v)) E' s) : wpAny M A (callSpecialIfBound? (.ref x) "__ne__" args) Q E' s := by
  simp only [callSpecialIfBound?, bindSpecialIfBound?]
  refine wpAny_holding (wpAny_bind (wpAny_bind (wpAny_bind (I.type.here ((PySem.W.looks_findIn X n.ne).here ?_)))))
  refine wpAny_bind (wpAny_askSetting (wpAny_ite ?_))
  have fin : wpAny M A (call (.builtin "object.__ne__") ([.ref x] ++ args) >>= fun v => pure (some v)) Q E' s := wpAny_bind (wpAny_mono h (fun v s' h' => wpAny_pure h') fun _ _ h' => h')
  split
  · exact wpAny_bind (wpAny_of_eq (F.cmp_object.ne.bind _) (wpAny_pure (by exact fin)))
  · exact wpAny_tryCatch (wpAny_bind (wpAny_of_eq (F.cmp_object.ne.bind _) (wpAny_pure (by exact fin))))
theorem ne_K {Q : Value → Shared → Prop} {b tb : Value} (hu : A.units < cLine) (hu1 : A.in1.units < cLine) (X : K.In s.heap) (I : PySem.W.InstAt s.heap x ox C od) (hb : PySem.W.Looks (model prog w) s.heap (typeOf b) tb) (hn : PySem.W.notFirst K C tb = true) (n : NeT K C)
    (hs : PySem.W.findIn K (.ref C) "__eq__" = some (some (.ref f))) (hf : PySem.W.isFn K (.ref f) = true)
    (h : wpAny (model prog w) A.in1 (call (.ref f) [.ref x, b]) (fun v s' => ∃ r, v = .bool r ∧ Q (.bool (!r)) s') E' s) : wpAny (model prog w) A (richCompare .NotEq (.ref x) b) Q E' s := by
  have one : wpAny (model prog w) A (tryCompare (.ref x) "__ne__" b) (fun r s' => ∃ v, r = some v ∧ Q v s') E' s := by
    unfold tryCompare
    refine wpAny_bind (ifBound_objNe X I n (call_objNe hu1 X I n hs hf (wpAny_mono h (fun v s' ⟨r, e, q⟩ => ⟨r, e, wpAny_pure ⟨_, rfl, q⟩⟩) fun _ _ z => z)))
  unfold richCompare
  simp only [oneThing_ref]
  refine wpAny_holding (wpAny_bind (wpAny_cRoomFor hu ?_))
  rw [cmpInfo_NotEq]
  refine wpAny_bind (I.type.here (wpAny_bind (hb.here ?_)))
  split
  · rename_i q
    have e : PySem.W.subIn K tb (.ref C) = some false := by
      rcases Bool.or_eq_true_iff.mp hn with e | e
      · rw [beq_iff_eq.mp e] at q; simp at q
      · exact beq_iff_eq.mp e
    refine wpAny_bind ((PySem.W.looks_subIn X e).here ?_)
    simp only [Bool.false_eq_true, if_false]
    refine wpAny_bind (wpAny_mono one (fun r s' z => ?_) fun _ _ e => e)
    obtain ⟨v, rfl, hq⟩ := z
    exact wpAny_pure hq
  · refine wpAny_bind (wpAny_pure ?_)
    simp only [Bool.false_eq_true, if_false]
    refine wpAny_bind (wpAny_mono one (fun r s' z => ?_) fun _ _ e => e)
    obtain ⟨v, rfl, hq⟩ := z
    exact wpAny_pure hq
end
theorem op_ownNe (c : MetG X.prog X.w X.K X.mg X.base CX0 k C "__eq__" sp []) (n : NeT X.K C) (hr : RoomG j X.A) (hk : k + 1 ≤ j) : OpR X (compareOp .NotEq) (rOwnEq X.K C sp true) := by
  obtain ⟨f, fd, ps, ds, cl, hm, F, b, d⟩ := c.ex
  intro pins s σ H x y v u Q I rx ry hq
  obtain ⟨a, dx, fs, t, rfl, ha, ty, nf, q⟩ := hq
  obtain rfl : v = Value.ref a := rx
  obtain ⟨mA, J, _⟩ := ins_get I.hok ha
  obtain ⟨od, J, _⟩ := J.look
  cases d
  have hr1 : RoomG k X.A.in1 := (hr.mono hk).in1
  show wpAny (model X.prog X.w) X.A (richCompare .NotEq (.ref a) u) (EP X pins σ Q) X.xe s
  refine ne_K (tb := t) (hr.toRoom.mono (Nat.zero_le _)).units0 (hr1.toRoom.mono (Nat.zero_le _)).units0 I.kIn J (ty_looks I ry ty) nf n hm.at_ hm.fn ?_
  refine wpAny_mono (run_fnGA (us := [.ref a, u]) (vs := [.ref a, y]) F rfl hr1 b .nil (pass00 σ) I (.cons rfl (.cons ry .nil)) q) (fun r s' h => ?_) fun _ _ z => z
  obtain ⟨z, H', I', rz, b', ez, q'⟩ := h
  subst ez
  cases rz
  exact ⟨b', rfl, .bl (!b'), H', I', rfl, q'⟩
/-- len of an object of the class C by its own __len__ -/
def rLenOwn (C : Addr) (sp : Sp) : List V → Hp → VK → Prop := fun xs H Q => ∃ (a dx : Addr) (fs : List (Str × V)), xs = [.ref a] ∧ H a = some (.ins C dx fs) ∧ sp xs H (fun v H' => ∃ n : Int, v = .int n ∧ 0 ≤ n ∧ n < 2 ^ 63 ∧ Q v H') E0
theorem cr_lenOwn (c : MetG X.prog X.w X.K X.mg X.base CX0 k C "__len__" sp []) (hr : RoomG j X.A) (hk : k + 1 ≤ j) : CallR X (.builtin "len") (rLenOwn C sp) := by
  obtain ⟨f, fd, ps, ds, cl, hm, F, b, d⟩ := c.ex
  intro pins s σ H xs us Q I r h
  obtain ⟨a, dx, fs, rfl, ha, q⟩ := h
  rw [Vals.ref1 r]
  obtain ⟨mA, J, _⟩ := ins_get I.hok ha
  obtain ⟨od, J, _⟩ := J.look
  obtain ⟨m, hF⟩ := I.fr
  cases d
  have hr1 : RoomG k X.A.in1 := (hr.mono hk).in1
  refine PySem.W.len_K hF I.ok.mod.kin J hm.at_ hm.fn ?_
  refine wpAny_mono (run_fnGA (us := [.ref a]) (vs := [.ref a]) F rfl hr1 b .nil (pass00 σ) I (.cons rfl .nil) q) (fun r s' h => ?_) fun _ _ z => z
  obtain ⟨z, H', I', rz, n, ez, h0, h1, q'⟩ := h
  subst ez
  obtain ⟨t, rfl⟩ := rz
  exact ⟨⟨h0, h1⟩, .int n, H', I'.tok _, ⟨_, rfl⟩, q'⟩
end
/-! ### == of dicts of flat things, both ways -/
def eqKV (kb : List (Key × V)) : List (Key × V) → Bool
  | [] => true
  | q :: r => (match valV kb q.1 with
    | none => false
    | some y => eqV q.2 y) && eqKV kb r
def eqDictB (ka kb : List (Key × V)) : Bool := ka.length == kb.length && eqKV kb ka
def rEqDict (neg : Bool) : R2 := fun x y H Q => ∃ (a b : Addr) (ka kb : List (Key × V)), x = .ref a ∧ y = .ref b ∧ Rd H a (.dK ka) ∧ Rd H b (.dK kb) ∧ (∀ q ∈ ka, flatV q.2 = true) ∧ (∀ q ∈ kb, flatV q.2 = true) ∧ Q (.bl (if neg = true then !eqDictB ka kb else eqDictB ka kb)) H
theorem valV_mem {kvs : List (Key × V)} {k : Key} {v : V} (h : valV kvs k = some v) : ∃ q ∈ kvs, q.1 = k ∧ q.2 = v := by
  unfold valV at h
  cases e : kvs.find? fun kv => decide (kv.1 = k) with
  | none => rw [e] at h; cases h
  | some q =>
    rw [e] at h
    exact ⟨q, List.mem_of_find?_eq_some e, of_decide_eq_true (p := q.1 = k) (List.find?_some (p := fun kv : Key × V => decide (kv.1 = k)) e), Option.some.inj h⟩
theorem eqAt_V' {A : Around} {s : Shared} {x y : V} {u v : Value} (rx : RelV x u) (ry : RelV y v) (fx : flatV x = true) (fy : flatV y = true) : SeqAt.EqAt A s u v (eqV x y) := eqAt_V rx ry fx fy
theorem hits_flat {A : Around} {s : Shared} {kb : List (Key × V)} {vb : List (Key × Value)} (rb : KV kb vb) (fb : ∀ q ∈ kb, flatV q.2 = true) : ∀ {ka : List (Key × V)} {va : List (Key × Value)}, KV ka va → (∀ q ∈ ka, flatV q.2 = true) → PySem.W.KeqHits A s vb va (eqKV kb ka)
  | _, _, .nil, _ => .nil
  | _, _, @Paired.cons _ _ _ p q ps qs h t, fa => by
    obtain ⟨h1, h2⟩ := h
    obtain ⟨key, v⟩ := q
    have ih := hits_flat (A := A) (s := s) rb fb t fun z m => fa z (List.mem_cons_of_mem _ m)
    have fp := fa p (List.mem_cons_self ..)
    have h1' : p.1 = key := h1
    have rr := rb.val p.1
    show PySem.W.KeqHits A s vb ((key, v) :: qs) ((match valV kb p.1 with | none => false | some y => eqV p.2 y) && eqKV kb ps)
    cases e : valV kb p.1 with
    | none =>
      rw [e] at rr
      have hn : valueAt vb p.1 = none := by
        cases z : valueAt vb p.1 with
        | none => rfl
        | some _ => rw [z] at rr; exact rr.elim
      rw [h1'] at hn
      exact .miss hn
    | some y =>
      rw [e] at rr
      obtain ⟨y', hy, ry⟩ := rr.some_of
      rw [h1'] at hy
      obtain ⟨z, hz, _, hz2⟩ := valV_mem e
      exact .hit hy (eqAt_V' h2 ry fp (by rw [← hz2]; exact fb z hz)) ih
section
variable {X : Cx} {j : Nat}
theorem kv_len {ka : List (Key × V)} {va : List (Key × Value)} (r : KV ka va) : va.length = ka.length := (Paired.length r).symm
theorem op_eqDict (hr : RoomG j X.A) : OpR X (compareOp .Eq) (rEqDict false) := by
  intro pins s σ H x y v u Q I rx ry hq
  obtain ⟨a, b, ka, kb, rfl, rfl, ha, hb, fa, fb, q⟩ := hq
  obtain rfl : v = Value.ref a := rx
  obtain rfl : u = Value.ref b := ry
  obtain ⟨_, sa, va, ra, da⟩ := dk_rd I.hok ha
  obtain ⟨_, sb, vb, rb, db⟩ := dk_rd I.hok hb
  refine PySem.W.keq_eq sa sb da db (hr.toRoom.mono (Nat.zero_le _)).units0 (fun _ => hits_flat rb fb ra fa) ?_
  rw [kv_len ra, kv_len rb]
  exact ⟨.bl (eqDictB ka kb), H, I, rfl, q⟩
theorem op_neDict (hr : RoomG j X.A) : OpR X (compareOp .NotEq) (rEqDict true) := by
  intro pins s σ H x y v u Q I rx ry hq
  obtain ⟨a, b, ka, kb, rfl, rfl, ha, hb, fa, fb, q⟩ := hq
  obtain rfl : v = Value.ref a := rx
  obtain rfl : u = Value.ref b := ry
  obtain ⟨_, sa, va, ra, da⟩ := dk_rd I.hok ha
  obtain ⟨_, sb, vb, rb, db⟩ := dk_rd I.hok hb
  refine PySem.W.keq_ne sa sb da db (hr.toRoom.mono (Nat.zero_le _)).units0 (fun _ => hits_flat rb fb ra fa) ?_
  rw [kv_len ra, kv_len rb]
  exact ⟨.bl (!eqDictB ka kb), H, I, rfl, q⟩
end
/-! ### what of the text a class must have, by its name -/
def clsAt (mg : Str → Option Value) (x : Str) : Addr := match mg x with
  | some (.ref C) => C
  | _ => 0
theorem clsAt_eq {mg : Str → Option Value} {x : Str} {C : Addr} (h : mg x = some (.ref C)) : clsAt mg x = C := by
  unfold clsAt
  rw [h]
/-- an exception of the text that has no __init__ of its own -/
structure ExcT (K : PySem.W.Frag) (mg : Str → Option Value) (x : Str) (C : Addr) : Prop where
  gl : mg x = some (.ref C)
  ex : PySem.W.excIn K C [.type "ValueError", .type "Exception", .type "BaseException", .type "object"] "ValueError.__new__" = true
  kp : PySem.W.keepIn K (.ref C) = true
  bp : PySem.W.subIn K (.ref C) (.type "BaseException") = some true
  tp : PySem.W.typeIn K (.ref C) = some (.type "type")
/-- the class as isinstance sees it -/
structure TypT (K : PySem.W.Frag) (C : Addr) : Prop where
  ha : PySem.W.findIn K (.ref C) "__class__" = some (some (.builtin "object.__class__"))
  hn : PySem.W.specialIn K (.builtin "object.__class__") "__get__" = some (some (.builtin "getset_descriptor.__get__"))
  htk : PySem.W.takesIn K (.builtin "object.__class__") = some true
  hm : PySem.W.mroIn K C (.type "object") = some true
  ci : ((PySem.W.clsIn K C).isSome && PySem.W.typeIn K (.ref C) == some (.type "type")) = true
  kp : PySem.W.keepIn K (.ref C) = true
theorem TypT.ins {K : PySem.W.Frag} {C a dx : Addr} {H : Hp} {fs : List (Str × V)} (T : TypT K C) (cl : Cls K C) (e : H a = some (.ins C dx fs)) : TyX K H (.ref a) (.ref C) := .base (.ins e cl T.ha T.hn T.htk T.hm)
def noRef (t : String) : Bool := match PySem.fastBuiltinMro t with
  | some l => l.all fun v => match v with
    | .type _ => true
    | _ => false
  | none => false
theorem sub_own {K : PySem.W.Frag} {C : Addr} {t : String} (h : noRef t = true) : PySem.W.subIn K (.type t) (.ref C) = some false := by
  show (PySem.fastBuiltinMro t).map (·.contains (.ref C)) = some false
  unfold noRef at h
  cases e : PySem.fastBuiltinMro t with
  | none => rw [e] at h; cases h
  | some l =>
    rw [e] at h
    rw [List.all_eq_true] at h
    rw [Option.map_some]
    congr 1
    cases q : l.contains (.ref C) with
    | false => rfl
    | true =>
      have hm := List.contains_iff_mem.mp q
      cases h _ hm
theorem TypT.kitNo {K : PySem.W.Frag} {C : Addr} {t : String} (T : TypT K C) (h : noRef t = true) : PySem.W.kitOne K (.type t) (.ref C) = some false := by
  unfold PySem.W.kitOne
  rw [if_neg (by simp)]
  show (if ((PySem.W.clsIn K C).isSome && PySem.W.typeIn K (.ref C) == some (.type "type")) = true then PySem.W.subIn K (.type t) (.ref C) else none) = some false
  rw [if_pos T.ci]
  exact sub_own h
theorem kit_self {K : PySem.W.Frag} {C : Addr} : PySem.W.kitOne K (.ref C) (.ref C) = some true := by
  unfold PySem.W.kitOne
  rw [if_pos (by simp)]
theorem nf_ty {K : PySem.W.Frag} {C : Addr} {t : String} (h : noRef t = true) : PySem.W.notFirst K C (.type t) = true := by
  unfold PySem.W.notFirst
  rw [sub_own h]
  simp
theorem nf_own {K : PySem.W.Frag} {C : Addr} : PySem.W.notFirst K C (.ref C) = true := by
  unfold PySem.W.notFirst
  simp
section
variable {X : Cx} {K : PySem.W.Frag} {e : Expr} {ta : TE} {f : Str} {pos : Pos}
theorem pe_fldK (he : PE X e ta) (hb : attributeBase e f X.env (eval e X.env) = eval e X.env) (hK : X.K = K := by rfl) : PE X (.Attribute e f pos) (tFld K ta f) := hK ▸ pe_fld he hb
end
section
variable {X : Cx} {K : PySem.W.Frag} {o e : Expr} {es : List Expr} {to : TE} {t : TA} {name : Str} {apos cpos : Pos} {T id : String} {r : V → List V → Hp → VK → Prop}
theorem pe_bmK (pa : PlainAttrs T) (slot : Slot T name id) (hty : typeOf (.builtin id) = pure (.type "method_descriptor")) (hm : MtR X id r) (ho : PE X o to) (ha : PA X (e :: es) t)
    (hbase : attributeBase o name X.env (eval o X.env) = eval o X.env := by rfl)
    (hfew : ((backTo cpos (starEach (e :: es) X.env)).all (fun x => !x.1) && (backToKw cpos (keywordEach [] X.env)).all (fun x => x.1.isSome)
      && decide ((e :: es).length + ([] : List Keyword).length + (if ([] : List Keyword).isEmpty then 0 else 1) < 30)) = true := by rfl)
    (hline : (apos.endLine == cpos.line) = true := by rfl) (hs : starEach (e :: es) X.env = (false, eval e X.env) :: starEach es X.env := by rfl) (hplain : (backTo cpos (starEach es X.env)).any (·.1) = false := by rfl) (hK : X.K = K := by rfl) :
    PE X (.Call (.Attribute o name apos) (e :: es) [] cpos) (tBM K T r to t) := hK ▸ pe_bm pa slot hty hm ho ha hbase hfew hline hs hplain
theorem pe_bm0K (pa : PlainAttrs T) (slot : Slot T name id) (hty : typeOf (.builtin id) = pure (.type "method_descriptor")) (hm : MtR X id r) (ho : PE X o to)
    (hbase : attributeBase o name X.env (eval o X.env) = eval o X.env := by rfl) (hline : (apos.endLine == cpos.line) = true := by rfl) (hK : X.K = K := by rfl) : PE X (.Call (.Attribute o name apos) [] [] cpos) (tBM0 K T r to) := hK ▸ pe_bm0 pa slot hty hm ho hbase hline
end
theorem cls_some {K : PySem.W.Frag} {C : Addr} (h : PySem.W.isClsIn K C = true) (t : PySem.W.typeIn K (.ref C) = some (.type "type")) : ((PySem.W.clsIn K C).isSome && PySem.W.typeIn K (.ref C) == some (.type "type")) = true := by
  have h' : (PySem.W.clsIn K C).isSome = true := h
  rw [h', t]
  simp
/-- f'..' of two parts or more -/
def tJ (ts : List TE) : TE := fun σ H Q => tJs ts Str.empty σ H fun out H1 => Q (.str out) H1
theorem pe_joinedJ {X : Cx} {v1 v2 : Expr} {rest : List Expr} {ts : List TE} {pos : Pos} (h : PJ X (v1 :: v2 :: rest) ts) : PE X (.JoinedStr (v1 :: v2 :: rest) pos) (tJ ts) := pe_joined h
end KC
namespace KC
open PySem PySem.Spec PyProof.Rows L2
/-! ### texts in order -/
def leC (a b : List Nat) : Bool := !ltCps b a
theorem leC_nil (b : List Nat) : leC [] b = true := by cases b <;> rfl
theorem leC_cons (a b : Nat) (r t : List Nat) : leC (a :: r) (b :: t) = (decide (a < b) || (decide (a = b) && leC r t)) := by
  show (!(decide (b < a) || (b == a && ltCps t r))) = _
  unfold leC
  by_cases h : a < b
  · have h1 : ¬ b < a := by omega
    have h2 : ¬ b = a := by omega
    simp [h, h1, h2]
  · by_cases e : a = b
    · subst e
      simp
    · have h1 : b < a := by omega
      simp [h, e, h1]
theorem leC_total : ∀ a b : List Nat, (leC a b || leC b a) = true
  | [], b => by rw [leC_nil, Bool.true_or]
  | a, [] => by rw [leC_nil, Bool.or_true]
  | a :: r, b :: t => by
    rw [leC_cons, leC_cons]
    have ih := leC_total r t
    by_cases h : a < b
    · simp [h]
    · by_cases e : a = b
      · subst e
        simpa using ih
      · have h1 : b < a := by omega
        simp [h1]
theorem leC_antisymm : ∀ {a b : List Nat}, leC a b = true → leC b a = true → a = b
  | [], [], _, _ => rfl
  | [], b :: t, _, h => by cases (show (false : Bool) = true from h)
  | a :: r, [], h, _ => by cases (show (false : Bool) = true from h)
  | a :: r, b :: t, h1, h2 => by
    rw [leC_cons, Bool.or_eq_true, Bool.and_eq_true, decide_eq_true_eq, decide_eq_true_eq] at h1 h2
    have e : a = b := by
      rcases h1 with h1 | ⟨h1, _⟩
      · rcases h2 with h2 | ⟨h2, _⟩ <;> omega
      · exact h1
    subst e
    have k1 : leC r t = true := by
      rcases h1 with h1 | ⟨_, h1⟩
      · omega
      · exact h1
    have k2 : leC t r = true := by
      rcases h2 with h2 | ⟨_, h2⟩
      · omega
      · exact h2
    rw [leC_antisymm k1 k2]
theorem leC_trans : ∀ {a b c : List Nat}, leC a b = true → leC b c = true → leC a c = true
  | [], _, c, _, _ => leC_nil c
  | a :: r, [], _, h, _ => by cases (show (false : Bool) = true from h)
  | a :: r, b :: t, [], _, h => by cases (show (false : Bool) = true from h)
  | a :: r, b :: t, c :: u, h1, h2 => by
    rw [leC_cons, Bool.or_eq_true, Bool.and_eq_true, decide_eq_true_eq, decide_eq_true_eq] at h1 h2 ⊢
    rcases h1 with h1 | ⟨h1, k1⟩
    · rcases h2 with h2 | ⟨h2, k2⟩
      · exact .inl (by omega)
      · exact .inl (by omega)
    · rcases h2 with h2 | ⟨h2, k2⟩
      · exact .inl (by omega)
      · exact .inr ⟨by omega, leC_trans k1 k2⟩
def leS (x y : Str) : Bool := leC (TL.tl x) (TL.tl y)
theorem leS_antisymm {x y : Str} (h1 : leS x y = true) (h2 : leS y x = true) : x = y := TL.ext_tl (leC_antisymm h1 h2)
theorem leS_trans {x y z : Str} (h1 : leS x y = true) (h2 : leS y z = true) : leS x z = true := leC_trans h1 h2
theorem leS_total (x y : Str) : (leS x y || leS y x) = true := leC_total _ _
def Asc (xs : List Str) : Prop := xs.Pairwise fun x y => leS x y = true
theorem rising_asc : ∀ {xs : List Str} {p : Str}, risingS p xs = true → Asc (p :: xs)
  | [], p, _ => List.pairwise_singleton ..
  | x :: r, p, h => by
    rw [show risingS p (x :: r) = (!ltCps x.cps.toList p.cps.toList && risingS x r) from rfl, Bool.and_eq_true] at h
    have ih := rising_asc h.2
    have hx : leS p x = true := h.1
    refine List.pairwise_cons.mpr ⟨fun y hy => ?_, ih⟩
    rcases List.mem_cons.mp hy with rfl | hy
    · exact hx
    · exact leS_trans hx ((List.pairwise_cons.mp ih).1 y hy)
theorem sortedS_asc {xs : List Str} (h : sortedS xs = true) : Asc xs := by
  cases xs with
  | nil => exact .nil
  | cons x r => exact rising_asc h
def srt (xs : List Str) : List Str := xs.mergeSort leS
theorem srt_perm (xs : List Str) : (srt xs).Perm xs := List.mergeSort_perm xs leS
theorem srt_asc (xs : List Str) : Asc (srt xs) := List.pairwise_mergeSort (le := leS) (fun _ _ _ h1 h2 => leS_trans h1 h2) leS_total xs
theorem asc_unique {xs ys : List Str} (p : xs.Perm ys) (hx : Asc xs) (hy : Asc ys) : xs = ys :=
  List.Perm.eq_of_pairwise (fun _ _ _ _ h1 h2 => leS_antisymm h1 h2) hx hy p
theorem srt_of {xs ys : List Str} (p : ys.Perm xs) (h : sortedS ys = true) : ys = srt xs :=
  asc_unique (p.trans (srt_perm xs).symm) (sortedS_asc h) (srt_asc xs)
theorem srt_self {xs : List Str} (h : Asc xs) : srt xs = xs := asc_unique (srt_perm xs) (srt_asc xs) h
theorem srt_congr {xs ys : List Str} (p : xs.Perm ys) : srt xs = srt ys := asc_unique ((srt_perm xs).trans (p.trans (srt_perm ys).symm)) (srt_asc xs) (srt_asc ys)
theorem srt_len (xs : List Str) : (srt xs).length = xs.length := (srt_perm xs).length_eq
theorem mem_srt {xs : List Str} {x : Str} : x ∈ srt xs ↔ x ∈ xs := (srt_perm xs).mem_iff
/-! ### dict comprehensions -/
abbrev DcG (J : It) (g : TG) (tt : TT) (tk tv : TE) (vs : List Nat) (σ : L2.St) (H1 : Hp) (D : Addr) (Qd : Hp → Prop) : Prop :=
  ∃ W : Nat → Nat → Hp → Prop, (∃ m, W 0 m (L2.upd H1 D (.dK []))) ∧ ∀ i m H, W i m H →
    (J.stop i H ∧ Qd H) ∨ (J.go i H ∧ ∃ Nx : Hp → Prop, (∀ H', Nx H' → ∃ m', m' < m ∧ W (i + 1) m' H') ∧ ∀ x H', J.yld i H x H' → g x (wipe σ vs) H' fun σ2 H2 => wipe σ2 vs = wipe σ vs ∧ tt σ2 H2 fun b H3 =>
      if b = true then tk σ2 H3 fun y H4 => tv σ2 H4 fun z H5 => ∃ kvs k, y = kV k ∧ H5 D = some (.dK kvs) ∧ kvs.length < sizeLine ∧ Nx (L2.upd H5 D (.dK (putK kvs k z))) else Nx H3)
theorem dc_it {J : It} {n : Nat} {G : Hp → Prop} {Y : Nat → Hp → V → Hp → Prop} (w : Walk J n G Y) {g : TG} {tt : TT} {tk tv : TE} {vs : List Nat} {σ : L2.St} {H1 : Hp} {D : Addr} {Qd : Hp → Prop} (Pv : Nat → Hp → Prop) (h0 : Pv 0 (L2.upd H1 D (.dK []))) (hG : ∀ i H, i ≤ n → Pv i H → G H)
    (hs : ∀ i x H H', i < n → Pv i H → Y i H x H' → g x (wipe σ vs) H' fun σ2 H2 => wipe σ2 vs = wipe σ vs ∧ tt σ2 H2 fun b H3 =>
      if b = true then tk σ2 H3 fun y H4 => tv σ2 H4 fun z H5 => ∃ kvs k, y = kV k ∧ H5 D = some (.dK kvs) ∧ kvs.length < sizeLine ∧ Pv (i + 1) (L2.upd H5 D (.dK (putK kvs k z))) else Pv (i + 1) H3) (hd : ∀ H, Pv n H → Qd H) :
    DcG J g tt tk tv vs σ H1 D Qd := by
  refine ⟨fun i m H => m = n - i ∧ i ≤ n ∧ Pv i H, ⟨n, by simp, Nat.zero_le _, h0⟩, ?_⟩
  rintro i m H ⟨rfl, hi, p⟩
  have q := hG i H hi p
  by_cases hlt : i < n
  · refine .inr ⟨w.goes i H hlt q, Pv (i + 1), fun H' p' => ⟨n - (i + 1), by omega, rfl, hlt, p'⟩, fun x H' y => hs i x H H' hlt p (w.yields i H x H' hlt q y)⟩
  · have e : i = n := by omega
    subst e
    exact .inl ⟨w.stops H q, hd H p⟩
theorem merge_snoc (kvs more : List (Key × V)) (q : Key × V) : mergeK kvs (more ++ [q]) = putK (mergeK kvs more) q.1 q.2 := by
  unfold mergeK
  rw [List.foldl_append]
  rfl
/-- {k(x): v(x) for x in xs}, nothing changed -/
theorem dc_listF {K : PySem.W.Frag} {a : Addr} {xs : List V} {j : Nat} {tk tv : TE} {σ : L2.St} {H1 : Hp} {D : Addr} {Qd : Hp → Prop} (fk : V → Key) (fv : V → V) (hS : SqL K H1 a xs) (hD : H1 D = none) (hx : xs.length < 16777216)
    (hk : ∀ x ∈ xs, ∀ (H' : Hp) (Q' : VK), Same H1 H' → Q' (kV (fk x)) H' → tk ((wipe σ [j]).set j (some x)) H' Q')
    (hv : ∀ x ∈ xs, ∀ (H' : Hp) (Q' : VK), Same H1 H' → Q' (fv x) H' → tv ((wipe σ [j]).set j (some x)) H' Q')
    (hd : Qd (L2.upd H1 D (.dK (mergeK [] (xs.map fun x => (fk x, fv x)))))) :
    DcG (Itl K a) (gName j) tYes tk tv [j] σ H1 D Qd := by
  refine dc_it walk_list (fun i H => H = L2.upd H1 D (.dK (mergeK [] ((xs.take i).map fun x => (fk x, fv x))))) rfl (fun i H _ e => by rw [e]; exact Same.seq (same_new (Same.refl _) hD) hS) ?_ (fun H e => by rw [e, List.take_length]; exact hd)
  rintro i x H H' hi rfl ⟨rfl, e⟩
  refine ⟨wipe_set1 _ _ _, ?_⟩
  have hm := List.mem_of_getElem? e
  refine hk x hm _ _ (same_new (Same.refl _) hD) (hv x hm _ _ (same_new (Same.refl _) hD) ⟨_, _, rfl, upd_same, ?_, ?_⟩)
  · have h1 := merge_len ((xs.take i).map fun x => (fk x, fv x)) []
    rw [List.length_nil, List.length_map, List.length_take] at h1
    exact Nat.lt_of_lt_of_le (show _ < 16777216 by omega) (by decide)
  · rw [upd_upd, take_snoc e, List.map_append, List.map_singleton, merge_snoc]
theorem putK_fresh {kvs : List (Key × V)} {k : Key} {v : V} (h : ∀ q ∈ kvs, q.1 ≠ k) : putK kvs k v = kvs ++ [(k, v)] := by
  refine putK_new v ?_
  cases e : valV kvs k with
  | none => rfl
  | some u =>
    obtain ⟨q, hq, h1, _⟩ := valV_mem e
    exact absurd h1 (h q hq)
theorem merge_nodup : ∀ {more kvs : List (Key × V)}, ((kvs ++ more).map (·.1)).Nodup → mergeK kvs more = kvs ++ more
  | [], kvs, _ => by rw [List.append_nil]; rfl
  | q :: r, kvs, h => by
    show mergeK (putK kvs q.1 q.2) r = _
    have e : putK kvs q.1 q.2 = kvs ++ [q] := by
      refine putK_fresh fun z hz hk => ?_
      rw [List.map_append] at h
      have := (List.nodup_append.mp h).2.2 z.1 (List.mem_map_of_mem hz) q.1 (by rw [List.map_cons]; exact List.mem_cons_self ..)
      exact this hk
    rw [e, merge_nodup (by rw [List.append_assoc]; exact h), List.append_assoc]
    rfl
/-! ### the data of a codebook -/
structure BD where
  r : Int
  h : Int
  ws : List (Str × Str)
  rs : List Str
def kvsOf (ws : List (Str × Str)) : List (Key × V) := ws.map fun p => (Sum.inr p.1, V.str p.2)
theorem kvsOf_len (ws : List (Str × Str)) : (kvsOf ws).length = ws.length := by unfold kvsOf; rw [List.length_map]
theorem kvsOf_keys (ws : List (Str × Str)) : (kvsOf ws).map (·.1) = (ws.map (·.1)).map Sum.inr := by
  unfold kvsOf
  rw [List.map_map, List.map_map]
  rfl
theorem kvsOf_vals (ws : List (Str × Str)) : (kvsOf ws).map (·.2) = (ws.map (·.2)).map V.str := by
  unfold kvsOf
  rw [List.map_map, List.map_map]
  rfl
theorem kvsOf_nodup {ws : List (Str × Str)} (h : (ws.map (·.1)).Nodup) : ((kvsOf ws).map (·.1)).Nodup := by
  rw [kvsOf_keys]
  exact List.Pairwise.map _ (fun a b h e => h (Sum.inr.inj e)) h
/-- the codeword of a name -/
def wordAt (ws : List (Str × Str)) (n : Str) : Option Str := (ws.find? fun p => decide (p.1 = n)).map (·.2)
theorem valV_kvs (n : Str) : ∀ ws : List (Str × Str), valV (kvsOf ws) (.inr n) = (wordAt ws n).map V.str
  | [] => rfl
  | p :: r => by
    have ih := valV_kvs n r
    unfold wordAt
    by_cases e : p.1 = n
    · rw [List.find?_cons_of_pos (by simpa using e)]
      exact valV_pos (p := ((Sum.inr p.1 : Key), V.str p.2)) (by rw [e])
    · rw [List.find?_cons_of_neg (by simpa using e)]
      rw [show kvsOf (p :: r) = ((Sum.inr p.1 : Key), V.str p.2) :: kvsOf r from rfl, valV_neg (p := ((Sum.inr p.1 : Key), V.str p.2)) (fun z => e (Sum.inr.inj z)), ih]
      rfl
/-- the four fields -/
def bookF (r h : Int) (d l : Addr) : List (Str × V) := [("radix", .int r), ("depth", .int h), ("_words", .ref d), ("_reserved", .ref l)]
theorem bookF_put (r h : Int) (d l : Addr) : putF "_reserved" (.ref l) (putF "_words" (.ref d) (putF "depth" (.int h) (putF "radix" (.int r) []))) = bookF r h d l := by
  have e1 : ¬ (("radix" : Str) = "depth") := by decide +kernel
  have e2 : ¬ (("radix" : Str) = "_words") := by decide +kernel
  have e3 : ¬ (("depth" : Str) = "_words") := by decide +kernel
  have e4 : ¬ (("radix" : Str) = "_reserved") := by decide +kernel
  have e5 : ¬ (("depth" : Str) = "_reserved") := by decide +kernel
  have e6 : ¬ (("_words" : Str) = "_reserved") := by decide +kernel
  simp only [putF, if_neg e1, if_neg e2, if_neg e3, if_neg e4, if_neg e5, if_neg e6]
  rfl
theorem bookF_radix (r h : Int) (d l : Addr) : (bookF r h d l).lookup ("radix" : Str) = some (.int r) := rfl
theorem bookF_depth (r h : Int) (d l : Addr) : (bookF r h d l).lookup ("depth" : Str) = some (.int h) := rfl
theorem bookF_words (r h : Int) (d l : Addr) : (bookF r h d l).lookup ("_words" : Str) = some (.ref d) := rfl
theorem bookF_reserved (r h : Int) (d l : Addr) : (bookF r h d l).lookup ("_reserved" : Str) = some (.ref l) := rfl
/-- the codebook of these data stands at b -/
structure BookAt (C : Addr) (H : Hp) (b : Addr) (D : BD) : Prop where
  ex : ∃ dx d l : Addr, H b = some (.ins C dx (bookF D.r D.h d l)) ∧ H d = some (.dK (kvsOf D.ws)) ∧ H l = some (.lst (D.rs.map V.str))
theorem BookAt.same {C : Addr} {H H' : Hp} {b : Addr} {D : BD} (B : BookAt C H b D) (s : Same H H') : BookAt C H' b D := by
  obtain ⟨dx, d, l, h1, h2, h3⟩ := B.ex
  exact ⟨dx, d, l, s _ _ h1, s _ _ h2, s _ _ h3⟩
/-- .. and was made behind H0 -/
structure BookNew (C : Addr) (H0 H : Hp) (b : Addr) (D : BD) : Prop where
  ex : ∃ dx d l : Addr, H0 b = none ∧ H0 d = none ∧ H0 l = none ∧ H b = some (.ins C dx (bookF D.r D.h d l)) ∧ H d = some (.dK (kvsOf D.ws)) ∧ H l = some (.lst (D.rs.map V.str))
theorem BookNew.at_ {C : Addr} {H0 H : Hp} {b : Addr} {D : BD} (B : BookNew C H0 H b D) : BookAt C H b D := by
  obtain ⟨dx, d, l, _, _, _, h1, h2, h3⟩ := B.ex
  exact ⟨dx, d, l, h1, h2, h3⟩
/-- all that is new is kept in mind -/
def adopt (G H0 H : Hp) : Hp := fun a => match H0 a with
  | none => H a
  | some _ => G a
theorem adopt_new {G H0 H : Hp} {a : Addr} (h : H0 a = none) : adopt G H0 H a = H a := by
  unfold adopt
  rw [h]
theorem adopt_had {G H0 H : Hp} {a : Addr} {o : HO} (h : H0 a = some o) : adopt G H0 H a = G a := by
  unfold adopt
  rw [h]
theorem adopt_sub {G H0 H : Hp} (s : Same G H0) (t : Same H0 H) : Same (adopt G H0 H) H := fun a o e => by
  cases h : H0 a with
  | none => rw [adopt_new h] at e; exact e
  | some u =>
    rw [adopt_had h] at e
    exact t _ _ (s _ _ e)
theorem adopt_old {G H0 H : Hp} (s : Same G H0) : Same G (adopt G H0 H) := fun a o e => by
  rw [adopt_had (s _ _ e)]
  exact e
theorem BookNew.adopt {C : Addr} {G H0 H : Hp} {b : Addr} {D : BD} (B : BookNew C H0 H b D) : BookAt C (adopt G H0 H) b D := by
  obtain ⟨dx, d, l, n1, n2, n3, h1, h2, h3⟩ := B.ex
  exact ⟨dx, d, l, by rw [adopt_new n1]; exact h1, by rw [adopt_new n2]; exact h2, by rw [adopt_new n3]; exact h3⟩
theorem PenG.adopt {G H0 H : Hp} {p : Addr} {n : Nat} (h : PenG G H0 p n) (t : Same H0 H) : PenG (adopt G H0 H) H p n := by
  obtain ⟨s, f, q, ns, i, v, hp, hq, hg, hr⟩ := h
  exact ⟨adopt_sub s t, by rw [adopt_had hp]; exact f, q, ns, i, v, t _ _ hp, t _ _ hq, by rw [adopt_had hq]; exact hg, hr⟩
theorem PenG.old {G H : Hp} {p : Addr} {n : Nat} (h : PenG G H p n) : Same G H := h.sub
theorem putK_keys (kvs : List (Key × V)) (k : Key) (v : V) : (putK kvs k v).map (·.1) = kvs.map (·.1) ∨ ((∀ q ∈ kvs, q.1 ≠ k) ∧ (putK kvs k v).map (·.1) = kvs.map (·.1) ++ [k]) := by
  by_cases h : ∀ q ∈ kvs, q.1 ≠ k
  · rw [putK_fresh h]
    exact .inr ⟨h, by rw [List.map_append]; rfl⟩
  · unfold putK
    split
    · refine .inl ?_
      rw [List.map_map]
      refine List.map_congr_left fun q hq => ?_
      show (if q.1 = k then (q.1, v) else q).1 = q.1
      split <;> rfl
    · rename_i hn
      exfalso
      refine h fun q hq e => hn ?_
      exact List.any_eq_true.mpr ⟨q, hq, decide_eq_true e⟩
theorem putK_nodup {kvs : List (Key × V)} (h : (kvs.map (·.1)).Nodup) (k : Key) (v : V) : ((putK kvs k v).map (·.1)).Nodup := by
  rcases putK_keys kvs k v with e | ⟨hn, e⟩
  · rw [e]; exact h
  · rw [e]
    refine List.nodup_append.mpr ⟨h, List.pairwise_singleton .., fun a ha b hb => ?_⟩
    obtain ⟨q, hq, rfl⟩ := List.mem_map.mp ha
    rw [List.mem_singleton] at hb
    rw [hb]
    exact hn q hq
theorem merge_nd : ∀ (more : List (Key × V)) {kvs : List (Key × V)}, (kvs.map (·.1)).Nodup → ((mergeK kvs more).map (·.1)).Nodup
  | [], _, h => h
  | q :: r, kvs, h => merge_nd r (putK_nodup h q.1 q.2)
theorem merge_nd0 (more : List (Key × V)) : ((mergeK [] more).map (·.1)).Nodup := merge_nd more List.nodup_nil
/-- the codebook made of these arguments -/
def mkBook (r h : Int) (ws : List (Str × Str)) (xs : List Str) : BD := ⟨r, h, (srt (ws.map (·.1))).map fun n => (n, (wordAt ws n).getD ""), srt xs⟩
theorem wordAt_mem {ws : List (Str × Str)} {n : Str} (h : n ∈ ws.map (·.1)) : ∃ x, wordAt ws n = some x ∧ (n, x) ∈ ws := by
  obtain ⟨q, hq, rfl⟩ := List.mem_map.mp h
  cases e : ws.find? fun p => decide (p.1 = q.1) with
  | none => exact absurd (List.find?_eq_none.mp e q hq) (by simp)
  | some p =>
    have h1 : p.1 = q.1 := of_decide_eq_true (p := p.1 = q.1) (List.find?_some (p := fun z : Str × Str => decide (z.1 = q.1)) e)
    exact ⟨p.2, by unfold wordAt; rw [e]; rfl, by rw [← h1]; exact List.mem_of_find?_eq_some e⟩
theorem wordAt_some {ws : List (Str × Str)} {n x : Str} (h : wordAt ws n = some x) : (n, x) ∈ ws := by
  unfold wordAt at h
  cases e : ws.find? fun p => decide (p.1 = n) with
  | none => rw [e] at h; cases h
  | some p =>
    rw [e] at h
    have h1 : p.1 = n := of_decide_eq_true (p := p.1 = n) (List.find?_some (p := fun z : Str × Str => decide (z.1 = n)) e)
    have h2 : p.2 = x := Option.some.inj h
    rw [← h1, ← h2]
    exact List.mem_of_find?_eq_some e
theorem wordAt_nodup {ws : List (Str × Str)} (hn : (ws.map (·.1)).Nodup) {p : Str × Str} (h : p ∈ ws) : wordAt ws p.1 = some p.2 := by
  obtain ⟨x, hx, hm⟩ := wordAt_mem (List.mem_map_of_mem (f := (·.1)) h)
  rw [hx]
  congr 1
  have key : ∀ {l : List (Str × Str)} {a b : Str × Str}, (l.map (·.1)).Nodup → a ∈ l → b ∈ l → a.1 = b.1 → a = b := by
    intro l
    induction l with
    | nil => intro a b _ ha; cases ha
    | cons z r ih =>
      intro a b hn ha hb e
      rw [List.map_cons] at hn
      have hz := List.pairwise_cons.mp hn
      rcases List.mem_cons.mp ha with ea | ha'
      · rcases List.mem_cons.mp hb with eb | hb'
        · rw [ea, eb]
        · rw [ea] at e
          exact absurd e (hz.1 _ (List.mem_map_of_mem hb'))
      · rcases List.mem_cons.mp hb with eb | hb'
        · rw [eb] at e
          exact absurd e.symm (hz.1 _ (List.mem_map_of_mem ha'))
        · exact ih hz.2 ha' hb' e
  have := key hn hm h rfl
  exact congrArg Prod.snd this
/-! ### lists of texts as data -/
theorem dpAll_strs {K : PySem.W.Frag} {H : Hp} : ∀ ns : List Str, DpAll K H (ns.map V.str) (ns.map PyData.str)
  | [] => .nil
  | n :: r => .cons (.str n) (dpAll_strs r)
theorem lay_strs : ∀ {ns : List Str}, (∀ x ∈ ns, PyData.strOk x = true) → PyData.canLayAll0 (ns.map PyData.str) = true
  | [], _ => rfl
  | n :: r, h => by
    show (PyData.strOk n && PyData.canLayAll0 (r.map PyData.str)) = true
    rw [lay_strs fun x m => h x (List.mem_cons_of_mem _ m), h n (List.mem_cons_self ..)]
    rfl
theorem depth_strs : ∀ ns : List Str, PyData.depthAll (ns.map PyData.str) = 0
  | [] => rfl
  | n :: r => by
    show max (PyData.depth (.str n)) (PyData.depthAll (r.map PyData.str)) = 0
    rw [depth_strs r]
    rfl
theorem shaped_strs {ns : List Str} (hk : ∀ x ∈ ns, PyData.strOk x = true) : SeqAt.shaped (.list (ns.map PyData.str)) = true := by
  unfold SeqAt.shaped
  have h1 : PyData.canLay0 (.list (ns.map PyData.str)) = true := lay_strs hk
  have h2 : PyData.depth (.list (ns.map PyData.str)) = 1 := by
    show PyData.depthAll (ns.map PyData.str) + 1 = 1
    rw [depth_strs]
  rw [h1, h2]
  decide
theorem shaped_strsT {ns : List Str} (hk : ∀ x ∈ ns, PyData.strOk x = true) : SeqAt.shaped (.tuple (ns.map PyData.str)) = true := by
  unfold SeqAt.shaped
  have h1 : PyData.canLay0 (.tuple (ns.map PyData.str)) = true := lay_strs hk
  have h2 : PyData.depth (.tuple (ns.map PyData.str)) = 1 := by
    show PyData.depthAll (ns.map PyData.str) + 1 = 1
    rw [depth_strs]
  rw [h1, h2]
  decide
theorem eqvAll_strs : ∀ xs ys : List Str, PyData.eqvAll (xs.map PyData.str) (ys.map PyData.str) = decide (xs = ys)
  | [], [] => by rw [List.map_nil, PyData.eqvAll]; simp
  | x :: xs, y :: ys => by
    rw [List.map_cons, List.map_cons, PyData.eqvAll, eqvAll_strs xs ys, PyData.eqv, Bool.eq_iff_iff, Bool.and_eq_true, beq_iff_eq, decide_eq_true_eq, decide_eq_true_eq, List.cons.injEq]
  | [], _ :: _ => by rw [List.map_nil, List.map_cons, PyData.eqvAll]; simp
  | _ :: _, [] => by rw [List.map_nil, List.map_cons, PyData.eqvAll]; simp
theorem eqv_strs (xs ys : List Str) : PyData.eqv (.list (xs.map PyData.str)) (.list (ys.map PyData.str)) = decide (xs = ys) := by
  rw [PyData.eqv]
  exact eqvAll_strs xs ys
theorem eqv_strsT (xs ys : List Str) : PyData.eqv (.tuple (xs.map PyData.str)) (.tuple (ys.map PyData.str)) = decide (xs = ys) := by
  rw [PyData.eqv]
  exact eqvAll_strs xs ys
/-! ### equal books -/
def eqBook (D D2 : BD) : Bool := D.r == D2.r && (D.h == D2.h && (eqDictB (kvsOf D.ws) (kvsOf D2.ws) && decide (D.rs = D2.rs)))
theorem kvs_flat {ws : List (Str × Str)} : ∀ q ∈ kvsOf ws, flatV q.2 = true := fun q hq => by
  obtain ⟨p, _, rfl⟩ := List.mem_map.mp hq
  rfl
theorem eqKV_iff {ka : List (Str × Str)} {kb : List (Str × Str)} : eqKV (kvsOf kb) (kvsOf ka) = true ↔ ∀ p ∈ ka, wordAt kb p.1 = some p.2 := by
  induction ka with
  | nil => exact ⟨fun _ p hp => (by cases hp), fun _ => rfl⟩
  | cons q r ih =>
    rw [show eqKV (kvsOf kb) (kvsOf (q :: r)) = ((match valV (kvsOf kb) (.inr q.1) with | none => false | some y => eqV (.str q.2) y) && eqKV (kvsOf kb) (kvsOf r)) from rfl, Bool.and_eq_true, ih, valV_kvs]
    constructor
    · rintro ⟨h1, h2⟩ p hp
      rcases List.mem_cons.mp hp with rfl | hp
      · cases e : wordAt kb p.1 with
        | none => rw [e] at h1; cases h1
        | some x =>
          rw [e] at h1
          have : (p.2 == x) = true := h1
          rw [beq_iff_eq.mp this]
      · exact h2 p hp
    · intro h
      refine ⟨?_, fun p hp => h p (List.mem_cons_of_mem _ hp)⟩
      rw [h q (List.mem_cons_self ..)]
      show (q.2 == q.2) = true
      simp
theorem perm_of_nodup : ∀ {l1 l2 : List Str}, l1.Nodup → (∀ x ∈ l1, x ∈ l2) → l2.length ≤ l1.length → l1.Perm l2
  | [], l2, _, _, h => by
    cases l2 with
    | nil => exact .nil
    | cons a r => exact absurd h (by simp)
  | x :: r, l2, hn, hs, hl => by
    have hx := hs x (List.mem_cons_self ..)
    have hz := List.pairwise_cons.mp hn
    have hp := List.perm_cons_erase hx
    refine (List.Perm.cons x (perm_of_nodup hz.2 (fun y hy => ?_) ?_)).trans hp.symm
    · exact (List.mem_erase_of_ne (fun e => hz.1 y hy e.symm)).mpr (hs y (List.mem_cons_of_mem _ hy))
    · have := hp.length_eq
      rw [List.length_cons] at this hl
      omega
/-- two tables in order are equal as dicts exactly if they are equal -/
theorem eqDict_iff {ka kb : List (Str × Str)} (na : (ka.map (·.1)).Nodup) (nb : (kb.map (·.1)).Nodup) (aa : Asc (ka.map (·.1))) (ab : Asc (kb.map (·.1))) : eqDictB (kvsOf ka) (kvsOf kb) = true ↔ ka = kb := by
  unfold eqDictB
  rw [Bool.and_eq_true, eqKV_iff, beq_iff_eq, kvsOf_len, kvsOf_len]
  constructor
  · rintro ⟨hl, h⟩
    have hsub : ∀ n ∈ ka.map (·.1), n ∈ kb.map (·.1) := fun n hn => by
      obtain ⟨p, hp, rfl⟩ := List.mem_map.mp hn
      exact List.mem_map_of_mem (f := (·.1)) (wordAt_some (h p hp))
    have hperm : (ka.map (·.1)).Perm (kb.map (·.1)) := perm_of_nodup na hsub (by rw [List.length_map, List.length_map]; omega)
    have e1 := asc_unique hperm aa ab
    refine List.ext_getElem hl fun i h1 h2 => ?_
    have ek : ka[i].1 = kb[i].1 := by
      have := congrArg (fun l => l[i]?) e1
      simp only [List.getElem?_map, List.getElem?_eq_getElem h1, List.getElem?_eq_getElem h2, Option.map_some, Option.some.injEq] at this
      exact this
    have h3 := h ka[i] (List.getElem_mem h1)
    have h4 := wordAt_nodup nb (List.getElem_mem h2)
    rw [ek, h4] at h3
    exact Prod.ext ek (Option.some.inj h3).symm
  · rintro rfl
    exact ⟨rfl, fun p hp => wordAt_nodup na hp⟩
theorem upd_comm {H : Hp} {a b : Addr} {x y : HO} (h : a ≠ b) : L2.upd (L2.upd H a x) b y = L2.upd (L2.upd H b y) a x := by
  funext c
  by_cases ha : c = a
  · subst ha
    rw [upd_ne h, upd_same, upd_same]
  · by_cases hb : c = b
    · subst hb
      rw [upd_same, upd_ne ha, upd_same]
    · rw [upd_ne hb, upd_ne ha, upd_ne ha, upd_ne hb]
theorem seqIndex_nat {n k : Nat} (h : k < n) : seqIndex? (k : Int) n = some k := by
  unfold seqIndex?
  first
    | (simp; omega)
    | (simp [h])
theorem eraseIdx_perm {α : Type} : ∀ {l : List α} {k : Nat} {x : α}, l[k]? = some x → l.Perm (x :: l.eraseIdx k)
  | [], k, x, h => by simp at h
  | a :: r, 0, x, h => by
    simp at h
    subst h
    exact .refl _
  | a :: r, k + 1, x, h => by
    simp at h
    exact (List.Perm.cons a (eraseIdx_perm h)).trans (List.Perm.swap x a _)
theorem map_eraseIdx {α β : Type} (f : α → β) : ∀ (l : List α) (k : Nat), (l.map f).eraseIdx k = (l.eraseIdx k).map f
  | [], _ => rfl
  | a :: r, 0 => rfl
  | a :: r, k + 1 => by
    show f a :: (r.map f).eraseIdx k = _
    rw [map_eraseIdx f r k]
    rfl
theorem Paired.imp {α β : Type} {F F' : α → β → Prop} (h : ∀ a b, F a b → F' a b) : ∀ {l₁ : List α} {l₂ : List β}, Paired F l₁ l₂ → Paired F' l₁ l₂
  | _, _, .nil => .nil
  | _, _, .cons a t => .cons (h _ _ a) (Paired.imp h t)
/-- [(a(i), b(i)) for i in range(lo, lo + n)], nothing else changed -/
theorem lc_rangePairs {lo : Int} {n j : Nat} {te : TE} {σ : L2.St} {H1 : Hp} {D : Addr} {Qd : Hp → Prop} (f : Nat → Key × V) (hD : H1 D = none) (hn : n < 16777216)
    (he : ∀ i, i < n → ∀ (H' : Hp) (Q' : VK), Same H1 H' → (∀ T, H' T = none → Q' (.ref T) (L2.upd H' T (.tup [kV (f i).1, (f i).2]))) → te ((wipe σ [j]).set j (some (.int (lo + i)))) H' Q')
    (hd : ∀ H' (ps : List Addr), Same H1 H' → H' D = some (.lst (ps.map V.ref)) → Paired (fun p kv => H' p = some (.tup [kV kv.1, kv.2])) ps ((List.range n).map f) → Qd H') :
    LcG (Itr lo n) (gName j) tYes te [j] σ H1 D Qd := by
  refine lc_rangeI (fun i acc H => ∃ ps : List Addr, acc = ps.map V.ref ∧ Same H1 H ∧ Paired (fun p kv => H p = some (.tup [kV kv.1, kv.2])) ps ((List.range i).map f))
    ⟨[], rfl, same_new (Same.refl _) hD, .nil⟩ hn ?_ ?_
  · rintro i acc H Q' hi hl hDa ⟨ps, rfl, s, hp⟩ k
    refine he i hi H Q' s fun T hT => ?_
    have hDT : D ≠ T := fun e => by rw [e, hT] at hDa; cases hDa
    refine k _ _ (by rw [upd_ne hDT]; exact hDa) ⟨ps ++ [T], by rw [List.map_append]; rfl, same_mut (same_new s (s.free hT)) hD, ?_⟩
    rw [List.range_succ, List.map_append]
    refine Paired.snoc (Paired.imp (fun p kv e => ?_) hp) ?_
    · have h1 : p ≠ T := fun z => by rw [z, hT] at e; cases e
      have h2 : p ≠ D := fun z => by rw [z, hDa] at e; cases e
      rw [upd_ne h2, upd_ne h1]
      exact e
    · rw [upd_ne (Ne.symm hDT), upd_same]
  · rintro acc H hl hDa ⟨ps, rfl, s, hp⟩
    exact hd H ps s hDa hp
theorem cutV_nat (xs : List V) (i j : Nat) : cutV xs (some (i : Int)) (some (j : Int)) = (xs.drop i).take (j - i) := by
  unfold cutV
  rw [HT.sIx_nat, HT.sIx_nat]
  by_cases h : i ≤ xs.length
  · rw [Nat.min_eq_left h, List.take_eq_take_iff, List.length_drop]
    omega
  · rw [List.drop_eq_nil_of_le (by omega), List.drop_eq_nil_of_le (by omega)]
    simp
theorem newS {H : Hp} {l : Addr} {o : HO} (h : H l = none) : Same H (L2.upd H l o) := same_new (Same.refl _) h
theorem map_range_get {α : Type} (d : α) (l : List α) (t : Nat) (h : t ≤ l.length) : (List.range t).map (fun i => (l[i]?).getD d) = l.take t := by
  refine List.ext_getElem (by rw [List.length_map, List.length_range, List.length_take]; omega) fun i h1 h2 => ?_
  rw [List.length_map, List.length_range] at h1
  rw [List.getElem_map, List.getElem_range, List.getElem_take, List.getElem?_eq_getElem (by omega)]
  rfl
theorem pf_sub {xs ys : List Str} (h : PF ys) (s : xs.Sublist ys) : PF xs := List.Pairwise.sublist s h
def zipW (ns fs : List Str) (t : Nat) : List (Str × Str) := (List.range t).map fun i => ((ns[i]?).getD ("" : Str), (fs[i]?).getD ("" : Str))
theorem zipW_1 (ns fs : List Str) {t : Nat} (h : t ≤ ns.length) : (zipW ns fs t).map (·.1) = ns.take t := by
  unfold zipW
  rw [List.map_map]
  exact map_range_get ("" : Str) ns t h
theorem zipW_2 (ns fs : List Str) {t : Nat} (h : t ≤ fs.length) : (zipW ns fs t).map (·.2) = fs.take t := by
  unfold zipW
  rw [List.map_map]
  exact map_range_get ("" : Str) fs t h
theorem zipW_len (ns fs : List Str) (t : Nat) : (zipW ns fs t).length = t := by unfold zipW; rw [List.length_map, List.length_range]
theorem zipW_kvs (ns fs : List Str) (t : Nat) : ((List.range t).map fun i => ((Sum.inr ((ns[i]?).getD ("" : Str)) : Key), V.str ((fs[i]?).getD ("" : Str)))) = kvsOf (zipW ns fs t) := by
  unfold kvsOf zipW
  rw [List.map_map]
  rfl
/-- [(a(x), b(x)) for x in xs], nothing else changed -/
theorem lc_listPairs {K : PySem.W.Frag} {a : Addr} {xs : List V} {j : Nat} {te : TE} {σ : L2.St} {H1 : Hp} {D : Addr} {Qd : Hp → Prop} (f : V → Key × V) (hS : SqL K H1 a xs) (hD : H1 D = none) (hx : xs.length < 16777216)
    (he : ∀ x ∈ xs, ∀ (H' : Hp) (Q' : VK), Same H1 H' → (∀ T, H' T = none → Q' (.ref T) (L2.upd H' T (.tup [kV (f x).1, (f x).2]))) → te ((wipe σ [j]).set j (some x)) H' Q')
    (hd : ∀ H' (ps : List Addr), Same H1 H' → H' D = some (.lst (ps.map V.ref)) → Paired (fun p kv => H' p = some (.tup [kV kv.1, kv.2])) ps (xs.map f) → Qd H') :
    LcG (Itl K a) (gName j) tYes te [j] σ H1 D Qd := by
  refine lc_it walk_list (fun i H => Same H1 H ∧ ∃ ps : List Addr, H D = some (.lst (ps.map V.ref)) ∧ ps.length ≤ i ∧ Paired (fun p kv => H p = some (.tup [kV kv.1, kv.2])) ps ((xs.take i).map f))
    ⟨same_new (Same.refl _) hD, [], upd_same, Nat.le_refl _, .nil⟩ (fun i H _ h => Same.seq h.1 hS) ?_ (fun H ⟨s, ps, hDp, _, hp⟩ => hd H ps s hDp (by rw [List.take_length] at hp; exact hp))
  rintro i x H H' hi ⟨s, ps, hDp, hpl, hp⟩ ⟨rfl, e⟩
  refine ⟨wipe_set1 _ _ _, ?_⟩
  refine he x (List.mem_of_getElem? e) _ _ s fun T hT => ?_
  have hDT : D ≠ T := fun z => by rw [z, hT] at hDp; cases hDp
  refine ⟨ps.map V.ref, by rw [upd_ne hDT]; exact hDp, by rw [List.length_map]; exact Nat.lt_of_lt_of_le (show ps.length < 16777216 by omega) (by decide), same_mut (same_new s (s.free hT)) hD, ps ++ [T], ?_, by rw [List.length_append]; simp; omega, ?_⟩
  · rw [upd_same, List.map_append]
    rfl
  · rw [take_snoc e, List.map_append]
    refine Paired.snoc (Paired.imp (fun p kv z => ?_) hp) ?_
    · have h1 : p ≠ T := fun w => by rw [w, hT] at z; cases z
      have h2 : p ≠ D := fun w => by rw [w, hDp] at z; cases z
      rw [upd_ne h2, upd_ne h1]
      exact z
    · rw [upd_ne (Ne.symm hDT), upd_same]
/-! ### what repr shows -/
def dD (ws : List (Str × Str)) : PyData := .dict (ws.map fun p => (.str p.1, .str p.2))
def Small (x : Str) : Prop := x.length ≤ 100 ∧ ∀ c ∈ TL.tl x, c < 1000
theorem repr_small {x : Str} (h : Small x) : (reprText x).length ≤ 1002 := by
  have h1 := StrLaws.reprText_len x (fun c hc => Nat.lt_of_lt_of_le (h.2 c hc) (by decide))
  have h2 := h.1
  omega
theorem join_le {B : Nat} : ∀ {ts : List Str}, (∀ t ∈ ts, t.length ≤ B) → (Str.join ", " ts).length ≤ ts.length * (B + 2)
  | [], _ => Nat.zero_le _
  | [x], h => by
    have h1 := h x (List.mem_cons_self ..)
    show x.length ≤ 1 * (B + 2)
    omega
  | x :: y :: r, h => by
    have ih := join_le (B := B) (ts := y :: r) fun t m => h t (List.mem_cons_of_mem _ m)
    have h1 := h x (List.mem_cons_self ..)
    show (x ++ ", " ++ Str.join ", " (y :: r)).length ≤ _
    have e2 : ((", " : String) : Str).length = 2 := rfl
    rw [strLen_append, strLen_append, e2, show (x :: y :: r).length = (y :: r).length + 1 from rfl, Nat.add_mul]
    omega
theorem shownKv_strs (ws : List (Str × Str)) : PyData.shownKv (ws.map fun p => (PyData.str p.1, PyData.str p.2)) = ws.map fun p => reprText p.1 ++ ": " ++ reprText p.2 := by
  induction ws with
  | nil => rw [List.map_nil, PyData.shownKv]; rfl
  | cons p r ih => rw [List.map_cons, PyData.shownKv, ih, PyData.shown, PyData.shown]; rfl
theorem shownAll_strs (xs : List Str) : PyData.shownAll (xs.map PyData.str) = xs.map reprText := by
  induction xs with
  | nil => rw [List.map_nil, PyData.shownAll]; rfl
  | cons p r ih => rw [List.map_cons, PyData.shownAll, ih, PyData.shown]; rfl
theorem dD_shown {ws : List (Str × Str)} (h : ∀ p ∈ ws, Small p.1 ∧ Small p.2) (hl : ws.length ≤ 100) : (dD ws).shown.length ≤ sizeLine := by
  unfold dD
  rw [PyData.shown, shownKv_strs]
  unfold dictText
  rw [strLen_append, strLen_append]
  have hj := join_le (B := 2006) (ts := ws.map fun p => reprText p.1 ++ ": " ++ reprText p.2) fun t ht => by
    obtain ⟨p, hp, rfl⟩ := List.mem_map.mp ht
    have h1 := repr_small (h p hp).1
    have h2 := repr_small (h p hp).2
    have e2 : ((": " : String) : Str).length = 2 := rfl
    rw [strLen_append, strLen_append, e2]
    omega
  rw [List.length_map] at hj
  have e1 : (("{" : String) : Str).length = 1 := rfl
  have e3 : (("}" : String) : Str).length = 1 := rfl
  rw [e1, e3]
  refine sz_le (m := 300000) ?_ rfl
  have : ws.length * (2006 + 2) ≤ 100 * (2006 + 2) := Nat.mul_le_mul_right _ hl
  omega
theorem tup_shown {xs : List Str} (h : ∀ p ∈ xs, Small p) (hl : xs.length ≤ 100) : (PyData.tuple (xs.map PyData.str)).shown.length ≤ sizeLine := by
  rw [PyData.shown, shownAll_strs]
  unfold tupleText
  rw [strLen_append, strLen_append]
  have hj := join_le (B := 1002) (ts := xs.map reprText) fun t ht => by
    obtain ⟨p, hp, rfl⟩ := List.mem_map.mp ht
    exact repr_small (h p hp)
  rw [List.length_map] at hj
  have e1 : (("(" : String) : Str).length = 1 := rfl
  have e3 : ((if (xs.map reprText).length == 1 then ",)" else ")" : String) : Str).length ≤ 2 := by split <;> decide
  rw [e1]
  refine sz_le (m := 300000) ?_ rfl
  have : xs.length * (1002 + 2) ≤ 100 * (1002 + 2) := Nat.mul_le_mul_right _ hl
  omega
theorem dD_showable (ws : List (Str × Str)) : (dD ws).showable = true := by
  unfold dD
  rw [PyData.showable]
  induction ws with
  | nil => rw [List.map_nil, PyData.showableKv]
  | cons p r ih => rw [List.map_cons, PyData.showableKv, ih, PyData.showable, PyData.showable]; rfl
theorem tup_showable (xs : List Str) : (PyData.tuple (xs.map PyData.str)).showable = true := by
  rw [PyData.showable]
  induction xs with
  | nil => rw [List.map_nil, PyData.showableAll]
  | cons p r ih => rw [List.map_cons, PyData.showableAll, ih, PyData.showable]; rfl
theorem dD_depth (ws : List (Str × Str)) : (dD ws).depth ≤ 8 := by
  unfold dD
  rw [PyData.depth]
  have : PyData.depthKv (ws.map fun p => (PyData.str p.1, PyData.str p.2)) = 0 := by
    induction ws with
    | nil => rw [List.map_nil, PyData.depthKv]
    | cons p r ih => rw [List.map_cons, PyData.depthKv, ih, PyData.depth, PyData.depth]; rfl
  rw [this]
  decide
theorem tup_depth (xs : List Str) : (PyData.tuple (xs.map PyData.str)).depth ≤ 8 := by
  rw [PyData.depth, depth_strs]
  decide
theorem dpS_dict {K : PySem.W.Frag} {H : Hp} {a : Addr} {ws : List (Str × Str)} (h : H a = some (.dK (kvsOf ws))) : DpS K H (.ref a) (dD ws) := .inr ⟨a, kvsOf ws, rfl, .inl h, fun q hq => by
  obtain ⟨p, _, rfl⟩ := List.mem_map.mp hq
  rfl, by unfold dD kvsOf; rw [List.map_map]; rfl⟩
theorem dpS_tup {K : PySem.W.Frag} {H : Hp} {a : Addr} {xs : List Str} (h : SqT K H a (xs.map V.str)) : DpS K H (.ref a) (.tuple (xs.map PyData.str)) := .inl (.tup h (dpAll_strs xs))
theorem PenG.set {G H : Hp} {p D : Addr} {n : Nat} {o o' : HO} (h : PenG G H p n) (hD : G D = some o) : PenG (L2.upd G D o') (L2.upd H D o') p n := by
  have e : L2.upd G D o = G := by
    funext a
    by_cases ha : a = D
    · subst ha
      rw [upd_same, hD]
    · rw [upd_ne ha]
  rw [← e] at h
  exact h.put
/-- [f(x) for x in xs], new objects may be made -/
theorem lc_listN {K : PySem.W.Frag} {a : Addr} {xs : List V} {j : Nat} {te : TE} {σ : L2.St} {H1 : Hp} {D : Addr} {Qd : Hp → Prop} (f : V → V) (hS : SqL K H1 a xs) (hD : H1 D = none) (hx : xs.length < 16777216)
    (he : ∀ x ∈ xs, ∀ (H' : Hp) (Q' : VK), Same H1 H' → (∀ H'', Same H' H'' → Q' (f x) H'') → te ((wipe σ [j]).set j (some x)) H' Q') (hd : ∀ H', Same H1 H' → H' D = some (.lst (xs.map f)) → Qd H') :
    LcG (Itl K a) (gName j) tYes te [j] σ H1 D Qd := by
  refine lc_it walk_list (fun n H => Same H1 H ∧ H D = some (.lst ((xs.take n).map f))) ⟨same_new (Same.refl _) hD, upd_same⟩ (fun n H _ h => Same.seq h.1 hS) ?_ (fun H h => hd H h.1 (by rw [h.2, List.take_length]))
  rintro n x H H' hn ⟨s, hDn⟩ ⟨rfl, e⟩
  refine ⟨wipe_set1 _ _ _, ?_⟩
  refine he x (List.mem_of_getElem? e) _ _ s fun H'' s2 => ⟨_, s2 _ _ hDn, ?_, same_new (Same.trans s s2) hD, ?_⟩
  · rw [List.length_map, List.length_take]
    exact Nat.lt_of_lt_of_le (show min n xs.length < 16777216 by omega) (by decide)
  · rw [upd_same, take_snoc e, List.map_append]
    rfl
theorem ints3_shown {a b c : Int} (a0 : 0 ≤ a) (a1 : a < 10) (b0 : 0 ≤ b) (b1 : b < 10) (c0 : 0 ≤ c) (c1 : c < 10) : (PyData.tuple [.int a, .int b, .int c]).shown.length ≤ sizeLine := by
  have e : (PyData.tuple [.int a, .int b, .int c]).shown = tupleText [Str.ofString (toString a), Str.ofString (toString b), Str.ofString (toString c)] := by
    rw [PyData.shown, PyData.shownAll, PyData.shownAll, PyData.shownAll, PyData.shownAll, PyData.shown, PyData.shown, PyData.shown]
  rw [e]
  unfold tupleText
  rw [strLen_append, strLen_append]
  have hj := join_le (B := 1) (ts := [Str.ofString (toString a), Str.ofString (toString b), Str.ofString (toString c)]) fun t ht => by
    simp only [List.mem_cons, List.not_mem_nil, or_false] at ht
    rcases ht with rfl | rfl | rfl
    · rw [digit_len a0 a1]; decide
    · rw [digit_len b0 b1]; decide
    · rw [digit_len c0 c1]; decide
  have e1 : (("(" : String) : Str).length = 1 := rfl
  have e3 : ((if ([Str.ofString (toString a), Str.ofString (toString b), Str.ofString (toString c)]).length == 1 then ",)" else ")" : String) : Str).length ≤ 2 := by split <;> decide
  rw [e1]
  refine sz_le (m := 300) ?_ rfl
  have e4 : ([Str.ofString (toString a), Str.ofString (toString b), Str.ofString (toString c)]).length * (1 + 2) = 9 := rfl
  omega
theorem ints3_showable {a b c : Int} (a0 : 0 ≤ a) (a1 : a < 10) (b0 : 0 ≤ b) (b1 : b < 10) (c0 : 0 ≤ c) (c1 : c < 10) : (PyData.tuple [.int a, .int b, .int c]).showable = true := by
  rw [PyData.showable, PyData.showableAll, PyData.showableAll, PyData.showableAll, PyData.showableAll, PyData.showable, PyData.showable, PyData.showable, decide_eq_true (log_small a0 a1), decide_eq_true (log_small b0 b1), decide_eq_true (log_small c0 c1)]
  rfl
theorem ints3_depth (a b c : Int) : (PyData.tuple [.int a, .int b, .int c]).depth ≤ 8 := by
  rw [PyData.depth, PyData.depthAll, PyData.depthAll, PyData.depthAll, PyData.depthAll, PyData.depth, PyData.depth, PyData.depth]
  decide
theorem ne_self (v : V) : (!decide (v = v)) = false := by simp
theorem eqBook_self {D : BD} (h : (D.ws.map (·.1)).Nodup) : eqBook D D = true := by
  have e : eqDictB (kvsOf D.ws) (kvsOf D.ws) = true := by
    unfold eqDictB
    rw [Bool.and_eq_true, eqKV_iff]
    exact ⟨by simp, fun p hp => wordAt_nodup h hp⟩
  unfold eqBook
  rw [e]
  simp
theorem zip_snd {α β : Type} : ∀ (xs : List α) (ys : List β), (xs.zip ys).map (·.2) = ys.take xs.length
  | [], ys => by rw [List.zip_nil_left]; rfl
  | _ :: _, [] => by rw [List.zip_nil_right]; rfl
  | x :: xs, y :: ys => by
    rw [List.zip_cons_cons, List.map_cons, zip_snd xs ys]
    rfl
theorem zip_fst {α β : Type} : ∀ (xs : List α) (ys : List β), xs.length ≤ ys.length → (xs.zip ys).map (·.1) = xs
  | [], ys, _ => by rw [List.zip_nil_left]; rfl
  | _ :: _, [], h => by simp at h
  | x :: xs, y :: ys, h => by
    rw [List.zip_cons_cons, List.map_cons, zip_fst xs ys (by simpa using h)]
/-- [f(k) for k in d], nothing changed -/
theorem lc_keysF {d : Addr} {o : Obj} {kvs : List (Key × V)} {j : Nat} {te : TE} {σ : L2.St} {H1 : Hp} {D : Addr} {Qd : Hp → Prop} (f : Key × V → V) (hS : H1 d = some (.frz o (.dK kvs))) (hD : H1 D = none) (hx : kvs.length < 16777216)
    (he : ∀ q ∈ kvs, ∀ (H' : Hp) (Q' : VK), Same H1 H' → Q' (f q) H' → te ((wipe σ [j]).set j (some (kV q.1))) H' Q') (hd : Qd (L2.upd H1 D (.lst (kvs.map f)))) :
    LcG (Itk d o kvs) (gName j) tYes te [j] σ H1 D Qd := by
  refine lc_it walk_keys (fun i H => H = L2.upd H1 D (.lst ((kvs.take i).map f))) rfl (fun i H _ e => by rw [e]; exact same_new (Same.refl _) hD _ _ hS) ?_ (fun H e => by rw [e, List.take_length]; exact hd)
  rintro i x H H' hi rfl ⟨rfl, k, v, e, rfl⟩
  refine ⟨wipe_set1 _ _ _, ?_⟩
  refine he (k, v) (List.mem_of_getElem? e) _ _ (same_new (Same.refl _) hD) ⟨_, upd_same, ?_, ?_⟩
  · rw [List.length_map, List.length_take]
    exact Nat.lt_of_lt_of_le (show min i kvs.length < 16777216 by omega) (by decide)
  · rw [upd_upd, take_snoc e, List.map_append]
    rfl
/-- [f(x) for x in xs], xs a tuple, nothing changed -/
theorem lc_tupF {K : PySem.W.Frag} {a : Addr} {xs : List V} {j : Nat} {te : TE} {σ : L2.St} {H1 : Hp} {D : Addr} {Qd : Hp → Prop} (f : V → V) (hS : SqT K H1 a xs) (hD : H1 D = none) (hx : xs.length < 16777216)
    (he : ∀ x ∈ xs, ∀ (H' : Hp) (Q' : VK), Same H1 H' → Q' (f x) H' → te ((wipe σ [j]).set j (some x)) H' Q') (hd : Qd (L2.upd H1 D (.lst (xs.map f)))) :
    LcG (Itt K a) (gName j) tYes te [j] σ H1 D Qd := by
  refine lc_it walk_tup (fun i H => H = L2.upd H1 D (.lst ((xs.take i).map f))) rfl (fun i H _ e => by rw [e]; exact same_seqT (same_new (Same.refl _) hD) hS) ?_ (fun H e => by rw [e, List.take_length]; exact hd)
  rintro i x H H' hi rfl ⟨rfl, e⟩
  refine ⟨wipe_set1 _ _ _, ?_⟩
  refine he x (List.mem_of_getElem? e) _ _ (same_new (Same.refl _) hD) ⟨_, upd_same, ?_, ?_⟩
  · rw [List.length_map, List.length_take]
    exact Nat.lt_of_lt_of_le (show min i xs.length < 16777216 by omega) (by decide)
  · rw [upd_upd, take_snoc e, List.map_append]
    rfl
theorem DGet.f {H : Hp} {a : Addr} {o : Obj} {kvs : List (Key × V)} {k : Key} (e : H a = some (.frz o (.dK kvs))) : DGet H a (kV k) (valV kvs k) := .inl ⟨kvs, k, .inr ⟨o, e⟩, rfl, rfl⟩
theorem sum_le {B : Nat} : ∀ {xs : List Str}, (∀ x ∈ xs, x.length ≤ B) → (xs.map (·.length)).sum ≤ xs.length * B
  | [], _ => Nat.zero_le _
  | x :: r, h => by
    have ih := sum_le (B := B) (xs := r) fun z hz => h z (List.mem_cons_of_mem _ hz)
    have h1 := h x (List.mem_cons_self ..)
    rw [List.map_cons, List.sum_cons, List.length_cons, Nat.add_mul]
    omega
theorem mem_join (sep : Str) : ∀ {xs : List Str} {c : Nat}, c ∈ TL.tl (Str.join sep xs) → c ∈ TL.tl sep ∨ ∃ x ∈ xs, c ∈ TL.tl x
  | [], c, h => by
    have h' : c ∈ ([] : List Nat) := h
    cases h'
  | [x], c, h => .inr ⟨x, List.mem_cons_self .., h⟩
  | x :: y :: r, c, h => by
    have h' : c ∈ TL.tl (x ++ sep ++ Str.join sep (y :: r)) := h
    rw [TL.tl_append, TL.tl_append] at h'
    rcases List.mem_append.mp h' with h' | h'
    · rcases List.mem_append.mp h' with h' | h'
      · exact .inr ⟨x, List.mem_cons_self .., h'⟩
      · exact .inl h'
    · rcases mem_join sep (xs := y :: r) h' with h' | ⟨z, hz, h'⟩
      · exact .inl h'
      · exact .inr ⟨z, List.mem_cons_of_mem _ hz, h'⟩
theorem len_join_le' (sep : Str) : ∀ xs : List Str, (Str.join sep xs).length ≤ (xs.map (·.length)).sum + xs.length * sep.length
  | [] => Nat.zero_le _
  | [x] => by
    show x.length ≤ _
    simp
  | x :: y :: r => by
    have ih := len_join_le' sep (y :: r)
    show (x ++ sep ++ Str.join sep (y :: r)).length ≤ _
    rw [strLen_append, strLen_append, List.map_cons, List.sum_cons, show (x :: y :: r).length = (y :: r).length + 1 from rfl, Nat.add_mul]
    omega
theorem dpS_txt {K : PySem.W.Frag} {H : Hp} (x : Str) : DpS K H (.str x) (.str x) := .inl (.str x)
theorem txt_showable (x : Str) : (PyData.str x).showable = true := by rw [PyData.showable]
theorem txt_depth (x : Str) : (PyData.str x).depth ≤ 8 := by rw [PyData.depth]; decide
theorem txt_shown {x : Str} (hl : x.length ≤ 100000) (hc : ∀ c ∈ TL.tl x, c < 1000) : (PyData.str x).shown.length ≤ sizeLine := by
  rw [PyData.shown]
  have h1 := StrLaws.reprText_len x (fun c h => Nat.lt_of_lt_of_le (hc c h) (by decide))
  exact sz_le (m := 2000000) (by omega) rfl
theorem srt_eq {xs ys : List Str} (p : ys.Perm xs) (h : Asc ys) : srt xs = ys := asc_unique ((srt_perm xs).trans p.symm) (srt_asc xs) h
end KC
namespace KC
open PySem PySem.Spec PyProof.Rows L2
/-! ### list(zip(a, b)) of two lists -/
section
variable {prog : Program} {w : World} {A : Around} {E : Value → Shared → Prop} {s : Shared} {z TI TO i1 i2 l1 l2 S : Addr} {xs ys : Array Value}
/-- the zip has given k pairs; all of them are still held -/
def ZSt (h : Heap) (z TI TO i1 i2 l1 l2 S : Addr) (xs ys : Array Value) (k : Nat) : Prop :=
  IsPair h TI (.ref i1) (.ref i2) ∧ h.IsListIter i1 l1 k ∧ h.IsListIter i2 l2 k ∧ h.IsList l1 xs ∧ h.IsList l2 ys ∧
  ((IsZip h z TI TO .none ∧ ∃ a b, IsPair h TO a b) ∨ ∃ (T : Addr) (f : Bool) (oT : Obj), IsZipHeld h z TI TO T f ∧ h.get? T = some oT ∧ T ≠ z ∧ T ≠ i1 ∧ T ≠ i2 ∧ T ≠ S)
theorem ZSt.keep {h h' : Heap} {k : Nat} (st : ZSt h z TI TO i1 i2 l1 l2 S xs ys k) (nS : S ≠ TI ∧ S ≠ i1 ∧ S ≠ i2 ∧ S ≠ l1 ∧ S ≠ l2 ∧ S ≠ z ∧ S ≠ TO) (hk : ∀ b o, b ≠ S → h.get? b = some o → h'.get? b = some o) : ZSt h' z TI TO i1 i2 l1 l2 S xs ys k := by
  obtain ⟨hTI, h1, h2, hl1, hl2, hz⟩ := st
  obtain ⟨n1, n2, n3, n4, n5, n6, n7⟩ := nS
  refine ⟨hk _ _ (Ne.symm n1) hTI, h1.at fun o e => hk _ o (Ne.symm n2) e, h2.at fun o e => hk _ o (Ne.symm n3) e, hl1.at fun o e => hk _ o (Ne.symm n4) e, hl2.at fun o e => hk _ o (Ne.symm n5) e, ?_⟩
  rcases hz with ⟨hz, a, b, hTO⟩ | ⟨T, f, oT, hz, hT, r1, r2, r3, r4⟩
  · exact .inl ⟨hk _ _ (Ne.symm n6) hz, a, b, hk _ _ (Ne.symm n7) hTO⟩
  · exact .inr ⟨T, f, oT, hk _ _ (Ne.symm n6) hz, hk _ _ r4 hT, r1, r2, r3, r4⟩
theorem zip_take {k : Nat} {x y : Value} {Q : Option Value → Shared → Prop} (D : ZipApart z TI TO i1 i2 l1 l2) (hS : S < s.heap.objs.size) (st : ZSt s.heap z TI TO i1 i2 l1 l2 S xs ys k) (ex : xs[k]? = some x) (ey : ys[k]? = some y)
    (hQ : ∀ h', ZSt h' z TI TO i1 i2 l1 l2 S xs ys (k + 1) → IsPair h' s.heap.objs.size x y → h'.objs.size = s.heap.objs.size + 1 → (∀ c o, c ≠ z → c ≠ TO → c ≠ i1 → c ≠ i2 → s.heap.get? c = some o → h'.get? c = some o) → Q (some (.ref s.heap.objs.size)) { s with heap := h' }) :
    wpAny (model prog w) A (pyNext (.ref z)) Q E s := by
  obtain ⟨hTI, h1, h2, hl1, hl2, hz⟩ := st
  have lt : ∀ {c o}, s.heap.get? c = some o → s.heap.objs.size ≠ c := fun e => Nat.ne_of_gt (Heap.lt_size e)
  have n1 : s.heap.objs.size ≠ i1 := let ⟨_, e, _⟩ := h1; lt e
  have n2 : s.heap.objs.size ≠ i2 := let ⟨_, e, _⟩ := h2; lt e
  rcases hz with ⟨hz, a, b, hTO⟩ | ⟨T, f, oT, hz, hT, r1, r2, r3, r4⟩
  · refine wpAny_pyNext_zip_item D hz hTI hTO h1 h2 hl1 hl2 ex ey fun h' a1 a2 a3 a4 a5 a6 hk => ?_
    exact hQ h' ⟨hk _ _ D.TIz D.TITO D.TIi1 D.TIi2 hTI, a3, a4, hl1.at fun o e => hk _ o D.l1z D.l1TO D.l1i1 D.l1i2 e, hl2.at fun o e => hk _ o D.l2z D.l2TO D.l2i1 D.l2i2 e,
      .inr ⟨s.heap.objs.size, false, _, a1, a5, lt hz, n1, n2, Nat.ne_of_gt hS⟩⟩ a5 a6 hk
  · refine wpAny_pyNext_zip_item_held D hz hT hTI h1 h2 hl1 hl2 ex ey fun h' a1 a3 a4 a5 a6 hk => ?_
    exact hQ h' ⟨hk _ _ D.TIz D.TIi1 D.TIi2 hTI, a3, a4, hl1.at fun o e => hk _ o D.l1z D.l1i1 D.l1i2 e, hl2.at fun o e => hk _ o D.l2z D.l2i1 D.l2i2 e,
      .inr ⟨T, true, oT, a1, hk _ _ r1 r2 r3 hT, r1, r2, r3, r4⟩⟩ a5 a6 fun c o c1 _ c3 c4 e => hk c o c1 c3 c4 e
theorem zip_over {k : Nat} {Q : Option Value → Shared → Prop} (hh : A.handled = none) (D : ZipApart z TI TO i1 i2 l1 l2) (st : ZSt s.heap z TI TO i1 i2 l1 l2 S xs ys k) (hend : xs[k]? = none ∨ ys[k]? = none)
    (hQ : ∀ h', (∀ c o, c ≠ z → c ≠ TO → c ≠ i1 → c ≠ i2 → s.heap.get? c = some o → h'.get? c = some o) → Q none { s with heap := h' }) : wpAny (model prog w) A (pyNext (.ref z)) Q E s := by
  obtain ⟨hTI, h1, h2, hl1, hl2, hz⟩ := st
  rcases hz with ⟨hz, a, b, hTO⟩ | ⟨T, f, oT, hz, hT, r1, r2, r3, r4⟩
  · exact wpAny_pyNext_zip_end hh D hz hTI hTO h1 h2 hl1 hl2 hend fun h' hk => hQ h' hk
  · exact wpAny_pyNext_zip_end_held hh D hz hT hTI h1 h2 hl1 hl2 hend fun h' hk => hQ h' fun c o c1 _ c3 c4 e => hk c o c1 c3 c4 e
/-- the addresses as hold the pairs, in order; all lie above lo -/
structure ZipG (xs ys : Array Value) (lo : Addr) (h : Heap) (as : List Addr) : Prop where
  rise : as.Pairwise (· < ·)
  above : ∀ a ∈ as, lo < a
  pairs : ∀ (j : Nat) (a : Addr), as[j]? = some a → ∃ x y, xs[j]? = some x ∧ ys[j]? = some y ∧ IsPair h a x y
theorem ZipG.there {lo : Addr} {h : Heap} {as : List Addr} (g : ZipG xs ys lo h as) {a : Addr} (ha : a ∈ as) : a < h.objs.size := by
  obtain ⟨j, hj⟩ := List.mem_iff_getElem?.mp ha
  obtain ⟨_, _, _, _, e⟩ := g.pairs j a hj
  exact Heap.lt_size e
end
section
variable {prog : Program} {w : World} {A : Around} {s : Shared} {R : Result → Shared → Prop} {z TI TO i1 i2 l1 l2 S : Addr} {xs ys : Array Value}
theorem zip_loop (hh : A.handled = none) (D : ZipApart z TI TO i1 i2 l1 l2) (nS : S ≠ TI ∧ S ≠ i1 ∧ S ≠ i2 ∧ S ≠ l1 ∧ S ≠ l2 ∧ S ≠ z ∧ S ≠ TO) (hn : min xs.size ys.size ≤ 1000000) (res : Value) (lo : Addr) (hlo : z ≤ lo ∧ TO ≤ lo ∧ i1 ≤ lo ∧ i2 ≤ lo ∧ S ≤ lo) {h₁ : Heap}
    (hR : ∀ h' tk acc c as, (∀ b o, b ≠ S → b ≠ z → b ≠ TO → b ≠ i1 → b ≠ i2 → h₁.get? b = some o → h'.get? b = some o) → h'.get? S = some { cls := .type "list", dict := none, data := .seq acc c, slots := #[] } → as.length = min xs.size ys.size → ZipG xs ys lo h' as →
      acc.toList = as.map Value.ref → R (.ok (.ret res)) { s with heap := h', toks := tk }) :
    ∀ (k i : Nat) (h : Heap) (tk c : Nat) (acc : Array Value) (as : List Addr), min xs.size ys.size - i = k → i ≤ min xs.size ys.size → ZSt h z TI TO i1 i2 l1 l2 S xs ys i → (∀ b o, b ≠ S → b ≠ z → b ≠ TO → b ≠ i1 → b ≠ i2 → h₁.get? b = some o → h.get? b = some o) →
      h.get? S = some { cls := .type "list", dict := none, data := .seq acc c, slots := #[] } → acc.toList = as.map Value.ref → as.length = i → ZipG xs ys lo h as → lo < h.objs.size →
      codeAny (model prog w) A (.builtin "list.extend.loop" ⟨[.ref S, .ref z, res], []⟩) R { s with heap := h, toks := tk } := by
  have nz := nS.2.2.2.2.2.1
  intro k
  induction k with
  | zero =>
    intro i h tk c acc as hk hi hst hkeep hS hacc hal hG hIs
    have hin : i = min xs.size ys.size := by omega
    refine codeAny_builtin PySem.F.entry_extend_loop ?_
    rw [Around.under_plainId PySem.F.plain_extend_loop _]
    show wpAny _ A.in1 (pyNext (.ref z) >>= _) _ _ _
    have hend : xs[i]? = none ∨ ys[i]? = none := by
      rcases Nat.le_total xs.size ys.size with q | q
      · exact .inl (Array.getElem?_eq_none (by rw [hin, Nat.min_eq_left q]; exact Nat.le_refl _))
      · exact .inr (Array.getElem?_eq_none (by rw [hin, Nat.min_eq_right q]; exact Nat.le_refl _))
    refine wpAny_bind (zip_over (s := { s with heap := h, toks := tk }) (A := A.in1) (S := S) hh D hst hend fun h' he => ?_)
    refine wpAny_pure (hR h' tk acc c as (fun b o b0 b1 b2 b3 b4 e => he b o b1 b2 b3 b4 (hkeep b o b0 b1 b2 b3 b4 e)) (he S _ nz nS.2.2.2.2.2.2 nS.2.1 nS.2.2.1 hS) (by omega) ⟨hG.rise, hG.above, fun j a hj => ?_⟩ hacc)
    obtain ⟨x, y, ex, ey, e3⟩ := hG.pairs j a hj
    have ha := hG.above a (List.mem_of_getElem? hj)
    exact ⟨x, y, ex, ey, he a _ (Nat.ne_of_gt (Nat.lt_of_le_of_lt hlo.1 ha)) (Nat.ne_of_gt (Nat.lt_of_le_of_lt hlo.2.1 ha)) (Nat.ne_of_gt (Nat.lt_of_le_of_lt hlo.2.2.1 ha)) (Nat.ne_of_gt (Nat.lt_of_le_of_lt hlo.2.2.2.1 ha)) e3⟩
  | succ k ih =>
    intro i h tk c acc as hk hi hst hkeep hS hacc hal hG hIs
    have hlt : i < min xs.size ys.size := by omega
    have hsz : acc.size = i := by rw [← Array.length_toList, hacc, List.length_map, hal]
    have hix : i < xs.size := Nat.lt_of_lt_of_le hlt (Nat.min_le_left ..)
    have hiy : i < ys.size := Nat.lt_of_lt_of_le hlt (Nat.min_le_right ..)
    refine codeAny_builtin PySem.F.entry_extend_loop ?_
    rw [Around.under_plainId PySem.F.plain_extend_loop _]
    show wpAny _ A.in1 (pyNext (.ref z) >>= _) _ _ _
    refine wpAny_bind (zip_take (s := { s with heap := h, toks := tk }) (S := S) D (Heap.lt_size hS) hst (Array.getElem?_eq_getElem hix) (Array.getElem?_eq_getElem hiy) fun h' hst' ht hz hkp => ?_)
    dsimp only at ht hz hkp ⊢
    have hS' := hkp S _ nz nS.2.2.2.2.2.2 nS.2.1 nS.2.2.1 hS
    have up : ∀ b o, b ≠ S → h'.get? b = some o → (h'.update S (Obj.mapSeq (·.push (Value.ref h.objs.size)))).get? b = some o := fun b o hb e => (Heap.get?_update_other _ _ (Ne.symm hb)).trans e
    have hSl : S < h.objs.size := Heap.lt_size hS
    show wpAny _ A.in1 (updateSeq S (·.push (Value.ref h.objs.size)) >>= _) _ _ _
    refine wpAny_bind ?_
    refine wpAny_updateSeq hS' rfl (wpAny_pure ⟨plainId_quiet PySem.F.plain_extend_loop _, ih (i + 1) _ tk _ (acc.push (Value.ref h.objs.size)) (as ++ [h.objs.size]) (by omega) hlt (hst'.keep nS up)
      (fun b o b0 b1 b2 b3 b4 e => up b o b0 (hkp b o b1 b2 b3 b4 (hkeep b o b0 b1 b2 b3 b4 e))) (Heap.get?_update_self _ hS' rfl) (by rw [Array.toList_push, hacc, List.map_append]; rfl) (by rw [List.length_append, hal]; rfl) ⟨?_, ?_, ?_⟩ ?_⟩) (sz_le (m := 1000000) (by rw [hsz]; omega) rfl) (by show (acc.push _).size ≤ _; rw [Array.size_push, hsz]; exact Nat.le_succ_of_le (sz_le (m := 1000000) (by omega) rfl))
    · refine List.pairwise_append.mpr ⟨hG.rise, List.pairwise_singleton _ _, fun a ha b hb => ?_⟩
      rw [List.mem_singleton.mp hb]
      exact hG.there ha
    · intro a ha
      rcases List.mem_append.mp ha with ha | ha
      · exact hG.above a ha
      · rw [List.mem_singleton.mp ha]; exact hIs
    · intro j b hj
      rcases Nat.lt_trichotomy j as.length with q | q | q
      · rw [List.getElem?_append_left q] at hj
        obtain ⟨x, y, ex, ey, e3⟩ := hG.pairs j b hj
        have hb := hG.above b (List.mem_of_getElem? hj)
        exact ⟨x, y, ex, ey, up b _ (Nat.ne_of_gt (Nat.lt_of_le_of_lt hlo.2.2.2.2 hb)) (hkp b _ (Nat.ne_of_gt (Nat.lt_of_le_of_lt hlo.1 hb)) (Nat.ne_of_gt (Nat.lt_of_le_of_lt hlo.2.1 hb)) (Nat.ne_of_gt (Nat.lt_of_le_of_lt hlo.2.2.1 hb)) (Nat.ne_of_gt (Nat.lt_of_le_of_lt hlo.2.2.2.1 hb)) e3)⟩
      · subst q
        have hb : h.objs.size = b := by simpa using hj
        subst hb
        exact ⟨_, _, by rw [hal]; exact Array.getElem?_eq_getElem hix, by rw [hal]; exact Array.getElem?_eq_getElem hiy, up _ _ (Nat.ne_of_gt hSl) ht⟩
      · have hnone : (as ++ [h.objs.size])[j]? = none := List.getElem?_eq_none (by rw [List.length_append, List.length_singleton]; omega)
        rw [hnone] at hj; cases hj
    · have e : (h'.update S (Obj.mapSeq (·.push (Value.ref h.objs.size)))).get? h.objs.size = _ := up _ _ (Nat.ne_of_gt hSl) ht
      exact Nat.lt_trans hIs (Heap.lt_size e)
end
theorem zip_nolen : typeLookup (.type "zip") "__len__" = pure none := by rw [typeLookup_type, builtinLookup_eq_fast]; kernel_rfl
theorem zip_nohint : typeLookup (.type "zip") "__length_hint__" = pure none := by rw [typeLookup_type, builtinLookup_eq_fast]; kernel_rfl
section
variable {prog : Program} {w : World} {A : Around} {E : Value → Shared → Prop} {s : Shared} {z TI TO i1 i2 l1 l2 S : Addr} {xs ys : Array Value}
theorem zip_hint (hT : s.TypeIs (.ref z) "zip") {Q : Bool → Shared → Prop} (h : Q true s) : wpAny (model prog w) A (Builtin.List.listLengthHint (.ref z)) Q E s := by
  unfold Builtin.List.listLengthHint
  refine wpAny_bind (wpAny_specialOf hT zip_nolen ?_)
  dsimp only
  refine wpAny_ite_split (fun hab => absurd hab (by decide)) (fun _ => ?_)
  refine wpAny_ite_split (fun hab => absurd hab (by decide)) (fun _ => ?_)
  refine wpAny_bind (wpAny_specialOf hT zip_nohint ?_)
  exact wpAny_pure h
theorem zip_extend {R : Result → Shared → Prop} (hh : A.handled = none) (D : ZipApart z TI TO i1 i2 l1 l2) (nS : S ≠ TI ∧ S ≠ i1 ∧ S ≠ i2 ∧ S ≠ l1 ∧ S ≠ l2 ∧ S ≠ z ∧ S ≠ TO) (hn : min xs.size ys.size ≤ 1000000) (res : Value) (lo : Addr) (hlo : z ≤ lo ∧ TO ≤ lo ∧ i1 ≤ lo ∧ i2 ≤ lo ∧ S ≤ lo) (hsz : lo < s.heap.objs.size)
    (hz : IsZip s.heap z TI TO .none) (st : ZSt s.heap z TI TO i1 i2 l1 l2 S xs ys 0) (c₀ : Nat) (hS : s.heap.get? S = some { cls := .type "list", data := .seq #[] c₀ })
    (hR : ∀ h' tk acc c as, (∀ b o, b ≠ S → b ≠ z → b ≠ TO → b ≠ i1 → b ≠ i2 → s.heap.get? b = some o → h'.get? b = some o) → h'.get? S = some { cls := .type "list", dict := none, data := .seq acc c, slots := #[] } → as.length = min xs.size ys.size → ZipG xs ys lo h' as →
      acc.toList = as.map Value.ref → R (.ok (.ret res)) { s with heap := h', toks := tk }) :
    wpAny (model prog w) A.in1 (Builtin.List.listExtendWith (.ref S) (.ref z) res)
      (fun fin s' => match fin with | .done f => R (.ok f) s' | .again c' => c'.quiet = true ∧ codeAny (model prog w) A c' R s') (fun e s' => R (.error e) s') s := by
  unfold Builtin.List.listExtendWith
  have hT : s.TypeIs (.ref z) "zip" := ⟨_, hz, rfl⟩
  refine wpAny_bind (wpAny_typeOf hT ?_)
  have h1 : Builtin.List.listSameRef (.ref S) (.ref z) = false := by simp [Builtin.List.listSameRef, nS.2.2.2.2.2.1]
  have h2 : (Value.type "zip" == Value.type "list") = false := by decide
  have h3 : (Value.type "zip" == Value.type "tuple") = false := by decide
  simp only [h1, h2, h3, Bool.or_false, Bool.false_eq_true, if_false]
  refine wpAny_bind (wpAny_pyIter_zip hz ?_)
  refine wpAny_bind (wpAny_holding (zip_hint hT ?_))
  refine wpAny_ite_split (fun _ => ?_) (fun hab => absurd (by simp) hab)
  refine wpAny_bind (wpAny_rule ?_)
  refine wpAny_bind ?_
  show wpAny _ _ (updateSeq S (·.push .none) >>= fun _ => updateSeq S (·.pop)) _ _ _
  refine wpAny_bind (wpAny_updateSeq hS rfl ?_)
  have hS₂ := Heap.get?_update_self (Obj.mapSeq (·.push Value.none)) hS rfl
  refine wpAny_updateSeq (hz := by seq_fits) hS₂ rfl ?_
  have hS₃ := Heap.get?_update_self (Obj.mapSeq (·.pop)) hS₂ rfl
  have hk : ∀ b o, b ≠ S → s.heap.get? b = some o → ((s.heap.update S (Obj.mapSeq (·.push Value.none))).update S (Obj.mapSeq (·.pop))).get? b = some o := fun b o hb e => (Heap.get?_update_other _ _ (Ne.symm hb)).trans ((Heap.get?_update_other _ _ (Ne.symm hb)).trans e)
  refine wpAny_pure ⟨plainId_quiet PySem.F.plain_extend_loop _, ?_⟩
  refine zip_loop (s := s) (h₁ := s.heap) hh D nS hn res lo hlo hR (min xs.size ys.size) 0 _ _ _ #[] [] (Nat.sub_zero _) (Nat.zero_le _) (st.keep nS hk) (fun b o b0 _ _ _ _ e => hk b o b0 e) hS₃ rfl rfl ⟨.nil, (fun _ ha => nomatch ha), (fun j a hj => by simp at hj)⟩ ?_
  show lo < ((s.heap.update S _).update S _).objs.size
  rw [Heap.size_update, Heap.size_update]
  exact hsz
theorem zip_init {R : Result → Shared → Prop} (hh : A.handled = none) (D : ZipApart z TI TO i1 i2 l1 l2) (nS : S ≠ TI ∧ S ≠ i1 ∧ S ≠ i2 ∧ S ≠ l1 ∧ S ≠ l2 ∧ S ≠ z ∧ S ≠ TO) (hn : min xs.size ys.size ≤ 1000000) (hlo : z ≤ S ∧ TO ≤ S ∧ i1 ≤ S ∧ i2 ≤ S ∧ S ≤ S)
    (hz : IsZip s.heap z TI TO .none) (st : ZSt s.heap z TI TO i1 i2 l1 l2 S xs ys 0) (hS : s.heap.get? S = some { cls := .type "list", data := .seq #[] })
    (hR : ∀ h' tk acc c as, (∀ b o, b ≠ S → b ≠ z → b ≠ TO → b ≠ i1 → b ≠ i2 → s.heap.get? b = some o → h'.get? b = some o) → h'.get? S = some { cls := .type "list", dict := none, data := .seq acc c, slots := #[] } → as.length = min xs.size ys.size → ZipG xs ys S h' as →
      acc.toList = as.map Value.ref → R (.ok (.ret .none)) { s with heap := h', toks := tk }) :
    wpAny (model prog w) A.in1 (Builtin.«list.__init__» ⟨[.ref S, .ref z], []⟩)
      (fun fin s' => match fin with | .done f => R (.ok f) s' | .again c' => c'.quiet = true ∧ codeAny (model prog w) A c' R s') (fun e s' => R (.error e) s') s := by
  show wpAny _ _ (do let old ← Builtin.List.listItems (.ref S); Builtin.List.listUpdate (.ref S) (fun _ => #[]); letGo old.toList.reverse; Builtin.List.listExtendWith (.ref S) (.ref z) .none) _ _ s
  refine wpAny_bind ?_
  unfold Builtin.List.listItems
  refine wpAny_bind (wpAny_seqItems hS rfl (wpAny_pure ?_))
  show wpAny _ _ (updateSeq S (fun _ => #[]) >>= fun _ => letGo (#[] : Array Value).toList.reverse >>= fun _ => Builtin.List.listExtendWith (.ref S) (.ref z) .none) _ _ s
  refine wpAny_bind (wpAny_updateSeq hS rfl ?_)
  have hS₂ := Heap.get?_update_self (Obj.mapSeq (fun _ => (#[] : Array Value))) hS rfl
  have oth : ∀ b o, b ≠ S → s.heap.get? b = some o → (s.heap.update S (Obj.mapSeq (fun _ => (#[] : Array Value)))).get? b = some o :=
    fun b o hb e => (Heap.get?_update_other _ _ (Ne.symm hb)).trans e
  refine wpAny_bind (wpAny_letGo ?_)
  refine zip_extend (s := { s with heap := s.heap.update S (Obj.mapSeq (fun _ => (#[] : Array Value))) }) hh D nS hn .none S hlo (by show S < (s.heap.update S _).objs.size; rw [Heap.size_update]; exact Heap.lt_size hS) (oth _ _ (Ne.symm nS.2.2.2.2.2.1) hz) (st.keep nS oth) _ hS₂ (fun h' tk acc c as hk hS' hl hG hacc => ?_)
  exact hR h' tk acc c as (fun b o b0 b1 b2 b3 b4 e => hk b o b0 b1 b2 b3 b4 (oth b o b0 e)) hS' hl hG hacc
theorem zip_lcall {Q : Value → Shared → Prop} (hh : A.handled = none) (D : ZipApart z TI TO i1 i2 l1 l2) (hn : min xs.size ys.size ≤ 1000000)
    (hz : IsZip s.heap z TI TO .none) (hTI : IsPair s.heap TI (.ref i1) (.ref i2)) (hTO : ∃ a b, IsPair s.heap TO a b) (h1 : s.heap.IsListIter i1 l1 0) (h2 : s.heap.IsListIter i2 l2 0) (hl1 : s.heap.IsList l1 xs) (hl2 : s.heap.IsList l2 ys)
    (hQ : ∀ h' tk acc c as, (∀ b o, b ≠ z → b ≠ TO → b ≠ i1 → b ≠ i2 → s.heap.get? b = some o → h'.get? b = some o) → h'.get? s.heap.objs.size = some { cls := .type "list", dict := none, data := .seq acc c, slots := #[] } → as.length = min xs.size ys.size → ZipG xs ys s.heap.objs.size h' as →
      acc.toList = as.map Value.ref → Q (.ref s.heap.objs.size) { s with heap := h', toks := tk }) :
    wpAny (model prog w) A (call (.type "list") [.ref z]) Q E s := by
  refine callType_codes (Q₁ := fun obj s₁ => obj = .ref s.heap.objs.size ∧ s₁ = { s with heap := s.heap.push { cls := .type "list", data := .seq #[] } }) PySem.F.called_list (PySem.F.typeCall_list_1 _) PySem.F.entry_list_init
    (code_list_new _ ⟨rfl, rfl⟩) fun obj s₁ h₁ => ?_
  obtain ⟨rfl, rfl⟩ := h₁
  have hS : (s.heap.push { cls := .type "list", data := .seq #[] }).get? s.heap.objs.size = some { cls := .type "list", data := .seq #[] } := Heap.get?_push_size _ rfl
  obtain ⟨a, b, hTO⟩ := hTO
  have k : ∀ {b o}, s.heap.get? b = some o → (s.heap.push { cls := .type "list", data := .seq #[] }).get? b = some o := fun e => Heap.get?_push_of_some _ e
  have lt : ∀ {c o}, s.heap.get? c = some o → s.heap.objs.size ≠ c := fun e => Nat.ne_of_gt (Heap.lt_size e)
  have le : ∀ {c o}, s.heap.get? c = some o → c ≤ s.heap.objs.size := fun e => Nat.le_of_lt (Heap.lt_size e)
  have n1 : s.heap.objs.size ≠ i1 ∧ i1 ≤ s.heap.objs.size := let ⟨_, e, _⟩ := h1; ⟨lt e, le e⟩
  have n2 : s.heap.objs.size ≠ i2 ∧ i2 ≤ s.heap.objs.size := let ⟨_, e, _⟩ := h2; ⟨lt e, le e⟩
  have n3 : s.heap.objs.size ≠ l1 := let ⟨_, e, _⟩ := hl1; lt e
  have n4 : s.heap.objs.size ≠ l2 := let ⟨_, e, _⟩ := hl2; lt e
  refine ⟨⟨_, hS, rfl⟩, PySem.F.args_list_init_2 _ _, zip_init (A := A.in1) (s := { s with heap := s.heap.push { cls := .type "list", data := .seq #[] } }) hh D ⟨lt hTI, n1.1, n2.1, n3, n4, lt hz, lt hTO⟩ hn ⟨le hz, le hTO, n1.2, n2.2, Nat.le_refl _⟩ (k hz)
    ⟨k hTI, h1.at fun o e => k e, h2.at fun o e => k e, hl1.at fun o e => k e, hl2.at fun o e => k e, .inl ⟨k hz, a, b, k hTO⟩⟩ hS (fun h' tk acc c as hk hS' hl hG hacc => ?_)⟩
  exact ⟨rfl, hQ h' tk acc c as (fun b o b1 b2 b3 b4 e => hk b o (Nat.ne_of_lt (Heap.lt_size e)) b1 b2 b3 b4 (k e)) hS' hl hG hacc⟩
end
/-! ### the rule -/
def rListZip (K : PySem.W.Frag) : List V → Hp → VK → Prop := fun vs H Q => ∃ (a b : Addr) (ks : List Key) (ys : List V), vs = [.ref a, .ref b] ∧ SqL K H a (ks.map kV) ∧ SqL K H b ys ∧ min ks.length ys.length ≤ 1000000 ∧
  ∀ (H' : Hp) (p : Addr) (ts : List Addr), Same H H' → H p = none → H' p = some (.lst (ts.map V.ref)) → Paired (fun (t : Addr) (q : Key × V) => H' t = some (.tup [kV q.1, q.2])) ts (ks.zip ys) → Q (.ref p) H'
def tListZip (K : PySem.W.Frag) (ta : TA) : TE := fun σ H Q => ta σ H fun vs H1 => rListZip K vs H1 Q
theorem keys_vals : ∀ {ks : List Key} {us : List Value}, Vals (ks.map kV) us → ∀ (j : Nat) (k : Key) (u : Value), ks[j]? = some k → us[j]? = some u → RelV (kV k) u
  | [], _, _, j, k, u, h, _ => by simp at h
  | k0 :: ks, _, .cons r t, 0, k, u, h1, h2 => by
    have e1 := Option.some.inj h1
    have e2 := Option.some.inj h2
    subst e1
    subst e2
    exact r
  | k0 :: ks, _, .cons r t, j + 1, k, u, h1, h2 => keys_vals t j k u h1 h2
theorem kv_zip : ∀ {ks : List Key} {ys : List V} {us : List Value}, Vals ys us → KV (ks.zip ys) (ks.zip us)
  | [], _, _, _ => by rw [List.zip_nil_left, List.zip_nil_left]; exact .nil
  | _ :: _, _, _, .nil => by rw [List.zip_nil_right, List.zip_nil_right]; exact .nil
  | k :: ks, _, _, .cons r t => by
    rw [List.zip_cons_cons, List.zip_cons_cons]
    exact .cons ⟨rfl, r⟩ (kv_zip t)
theorem zip_laid {X : Cx} {pins : List (Addr × Obj)} {σ : L2.St} {H : Hp} {s : Shared} {h' : Heap} {tk : Nat} {kvs : List (Key × V)} {vs : List (Key × Value)} {acc : Array Value} {c : Nat} {as : List Addr} {S : Addr} (I : Inv X pins σ H s) (hz : kvs.length ≤ sizeLine) (kv : KV kvs vs) (hlo : s.heap.objs.size ≤ S)
    (hk : ∀ b o, s.heap.get? b = some o → h'.get? b = some o) (hS : h'.get? S = some { cls := .type "list", dict := none, data := .seq acc c, slots := #[] }) (hl : as.length = vs.length) (rise : as.Pairwise (· < ·)) (above : ∀ a ∈ as, S < a)
    (pairs : ∀ (j : Nat) (a : Addr), as[j]? = some a → ∃ key k x, vs[j]? = some (k, x) ∧ RelV (kV k) key ∧ h'.get? a = some { cls := .type "tuple", data := .seq #[key, x] }) (hacc : acc.toList = as.map Value.ref) :
    ∃ H' : Hp, Same H H' ∧ H S = none ∧ H' S = some (.lst (as.map V.ref)) ∧ Paired (fun (t : Addr) (q : Key × V) => H' t = some (.tup [kV q.1, q.2])) as kvs ∧ Inv X pins σ H' { s with heap := h', toks := tk } := by
  have lk : kvs.length = vs.length := Paired.length kv
  have hSn : S ∉ as := fun z => Nat.lt_irrefl _ (above _ z)
  have nd : as.Nodup := List.Pairwise.imp (fun {a b} (h : a < b) => Nat.ne_of_lt h) rise
  have new : ∀ t ∈ as, H t = none := fun t ht => I.hok.fresh (Nat.le_trans hlo (Nat.le_of_lt (above t ht)))
  have newS : H S = none := I.hok.fresh hlo
  have atP := LiI.putT_at as kvs (L2.upd H S (.lst (as.map V.ref))) (by omega) nd
  have off : ∀ b, b ∉ as → b ≠ S → LiI.putT (L2.upd H S (.lst (as.map V.ref))) as kvs b = H b := fun b h1 h2 => by rw [LiI.putT_off as kvs _ h1, upd_ne h2]
  have low : ∀ b o, s.heap.get? b = some o → b ∉ as ∧ b ≠ S := fun b o e =>
    have lt := Nat.lt_of_lt_of_le (Heap.lt_size e) hlo
    ⟨fun z => absurd (Nat.lt_trans lt (above b z)) (Nat.lt_irrefl _), Nat.ne_of_lt lt⟩
  have kp : ∀ b u, H b = some u → (LiI.putT (L2.upd H S (.lst (as.map V.ref))) as kvs) b = some u := fun b u e => by
    rw [off b (fun z => by rw [new b z] at e; cases e) (fun z => by rw [z, newS] at e; cases e)]
    exact e
  have eS : LiI.putT (L2.upd H S (.lst (as.map V.ref))) as kvs S = some (.lst (as.map V.ref)) := by rw [LiI.putT_off as kvs _ hSn, upd_same]
  refine ⟨LiI.putT (L2.upd H S (.lst (as.map V.ref))) as kvs, kp, newS, eS, atP, ?_⟩
  refine I.call' (ch := []) rfl ⟨fun b o q _ _ _ => hk b o q, fun b o q _ _ _ => ⟨o.slots, hk b o q⟩, fun b o q n _ => ?_, fun b o q _ => ⟨o, hk b o q⟩, fun b xs q => kp b _ q, fun b o u q => kp b _ q, fun b ps q => ⟨#[], by rw [kp b _ q]; simp⟩⟩ (fun b u q => ?_) I.bare fun b z => by simp at z
  · obtain ⟨z1, z2⟩ := low b o q
    rw [off b z1 z2]
    exact n
  · by_cases hb : b ∈ as
    · obtain ⟨j, pk, e1, e2, e3⟩ := LiI.paired_ix atP hb
      rw [e3] at q
      cases q
      obtain ⟨key, k, x, f1, f2, f3⟩ := pairs j b e1
      obtain ⟨qv, g1, g2, g3⟩ := LiI.paired_get kv e2
      rw [f1] at g1
      cases g1
      have rk : RelV (kV pk.1) key := by
        rw [g2]
        exact f2
      exact ⟨by show 2 ≤ sizeLine; decide, [key, x], .cons rk (.cons g3 .nil), ⟨_, f3, rfl, _, rfl⟩⟩
    · by_cases hb2 : b = S
      · rw [hb2] at q ⊢
        rw [eS] at q
        cases q
        refine ⟨by rw [List.length_map]; omega, acc.toList, c, by rw [hacc]; exact LiI.vals_refs as, ?_⟩
        rw [Array.toArray_toList]
        exact hS
      · rw [off b hb hb2] at q
        exact (I.hok b u q).stay (fun d v _ y => hk d v y) (fun d y => kp d _ y) fun d xs y => kp d _ y
section
variable {X : Cx} {K : PySem.W.Frag} {e e2 : Expr} {ta : TA} {p p2 pos pos2 : Pos}
theorem pe_listZip (hc : X.calm = true) (ha : PA X [e, e2] ta) (hg : Gl X "list") (hm : X.mg "list" = none) (hv : bootBuiltins "list" = some (.type "list")) (hg2 : Gl X "zip") (hm2 : X.mg "zip" = none)
    (hst : starEach [e, e2] X.env = (false, eval e X.env) :: starEach [e2] X.env := by rfl) (hpl : (backTo pos2 (starEach [e2] X.env)).any (·.1) = false := by rfl)
    (hs : starEach [.Call (.Name "zip" p2) [e, e2] [] pos2] X.env = (false, eval (.Call (.Name "zip" p2) [e, e2] [] pos2) X.env) :: starEach [] X.env := by rfl) (hK : X.K = K := by rfl) :
    PE X (.Call (.Name "list" p) [.Call (.Name "zip" p2) [e, e2] [] pos2] [] pos) (tListZip K ta) := by
  subst hK
  refine ⟨fun pins s σ H Q I hq => ?_⟩
  refine wpAny_Call_Name_kw (ld_blt I hg hm hv ?_)
  refine PyProof.Rows.callWith_type1 ?_ hs rfl
  rw [hs]
  show wpAny _ _ (spliced ((false, eval (.Call (.Name "zip" p2) [e, e2] [] pos2) X.env) :: backTo pos (starEach [] X.env))) _ _ s
  refine Calls.spliced_cons ?_
  refine Call_ (ld_blt I hg2 hm2 PyProof.Rows.boot_zip (PyProof.Rows.callWith_type1 (thn (ha.run pos2 pins s σ H _ I hq) fun us s1 ⟨vs, H1, I1, r1, q1⟩ => ?_) hst hpl))
  obtain ⟨a, b, ks, ys, ex, hqx, hqy, hmin, q⟩ := q1
  subst ex
  cases r1 with
  | cons r rr =>
    cases rr with
    | cons r' rr =>
      cases rr
      cases r
      cases r'
      obtain ⟨its, rv, p1, _⟩ := I1.list hqx
      obtain ⟨its2, rv2, p2', _⟩ := I1.list hqy
      have la : a < s1.heap.objs.size := p1.lt
      have lb : b < s1.heap.objs.size := p2'.lt
      have e1 : its.toArray.size = ks.length := by rw [List.size_toArray, ← rv.length, List.length_map]
      have e2' : its2.toArray.size = ys.length := by rw [List.size_toArray, ← rv2.length]
      refine call_zip_2 p1.isList p2'.isList fun h' hz hTI hTO h1 h2 hsz hk => ?_
      have I2 : Inv X pins σ H1 { s1 with heap := h' } := I1.kept (t' := s1.toks) hk
      refine Calls.spliced_nil ?_
      have hL1 := p1.isList.at fun o q => hk _ o q
      have hL2 := p2'.isList.at fun o q => hk _ o q
      refine zip_lcall (s := { s1 with heap := h' }) (I1.ok.hd hc) (PySem.W.ktu_apart s1.heap.objs.size a b la lb) (by rw [e1, e2']; exact hmin) hz hTI ⟨_, _, hTO⟩ h1 h2 hL1 hL2 fun h'' tk acc c as hk2 hS hl hG hacc => ?_
      have kv := kv_zip (ks := ks) rv2
      have hk3 : ∀ b o, s1.heap.get? b = some o → h''.get? b = some o := fun b o q =>
        have lt := Heap.lt_size q
        hk2 b o (Nat.ne_of_lt (Nat.lt_of_lt_of_le lt (Nat.le_add_right _ _))) (Nat.ne_of_lt (Nat.lt_of_lt_of_le lt (Nat.le_add_right _ _))) (Nat.ne_of_lt lt) (Nat.ne_of_lt (Nat.lt_of_lt_of_le lt (Nat.le_add_right _ _))) (hk b o q)
      have hmin2 : (ks.zip ys).length ≤ 1000000 := by rw [List.length_zip]; exact hmin
      have pr : ∀ (j : Nat) (a' : Addr), as[j]? = some a' → ∃ key k x, (ks.zip its2)[j]? = some (k, x) ∧ RelV (kV k) key ∧ h''.get? a' = some { cls := .type "tuple", data := .seq #[key, x] } := by
        intro j a' hj
        obtain ⟨x, y, ex, ey, ht⟩ := hG.pairs j a' hj
        rw [← Array.getElem?_toList] at ex ey
        have ex' : its[j]? = some x := ex
        have ey' : its2[j]? = some y := ey
        have hlt : j < ks.length := by
          have := (List.getElem?_eq_some_iff.mp ex').1
          rw [← rv.length, List.length_map] at this
          exact this
        have ek := List.getElem?_eq_getElem hlt
        refine ⟨x, ks[j], y, ?_, keys_vals rv j _ _ ek ex', ht⟩
        rw [List.getElem?_zip_eq_some]
        exact ⟨ek, ey'⟩
      obtain ⟨H', k1, k2, k3, k4, J⟩ := zip_laid (tk := tk) (S := h'.objs.size) I1 (sz_le hmin2 rfl) kv (by rw [hsz]; exact Nat.le_add_right _ _) hk3 hS (by rw [hl, e1, e2', List.length_zip, ← rv2.length]) hG.rise hG.above pr hacc
      exact ⟨.ref _, H', J, rfl, q H' _ as k1 k2 k3 k4⟩
end
end KC
namespace KC
open PySem PySem.Spec PyProof.Rows L2
/-! ### pairs in order, lists taken apart -/
def geP (i j : Int) (a b : Str) : Bool := if i = j then (if a = b then true else leS b a) else decide (j ≤ i)
def rGeP (K : PySem.W.Frag) : R2 := fun x y H Q => ∃ (p q : Addr) (i j : Int) (a b : Str), x = .ref p ∧ y = .ref q ∧ SqT K H p [.int i, .str a] ∧ SqT K H q [.int j, .str b] ∧ Q (.bl (geP i j a b)) H
theorem RcOp_ge_str {A : Around} {s : Shared} (a b : Str) (t u : Tok) : Ob.RcOp .GtE A s (.str a t) (.str b u) (leS b a) := fun prog w E Q h => by
  refine PySem.P.ge_str ?_
  have e : (!decide (a.cps.toList < b.cps.toList)) = leS b a := by
    unfold leS leC
    rw [← ltCps_eq]
  rw [e]
  exact h
theorem two_vals {i : Int} {a : Str} {us : List Value} (h : Vals [V.int i, V.str a] us) : ∃ t u, us = [.int i t, .str a u] := by
  cases h with
  | cons h1 h2 =>
    cases h2 with
    | cons h3 h4 =>
      cases h4
      obtain ⟨t, rfl⟩ := h1
      obtain ⟨u, rfl⟩ := h3
      exact ⟨t, u, rfl⟩
theorem op_geP {X : Cx} (hu : X.A.units + 64 < cLine) : OpR X (compareOp .GtE) (rGeP X.K) := by
  intro pins s σ H x y v u Q I rx ry h
  obtain ⟨p, q, i, j, a, b, rfl, rfl, ha, hb, k⟩ := h
  cases rx
  cases ry
  obtain ⟨its, r1, p1, _⟩ := I.tuple ha
  obtain ⟨its2, r2, p2, _⟩ := I.tuple hb
  obtain ⟨t1, u1, rfl⟩ := two_vals r1
  obtain ⟨t2, u2, rfl⟩ := two_vals r2
  have R := Ob.RcOp.tuples_ge (A := X.A) (s := s) (e := fun m => if m = 0 then eqV (.int i) (.int j) else eqV (.str a) (.str b)) (r := fun m => if m = 0 then decide (j ≤ i) else leS b a) p1 p2 (by omega) (fun m h1 h2 => by
    match m, h1, h2 with
    | 0, _, _ => exact eqAt_V' (x := .int i) (y := .int j) ⟨_, rfl⟩ ⟨_, rfl⟩ rfl rfl
    | 1, _, _ => exact eqAt_V' (x := .str a) (y := .str b) ⟨_, rfl⟩ ⟨_, rfl⟩ rfl rfl) (fun m h1 h2 _ => by
    match m, h1, h2 with
    | 0, _, _ => exact Ob.RcOp.ge_int _ _ _ _
    | 1, _, _ => exact RcOp_ge_str _ _ _ _)
  have e : Ob.lexAt (fun m => if m = 0 then eqV (.int i) (.int j) else eqV (.str a) (.str b)) (fun m => if m = 0 then decide (j ≤ i) else leS b a) (decide ([Value.int i t1, Value.str a u1].toArray.size ≥ [Value.int j t2, Value.str b u2].toArray.size)) 0 (min [Value.int i t1, Value.str a u1].toArray.size [Value.int j t2, Value.str b u2].toArray.size) = geP i j a b := by
    show (if (eqV (.int i) (.int j)) = true then (if (eqV (.str a) (.str b)) = true then true else leS b a) else decide (j ≤ i)) = geP i j a b
    have e1 : eqV (.int i) (.int j) = decide (i = j) := by
      show (i == j) = _
      by_cases h : i = j
      · rw [decide_eq_true h]; exact beq_iff_eq.mpr h
      · rw [decide_eq_false h]; exact beq_eq_false_iff_ne.mpr h
    have e2 : eqV (.str a) (.str b) = decide (a = b) := by
      show (a == b) = _
      by_cases h : a = b
      · rw [decide_eq_true h]; exact beq_iff_eq.mpr h
      · rw [decide_eq_false h]; exact beq_eq_false_iff_ne.mpr h
    rw [e1, e2]
    unfold geP
    simp only [decide_eq_true_eq]
  rw [e] at R
  have z : wpAny (model X.prog X.w) X.A (compareOp .GtE (.ref p) (.ref q)) (EP X pins σ Q) X.xe s := R X.prog X.w X.xe (EP X pins σ Q) ⟨.bl _, H, I, rfl, k⟩
  exact z
theorem Paired.at {α β : Type} {F : α → β → Prop} : ∀ {l₁ : List α} {l₂ : List β}, Paired F l₁ l₂ → ∀ {k : Nat} {x : α}, l₁[k]? = some x → ∃ y, l₂[k]? = some y ∧ F x y
  | _, _, .nil, k, x, h => by simp at h
  | _, _, .cons (a := a) (b := b) h0 r, 0, x, h => by
    have : a = x := Option.some.inj h
    subst this
    exact ⟨b, rfl, h0⟩
  | _, _, .cons h0 r, k + 1, x, h => Paired.at r (k := k) h
theorem lc_pairsP {K : PySem.W.Frag} {a : Addr} {ps : List Addr} {qs : List (Str × Str)} {i j : Nat} {tt : TT} {te : TE} {σ : L2.St} {H1 : Hp} {D : Addr} {Qd : Hp → Prop} (p : Str × Str → Bool) (f : Str × Str → V) (hij : i ≠ j)
    (hS : SqL K H1 a (ps.map V.ref)) (hP : Paired (fun e (q : Str × Str) => SqL K H1 e [.str q.1, .str q.2]) ps qs) (hD : H1 D = none) (hx : ps.length < 16777216)
    (ht : ∀ q ∈ qs, ∀ (H' : Hp) (Q' : Bool → Hp → Prop), Same H1 H' → Q' (p q) H' → tt (((wipe σ [i, j]).set i (some (.str q.1))).set j (some (.str q.2))) H' Q')
    (he : ∀ q ∈ qs, p q = true → ∀ (H' : Hp) (Q' : VK), Same H1 H' → Q' (f q) H' → te (((wipe σ [i, j]).set i (some (.str q.1))).set j (some (.str q.2))) H' Q') (hd : Qd (L2.upd H1 D (.lst ((qs.filter p).map f)))) :
    LcG (Itl K a) (gUnl K 2 (gCons (gName i) (gCons (gName j) gNil))) tt te [i, j] σ H1 D Qd := by
  have hlen : ps.length = qs.length := hP.length
  refine lc_list (K := K) (a := a) (xs := ps.map V.ref) (fun n H => H = L2.upd H1 D (.lst (((qs.take n).filter p).map f))) rfl (fun n H _ e => by rw [e]; exact Same.seq (same_new (Same.refl _) hD) hS) ?_ (fun H e => by rw [e, List.length_map, hlen, List.take_length]; exact hd)
  rintro n x H hi rfl
  obtain ⟨e, he1, rfl⟩ := getMap hi
  obtain ⟨q, hq, hsq⟩ := Paired.at hP he1
  have hm := List.mem_of_getElem? hq
  have hl : n < qs.length := (List.getElem?_eq_some_iff.mp hq).1
  refine ⟨e, _, rfl, Same.seq (same_new (Same.refl _) hD) hsq, rfl, _, _, rfl, _, _, rfl, rfl, wipe_set2 σ hij _ _, ?_⟩
  refine ht q hm _ _ (same_new (Same.refl _) hD) ?_
  refine if_b (fun hp => ?_) (fun hp => ?_)
  · refine he q hm hp _ _ (same_new (Same.refl _) hD) ⟨_, upd_same, ?_, ?_⟩
    · rw [List.length_map]
      have h1 := List.length_filter_le p (qs.take n)
      rw [List.length_take] at h1
      exact Nat.lt_of_lt_of_le (show _ < 16777216 by omega) (by decide)
    · rw [upd_upd, take_snoc hq, List.filter_append, List.map_append, List.filter_cons, hp]
      rfl
  · show L2.upd H1 D _ = L2.upd H1 D _
    rw [take_snoc hq, List.filter_append, List.filter_cons, hp]
    simp
theorem dc_pairsP {K : PySem.W.Frag} {a : Addr} {ps : List Addr} {qs : List (Str × Str)} {i j : Nat} {tt : TT} {tk tv : TE} {σ : L2.St} {H1 : Hp} {D : Addr} {Qd : Hp → Prop} (p : Str × Str → Bool) (fk : Str × Str → Key) (fv : Str × Str → V) (hij : i ≠ j)
    (hS : SqL K H1 a (ps.map V.ref)) (hP : Paired (fun e (q : Str × Str) => SqL K H1 e [.str q.1, .str q.2]) ps qs) (hD : H1 D = none) (hx : ps.length < 16777216)
    (ht : ∀ q ∈ qs, ∀ (H' : Hp) (Q' : Bool → Hp → Prop), Same H1 H' → Q' (p q) H' → tt (((wipe σ [i, j]).set i (some (.str q.1))).set j (some (.str q.2))) H' Q')
    (hk : ∀ q ∈ qs, p q = true → ∀ (H' : Hp) (Q' : VK), Same H1 H' → Q' (kV (fk q)) H' → tk (((wipe σ [i, j]).set i (some (.str q.1))).set j (some (.str q.2))) H' Q')
    (hv : ∀ q ∈ qs, p q = true → ∀ (H' : Hp) (Q' : VK), Same H1 H' → Q' (fv q) H' → tv (((wipe σ [i, j]).set i (some (.str q.1))).set j (some (.str q.2))) H' Q')
    (hd : Qd (L2.upd H1 D (.dK (mergeK [] ((qs.filter p).map fun q => (fk q, fv q)))))) :
    DcG (Itl K a) (gUnl K 2 (gCons (gName i) (gCons (gName j) gNil))) tt tk tv [i, j] σ H1 D Qd := by
  have hlen : ps.length = qs.length := hP.length
  refine dc_it (walk_list (K := K) (a := a) (xs := ps.map V.ref)) (fun n H => H = L2.upd H1 D (.dK (mergeK [] (((qs.take n).filter p).map fun q => (fk q, fv q))))) rfl (fun n H _ e => by rw [e]; exact Same.seq (same_new (Same.refl _) hD) hS) ?_ (fun H e => by rw [e, List.length_map, hlen, List.take_length]; exact hd)
  rintro n x H H' hi rfl ⟨rfl, e0⟩
  obtain ⟨e, he1, rfl⟩ := getMap e0
  obtain ⟨q, hq, hsq⟩ := Paired.at hP he1
  have hm := List.mem_of_getElem? hq
  have hl : n < qs.length := (List.getElem?_eq_some_iff.mp hq).1
  refine ⟨e, _, rfl, Same.seq (same_new (Same.refl _) hD) hsq, rfl, _, _, rfl, _, _, rfl, rfl, wipe_set2 σ hij _ _, ?_⟩
  refine ht q hm _ _ (same_new (Same.refl _) hD) ?_
  refine if_b (fun hp => ?_) (fun hp => ?_)
  · refine hk q hm hp _ _ (same_new (Same.refl _) hD) (hv q hm hp _ _ (same_new (Same.refl _) hD) ⟨_, _, rfl, upd_same, ?_, ?_⟩)
    · have h1 := merge_len (((qs.take n).filter p).map fun q => (fk q, fv q)) []
      rw [List.length_nil, List.length_map] at h1
      have h2 := List.length_filter_le p (qs.take n)
      rw [List.length_take] at h2
      exact Nat.lt_of_lt_of_le (show _ < 16777216 by omega) (by decide)
    · rw [upd_upd, take_snoc hq, List.filter_append, List.map_append, List.filter_cons, hp]
      show _ = L2.upd H1 D (.dK (mergeK [] (((qs.take n).filter p).map (fun q => (fk q, fv q)) ++ [(fk q, fv q)])))
      rw [merge_snoc]
  · show L2.upd H1 D _ = L2.upd H1 D _
    rw [take_snoc hq, List.filter_append, List.filter_cons, hp]
    simp
/-- [new list for x in xs] -/
theorem lc_listNew {K : PySem.W.Frag} {a : Addr} {xs : List V} {j : Nat} {te : TE} {σ : L2.St} {H1 : Hp} {D : Addr} {Qd : Hp → Prop} (f : V → List V) (hS : SqL K H1 a xs) (hD : H1 D = none) (hx : xs.length < 16777216)
    (he : ∀ x ∈ xs, ∀ (H' : Hp) (Q' : VK), Same H1 H' → (∀ T, H' T = none → Q' (.ref T) (L2.upd H' T (.lst (f x)))) → te ((wipe σ [j]).set j (some x)) H' Q')
    (hd : ∀ H' (ps : List Addr), Same H1 H' → H' D = some (.lst (ps.map V.ref)) → Paired (fun p x => H' p = some (.lst (f x))) ps xs → Qd H') :
    LcG (Itl K a) (gName j) tYes te [j] σ H1 D Qd := by
  refine lc_it walk_list (fun i H => Same H1 H ∧ ∃ ps : List Addr, H D = some (.lst (ps.map V.ref)) ∧ ps.length ≤ i ∧ Paired (fun p x => p ≠ D ∧ H p = some (.lst (f x))) ps (xs.take i))
    ⟨same_new (Same.refl _) hD, [], upd_same, Nat.le_refl _, .nil⟩ (fun i H _ h => Same.seq h.1 hS) ?_ (fun H ⟨s, ps, hDp, _, hp⟩ => hd H ps s hDp (by rw [List.take_length] at hp; exact Paired.imp (fun _ _ z => z.2) hp))
  rintro i x H H' hi ⟨s, ps, hDp, hpl, hp⟩ ⟨rfl, e⟩
  refine ⟨wipe_set1 _ _ _, ?_⟩
  refine he x (List.mem_of_getElem? e) _ _ s fun T hT => ?_
  have hDT : D ≠ T := fun z => by rw [z, hT] at hDp; cases hDp
  refine ⟨ps.map V.ref, by rw [upd_ne hDT]; exact hDp, by rw [List.length_map]; exact Nat.lt_of_lt_of_le (show ps.length < 16777216 by omega) (by decide), same_mut (same_new s (s.free hT)) hD, ps ++ [T], ?_, by rw [List.length_append]; simp; omega, ?_⟩
  · rw [upd_same, List.map_append]
    rfl
  · rw [take_snoc e]
    refine Paired.snoc (Paired.imp (fun p kv z => ?_) hp) ?_
    · have h1 : p ≠ T := fun w => by
        have z2 := z.2
        rw [w, hT] at z2
        cases z2
      exact ⟨z.1, by rw [upd_ne z.1, upd_ne h1]; exact z.2⟩
    · exact ⟨Ne.symm hDT, by rw [upd_ne (Ne.symm hDT), upd_same]⟩
/-- a name on the left of a dict comprehension, a local, all on one line -/
theorem sw_trueD {a b : Expr} {cs : List Comprehension} {sco : Scope} {p q : Pos} {nm : Str} {ln : Nat} {en : Env} (h1 : en.scope.kind = .function) (h2 : en.scope.names.lookup nm = some .local) (h3 : (q.line == p.line) = true)
    (h4 : (sco.names.any fun (m, k) => m == nm && (k == .local || k == .cell)) = false) : swapsWith (.DictComp a b cs sco p) (some (.Name nm q)) ln en = pure true := by
  have k1 : en.kindOf nm = some .local := h2
  have k2 : en.blockKind = .function := by
    unfold Env.blockKind
    rw [h1]
    rfl
  unfold swapsWith
  simp only [k2, k1, h4, Expr.pos, h3]
  rfl
theorem ps_setDc {X : Cx} {i : Nat} {nm : Str} {np : Pos} {ke ve trg itx : Expr} {fs : List Expr} {sco : Scope} {own : List (Str × Nat)} {cp sp : Pos} {ti : TI} {gg : TG} {tf : TT} {tk tv : TE}
    (calm : X.calm = true) (nod : X.N.Nodup) (ati : X.N[i]? = some nm) (isl : X.env.scope.names.lookup nm = some .local)
    (sw : swapsWith (.DictComp ke ve [⟨trg, itx, fs, 0⟩] sco cp) (some (.Name nm np)) sp.line X.env = pure true)
    (pi : PI X trg itx ti) (bo : BlkOk X.N X.env.scope sco own)
    (pg : ∀ (s : Shared) (H : Hp) (C : Addr) (cl : List (Str × Addr)) (as : List Addr), PG (X.blk s H sco (compEnvC sco cl C X.env) as) trg gg)
    (pt : ∀ (s : Shared) (H : Hp) (C : Addr) (cl : List (Str × Addr)) (as : List Addr), PTs (X.blk s H sco (compEnvC sco cl C X.env) as) fs tf)
    (pk : ∀ (s : Shared) (H : Hp) (C : Addr) (cl : List (Str × Addr)) (as : List Addr), PE (X.blk s H sco (compEnvC sco cl C X.env) as) ke tk)
    (pw : ∀ (s : Shared) (H : Hp) (C : Addr) (cl : List (Str × Addr)) (as : List Addr), PE (X.blk s H sco (compEnvC sco cl C X.env) as) ve tv)
    (fold : ∀ x, foldedSetIterable itx X.env x = pure x := by intro _; rfl) :
    PS X (.Assign [.Name nm np] (.DictComp ke ve [⟨trg, itx, fs, 0⟩] sco cp) sp) (tAsg (tDc ti gg tf tk tv (own.map (·.2))) (gName i)) := by
  refine ⟨fun pins s σ H D I hyp => ?_⟩
  rw [exec_Assign_Name_used _ _ _ _ sw]
  refine wpAny_bind (wpAny_standAt (wpAny_bind ?_))
  show wpAny _ X.A (do
    let _ ← comprehension (.DictComp ke ve [⟨trg, itx, fs, 0⟩] sco cp) sco X.env (firstIterPos [⟨trg, itx, fs, 0⟩] cp) newDict false (eval itx X.env) (some (assign (.Name nm np) X.env))) _ _ s
  have hyp : tDc ti gg tf tk tv (own.map (·.2)) σ H (fun x H1 => gName i x σ H1 D.nx) := hyp
  refine wpAny_bind (thn (dc_core (Qf := fun _ s' => SP X pins D .next s') calm nod I pi bo pg pt pk pw fold hyp fun L C s' m H' J q ns fpo => ?_) fun _ s' done => wpAny_pure (wpAny_pure done))
  show wpAny _ _ (assign (.Name nm np) X.env (.ref L)) _ _ _
  refine wpAny_assign_Name (store_ok2 (v := V.ref L) J nod ati (.inl isl) rfl (fun s2 J2 ⟨a, sb, ha⟩ => ?_) (.inr isl))
  obtain ⟨g0, g1, g2, g3, g4, g5⟩ := fpo
  have apart : C ≠ a := by
    rcases ha with z | z
    · rw [z]
      exact g1
    · exact fun e => g4 nm a z e.symm
  refine ⟨m, ns.sameBut sb apart, fun h3 sb3 => ?_⟩
  exact ⟨_, H', J2.turned (t' := s2.toks) (fun b o hb e => (sb3.2 b hb).trans e) g0 g1 g3 g4 g5, q⟩
end KC
namespace KC
open PySem PySem.Spec PyProof.Rows L2
/-! ### a list of pairs of numbers, written out -/
def tLit0 : List (Int × Int) → TA
  | [] => tNil
  | q :: r => tCons (tTup (tCons (tC (.int q.1)) (tCons (tC (.int q.2)) tNil))) (tLit0 r)
@[irreducible] def tLits (qs : List (Int × Int)) : TA := tLit0 qs
theorem tLits_eq (qs : List (Int × Int)) : tLits qs = tLit0 qs := by
  unfold tLits
  rfl
theorem lit0_ok {σ : L2.St} : ∀ {qs : List (Int × Int)} {H : Hp} {Q : List V → Hp → Prop}, (∀ (ts : List Addr) (H' : Hp), Same H H' → Paired (fun t (q : Int × Int) => H t = none ∧ H' t = some (.tup [.int q.1, .int q.2])) ts qs → Q (ts.map V.ref) H') → tLit0 qs σ H Q
  | [], H, Q, k => k [] H (Same.refl _) .nil
  | q :: r, H, Q, k => by
    show tTup (tCons (tC (.int q.1)) (tCons (tC (.int q.2)) tNil)) σ H (fun x H1 => tLit0 r σ H1 fun xs H2 => Q (x :: xs) H2)
    refine ⟨(sz_rfl rfl), fun t ht => ?_⟩
    refine lit0_ok fun ts H' s' hp => ?_
    exact k (t :: ts) H' (Same.trans (newS ht) s') (.cons ⟨ht, s' _ _ upd_same⟩ (Paired.imp (fun a b z => ⟨(newS ht).free z.1, z.2⟩) hp))
theorem lits_ok {σ : L2.St} {qs : List (Int × Int)} {H : Hp} {Q : List V → Hp → Prop} (h : ∀ (ts : List Addr) (H' : Hp), Same H H' → Paired (fun t (q : Int × Int) => H t = none ∧ H' t = some (.tup [.int q.1, .int q.2])) ts qs → Q (ts.map V.ref) H') : tLits qs σ H Q := by
  rw [tLits_eq]
  exact lit0_ok h
theorem pa_litn {X : Cx} : PA X [] (tLits []) := by
  rw [tLits_eq]
  exact pa_nil
theorem pa_lit {X : Cx} {es : List Expr} {a b : Int} {r : List (Int × Int)} {k1 k2 k3 : Nat} {p1 p2 p3 : Pos} (h : PA X es (tLits r)) :
    PA X (.Tuple [.Constant (.int a) k1 p1, .Constant (.int b) k2 p2] k3 p3 :: es) (tLits ((a, b) :: r)) := by
  rw [tLits_eq] at h ⊢
  exact pa_cons (pe_tup (pa_cons pe_int (pa_cons pe_int pa_nil))) h
/-! ### two clauses in a comprehension -/
abbrev InnG (J1 : It) (g1 : TG) (tt1 : TT) (te : TE) (vs1 : List Nat) (σ2 : L2.St) (H4 : Hp) (D : Addr) (Nx : Hp → Prop) : Prop :=
  ∃ W1 : Nat → Nat → Hp → Prop, (∃ m, W1 0 m H4) ∧ ∀ j k H, W1 j k H →
    (J1.stop j H ∧ Nx H) ∨ (J1.go j H ∧ ∃ Nx1 : Hp → Prop, (∀ H', Nx1 H' → ∃ k', k' < k ∧ W1 (j + 1) k' H') ∧ ∀ x H', J1.yld j H x H' → g1 x (wipe σ2 vs1) H' fun σ3 H5 => wipe σ3 vs1 = wipe σ2 vs1 ∧ tt1 σ3 H5 fun b H6 =>
      if b = true then te σ3 H6 fun y H7 => ∃ acc, H7 D = some (.lst acc) ∧ acc.length < sizeLine ∧ Nx1 (L2.upd H7 D (.lst (acc ++ [y]))) else Nx1 H6)
theorem inn_it {J : It} {n : Nat} {G : Hp → Prop} {Y : Nat → Hp → V → Hp → Prop} (w : Walk J n G Y) {g : TG} {tt : TT} {te : TE} {vs : List Nat} {σ : L2.St} {H4 : Hp} {D : Addr} {Nx : Hp → Prop} (Pw : Nat → Hp → Prop) (h0 : Pw 0 H4) (hG : ∀ i H, i ≤ n → Pw i H → G H)
    (hs : ∀ i x H H', i < n → Pw i H → Y i H x H' → g x (wipe σ vs) H' fun σ3 H5 => wipe σ3 vs = wipe σ vs ∧ tt σ3 H5 fun b H6 =>
      if b = true then te σ3 H6 fun y H7 => ∃ acc, H7 D = some (.lst acc) ∧ acc.length < sizeLine ∧ Pw (i + 1) (L2.upd H7 D (.lst (acc ++ [y]))) else Pw (i + 1) H6) (hd : ∀ H, Pw n H → Nx H) :
    InnG J g tt te vs σ H4 D Nx := by
  refine ⟨fun i m H => m = n - i ∧ i ≤ n ∧ Pw i H, ⟨n, by simp, Nat.zero_le _, h0⟩, ?_⟩
  rintro i m H ⟨rfl, hi, p⟩
  have q := hG i H hi p
  by_cases hlt : i < n
  · refine .inr ⟨w.goes i H hlt q, Pw (i + 1), fun H' p' => ⟨n - (i + 1), by omega, rfl, hlt, p'⟩, fun x H' y => hs i x H H' hlt p (w.yields i H x H' hlt q y)⟩
  · have e : i = n := by omega
    subst e
    exact .inl ⟨w.stops H q, hd H p⟩
abbrev Lc2G (J : It) (g : TG) (tt : TT) (wi1 : TI) (g1 : TG) (tt1 : TT) (te : TE) (vs vs1 : List Nat) (σ : L2.St) (H1 : Hp) (D : Addr) (Qd : Hp → Prop) : Prop :=
  ∃ W : Nat → Nat → Hp → Prop, (∃ m, W 0 m (L2.upd H1 D (.lst []))) ∧ ∀ i m H, W i m H →
    (J.stop i H ∧ Qd H) ∨ (J.go i H ∧ ∃ Nx : Hp → Prop, (∀ H', Nx H' → ∃ m', m' < m ∧ W (i + 1) m' H') ∧ ∀ x H', J.yld i H x H' → g x (wipe σ vs) H' fun σ2 H2 => wipe σ2 vs = wipe σ vs ∧ tt σ2 H2 fun b H3 =>
      if b = true then wi1 σ2 H3 fun J1 H4 => InnG J1 g1 tt1 te vs1 σ2 H4 D Nx else Nx H3)
theorem lc2_it {J : It} {n : Nat} {G : Hp → Prop} {Y : Nat → Hp → V → Hp → Prop} (w : Walk J n G Y) {g : TG} {tt : TT} {wi1 : TI} {g1 : TG} {tt1 : TT} {te : TE} {vs vs1 : List Nat} {σ : L2.St} {H1 : Hp} {D : Addr} {Qd : Hp → Prop} (Pv : Nat → Hp → Prop) (h0 : Pv 0 (L2.upd H1 D (.lst []))) (hG : ∀ i H, i ≤ n → Pv i H → G H)
    (hs : ∀ i x H H', i < n → Pv i H → Y i H x H' → g x (wipe σ vs) H' fun σ2 H2 => wipe σ2 vs = wipe σ vs ∧ tt σ2 H2 fun b H3 =>
      if b = true then wi1 σ2 H3 fun J1 H4 => InnG J1 g1 tt1 te vs1 σ2 H4 D (Pv (i + 1)) else Pv (i + 1) H3) (hd : ∀ H, Pv n H → Qd H) :
    Lc2G J g tt wi1 g1 tt1 te vs vs1 σ H1 D Qd := by
  refine ⟨fun i m H => m = n - i ∧ i ≤ n ∧ Pv i H, ⟨n, by simp, Nat.zero_le _, h0⟩, ?_⟩
  rintro i m H ⟨rfl, hi, p⟩
  have q := hG i H hi p
  by_cases hlt : i < n
  · refine .inr ⟨w.goes i H hlt q, Pv (i + 1), fun H' p' => ⟨n - (i + 1), by omega, rfl, hlt, p'⟩, fun x H' y => hs i x H H' hlt p (w.yields i H x H' hlt q y)⟩
  · have e : i = n := by omega
    subst e
    exact .inl ⟨w.stops H q, hd H p⟩
theorem sw_true2 {elt : Expr} {cs : List Comprehension} {sco : Scope} {p q : Pos} {nm : Str} {ln : Nat} {en : Env} (h1 : en.scope.kind = .function) (h2 : en.scope.names.lookup nm = some .local) (h3 : (q.line == p.line) = true)
    (h4 : (sco.names.any fun (m, k) => m == nm && (k == .local || k == .cell)) = false) : swapsWith (.ListComp elt cs sco p) (some (.Name nm q)) ln en = pure true := sw_true h1 h2 h3 h4
/-! ### longer strings, level by level -/
def growS (ds : List Nat) (xs : List Str) : List Str := xs.flatMap fun x => ds.map fun c => x ++ (⟨#[c]⟩ : Str)
theorem growS_snoc (ds : List Nat) (xs : List Str) (x : Str) : growS ds (xs ++ [x]) = growS ds xs ++ ds.map fun c => x ++ (⟨#[c]⟩ : Str) := by
  unfold growS
  rw [List.flatMap_append]
  simp
theorem growS_len (ds : List Nat) : ∀ xs : List Str, (growS ds xs).length = xs.length * ds.length
  | [] => by simp [growS]
  | x :: r => by
    have := growS_len ds r
    unfold growS at this ⊢
    rw [List.flatMap_cons, List.length_append, List.length_map, this, List.length_cons, Nat.add_mul]
    omega
def lvl (ds : List Nat) : Nat → List Str
  | 0 => [""]
  | n + 1 => growS ds (lvl ds n)
theorem lvl_len (ds : List Nat) : ∀ n : Nat, (lvl ds n).length = ds.length ^ n
  | 0 => rfl
  | n + 1 => by
    show (growS ds (lvl ds n)).length = _
    rw [growS_len, lvl_len ds n, Nat.pow_succ]
theorem lvl_of {ds : List Nat} : ∀ {n : Nat} {x : Str}, x ∈ lvl ds n → x.length = n ∧ ∀ c ∈ TL.tl x, c ∈ ds
  | 0, x, h => by
    have : x = "" := List.mem_singleton.mp h
    subst this
    exact ⟨rfl, by rw [tl_empty]; simp⟩
  | n + 1, x, h => by
    obtain ⟨y, hy, hx⟩ := List.mem_flatMap.mp (show x ∈ growS ds (lvl ds n) from h)
    obtain ⟨c, hc, rfl⟩ := List.mem_map.mp hx
    obtain ⟨h1, h2⟩ := lvl_of hy
    refine ⟨by rw [len_app, h1]; rfl, fun d hd => ?_⟩
    rw [TL.tl_append] at hd
    rcases List.mem_append.mp hd with hd | hd
    · exact h2 d hd
    · have : d = c := List.mem_singleton.mp hd
      rw [this]
      exact hc
theorem lc2_grow {K : PySem.W.Frag} {a : Addr} {xs : List Str} {ds : Str} {i j : Nat} {wi1 : TI} {te : TE} {σ : L2.St} {H1 : Hp} {D : Addr} {Qd : Hp → Prop} (hij : i ≠ j) (hS : SqL K H1 a (xs.map V.str)) (hD : H1 D = none) (hx : xs.length * ds.cps.toList.length < 16777216)
    (hw : ∀ x ∈ xs, ∀ (H' : Hp) (R : It → Hp → Prop), Same H1 H' → R (Its ds) H' → wi1 ((wipe σ [i, j]).set i (some (.str x))) H' R)
    (he : ∀ x ∈ xs, ∀ c ∈ ds.cps.toList, ∀ (H' : Hp) (Q' : VK), Same H1 H' → Q' (.str (x ++ (⟨#[c]⟩ : Str))) H' → te (((wipe σ [i, j]).set i (some (.str x))).set j (some (.str ⟨#[c]⟩))) H' Q')
    (hd : Qd (L2.upd H1 D (.lst ((growS ds.cps.toList xs).map V.str)))) :
    Lc2G (Itl K a) (gName i) tYes wi1 (gName j) tYes te [i, j] [j] σ H1 D Qd := by
  refine lc2_it (walk_list (K := K) (a := a) (xs := xs.map V.str)) (fun k H => H = L2.upd H1 D (.lst ((growS ds.cps.toList (xs.take k)).map V.str))) rfl (fun k H _ e => by rw [e]; exact Same.seq (same_new (Same.refl _) hD) hS) ?_ (fun H e => by rw [e, List.length_map, List.take_length]; exact hd)
  rintro k v H H' hk rfl ⟨rfl, e⟩
  obtain ⟨x, hx1, rfl⟩ := getMap e
  have hm := List.mem_of_getElem? hx1
  have hkl : k < xs.length := (List.getElem?_eq_some_iff.mp hx1).1
  have w1 : wipe ((wipe σ [i, j]).set i (some (V.str x))) [i, j] = wipe σ [i, j] := by
    show ((((((σ.set j none).set i none).set i (some (V.str x))).set j none).set i none)) = (σ.set j none).set i none
    rw [List.set_set, List.set_comm _ _ hij, List.set_set, List.set_set]
  have w2 : wipe ((wipe σ [i, j]).set i (some (V.str x))) [j] = (wipe σ [i, j]).set i (some (V.str x)) := by
    show (((σ.set j none).set i none).set i (some (V.str x))).set j none = ((σ.set j none).set i none).set i (some (V.str x))
    rw [List.set_set, List.set_comm _ _ hij, List.set_set]
  refine ⟨w1, ?_⟩
  refine hw x hm _ _ (same_new (Same.refl _) hD) ?_
  have hb : ∀ m, m ≤ ds.cps.toList.length → ((growS ds.cps.toList (xs.take k) ++ (ds.cps.toList.take m).map fun c => x ++ (⟨#[c]⟩ : Str)).map V.str).length ≤ xs.length * ds.cps.toList.length := fun m hm => by
    rw [List.length_map, List.length_append, growS_len, List.length_map, List.length_take, List.length_take, Nat.min_eq_left (by omega), Nat.min_eq_left hm]
    have : (k + 1) * ds.cps.toList.length ≤ xs.length * ds.cps.toList.length := Nat.mul_le_mul_right _ (by omega)
    rw [Nat.add_mul, Nat.one_mul] at this
    omega
  refine inn_it walk_str (fun m H => H = L2.upd H1 D (.lst ((growS ds.cps.toList (xs.take k) ++ (ds.cps.toList.take m).map fun c => x ++ (⟨#[c]⟩ : Str)).map V.str))) (by simp) (fun _ _ _ _ => trivial) ?_ ?_
  · rintro m v2 H2 H3 hm2 rfl ⟨rfl, c, hc, rfl⟩
    have hcm : c ∈ ds.cps.toList := by
      obtain ⟨h1, h2⟩ := Array.getElem?_eq_some_iff.mp hc
      rw [← h2]
      exact Array.mem_toList_iff.mpr (Array.getElem_mem h1)
    have hc2 : ds.cps.toList[m]? = some c := by rw [Array.getElem?_toList, hc]
    rw [w2]
    refine ⟨?_, ?_⟩
    · show (((wipe σ [i, j]).set i (some (V.str x))).set j _).set j none = _
      rw [List.set_set]
      exact w2
    refine he x hm c hcm _ _ (same_new (Same.refl _) hD) ⟨_, upd_same, ?_, ?_⟩
    · have := hb m (by rw [Array.length_toList]; omega)
      exact Nat.lt_of_le_of_lt this (Nat.lt_of_lt_of_le hx (by decide))
    · rw [upd_upd, take_snoc hc2]
      simp
  · rintro H2 rfl
    show L2.upd H1 D _ = L2.upd H1 D _
    have e9 : ds.cps.toList.take ds.cps.size = ds.cps.toList := List.take_of_length_le (by simp)
    rw [take_snoc hx1, growS_snoc, e9]
/-! ### what is free -/
def cutN (n : Nat) (x : Str) : Str := cutS x none (some (n : Int))
theorem clash_cut {n : Nat} {x s : Str} (h : x.length = n) : cmpS x s = (decide (x = cutN n s) || decide (cutN n s ∈ anc x)) := by
  have lx : (TL.tl x).length = n := h
  have ec : TL.tl (cutN n s) = (TL.tl s).take n := tl_cut s n
  rw [Bool.eq_iff_iff, cmpS_iff, Bool.or_eq_true, decide_eq_true_eq, decide_eq_true_eq, mem_anc, ec]
  by_cases hs : n ≤ (TL.tl s).length
  · have l2 : (cutN n s).length = n := by
      show (TL.tl (cutN n s)).length = n
      rw [ec, List.length_take]
      omega
    constructor
    · rintro (h1 | h1)
      · refine .inl (TL.ext_tl ?_)
        rw [ec]
        have := List.prefix_iff_eq_take.mp h1
        rw [lx] at this
        exact this
      · have l3 := h1.length_le
        refine .inl (TL.ext_tl ?_)
        rw [ec]
        have := List.prefix_iff_eq_take.mp h1
        have l4 : (TL.tl s).length = n := by omega
        rw [List.take_of_length_le (by omega)] at this
        rw [List.take_of_length_le (by omega), this]
    · rintro (h1 | ⟨_, h2⟩)
      · refine .inl ?_
        rw [h1, ec]
        exact List.take_prefix _ _
      · omega
  · have es : (TL.tl s).take n = TL.tl s := List.take_of_length_le (by omega)
    rw [es]
    have l2 : (cutN n s).length = (TL.tl s).length := by
      show (TL.tl (cutN n s)).length = _
      rw [ec, es]
    constructor
    · rintro (h1 | h1)
      · have := h1.length_le
        omega
      · exact .inr ⟨h1, by rw [l2, h]; omega⟩
    · rintro (h1 | ⟨h1, _⟩)
      · have := congrArg Str.length h1
        omega
      · exact .inr h1
def freeB (ts : List Str) (x : Str) : Bool := !ts.any (cmpS x)
theorem freeB_cut {n : Nat} {ts : List Str} {x : Str} (h : x.length = n) : (!decide (x ∈ ts.map (cutN n)) && !(anc x).any fun y => decide (y ∈ ts.map (cutN n))) = freeB ts x := by
  unfold freeB
  rw [← Bool.not_or, Bool.eq_iff_iff, Bool.not_eq_true', Bool.not_eq_true', ← Bool.not_eq_true, ← Bool.not_eq_true, Bool.or_eq_true, decide_eq_true_eq, List.any_eq_true, List.any_eq_true]
  refine not_congr ?_
  constructor
  · rintro (h1 | ⟨y, hy, h1⟩)
    · obtain ⟨s, hs, e⟩ := List.mem_map.mp h1
      exact ⟨s, hs, by rw [clash_cut h, decide_eq_true e.symm, Bool.true_or]⟩
    · obtain ⟨s, hs, e⟩ := List.mem_map.mp (of_decide_eq_true h1)
      subst e
      exact ⟨s, hs, by rw [clash_cut h, decide_eq_true hy, Bool.or_true]⟩
  · rintro ⟨s, hs, h1⟩
    rw [clash_cut h, Bool.or_eq_true, decide_eq_true_eq, decide_eq_true_eq] at h1
    rcases h1 with h1 | h1
    · exact .inl (List.mem_map.mpr ⟨s, hs, h1.symm⟩)
    · exact .inr ⟨cutN n s, h1, decide_eq_true (List.mem_map.mpr ⟨s, hs, rfl⟩)⟩
/-! ### what repr shows of a list -/
theorem lst_shown {xs : List Str} (h : ∀ p ∈ xs, Small p) (hl : xs.length ≤ 100) : (PyData.list (xs.map PyData.str)).shown.length ≤ sizeLine := by
  rw [PyData.shown, shownAll_strs]
  unfold listText
  rw [strLen_append]
  have h1 := textFrom_len_le (xs.map reprText) 0 "["
  have h2 := sum_le (B := 1002) (xs := xs.map reprText) fun t ht => by
    obtain ⟨p, hp, rfl⟩ := List.mem_map.mp ht
    exact repr_small (h p hp)
  rw [List.length_map] at h1 h2
  refine sz_le (m := 300000) ?_ rfl
  have h3 : xs.length * 1002 ≤ 100 * 1002 := Nat.mul_le_mul_right _ hl
  have e1 : (("[" : String) : Str).length = 1 := rfl
  have e2 : (("]" : String) : Str).length = 1 := rfl
  omega
theorem lst_showable (xs : List Str) : (PyData.list (xs.map PyData.str)).showable = true := by
  rw [PyData.showable]
  induction xs with
  | nil => rw [List.map_nil, PyData.showableAll]
  | cons p r ih => rw [List.map_cons, PyData.showableAll, ih, PyData.showable]; rfl
theorem lst_depth (xs : List Str) : (PyData.list (xs.map PyData.str)).depth ≤ 8 := by
  rw [PyData.depth, depth_strs]
  decide
theorem dpS_lst {K : PySem.W.Frag} {H : Hp} {a : Addr} {xs : List Str} (h : SqL K H a (xs.map V.str)) : DpS K H (.ref a) (.list (xs.map PyData.str)) := .inl (.lst h (dpAll_strs xs))
end KC
namespace KC
open PySem PySem.Spec PyProof.Rows L2 Srt
/-! ### sorted of texts, any number of them -/
def svOf : Value → Str
  | .str x _ => x
  | _ => ""
def ltSv (v u : Value) : Bool := decide ((svOf v).cps.toList < (svOf u).cps.toList)
theorem ltSv_no {v u : Value} : ltSv v u = false ↔ leS (svOf u) (svOf v) = true := by
  unfold ltSv leS leC
  rw [ltCps_eq]
  show _ ↔ (!decide ((svOf v).cps.toList < (svOf u).cps.toList)) = true
  cases decide ((svOf v).cps.toList < (svOf u).cps.toList) <;> simp
theorem swo_str : SrtO.Swo ltSv := by
  refine ⟨fun x y h => ?_, fun x y z h1 h2 => ?_⟩
  · rw [ltSv_no]
    have := leS_total (svOf x) (svOf y)
    rw [Bool.or_eq_true] at this
    rcases this with q | q
    · exact q
    · have e := ltSv_no.mpr q
      rw [h] at e
      cases e
  · rw [ltSv_no] at h1 h2 ⊢
    exact leS_trans h1 h2
theorem strs_in : ∀ {vs : List Value} {xs : List Str}, StrsAre vs xs → ∀ v ∈ vs, ∃ x t, v = Value.str x t
  | _, _, .nil, v, h => absurd h (by simp)
  | _, _, .cons x t r, v, h => by
    rcases List.mem_cons.mp h with e | h
    · exact ⟨x, t, e⟩
    · exact strs_in r v h
theorem strs_sv : ∀ {vs : List Value}, (∀ v ∈ vs, ∃ x t, v = Value.str x t) → StrsAre vs (vs.map svOf)
  | [], _ => .nil
  | v :: vs, h => by
    obtain ⟨x, t, e⟩ := h v List.mem_cons_self
    subst e
    exact .cons x t (strs_sv fun u hu => h u (List.mem_cons_of_mem _ hu))
theorem sv_strs : ∀ {vs : List Value} {xs : List Str}, StrsAre vs xs → vs.map svOf = xs
  | _, _, .nil => rfl
  | _, _, .cons x t r => congrArg (x :: ·) (sv_strs r)
section
variable {prog : Program} {w : World} {A : Around} {s : Shared}
theorem str_cmp {vs : List Value} {xs : List Str} (hS : StrsAre vs xs) : SrtO.Cmp prog w A s oneType' (fun p => p.1 ∈ vs) (SrtO.lt2 ltSv) := by
  intro p q hm hm'
  obtain ⟨a, t, e⟩ := strs_in hS _ hm
  obtain ⟨b, u, e'⟩ := strs_in hS _ hm'
  show wpAny (model prog w) A (keyLt' oneType' p.1 q.1) (fun r s' => s' = s ∧ r = ltSv p.1 q.1) (fun _ _ => False) s
  rw [e, e', keyLt'_oneType]
  exact oneLt_str ⟨rfl, rfl⟩
theorem strs_sortable {a : Addr} {vs : List Value} {xs : List Str} (hS : StrsAre vs xs) (h2 : 2 ≤ vs.length) : SrtO.SortableO prog w A s a vs ltSv := by
  intro h' _
  refine ⟨oneType', fun Q E hq => ?_, str_cmp hS⟩
  match vs, hS, h2 with
  | v1 :: v2 :: rest, hS, _ =>
    rw [keyKind_strs hS]
    exact wpAny_pure hq
  | [], _, h => exact absurd h (by decide)
  | [v], _, h => exact absurd h (by simp)
end
def rSortedB (K : PySem.W.Frag) : List V → Hp → VK → Prop := fun vs H Q => ∃ (a : Addr) (xs : List Str), vs = [V.ref a] ∧ SqL K H a (xs.map V.str) ∧
  ∀ p : Addr, H p = none → Q (.ref p) (L2.upd H p (.lst ((srt xs).map V.str)))
theorem cr_sortedB {X : Cx} : CallR X (.builtin "sorted") (rSortedB X.K) := by
  intro pins s σ H vs us Q I r h
  obtain ⟨a, xs, rfl, hs, q⟩ := h
  obtain ⟨its, rv, hl, hz⟩ := I.list hs
  rw [Vals.ref1 r]
  have hi := rv.strs
  refine SrtO.sorted_ord swo_str hl.isList (by rw [← rv.length]; exact hz) (fun h2 h₁ a' _ _ => strs_sortable hi h2) fun out h1 h2 => ?_
  have k1 : StrsAre out (out.map svOf) := strs_sv fun v hv => strs_in hi v (h2.perm.mem_iff.mp hv)
  have k2 : (out.map svOf).Perm xs := by
    have z := h2.perm.map svOf
    rw [sv_strs hi] at z
    exact z
  have k3 : Asc (out.map svOf) := List.pairwise_map.mpr (h1.imp fun {x y} h => ltSv_no.mp h)
  have k4 : srt xs = out.map svOf := srt_eq k2 k3
  obtain ⟨ep, he'⟩ := PyProof.Rows.sortedAll_at s.heap its out.toArray
  have hlen : ((out.map svOf).map V.str).length ≤ sizeLine := by
    rw [List.length_map, k2.length_eq]
    rw [List.length_map] at hz
    exact hz
  have fin := q (s.heap.objs.size + 1) (I.hok.fresh (Nat.le_succ _))
  rw [k4] at fin
  exact ⟨.ref _, L2.upd H (s.heap.objs.size + 1) (.lst ((out.map svOf).map V.str)), I.laid (t' := s.toks) (fun _ _ => PyProof.Rows.sortedAll_old) (Nat.le_succ _) ⟨hlen, out, ep, vals_of_strs k1, he'⟩, rfl, fin⟩
end KC
namespace KC
open PySem PySem.Spec PyProof.Rows L2
/-! ### an exception that is caught and kept -/
/-- an exception of the class cls at a; d is its dict -/
def ExK (cls : Value) (d : Option Addr) (a : Addr) : HO := .ext fun h => ∃ (oe : Obj) (vs : Array Value), h.get? a = some oe ∧ Zc cls d oe ∧ oe.data = .fields vs
theorem exK_ok {P : Program} {w : World} {H : Hp} {h : Heap} {a : Addr} {cls : Value} {d : Option Addr} {oe : Obj} {vs : Array Value} (e : h.get? a = some oe) (z : Zc cls d oe) (dt : oe.data = .fields vs) : ObjOk P w H h a (ExK cls d a) :=
  ⟨⟨oe, vs, e, z, dt⟩, ⟨oe, e⟩, fun _ _ ⟨o, v, q, r⟩ k => ⟨o, v, k o q, r⟩⟩
section
variable {X : Cx} {pins : List (Addr × Obj)} {σ : L2.St} {H : Hp} {s : Shared}
theorem track {a : Addr} {cls : Value} {d : Option Addr} {oe : Obj} {vs : Array Value} (I : Inv X pins σ H s) (e : s.heap.get? a = some oe) (hz : Zc cls d oe) (hd : oe.data = .fields vs) (na : H a = none) (n0 : X.s_0.heap.get? a = none) (nL : a ≠ X.env.locals) (nP : ∀ p ∈ X.pn ++ pins, p.1 ≠ a) :
    Inv X pins σ (L2.upd H a (ExK cls d a)) s := by
  have ne0 : ∀ b o, X.s_0.heap.get? b = some o → b ≠ a := fun b o q z => by rw [z, n0] at q; cases q
  have neH : ∀ {b o}, H b = some o → b ≠ a := fun q z => by rw [z, na] at q; cases q
  have neC : ∀ x c, X.env.cells.lookup x = some c → c ≠ a := fun x c q z => by
    obtain ⟨v, ob, ho, hdat⟩ := I.cell x c q
    rw [z, e] at ho
    cases ho
    rw [hd] at hdat
    cases hdat
  refine ⟨I.ok, I.os, I.bare, ⟨I.base.keep, I.base.slot, fun b o q n hx => ?_, I.base.there, fun b xs q => ?_, fun b o u q => ?_, fun b ps q => ?_⟩, I.loc, I.cell, ?_, fun x c q => ?_, fun p hp => ?_, fun b u q => ?_, I.len⟩
  · rw [upd_ne (ne0 b o q)]
    exact I.base.free b o q n hx
  · have z := I.base.tups b xs q
    rw [upd_ne (neH z)]
    exact z
  · have z := I.base.frzs b o u q
    rw [upd_ne (neH z)]
    exact z
  · obtain ⟨m, z⟩ := I.base.tbls b ps q
    exact ⟨m, by rw [upd_ne (neH z)]; exact z⟩
  · rw [upd_ne (Ne.symm nL)]
    exact I.free
  · rw [upd_ne (neC x c q)]
    exact I.freeC x c q
  · obtain ⟨p1, p2, p3⟩ := I.pin p hp
    exact ⟨p1, by rw [upd_ne (nP p hp)]; exact p2, p3⟩
  · by_cases hb : b = a
    · subst hb
      rw [upd_same] at q
      cases q
      exact exK_ok e hz hd
    · rw [upd_ne hb] at q
      exact (I.hok b u q).stay (fun _ _ _ z => z) (fun c z => by rw [upd_ne (neH z)]; exact z) fun c xs z => by rw [upd_ne (neH z)]; exact z
end
/-- what 'except x as n' wishes of an exception of the body, the exception being kept: slot i is n's -/
def wKeep (K : PySem.W.Frag) (c : Value) (i : Nat) (ts : Addr → Value → Option Addr → TS) (Wout : WX) (D : Ends) : WX := fun cls d σ H =>
  ∃ b, PySem.W.exmOne K cls c = some b ∧ (b = true → ∀ a, H a = none → ts a cls d { nx := fun σ' H' => H' a = none ∧ D.nx (σ'.set i none) (L2.upd H' a (ExK cls d a)), rt := fun _ _ => False, bk := fun _ _ => False, ct := fun _ _ => False } (σ.set i (some (.ref a))) H) ∧
    (b = false → Wout cls d σ H)
section
variable {X : Cx} {x n : Str} {c : Value} {i : Nat} {body suite : List Stmt} {b₀ : Stmt} {np pos pos' : Pos} {tb : WX → TS} {ts : Addr → Value → Option Addr → TS} {Wout : WX}
theorem ps_try_keep (hs : X.stack = X.env :: X.outer) (hf : X.env.frame = some X.env.locals) (hN : X.N.Nodup) (hi : X.N[i]? = some n) (hln : X.env.kindOf n = some .local) (hex : X.ex = []) (hc : Names X x c) (tk : Takes X Wout)
    (hb : ∀ (W : WX) (pn : List (Addr × Obj)) (xe : Value → Shared → Prop), Takes (X.tr pn xe) W → PassesOwn (model X.prog X.w) X.A X.env xe → PSs (X.tr pn xe) body (tb W))
    (hsu : ∀ (a : Addr) (oe : Obj) (cls : Value) (d : Option Addr) (pn : List (Addr × Obj)), Zc cls d oe → (∃ vs, oe.data = .fields vs) → PSs (X.suite a ((a, oe) :: pn)) (b₀ :: suite) (ts a cls d)) :
    PS X (.Try body [.ExceptHandler (some (.Name x np)) (some n) (b₀ :: suite) pos'] [] [] pos) (fun D σ H => tb (wKeep X.K c i ts Wout D) D σ H) := by
  refine ⟨fun pins s σ H D I h => ?_⟩
  have ok := I.ok
  have hfr : X.A.frames = some (X.env :: X.outer) := by rw [ok.frames, hs]
  have hloc : Loc X.env.scope n := .inl hln
  refine wpAny_Try_except ?_
  refine wpAny_mono ((hb (wKeep X.K c i ts Wout D) (X.pn ++ pins) (fun e s₁ => wpAny (model X.prog X.w) X.A (noteFrame e X.env) (fun _ s₂ => wpAny (model X.prog X.w) X.A (setFlight e none) (fun _ s₃ =>
    wpAny (model X.prog X.w) X.A (handleBy e X.env [.ExceptHandler (some (.Name x np)) (some n) (b₀ :: suite) pos']) (SP X pins D) X.xe s₃) X.xe s₂) X.xe s₁) (fun u s' xx => ?_) PassesOwn.looking).run [] s σ H D (I.toTry _) h) (fun f s1 hsp => ?_) (fun e s1 he => he)
  · -- the catch
    obtain ⟨a, B, sI, pins', σ', H', cls, d, rfl, J', nb, up, sky, na, os, ag, b, hb1, hyes, hno⟩ := xx
    have J : Inv X pins σ' H' sI := J'.ofTry ok
    have sky' : Sky B (X.env :: X.outer) a (Zc cls d) X.env.locals s'.heap := by rw [← hs]; exact sky
    show wpAny (model X.prog X.w) X.A (noteFrame (.ref a) X.env) _ _ _
    refine Sky.land Zc.steady hfr hf sky' fun h3 fl3 up3 => ?_
    have J3 : Inv X pins σ' H' { s' with heap := h3 } := J.landed nb fl3.1 (up.trans up3) os ag
    obtain ⟨oe3, vs3, he3, hz3, hd3⟩ := fl3.there
    have notFr : ∀ {h : Heap} {o : Obj} {vs : Array Value}, h.FunFrames B (X.env :: X.outer) → h.get? a = some o → o.data = .fields vs → a ∉ frs (X.env :: X.outer) := fun {h o vs} ff e dd hm => by
      obtain ⟨_, o', e', hnf⟩ := ff.mem hm
      rw [e] at e'; cases e'
      exact hnf _ dd
    have nfr := notFr fl3.2.2.1 he3 hd3
    have nL : a ≠ X.env.locals := fun z => nfr (List.mem_filterMap.mpr ⟨X.env, List.mem_cons_self, by rw [hf, z]⟩)
    have nF : a ∉ X.fs := fun hm => by
      obtain ⟨e, he, q⟩ := List.mem_filterMap.mp hm
      exact nfr (List.mem_filterMap.mpr ⟨e, List.mem_cons_of_mem _ he, q⟩)
    have nI : sI.heap.get? a = none := by
      cases q : sI.heap.get? a with
      | none => rfl
      | some o =>
        have z := nb a o q (by rw [hs]; exact nfr)
        rw [fl3.2.1] at z
        cases z
    have n0 : X.s_0.heap.get? a = none := by
      cases q : X.s_0.heap.get? a with
      | none => rfl
      | some o =>
        obtain ⟨o', z⟩ := J.base.there a o q (by rw [hex]; exact fun z => nomatch z)
        rw [nI] at z
        cases z
    have nP : ∀ p ∈ X.pn ++ pins, p.1 ≠ a := fun p hp z => by
      have q := (J.pin p hp).1
      rw [z, nI] at q
      cases q
    have S3 := J3.suite he3 hd3 na nL nF
    refine wpAny_handleBy_cons (codeAny_handlers_test ?_) (by intro q; cases q)
    have LT : PySem.W.Looks (model X.prog X.w) h3 (typeOf (.ref a)) cls := fun A Q E s k q => wpAny_typeOf_ref (k _ _ he3) (by rw [hz3.1]; exact q)
    have LM := PySem.W.exm_one (M := model X.prog X.w) (J3.kIn) LT hb1
    have test : ∀ {Q : Value → Shared → Prop} {E : Value → Shared → Prop}, Q c { s' with heap := h3 } → wpAny (model X.prog X.w) (X.A.mark (some (.ref a))) (eval (.Name x np) X.env) Q E { s' with heap := h3 } := fun {Q E} q => by
      obtain ⟨hg, hdbg, hm | ⟨hm, hv, hnn⟩⟩ := hc
      · exact ld_glob (X := X.suite a ((a, oe3) :: (X.pn ++ pins))) S3 hg hm q hdbg
      · exact ld_blt (X := X.suite a ((a, oe3) :: (X.pn ++ pins))) S3 hg hm hv q hnn hdbg
    refine test (LM.here ?_)
    cases b with
    | true =>
      refine codeAny_handlers_suite_as ?_
      refine HandSPX.lands_againZ fl3 fun h4 fl4 up4 => ?_
      have J4 : Inv X pins σ' H' { s' with heap := h4 } := J.landed nb fl4.1 ((up.trans up3).trans up4) os ag
      obtain ⟨oe4, vs4, he4, hz4, hd4⟩ := fl4.there
      have S4 := J4.suite he4 hd4 na nL nF
      refine store_ok (X := X.suite a ((a, oe4) :: (X.pn ++ pins))) (v := .ref a) S4 hN hi hloc rfl (fun s5 S5 => ?_) (.inr hln)
      refine wpAny_mono ((hsu a oe4 cls d (X.pn ++ pins) hz4 ⟨_, hd4⟩).run [] s5 _ H' _ S5 (hyes rfl a na)) (fun f s6 hsp => ?_) (fun _ _ z => False.elim z)
      cases f with
      | next =>
        obtain ⟨σ6, H6, S6, n6, q6⟩ := hsp
        have g6 := (S6.pin (a, oe4) (by
          show (a, oe4) ∈ ((a, oe4) :: (X.pn ++ pins)) ++ []
          exact List.mem_append_left _ (List.mem_cons_self ..))).1
        have T6 := track (S6.unsuite ok) g6 hz4 hd4 n6 n0 nL nP
        exact gone_ok T6 hN hi hln fun s7 J7 => ⟨_, _, J7, q6⟩
      | brk =>
        obtain ⟨σ6, H6, S6, q6⟩ := hsp
        exact False.elim q6
      | cont =>
        obtain ⟨σ6, H6, S6, q6⟩ := hsp
        exact False.elim q6
      | ret u =>
        obtain ⟨v6, σ6, H6, S6, r6, q6⟩ := hsp
        exact False.elim q6
    | false =>
      show wpAny _ X.A (handleBy (.ref a) X.env []) _ _ _
      refine wpAny_handleBy_nil ?_
      obtain ⟨k1, k2, k3, oe, vs, T, oT, ts', he, hz, hd, h1, hr⟩ := id fl3
      unfold PySem.passOn
      refine wpAny_bind (wpAny_field he hd h1 ?_)
      rw [if_neg (show ¬ ((Value.ref T == Value.none) = true) from by simp)]
      have fin : wpAny (model X.prog X.w) X.A (setFlight (.ref a) X.env.frame) (fun _ s4 => wpAny (model X.prog X.w) X.A (throw (.ref a) : Sem Flow) (SP X pins D) X.xe s4) X.xe { s' with heap := h3 } := by
        rw [hf]
        refine HandSPX.setFlight_upZ fl3 fun h4 hh4 up4 => wpAny_throw (tk _ _ ?_)
        exact ⟨a, B, sI, pins, σ', H', cls, d, rfl, J, nb, (up.trans up3).trans up4, .inr (.inr (by rw [hs]; exact hh4)), na, os, ag, hno rfl⟩
      first
        | exact wpAny_bind (wpAny_pure (wpAny_bind fin))
        | exact wpAny_bind fin
  · cases f with
    | next =>
      obtain ⟨σ', H', J', q⟩ := hsp
      exact wpAny_execs_nil ⟨σ', H', J'.ofTry ok, q⟩
    | brk =>
      obtain ⟨σ', H', J', q⟩ := hsp
      exact ⟨σ', H', J'.ofTry ok, q⟩
    | cont =>
      obtain ⟨σ', H', J', q⟩ := hsp
      exact ⟨σ', H', J'.ofTry ok, q⟩
    | ret u =>
      obtain ⟨v, σ', H', J', r, q⟩ := hsp
      exact ⟨v, σ', H', J'.ofTry ok, r, q⟩
end
end KC
namespace KC
open PySem PySem.Spec PyProof.Rows L2
/-! ### what is known of the classes of exceptions -/
/-- a class that except names -/
structure HanT (K : PySem.W.Frag) (mg : Str → Option Value) (x : Str) (C : Addr) : Prop where
  gl : mg x = some (.ref C)
  bp : PySem.W.subIn K (.ref C) (.type "BaseException") = some true
  hd : PySem.W.hasDictIn K C = true
  tp : PySem.W.typeIn K (.ref C) = some (.type "type")
theorem HanT.exm {K : PySem.W.Frag} {mg : Str → Option Value} {x : Str} {C D : Addr} {b : Bool} (h : HanT K mg x C) (s : PySem.W.subIn K (.ref D) (.ref C) = some b) : PySem.W.exmOne K (.ref D) (.ref C) = some b :=
  PySem.W.exm_ref h.bp h.hd h.tp s
/-- an own class that isinstance is asked of -/
structure AskT (K : PySem.W.Frag) (mg : Str → Option Value) (x : Str) (C : Addr) : Prop where
  gl : mg x = some (.ref C)
  cl : ((PySem.W.clsIn K C).isSome && PySem.W.typeIn K (.ref C) == some (.type "type")) = true
theorem AskT.kit {K : PySem.W.Frag} {mg : Str → Option Value} {x : Str} {C D : Addr} {b : Bool} (h : AskT K mg x C) (s : PySem.W.subIn K (.ref D) (.ref C) = some b) (ne : b = false → D ≠ C) : PySem.W.kitOne K (.ref D) (.ref C) = some b := by
  unfold PySem.W.kitOne
  by_cases e : D = C
  · subst e
    rw [if_pos (by exact beq_self_eq_true _)]
    cases b with
    | true => rfl
    | false => exact absurd rfl (ne rfl)
  · rw [if_neg (fun z => e (Value.ref.inj (beq_iff_eq.mp z)))]
    unfold PySem.W.kitCls
    show (if ((PySem.W.clsIn K C).isSome && PySem.W.typeIn K (.ref C) == some (.type "type")) = true then PySem.W.subIn K (.ref D) (.ref C) else none) = some b
    rw [if_pos h.cl]
    exact s
theorem takes_never {X : Cx} : Takes X (fun _ _ _ _ => False) := fun u s' ⟨_, _, _, _, _, _, _, _, _, _, _, _, _, _, _, _, w⟩ => w.elim
/-! ### isinstance of an exception that is kept -/
def rIsX (K : PySem.W.Frag) : List V → Hp → VK → Prop := fun xs H Q => ∃ (a D : Addr) (c : V) (u : Value) (b : Bool), xs = [.ref a, c] ∧ H a = some (ExK (.ref D) none a) ∧ ExcC K D ∧ ClsV c u ∧ PySem.W.kitOne K (.ref D) u = some b ∧ Q (.bl b) H
def rIsXT (K : PySem.W.Frag) : List V → Hp → VK → Prop := fun xs H Q => ∃ (a D tp : Addr) (cs : List V) (us : List Value) (b : Bool), xs = [.ref a, .ref tp] ∧ H a = some (ExK (.ref D) none a) ∧ ExcC K D ∧ H tp = some (.tup cs) ∧ Paired ClsV cs us ∧ PySem.W.kitAny K (.ref D) us = some b ∧ Q (.bl b) H
section
variable {X : Cx}
theorem kept_inst {pins : List (Addr × Obj)} {σ : L2.St} {H : Hp} {s : Shared} {a D : Addr} (I : Inv X pins σ H s) (h : H a = some (ExK (.ref D) none a)) : ∃ oe : Obj, PySem.W.InstAt s.heap a oe D none := by
  obtain ⟨⟨oe, vs, e, z, d⟩, _⟩ := (show ObjOk X.prog X.w H s.heap a (ExK (.ref D) none a) from I.hok a _ h)
  obtain ⟨oc, od, oda, osl⟩ := oe
  obtain ⟨h1, h2⟩ := z
  dsimp only at h1 h2 d
  subst h1 h2 d
  exact ⟨_, e, rfl, rfl, trivial⟩
theorem call_isX : CallR X (.builtin "isinstance") (rIsX X.K) := by
  intro pins s σ H xs us Q I r h
  obtain ⟨a, D, c, u, b, rfl, ha, C, k, e, q⟩ := h
  obtain ⟨u1, u2, rfl, r1, r2⟩ := vals2 r
  have e2 := k.eq r2
  subst e2
  cases (show u1 = Value.ref a from r1)
  obtain ⟨oe, J⟩ := kept_inst I ha
  exact PySem.W.kia_one (PySem.W.handS_kitx_exc C.hg C.hk C.hs C.hd C.ha C.hn C.ht C.hm) I.kIn J e (fun z => nomatch z) fun tk => ⟨.bl b, H, I.tok tk, rfl, q⟩
theorem call_isXT : CallR X (.builtin "isinstance") (rIsXT X.K) := by
  intro pins s σ H xs us Q I r h
  obtain ⟨a, D, tp, cs, ws, b, rfl, ha, C, hT, k, e, q⟩ := h
  obtain ⟨u1, u2, rfl, r1, r2⟩ := vals2 r
  cases (show u2 = Value.ref tp from r2)
  cases (show u1 = Value.ref a from r1)
  obtain ⟨oe, J⟩ := kept_inst I ha
  obtain ⟨_, its, rv, o, h1, h2, n, h3⟩ := (show ObjOk X.prog X.w H s.heap tp (.tup cs) from I.hok tp _ hT)
  have e3 := ClsV.all k rv
  subst e3
  obtain ⟨oc, od, dt, sl⟩ := o
  simp only at h2 h3
  subst h2 h3
  exact PySem.W.kia_tup (PySem.W.handS_kitx_exc C.hg C.hk C.hs C.hd C.ha C.hn C.ht C.hm) I.kIn J h1 e (fun z => nomatch z) fun tk => ⟨.bl b, H, I.tok tk, rfl, q⟩
end
theorem kitAny_f {K : PySem.W.Frag} {t c : Value} {r : List Value} {b : Bool} (h : PySem.W.kitOne K t c = some false) (hr : PySem.W.kitAny K t r = some b) : PySem.W.kitAny K t (c :: r) = some b := by
  unfold PySem.W.kitAny
  rw [h]
  exact hr
theorem kit_of_sub {K : PySem.W.Frag} {D : Addr} {v : String} (h : PySem.W.subIn K (.ref D) (.type v) = some true) (m : PySem.W.kitMeta v = true) : PySem.W.kitOne K (.ref D) (.type v) = some true := by
  unfold PySem.W.kitOne
  rw [if_neg (fun z => nomatch (beq_iff_eq.mp z : Value.ref D = Value.type v))]
  show (if PySem.W.kitMeta v = true then PySem.W.subIn K (.ref D) (.type v) else none) = some true
  rw [if_pos m]
  exact h
end KC
namespace KC
open PySem PySem.Spec PyProof.Rows L2
/-! ### a list comprehension whose element calls what may raise -/
/-- the block, with a wish for exceptions -/
abbrev blkX (X : Cx) (s : Shared) (H : Hp) (sc : Scope) (ce : Env) (fp : List Addr) (EX : Value → Shared → Prop) : Cx := (X.blk s H sc ce fp).wish EX
section
variable {X : Cx}
/-- an exception that a call in the block let out: noted, the block let go, on in the def's own frame -/
theorem blk_raise {s3 : Shared} {H3 : Hp} {sc : Scope} {ce : Env} {fp : List Addr} {EX : Value → Shared → Prop} {pins : List (Addr × Obj)} {σ : L2.St} {Wo : WX} {use : Option (Value → Sem Unit)} {Qf : Value → Shared → Prop} {D : Addr}
    (hs : X.stack = X.env :: X.outer) (hf : X.env.frame = some X.env.locals) (tk : Takes X Wo) (I3 : Inv X pins σ H3 s3) (cL : ce.locals = s3.heap.objs.size) (cF : ce.frame = X.env.frame)
    (ffp : ∀ b ∈ fp, FpOk X pins H3 b) (σ1 : L2.St)
    (hE : EX = notedBy (model X.prog X.w) X.A ce fun e s' => compEnds (model X.prog X.w) X.A X.xe use Qf (.ref D) ce (.error e) s') :
    PassesAt (L2.CX X.prog X.w) (blkX X s3 H3 sc ce fp EX) σ1 (fun cls d H' => Wo cls d σ H') := by
  intro qs H6 s6 e s' I6 c
  obtain ⟨a0, B0, _, cls0, d0, e0, fl0, _⟩ := id c
  obtain ⟨a, B, sI, qs', σ', H', cls, d, e1, J, nb, up, sky, na, os, ag, w⟩ := XE.of_call (W := fun cls d _ H' => Wo cls d σ H') I6 (fun _ _ _ h => h) c
  subst e1
  have ea := Value.ref.inj e0
  subst ea
  have fl : HandSPX.FlyingZ B X.stack a (Zc cls d) s'.heap := by
    obtain ⟨_, _, _, o0, v0, T0, oT0, t0, g0, _, dd0, r0, _, _, gT0, dT0, f0⟩ := fl0
    rcases sky with ⟨_, _, _, oe, vs, he, _, hd, h1⟩ | fl | ⟨_, _, _, oe, vs, T, oT, ts, he, _, hd, h1, _, _, hT, hdT, h3⟩
    · rw [he] at g0
      cases g0
      rw [hd] at dd0
      cases dd0
      rw [h1] at r0
      cases r0
    · exact fl
    · rw [he] at g0
      cases g0
      rw [hd] at dd0
      cases dd0
      rw [h1] at r0
      cases r0
      rw [hT] at gT0
      cases gT0
      rw [hdT] at dT0
      cases dT0
      rw [h3] at f0
      cases f0
  show EX (.ref a) s'
  rw [hE]
  show wpAny (model X.prog X.w) X.A (noteFrame (.ref a) ce) _ _ s'
  rw [noteFrame_env _ cF]
  have hfr : X.A.frames = some (X.env :: X.outer) := by rw [I3.ok.frames, hs]
  rw [hs] at fl
  refine HandSPX.looks_onZ Zc.steady hfr hf fl fun h1 hh1 up1 => ?_
  obtain ⟨m, hn, _⟩ := J.loc
  have hnI : sI.heap.Ns ce.locals m := hn
  have hn1 : h1.Ns ce.locals m := (hnI.upToSlots up).upToSlots up1
  have ends : CompFails (model X.prog X.w) X.A X.xe ce (.ref a) { s' with heap := h1 } := by
    refine ⟨m, hn1, fun h2 m2 hn2 sb => ?_⟩
    have sbb : ∀ b, b ≠ ce.locals → h2.get? b = h1.get? b := fun b hb => sb.2 b hb
    have noF : ∀ {b o vs}, h1.get? b = some o → o.data = .fields vs → b ≠ ce.locals := fun {b o vs} e dd z => by
      obtain ⟨oc, es, ep, hc, hdc, _⟩ := hn1
      rw [z, hc] at e
      cases e
      rw [hdc] at dd
      cases dd
    obtain ⟨k1, k2, k3, oe, vs, T, oT, ts, he, hz, hd, hv1, hnT, hTe, hT, hdT, hv3⟩ := hh1
    have gone : ∀ {b o}, (PySem.W.hideAll B [ce.locals]).get? b = some o → B.get? b = some o ∧ b ≠ ce.locals := fun {b o} e => by
      refine ⟨PySem.W.of_hideAll _ e, fun z => ?_⟩
      rw [PySem.W.hideAll_none _ (by rw [z]; exact List.mem_singleton.mpr rfl)] at e
      cases e
    have none_of : ∀ {b}, B.get? b = none → (PySem.W.hideAll B [ce.locals]).get? b = none := fun {b} e => by
      cases q : (PySem.W.hideAll B [ce.locals]).get? b with
      | none => rfl
      | some o =>
        rw [(gone q).1] at e
        cases e
    have ff2 : h2.FunFrames B (X.env :: X.outer) := Heap.FunFrames.sameBut sb hn2 k3
    have tr2 : HandSPX.TracedZ h2 (PySem.W.hideAll B [ce.locals]) a (Zc cls d) (rawInt X.env.locals) :=
      ⟨oe, vs, T, oT, ts, (sbb a (noF he hd)).trans he, hz, hd, hv1, none_of hnT, hTe, (sbb T (noF hT hdT)).trans hT, hdT, hv3⟩
    have hh2 : HandSPX.HeldZ (PySem.W.hideAll B [ce.locals]) (X.env :: X.outer) a (Zc cls d) X.env.locals h2 := by
      refine ⟨fun b o e => ?_, none_of k2, funFrames_none ff2 fun b hb => ?_, tr2⟩
      · obtain ⟨x1, x2⟩ := gone e
        exact (sbb b x2).trans (k1 b o x1)
      · exact none_of (ff2.mem hb).1
    unfold PySem.passOn
    refine wpAny_bind (wpAny_field (show h2.get? a = some oe from (sbb a (noF he hd)).trans he) hd hv1 ?_)
    rw [if_neg (fun z => by simp at z)]
    rw [cF, hf]
    refine wpAny_bind (HandSPX.setFlight_onZ hh2 fun h3 hh3 up3 => wpAny_throw (tk _ _ ?_))
    have gI : ∀ {b o}, (PySem.W.hideAll sI.heap [ce.locals]).get? b = some o → sI.heap.get? b = some o ∧ b ≠ ce.locals := fun {b o} e => by
      refine ⟨PySem.W.of_hideAll _ e, fun z => ?_⟩
      rw [PySem.W.hideAll_none _ (by rw [z]; exact List.mem_singleton.mpr rfl)] at e
      cases e
    have kI : ∀ {b o}, sI.heap.get? b = some o → b ≠ ce.locals → (PySem.W.hideAll sI.heap [ce.locals]).get? b = some o := fun {b o} e n => PySem.W.hideAll_get _ e fun z => n (List.mem_singleton.mp z)
    have old : ∀ {b o}, s3.heap.get? b = some o → b ≠ ce.locals := fun {b o} e => by
      rw [cL]
      exact Nat.ne_of_lt (Heap.lt_size e)
    have J5 : sI.os = s3.os := J.os
    refine ⟨a, PySem.W.hideAll B [ce.locals], { sI with heap := PySem.W.hideAll sI.heap [ce.locals] }, pins, σ, H', cls, d, rfl, ?_, fun b o e hb => ?_, fun b o e nf => ?_, .inr (.inr (by rw [hs]; exact hh3)), na, os, ag, w⟩
    · refine I3.call' (ch := fp) J5 ⟨fun b o e n hb hx => kI (J.base.keep b o e n hb hx) (old e), fun b o e n hb hx => ?_, J.base.free, fun b o e hx => ?_, J.base.tups, J.base.frzs, J.base.tbls⟩ (fun b o q => ?_) J.bare fun b hb => ?_
      · obtain ⟨sl, z⟩ := J.base.slot b o e n hb hx
        exact ⟨sl, kI z (old e)⟩
      · obtain ⟨o', z⟩ := J.base.there b o e hx
        exact ⟨o', kI z (old e)⟩
      · have nC : H' ce.locals = none := J.free
        refine (show ObjOk X.prog X.w H' sI.heap b o from J.hok b o q).stay (fun c u hc r => kI r fun z => ?_) (fun _ r => r) fun _ _ r => r
        rcases hc with hc | hc
        · rw [← hc, z, nC] at q
          cases q
        · rw [z, nC] at hc
          cases hc
      · obtain ⟨f0, f1, f2, f3, f4, f5⟩ := ffp b hb
        exact ⟨f3, f1, f4, f5⟩
    · obtain ⟨x1, x2⟩ := gI e
      exact PySem.W.hideAll_get _ (nb b o x1 hb) fun z => x2 (List.mem_singleton.mp z)
    · obtain ⟨x1, x2⟩ := gI e
      obtain ⟨sl1, y1⟩ := up b o x1 nf
      obtain ⟨sl2, y2⟩ := up1 b _ y1 nf
      have y3 : h2.get? b = some _ := (sbb b x2).trans y2
      obtain ⟨sl3, y4⟩ := up3 b _ y3 nf
      exact ⟨sl3, y4⟩
  cases use <;> exact ends
/-- the comprehension, with what it owes when its element raises -/
def tLcX (wi : TI) (g : TG) (tt : TT) (te : WX → TE) (vs : List Nat) (Wo : WX) : TE := fun σ H Q => tLc wi g tt (te fun cls d _ H' => Wo cls d σ H') vs σ H Q
theorem blk_frame {sc : Scope} {cl : List (Str × Addr)} {C : Addr} {env : Env} : (compEnvC sc cl C env).frame = env.frame := rfl
theorem lcx_core {pins : List (Addr × Obj)} {s : Shared} {σ : L2.St} {H : Hp} {Q : VK} {elt tg iter : Expr} {ifs : List Expr} {sc : Scope} {own : List (Str × Nat)} {pos pos' : Pos} {wi : TI} {g : TG} {tt : TT} {te : WX → TE} {Wo : WX} {use : Option (Value → Sem Unit)} {Qf : Value → Shared → Prop}
    (hs : X.stack = X.env :: X.outer) (hf : X.env.frame = some X.env.locals) (tk : Takes X Wo) (hc : X.calm = true) (hN : X.N.Nodup) (I : Inv X pins σ H s) (hi : PI X tg iter wi) (ok : BlkOk X.N X.env.scope sc own)
    (hg : ∀ s H C cl fp EX, PG (blkX X s H sc (compEnvC sc cl C X.env) fp EX) tg g) (ht : ∀ s H C cl fp EX, PTs (blkX X s H sc (compEnvC sc cl C X.env) fp EX) ifs tt)
    (he : ∀ s H C cl fp EX W, (∀ σ1, PassesAt (L2.CX X.prog X.w) (blkX X s H sc (compEnvC sc cl C X.env) fp EX) σ1 (WE W σ1)) → PE (blkX X s H sc (compEnvC sc cl C X.env) fp EX) elt (te W))
    (hst : ∀ x, foldedSetIterable iter X.env x = pure x) (h : tLcX wi g tt te (own.map (·.2)) Wo σ H Q)
    (fin : ∀ D (ce : Env) s1 m H1, Inv X pins σ H1 s1 → Q (.ref D) H1 → s1.heap.Ns ce.locals m → FpOk X pins H1 ce.locals → compEnds (model X.prog X.w) X.A X.xe use Qf (.ref D) ce (.ok .next) s1) :
    wpAny (model X.prog X.w) X.A (comprehension (.ListComp elt [⟨tg, iter, ifs, 0⟩] sc pos) sc X.env pos' (newList []) false (eval iter X.env) use) Qf X.xe s := by
  have caught : ∀ y ∈ sc.names, y.2 = .free → ∃ c, X.env.cells.lookup y.1 = some c := fun y hy e => (ok.free y hy e).elim (fun k => I.ok.has _ (.inl k)) fun k => I.ok.has _ (.inr k)
  refine comprehension_at (use := use) rfl hst (closure_ok caught) ok.kind (fun y hy e => (ok.uniq y hy).trans (congrArg some e)) (thn (hi.run pins s σ H _ I h) fun xv s1 hx => thn hx fun itv s2 ⟨it, fp, tn, J, H2, e, I2, T, t2, f2, q⟩ => ?_)
  subst e
  refine wpAny_newObj_type (newEnv_comp ?_) (by show 0 ≤ sizeLine; rw [sizeLine_eq]; omega)
  generalize hD : s2.heap.objs.size = D
  obtain ⟨W, ⟨m0, w0⟩, turn⟩ := q D (I2.hok.fresh (Nat.le_of_eq hD))
  generalize hs3 : ({ s2 with heap := s2.heap.push { cls := .type "list", data := .seq ([] : List Value).toArray } } : Shared) = s3
  have hp3 : s3.heap = s2.heap.push { cls := .type "list", data := .seq ([] : List Value).toArray } := by rw [← hs3]
  have I3 : Inv X pins σ (upd H2 D (.lst [])) s3 := by
    subst hs3
    exact I2.laid (t' := s2.toks) (fun b o e => Heap.get?_push_of_some _ e) (Nat.le_of_eq hD) ⟨Nat.zero_le _, [], 0, .nil, by rw [← hD]; exact Heap.get?_push_size _ rfl⟩
  have below : ∀ b ∈ fp, b < s2.heap.objs.size := fun b hb => by
    obtain ⟨o, e, _⟩ := T.obj _ _ t2 b hb
    exact Heap.lt_size e
  have f3 : ∀ b ∈ fp, FpOk X pins (upd H2 D (.lst [])) b ∧ b < s3.heap.objs.size := fun b hb => by
    have lt := below b hb
    exact ⟨⟨(upd_ne (by rw [← hD]; exact Nat.ne_of_lt lt)).trans (f2 b hb).1, (f2 b hb).2⟩, by rw [hp3, Heap.size_push]; exact Nat.lt_succ_of_lt lt⟩
  have t3 : tn 0 s3.heap := T.keep _ _ _ t2 fun b _ o e => by rw [hp3]; exact Heap.get?_push_of_some _ e
  have I4 := block_start I3 ok hN f3
  have pg := hg s3 (upd H2 D (.lst [])) s3.heap.objs.size (cellsFrom (s3.heap.objs.size + 1) sc.names (cloFrom X.env.cells sc.names [])) fp
  have pt := ht s3 (upd H2 D (.lst [])) s3.heap.objs.size (cellsFrom (s3.heap.objs.size + 1) sc.names (cloFrom X.env.cells sc.names [])) fp
  have pe := he s3 (upd H2 D (.lst [])) s3.heap.objs.size (cellsFrom (s3.heap.objs.size + 1) sc.names (cloFrom X.env.cells sc.names [])) fp
  have ceF : (compEnvC sc (cellsFrom (s3.heap.objs.size + 1) sc.names (cloFrom X.env.cells sc.names [])) s3.heap.objs.size X.env).frame = X.env.frame := rfl
  have ceL : (compEnvC sc (cellsFrom (s3.heap.objs.size + 1) sc.names (cloFrom X.env.cells sc.names [])) s3.heap.objs.size X.env).locals = s3.heap.objs.size := rfl
  show codeAny _ _ (.compStart (.ListComp elt [⟨tg, iter, ifs, 0⟩] sc pos) 0 (.ref it) (.ref D) (compEnvC sc (cellsFrom (s3.heap.objs.size + 1) sc.names (cloFrom X.env.cells sc.names [])) s3.heap.objs.size X.env)) (compEnds (model X.prog X.w) X.A X.xe use Qf (.ref D) (compEnvC sc (cellsFrom (s3.heap.objs.size + 1) sc.names (cloFrom X.env.cells sc.names [])) s3.heap.objs.size X.env)) { s3 with heap := pushCells (s3.heap.push { cls := .type "dict", data := .dict #[] }) sc.names }
  generalize compEnvC sc (cellsFrom (s3.heap.objs.size + 1) sc.names (cloFrom X.env.cells sc.names [])) s3.heap.objs.size X.env = ce at I4 pg pt pe ceF ceL ⊢
  generalize upd H2 D (.lst []) = H3 at I3 I4 pg pt pe w0 f3
  generalize hs4 : ({ s3 with heap := pushCells (s3.heap.push { cls := .type "dict", data := .dict #[] }) sc.names } : Shared) = s4 at I4 ⊢
  have t4 : tn 0 s4.heap := T.keep _ _ _ t3 fun b _ o e => by subst hs4; exact pushCells_keeps _ _ _ _ (Heap.get?_push_of_some _ e)
  generalize hEX : (notedBy (model X.prog X.w) X.A ce fun e s' => compEnds (model X.prog X.w) X.A X.xe use Qf (.ref D) ce (.error e) s') = EX
  have I4' : Inv (blkX X s3 H3 sc ce fp EX) [] (wipe σ (own.map (·.2))) H3 s4 := I4.wish EX
  have pgE := pg EX
  have ptE := pt EX
  have peE := pe EX (fun cls d _ H' => Wo cls d σ H') fun σ1 => blk_raise (σ := σ) (pins := pins) (use := use) (Qf := Qf) (D := D) hs hf tk I3 ceL ceF (fun b hb => (f3 b hb).1) σ1 hEX.symm
  have own_fp : ∀ {σ' H' s'}, Inv (blkX X s3 H3 sc ce fp EX) [] σ' H' s' → (∀ b ∈ fp, H' b = none) → ∀ b ∈ fp, FpOk (blkX X s3 H3 sc ce fp EX) [] H' b := fun {σ' H' s'} I' hn b hb =>
    ⟨hn b hb, (I'.ok.exf b hb).1, I'.ok.exfs b hb, .inl hb, (I'.ok.exf b hb).2, fun p hp => absurd (show p ∈ ([] : List (Addr × Obj)) ++ [] from hp) List.not_mem_nil⟩
  have up : ∀ {α : Type} {t : Sem α} {R R' : α → Shared → Prop} {s' : Shared}, wpAny (model X.prog X.w) X.A t R EX s' → (∀ a s1, R a s1 → R' a s1) →
      wpAny (model X.prog X.w) X.A t R' (notedBy (model X.prog X.w) X.A ce fun e s1 => compEnds (model X.prog X.w) X.A X.xe use Qf (.ref D) ce (.error e) s1) s' := fun k kk => wpAny_mono k kk fun _ _ z => by rw [hEX]; exact z
  have loop : codeAny (model X.prog X.w) X.A (.compLoop (.ListComp elt [⟨tg, iter, ifs, 0⟩] sc pos) 0 (.ref it) (.ref D) ce) (compEnds (model X.prog X.w) X.A X.xe use Qf (.ref D) ce) s4 := by
    refine compLoop_any (fun n s' => ∃ i H', Inv (blkX X s3 H3 sc ce fp EX) [] (wipe σ (own.map (·.2))) H' s' ∧ tn i s'.heap ∧ (∀ b ∈ fp, H' b = none) ∧ W i n H') ?_ m0 ⟨0, H3, I4', t4, fun b hb => (f3 b hb).1.1, w0⟩
    rintro n s5 ⟨i, H5, I5, t5, n5, w5⟩
    rcases turn i n H5 w5 with ⟨stop, qq⟩ | ⟨go, Nx, hNx, step⟩
    · refine thnF (T.done (blkX X s3 H3 sc ce fp EX) rfl rfl rfl hc i [] s5 _ H5 (fun _ _ => False) I5 (own_fp I5 n5) t5 stop) fun r s6 ⟨hr, I6⟩ => ?_
      subst hr
      obtain ⟨m, hn, _⟩ := I6.loc
      have nC : H5 ce.locals = none := I6.free
      exact fin D ce s6 m H5 (I3.call' (ch := fp) I6.os I6.base I6.hok I6.bare fun b hb => let ⟨_, f1, _, f4, f5, f6⟩ := (f3 b hb).1; ⟨f4, f1, f5, f6⟩) qq hn (I3.fpOk (Nat.le_of_eq ceL.symm) nC)
    · refine thnF (T.item (blkX X s3 H3 sc ce fp EX) rfl rfl rfl hc i [] s5 _ H5 (fun _ _ => False) I5 (own_fp I5 n5) t5 go) fun r s6 ⟨u, hr, h6⟩ => ?_
      subst hr
      refine thnF h6 fun _ s7 ⟨x, H7, I7, r7, y7, t7, n7⟩ => ?_
      have I7p := I7.pinned (own_fp I7 n7) (T.obj _ _ t7)
      refine up (pgE.run _ s7 _ H7 x u _ I7p r7 (step x H7 y7)) fun _ s8 ⟨σ8, H8, I8, hw8, q8⟩ => up (ptE.run _ s8 σ8 H8 _ I8 q8) fun b s9 ⟨H9, I9, q9⟩ => ?_
      have onward : ∀ {s' H'}, Inv (blkX X s3 H3 sc ce fp EX) ([] ++ pinsAt fp s7.heap) σ8 H' s' → Nx H' → ∃ m, m < n ∧ ∃ i H', Inv (blkX X s3 H3 sc ce fp EX) [] (wipe σ (own.map (·.2))) H' s' ∧ tn i s'.heap ∧ (∀ b ∈ fp, H' b = none) ∧ W i m H' := fun {s' H'} I' nx => by
        obtain ⟨m', hm, w'⟩ := hNx H' nx
        have kept : ∀ b ∈ fp, ∀ o, s7.heap.get? b = some o → s'.heap.get? b = some o ∧ H' b = none := fun b hb o e =>
          let z := I'.pin (b, o) (List.mem_append_right _ (List.mem_append_right _ (mem_pinsAt hb e)))
          ⟨z.1, z.2.1⟩
        refine ⟨m', hm, i + 1, H', (I'.unpinned (pins := [])).weak (by rw [← hw8, wipe_length]) (fun j v e => (wipe_some (by rw [hw8]; exact e)).1), T.keep _ _ _ t7 fun b hb o e => (kept b hb o e).1, fun b hb => ?_, w'⟩
        obtain ⟨o, e, _⟩ := T.obj _ _ t7 b hb
        exact (kept b hb o e).2
      cases b with
      | false =>
        rw [if_neg Bool.false_ne_true] at q9 ⊢
        exact onward I9 q9
      | true =>
        rw [if_pos rfl] at q9 ⊢
        refine up (peE.run _ s9 σ8 H9 _ I9 q9) fun z s10 ⟨yv, H10, I10, r10, acc, hD10, hz10, nx⟩ => ?_
        exact app_ok (X := blkX X s3 H3 sc ce fp EX) I10 hD10 hz10 r10 fun s11 I11 => onward I11 nx
  exact codeAny_compStart_list loop (T.self X.A 0 _ _ _ t4 loop)
/-- as a value -/
theorem pe_lcX {elt tg iter : Expr} {ifs : List Expr} {sc : Scope} {own : List (Str × Nat)} {pos : Pos} {wi : TI} {g : TG} {tt : TT} {te : WX → TE} {Wo : WX}
    (hs : X.stack = X.env :: X.outer) (hf : X.env.frame = some X.env.locals) (tk : Takes X Wo) (hc : X.calm = true) (hN : X.N.Nodup) (hi : PI X tg iter wi) (ok : BlkOk X.N X.env.scope sc own)
    (hg : ∀ s H C cl fp EX, PG (blkX X s H sc (compEnvC sc cl C X.env) fp EX) tg g) (ht : ∀ s H C cl fp EX, PTs (blkX X s H sc (compEnvC sc cl C X.env) fp EX) ifs tt)
    (he : ∀ s H C cl fp EX W, (∀ σ1, PassesAt (L2.CX X.prog X.w) (blkX X s H sc (compEnvC sc cl C X.env) fp EX) σ1 (WE W σ1)) → PE (blkX X s H sc (compEnvC sc cl C X.env) fp EX) elt (te W))
    (hst : ∀ x, foldedSetIterable iter X.env x = pure x := by intro _; rfl) : PE X (.ListComp elt [⟨tg, iter, ifs, 0⟩] sc pos) (tLcX wi g tt te (own.map (·.2)) Wo) := by
  refine ⟨fun pins s σ H Q I h => ?_⟩
  rw [eval_ListComp]
  refine lcx_core hs hf tk hc hN I hi ok hg ht he hst h fun D ce s1 m H1 I1 q hn ⟨f0, f1, _, f3, f4, f5⟩ => ⟨m, hn, fun h2 sb => ?_⟩
  exact ⟨.ref D, H1, I1.turned (t' := s1.toks) (fun b o hb e => (sb.2 b hb).trans e) f0 f1 f3 f4 f5, rfl, q⟩
end
/-! ### [f(x) for x in xs] where f may raise -/
theorem lc_listM {K : PySem.W.Frag} {a : Addr} {xs : List V} {j : Nat} {te : TE} {σ : L2.St} {H1 : Hp} {D : Addr} {Qd : Hp → Prop} (f : V → Option V) (hS : SqL K H1 a xs) (hD : H1 D = none) (hx : xs.length < 16777216)
    (he : ∀ x ∈ xs, ∀ (H' : Hp) (Q' : VK), Same H1 H' → (∀ y H'', f x = some y → Same H' H'' → Q' y H'') → te ((wipe σ [j]).set j (some x)) H' Q')
    (hd : ∀ H' (ys : List V), Same H1 H' → H' D = some (.lst ys) → Paired (fun y x => f x = some y) ys xs → Qd H') :
    LcG (Itl K a) (gName j) tYes te [j] σ H1 D Qd := by
  refine lc_it walk_list (fun i H => Same H1 H ∧ ∃ ys : List V, H D = some (.lst ys) ∧ ys.length ≤ i ∧ Paired (fun y x => f x = some y) ys (xs.take i))
    ⟨same_new (Same.refl _) hD, [], upd_same, Nat.le_refl _, .nil⟩ (fun i H _ h => Same.seq h.1 hS) ?_ (fun H ⟨s, ys, hDp, _, hp⟩ => hd H ys s hDp (by rw [List.take_length] at hp; exact hp))
  rintro i x H H' hi ⟨s, ys, hDp, hpl, hp⟩ ⟨rfl, e⟩
  refine ⟨wipe_set1 _ _ _, ?_⟩
  refine he x (List.mem_of_getElem? e) _ _ s fun y H'' hy s'' => ?_
  refine ⟨ys, s'' _ _ hDp, Nat.lt_of_lt_of_le (show ys.length < 16777216 by omega) (by decide), same_mut (Same.trans s s'') hD, ys ++ [y], upd_same, by rw [List.length_append]; simp; omega, ?_⟩
  rw [take_snoc e]
  exact Paired.snoc hp hy
theorem lc_tupM {K : PySem.W.Frag} {a : Addr} {xs : List V} {j : Nat} {te : TE} {σ : L2.St} {H1 : Hp} {D : Addr} {Qd : Hp → Prop} (f : V → Option V) (hS : SqT K H1 a xs) (hD : H1 D = none) (hx : xs.length < 16777216)
    (he : ∀ x ∈ xs, ∀ (H' : Hp) (Q' : VK), Same H1 H' → (∀ y H'', f x = some y → Same H' H'' → Q' y H'') → te ((wipe σ [j]).set j (some x)) H' Q')
    (hd : ∀ H' (ys : List V), Same H1 H' → H' D = some (.lst ys) → Paired (fun y x => f x = some y) ys xs → Qd H') :
    LcG (Itt K a) (gName j) tYes te [j] σ H1 D Qd := by
  refine lc_it walk_tup (fun i H => Same H1 H ∧ ∃ ys : List V, H D = some (.lst ys) ∧ ys.length ≤ i ∧ Paired (fun y x => f x = some y) ys (xs.take i))
    ⟨same_new (Same.refl _) hD, [], upd_same, Nat.le_refl _, .nil⟩ (fun i H _ h => same_seqT h.1 hS) ?_ (fun H ⟨s, ys, hDp, _, hp⟩ => hd H ys s hDp (by rw [List.take_length] at hp; exact hp))
  rintro i x H H' hi ⟨s, ys, hDp, hpl, hp⟩ ⟨rfl, e⟩
  refine ⟨wipe_set1 _ _ _, ?_⟩
  refine he x (List.mem_of_getElem? e) _ _ s fun y H'' hy s'' => ?_
  refine ⟨ys, s'' _ _ hDp, Nat.lt_of_lt_of_le (show ys.length < 16777216 by omega) (by decide), same_mut (Same.trans s s'') hD, ys ++ [y], upd_same, by rw [List.length_append]; simp; omega, ?_⟩
  rw [take_snoc e]
  exact Paired.snoc hp hy
end KC
namespace KC
open PySem PySem.Spec PyProof.Rows L2 Srt
/-! ### sets of texts -/
/-- the set at a holds just the texts xs, each once; it can be walked -/
def TSet (P : Program) (w : World) (h : Heap) (a : Addr) (xs : List Str) : Prop := ∃ (o : Obj) (es : Array (Int × Value)) (ep : Nat) (t : SetTable) (ys : List Str),
  h.get? a = some o ∧ o.ExactSet ∧ o.data = .set es ep t ∧ ElemsOf (mixKind P w) es.toList ∧ StrsAre (es.toList.map (·.2)) ys ∧ ys.Perm xs ∧ xs.Nodup ∧ es.size < scanBound ∧ t.fits es.size = true ∧
  Ris t.place.toList ∧ (w.params.followText "set-order" = true ∨ t.led = true)
theorem strs_app : ∀ {vs us : List Value} {ys zs : List Str}, StrsAre vs ys → StrsAre us zs → StrsAre (vs ++ us) (ys ++ zs)
  | _, _, _, _, .nil, h => h
  | _, _, _, _, .cons x t r, h => .cons x t (strs_app r h)
theorem strs_at : ∀ {vs : List Value} {ys : List Str}, StrsAre vs ys → vs.length = ys.length
  | _, _, .nil => rfl
  | _, _, .cons _ _ r => congrArg (· + 1) (strs_at r)
section
variable {P : Program} {w : World} {A : Around} {E : Value → Shared → Prop} {s : Shared} {a : Addr} {xs : List Str}
theorem TSet.there {h h' : Heap} (R : TSet P w h a xs) (k : ∀ o, h.get? a = some o → h'.get? a = some o) : TSet P w h' a xs := by
  obtain ⟨o, es, ep, t, ys, ho, r⟩ := R
  exact ⟨o, es, ep, t, ys, k o ho, r⟩
theorem tset_size {es : Array (Int × Value)} {ys : List Str} (h1 : StrsAre (es.toList.map (·.2)) ys) (h2 : ys.Perm xs) : es.size = xs.length := by
  rw [← h2.length_eq, ← strs_at h1, List.length_map, Array.length_toList]
theorem key_text {y z : Str} {t : Tok} : (mixKind P w).is (.inr y) (.str z t) = true ↔ z = y := by
  constructor
  · intro h
    have h : keyIs (.inr y) (.str z t) = true := h
    rcases keyIs_shape h with ⟨i, u, e, _⟩ | ⟨x, u, e, e2⟩
    · cases e
    · cases e
      cases e2
      rfl
  · rintro rfl
    exact (keyIs_str z t : keyIs (.inr z) (.str z t) = true)
theorem strs_mem : ∀ {l : List (Int × Value)} {ys : List Str}, StrsAre (l.map (·.2)) ys → ∀ y, (∃ e ∈ l, (mixKind P w).is (.inr y) e.2 = true) ↔ y ∈ ys
  | [], _, h, y => by
    cases h
    simp
  | (i, v) :: l, _, h, y => by
    cases h with
    | cons z t r =>
      have ih := strs_mem r y
      constructor
      · rintro ⟨e, he, q⟩
        rcases List.mem_cons.mp he with rfl | he
        · exact List.mem_cons.mpr (.inl (key_text.mp q).symm)
        · exact List.mem_cons_of_mem _ (ih.mp ⟨e, he, q⟩)
      · intro hy
        rcases List.mem_cons.mp hy with rfl | hy
        · exact ⟨_, List.mem_cons_self .., key_text.mpr rfl⟩
        · obtain ⟨e, he, q⟩ := ih.mpr hy
          exact ⟨e, List.mem_cons_of_mem _ he, q⟩
theorem strs_perm : ∀ {vs us : List Value}, vs.Perm us → ∀ {ys : List Str}, StrsAre vs ys → ∃ zs, StrsAre us zs ∧ zs.Perm ys := by
  intro vs us h ys hv
  refine ⟨us.map svOf, strs_sv fun v hv' => strs_in hv v (h.mem_iff.mpr hv'), ?_⟩
  rw [← sv_strs hv]
  exact h.symm.map svOf
theorem tset_new {h : Heap} : TSet P w (h.push { cls := .type "set", dict := none, data := .set #[] 0 (.fresh 0 0 (!w.params.followText "set-order")) }) h.objs.size [] := by
  refine ⟨_, #[], 0, _, [], Heap.get?_push_size _ rfl, ⟨rfl, rfl, rfl⟩, rfl, (fun e he => by simp at he), .nil, .nil, List.nodup_nil, by decide, rfl, List.Pairwise.nil, ?_⟩
  cases e : w.params.followText "set-order" with
  | true => exact .inl rfl
  | false => exact .inr (by show (!false) = true; rfl)
theorem unit_go {M : Model} {t : Sem Unit} {Q : Unit → Shared → Prop} (h : ∀ Q' : Unit → Shared → Prop, Q' () s → wpAny M A t Q' E s) (q : Q () s) : wpAny M A t Q E s := h Q q
/-- what stands at a once the table has been written -/
theorem tset_put {h : Heap} {o : Obj} {es es' : Array (Int × Value)} {ep : Nat} {t t' : SetTable} {ys : List Str} (ho : h.get? a = some o) (hx : o.ExactSet) (hd : o.data = .set es ep t)
    (he : ElemsOf (mixKind P w) es'.toList) (hs : StrsAre (es'.toList.map (·.2)) ys) (pm : ys.Perm xs) (nd : xs.Nodup) (hb : es'.size < scanBound) (hf : t'.fits es'.size = true) (hr : Ris t'.place.toList) (hl : w.params.followText "set-order" = true ∨ t'.led = true) :
    TSet P w (h.update a (Obj.putSet es' t')) a xs :=
  ⟨_, es', _, t', ys, store_at ho hd, hx, rfl, he, hs, pm, nd, hb, hf, hr, hl⟩
theorem tset_add {y : Str} {tk : Tok} {Q : Value → Shared → Prop} (R : TSet P w s.heap a xs) (room : xs.length + 1 < scanBound)
    (hQ : ∀ h' n, Heap.SameBut a s.heap h' → TSet P w h' a (if y ∈ xs then xs else xs ++ [y]) → Q .none { s with heap := h', toks := n }) :
    wpAny (model P w) A (call (.builtin "set.add") [.ref a, .str y tk]) Q E s := by
  have R0 := R
  obtain ⟨o, es, ep, t, ys, ho, hx, hd, he, hs, pm, nd, hb, hf, hr, hl⟩ := R
  have hn := tset_size hs pm
  have hT : s.TypeIs (.ref a) "set" := ⟨o, ho, hx.1⟩
  have hk : (mixKind P w).is (.inr y) (.str y tk) = true := (keyIs_str y tk : keyIs (.inr y) (.str y tk) = true)
  have hsc : (Value.str y tk).scannable = true := rfl
  refine wpAny_call_entry F.slot_set_add hT F.entry_set_add ?_ (F.args_set_add_2 _ _)
  unfold Builtin.«set.add» Builtin.Frozenset.oneOther
  simp only [List.isEmpty_nil, bind_assoc]
  unfold Builtin.Frozenset.addrOf setAdd
  refine wpAny_bind (wpAny_pure ?_)
  try dsimp only
  refine wpAny_bind (wpAny_pure ?_)
  try dsimp only
  refine wpAny_bind (wpAny_holding (wpAny_bind ((mixKind P w).pyHash hk ?_)))
  unfold setAddHashed setAddHashedIn
  refine wpAny_holding (wpAny_bind (wpAny_setState_of ho hd hf ?_))
  dsimp only
  rw [byScan_of hsc hb he]
  simp only [↓reduceIte]
  unfold setAddByScan
  refine wpAny_bind (wpAny_bind (wpAny_rule (wpAny_bind (wpAny_setScan_of hk ho hd hf he ?_))))
  cases hfi : List.findIdx? (fun e => (mixKind P w).is (.inr y) e.2) es.toList with
  | some j =>
    dsimp only
    obtain ⟨lj, pj, _⟩ := List.findIdx?_eq_some_iff_getElem.mp hfi
    have hy : y ∈ xs := pm.mem_iff.mp ((strs_mem hs y).mp ⟨_, List.getElem_mem lj, pj⟩)
    exact wpAny_pure (wpAny_pure (wpAny_pure ⟨_, rfl, hQ s.heap _ (Heap.SameBut.refl a _) (by rw [if_pos hy]; exact R0)⟩))
  | none =>
    dsimp only
    have hy : y ∉ xs := fun z => by
      obtain ⟨e, m, q⟩ := (strs_mem (P := P) (w := w) hs y).mpr (pm.mem_iff.mpr z)
      have := List.findIdx?_eq_none_iff.mp hfi e m
      rw [q] at this
      cases this
    rw [if_neg hy] at hQ
    have p1 := layNew_perm t es ((mixKind P w).hash (.inr y)) (.str y tk)
    have f1 := layNew_fits t es ((mixKind P w).hash (.inr y)) (.str y tk)
    have r1 := layNew_ris t es ((mixKind P w).hash (.inr y)) (.str y tk) hr
    have l1 := layNew_led t es ((mixKind P w).hash (.inr y)) (.str y tk)
    generalize layNew t es ((mixKind P w).hash (.inr y)) (.str y tk) = Z at p1 f1 r1 l1 ⊢
    obtain ⟨e1, t1, dm, gv⟩ := Z
    dsimp only at p1 f1 r1 l1 ⊢
    rw [Array.toList_push] at p1
    have he1 : ElemsOf (mixKind P w) e1.toList := fun e m => by
      rcases List.mem_append.mp (p1.mem_iff.mp m) with m | m
      · exact he e m
      · rw [List.mem_singleton.mp m]
        exact ⟨⟨.inr y, hk, rfl⟩, hsc⟩
    obtain ⟨zs, hz1, hz2⟩ := strs_perm (p1.symm.map (·.2)) (ys := ys ++ [y]) (by rw [List.map_append]; exact strs_app hs (.cons y tk .nil))
    have hz3 : zs.Perm (xs ++ [y]) := hz2.trans (pm.append_right [y])
    have nd1 : (xs ++ [y]).Nodup := List.nodup_append.mpr ⟨nd, List.pairwise_singleton _ _, fun u hu v hv e => by rw [List.mem_singleton.mp hv] at e; exact hy (e ▸ hu)⟩
    have b1 : e1.size < scanBound := by rw [tset_size hz1 hz3, List.length_append]; exact room
    have l1' : w.params.followText "set-order" = true ∨ t1.led = true := hl.imp id fun z => by rw [l1]; exact z
    refine wpAny_bind (unit_go (fun Q' q => by cases gv <;> first | exact wpAny_pure q | exact wpAny_rule q) ?_)
    by_cases hp : t1.plain = true
    rw [if_pos hp]
    refine wpAny_bind ?_
    rw [hashByValue_scannable 8 hsc]
    refine wpAny_pure ?_
    rw [show plainKind (Value.str y tk) = false from rfl]
    simp only [Bool.false_eq_true, ↓reduceIte]
    obtain ⟨T, hT, fT, rT, lT⟩ : ∃ T : SetTable, { t1 with plain := false } = T ∧ T.fits e1.size = true ∧ Ris T.place.toList ∧ (w.params.followText "set-order" = true ∨ T.led = true) := ⟨_, rfl, f1, r1, l1'⟩
    rw [hT]
    rotate_left
    rw [if_neg hp]
    refine wpAny_bind (wpAny_pure ?_)
    simp only [↓reduceIte]
    obtain ⟨T, hT, fT, rT, lT⟩ : ∃ T : SetTable, t1 = T ∧ T.fits e1.size = true ∧ Ris T.place.toList ∧ (w.params.followText "set-order" = true ∨ T.led = true) := ⟨_, rfl, f1, r1, l1'⟩
    rw [hT]
    all_goals
      have S1 := Heap.SameBut.update s.heap a (Obj.putSet e1 T)
      refine wpAny_bind (wpAny_storeSet_of ho hd ?_ (fits_of_scanBound b1))
      split
      · have p2 := relayAll_perm T e1 (SetTable.grown e1.size)
        have f2 := relayAll_fits T e1 (SetTable.grown e1.size)
        have r2 := relayAll_ris T e1 (SetTable.grown e1.size)
        have l2 := relayAll_led T e1 (SetTable.grown e1.size)
        generalize relayAll T e1 (SetTable.grown e1.size) = Z at p2 f2 r2 l2 ⊢
        obtain ⟨e2, t2, gv2⟩ := Z
        dsimp only at p2 f2 r2 l2 ⊢
        have ho1 := store_at (es' := e1) (t' := T) ho hd
        have z2 : e2.size = e1.size := by rw [← Array.length_toList, p2.length_eq, Array.length_toList]
        have b2 : e2.size < scanBound := by rw [z2]; exact b1
        obtain ⟨us, hu1, hu2⟩ := strs_perm (p2.symm.map (·.2)) hz1
        refine wpAny_bind (unit_go (fun Q' q => by cases gv2 <;> first | exact wpAny_pure q | exact wpAny_rule q) ?_)
        refine wpAny_bind (wpAny_storeSet_of ho1 rfl ?_ (fits_of_scanBound b2))
        refine wpAny_pure (wpAny_pure (wpAny_pure ⟨_, rfl, hQ _ _ (S1.trans (Heap.SameBut.update _ a _)) ?_⟩))
        exact tset_put ho1 hx rfl (fun e m => he1 e (p2.mem_iff.mp m)) hu1 (hu2.trans hz3) nd1 b2 f2 r2 (by rw [l2]; exact lT)
      · exact wpAny_pure (wpAny_pure (wpAny_pure ⟨_, rfl, hQ _ _ S1 (tset_put ho hx hd he1 hz1 hz3 nd1 b1 fT rT lT)⟩))
end
/-! ### sorted of a set of texts -/
def TSetO (P : Program) (w : World) (a : Addr) (xs : List Str) : HO := .ext fun h => TSet P w h a xs
theorem tsetO_ok {P : Program} {w : World} {H : Hp} {h : Heap} {a : Addr} {xs : List Str} (R : TSet P w h a xs) : ObjOk P w H h a (TSetO P w a xs) := by
  have ⟨o, _, _, _, _, ho, _⟩ := R
  exact ⟨R, ⟨o, ho⟩, fun _ _ p k => p.there k⟩
def rSortedTS (P : Program) (w : World) : List V → Hp → VK → Prop := fun vs H Q => ∃ (a : Addr) (xs : List Str), vs = [V.ref a] ∧ H a = some (TSetO P w a xs) ∧ ∀ p : Addr, H p = none → Q (.ref p) (L2.upd H p (.lst ((srt xs).map V.str)))
theorem cr_sortedTS {X : Cx} (hc : X.calm = true) : CallR X (.builtin "sorted") (rSortedTS X.prog X.w) := by
  intro pins s σ H vs us Q I r h
  obtain ⟨a, xs, rfl, ha, q⟩ := h
  have R : TSet X.prog X.w s.heap a xs := (I.hok a _ ha).1
  obtain ⟨o, es, ep, t, ys, ho, hx, hd, he, hs, pm, nd, hb, hf, hr, hl⟩ := R
  have hn := tset_size hs pm
  rw [Vals.ref1 r]
  refine Calls.call_function_entry kind_sorted plain_sorted entry_sorted (args_sorted1 _) ?_
  unfold Builtin.«sorted»
  refine wpAny_bind (m := checkCount "sorted" 1 1 _) (wpAny_pure ?_)
  refine wpAny_bind (collect_set (A := X.A.in1) (I.ok.hd hc) ⟨o, ho, hx.1, hd⟩ hf hb hr hl fun s1 us1 k1 z1 g1 o1 p1 => ?_)
  obtain ⟨zs, hz1, hz2⟩ := strs_perm p1.symm hs
  have lz : us1.length = xs.length := by rw [strs_at hz1, hz2.length_eq, pm.length_eq]
  have small : us1.length ≤ sizeLine := by
    rw [lz, ← hn]
    exact Nat.le_trans (Nat.le_of_lt hb) (by decide)
  refine wpAny_bind (wpAny_newList ?_ small)
  have hoL : (s1.heap.push (seqObj "list" us1.toArray 0)).get? s1.heap.objs.size = some (seqObj "list" us1.toArray 0) := Heap.get?_push_size _ rfl
  refine wpAny_bind (wpAny_holding (wpAny_call_entry slot_list_sort ⟨_, hoL, rfl⟩ entry_list_sort (SrtO.list_sort_ord swo_str hoL small (fun h2 => strs_sortable hz1 h2) fun out h1 h2 => ⟨_, rfl, ?_⟩) (args_list_sort _)))
  obtain ⟨c, hco⟩ := sortedHeap_at (vs := us1) (out := out.toArray) hoL
  have o1s : StrsAre out (out.map svOf) := strs_sv fun v hv => strs_in hz1 v (h2.perm.mem_iff.mp hv)
  have o2 : (out.map svOf).Perm xs := by
    have z := h2.perm.map svOf
    rw [sv_strs hz1] at z
    exact z.trans (hz2.trans pm)
  have o3 : Asc (out.map svOf) := List.pairwise_map.mpr (h1.imp fun {x y} h => ltSv_no.mp h)
  have o4 : srt xs = out.map svOf := srt_eq o2 o3
  have hlen : ((out.map svOf).map V.str).length ≤ sizeLine := by
    rw [List.length_map, o2.length_eq, ← lz]
    exact small
  have fresh := I.hok.fresh z1
  have fin := q s1.heap.objs.size fresh
  rw [o4] at fin
  generalize hS : ({ s1 with heap := sortedHeap (s1.heap.push (seqObj "list" us1.toArray 0)) s1.heap.objs.size us1 out.toArray } : Shared) = s2
  have kept : ∀ b u, s.heap.get? b = some u → s2.heap.get? b = some u := fun b u e => by
    have e1 := k1 b u e
    have lt := Heap.lt_size e1
    rw [← hS]
    exact (sortedHeap_old (Nat.ne_of_lt lt) (by rw [size_push']; exact Nat.lt_succ_of_lt lt)).trans (Heap.get?_push_of_some _ e1)
  have at2 : s2.heap.get? s1.heap.objs.size = some (seqObj "list" out.toArray c) := by rw [← hS]; exact hco
  have g2 : s2.gens = s.gens := by rw [← hS]; exact g1
  have os2 : s2.os = s.os := by rw [← hS]; exact o1
  have J : Inv X pins σ (L2.upd H s1.heap.objs.size (.lst ((out.map svOf).map V.str))) { s with heap := s2.heap, gens := s2.gens, drawn := s2.drawn, toks := s2.toks } :=
    I.call (ch := []) (Un.laid kept z1 fresh) (I.hok.laid kept z1 ⟨hlen, out, c, vals_of_strs o1s, at2⟩) (by rw [g2]; exact I.bare) (fun _ z => nomatch z)
  have es2 : s2 = { s with heap := s2.heap, gens := s2.gens, drawn := s2.drawn, toks := s2.toks } := by
    cases s2
    cases s
    cases os2
    rfl
  refine wpAny_pure ⟨_, rfl, ?_⟩
  show EP X pins σ Q (.ref s1.heap.objs.size) _
  rw [← es2] at J
  subst hS
  exact ⟨.ref _, _, J, rfl, fin⟩
/-! ### the comprehension of a set of texts -/
section
variable {X : Cx}
theorem tset_put_in {pins : List (Addr × Obj)} {σ : L2.St} {H : Hp} {s : Shared} {E : Value → Shared → Prop} {D : Addr} {xs : List Str} {y : Str} {v : Value} {Q : Value → Shared → Prop} (I : Inv X pins σ H s) (hD : H D = some (TSetO X.prog X.w D xs)) (room : xs.length + 1 < scanBound) (r : RelV (.str y) v)
    (k : ∀ s', Inv X pins σ (L2.upd H D (TSetO X.prog X.w D (if y ∈ xs then xs else xs ++ [y]))) s' → Q .none s') : wpAny (model X.prog X.w) X.A (call (.builtin "set.add") [.ref D, v]) Q E s := by
  obtain ⟨tk, rfl⟩ := r
  have R : TSet X.prog X.w s.heap D xs := (I.hok D _ hD).1
  refine tset_add R room fun h' n sb new => k _ ?_
  have there : ∃ u, h'.get? D = some u := by
    have ⟨o, _, _, _, _, ho, _⟩ := new
    exact ⟨o, ho⟩
  exact I.write (e := D) (t' := n) (by rw [hD]; trivial) (.inl rfl) (fun b u hb hu => (sb.2 b hb).trans hu) there (tsetO_ok new)
/-- what the walk owes: from turn to turn, the set at D grown by at most one text -/
abbrev ScG (P : Program) (w : World) (J : It) (g : TG) (tt : TT) (te : TE) (vs : List Nat) (σ : L2.St) (H1 : Hp) (D : Addr) (Qd : Hp → Prop) : Prop :=
  ∃ W : Nat → Nat → Hp → Prop, (∃ m, W 0 m (L2.upd H1 D (TSetO P w D []))) ∧ ∀ i m H, W i m H →
    J.stop i H ∧ Qd H ∨
    J.go i H ∧ ∃ Nx : Hp → Prop, (∀ H', Nx H' → ∃ m', m' < m ∧ W (i + 1) m' H') ∧
      ∀ x H', J.yld i H x H' → g x (wipe σ vs) H' fun σ2 H2 => wipe σ2 vs = wipe σ vs ∧
        tt σ2 H2 fun b H3 => if b = true then te σ2 H3 (fun y H4 => ∃ (c : Str) (xs : List Str), y = .str c ∧ H4 D = some (TSetO P w D xs) ∧ xs.length + 1 < scanBound ∧ Nx (L2.upd H4 D (TSetO P w D (if c ∈ xs then xs else xs ++ [c])))) else Nx H3
def tScT (P : Program) (w : World) (wi : TI) (g : TG) (tt : TT) (te : TE) (vs : List Nat) : TE := fun σ H Q => wi σ H fun J H1 => ∀ D, H1 D = none → ScG P w J g tt te vs σ H1 D fun H' => Q (.ref D) H'
theorem sct_core {pins : List (Addr × Obj)} {s : Shared} {σ : L2.St} {H : Hp} {Q : VK} {elt tg iter : Expr} {ifs : List Expr} {sc : Scope} {own : List (Str × Nat)} {pos pos' : Pos} {wi : TI} {g : TG} {tt : TT} {te : TE} {use : Option (Value → Sem Unit)} {Qf : Value → Shared → Prop}
    (hc : X.calm = true) (hN : X.N.Nodup) (I : Inv X pins σ H s) (hi : PI X tg iter wi) (ok : BlkOk X.N X.env.scope sc own)
    (hg : ∀ s H C cl fp, PG (X.blk s H sc (compEnvC sc cl C X.env) fp) tg g) (ht : ∀ s H C cl fp, PTs (X.blk s H sc (compEnvC sc cl C X.env) fp) ifs tt) (he : ∀ s H C cl fp, PE (X.blk s H sc (compEnvC sc cl C X.env) fp) elt te)
    (hst : ∀ x, foldedSetIterable iter X.env x = pure x) (h : tScT X.prog X.w wi g tt te (own.map (·.2)) σ H Q)
    (fin : ∀ D C s1 m H1, Inv X pins σ H1 s1 → Q (.ref D) H1 → s1.heap.Ns C m → FpOk X pins H1 C → compPost (model X.prog X.w) X.A X.xe use Qf (.ref D) C (.ok .next) s1) :
    wpAny (model X.prog X.w) X.A (comprehension (.SetComp elt [⟨tg, iter, ifs, 0⟩] sc pos) sc X.env pos' (newSet (.type "set")) false (eval iter X.env) use) Qf X.xe s := by
  have caught : ∀ y ∈ sc.names, y.2 = .free → ∃ c, X.env.cells.lookup y.1 = some c := fun y hy e => (ok.free y hy e).elim (fun k => I.ok.has _ (.inl k)) fun k => I.ok.has _ (.inr k)
  refine wpAny_comprehension_free (use := use) rfl hst (closure_ok caught) ok.kind (fun y hy e => (ok.uniq y hy).trans (congrArg some e)) (thn (hi.run pins s σ H _ I h) fun xv s1 hx => thn hx fun itv s2 ⟨it, fp, tn, J, H2, e, I2, T, t2, f2, q⟩ => ?_)
  subst e
  refine PpSet.newSet_ok (newEnv_comp ?_)
  generalize hD : s2.heap.objs.size = D
  obtain ⟨W, ⟨m0, w0⟩, turn⟩ := q D (I2.hok.fresh (Nat.le_of_eq hD))
  generalize hs3 : ({ s2 with heap := s2.heap.push { cls := .type "set", dict := none, data := .set #[] 0 (.fresh 0 0 (!X.w.params.followText "set-order")) } } : Shared) = s3
  have hp3 : s3.heap = s2.heap.push { cls := .type "set", dict := none, data := .set #[] 0 (.fresh 0 0 (!X.w.params.followText "set-order")) } := by rw [← hs3]
  have I3 : Inv X pins σ (L2.upd H2 D (TSetO X.prog X.w D [])) s3 := by
    subst hs3
    exact I2.laid (t' := s2.toks) (fun b o e => Heap.get?_push_of_some _ e) (Nat.le_of_eq hD) (by rw [← hD]; exact tsetO_ok tset_new)
  have below : ∀ b ∈ fp, b < s2.heap.objs.size := fun b hb => by
    obtain ⟨o, e, _⟩ := T.obj _ _ t2 b hb
    exact Heap.lt_size e
  have f3 : ∀ b ∈ fp, FpOk X pins (L2.upd H2 D (TSetO X.prog X.w D [])) b ∧ b < s3.heap.objs.size := fun b hb => by
    have lt := below b hb
    exact ⟨⟨(upd_ne (by rw [← hD]; exact Nat.ne_of_lt lt)).trans (f2 b hb).1, (f2 b hb).2⟩, by rw [hp3, Heap.size_push]; exact Nat.lt_succ_of_lt lt⟩
  have t3 : tn 0 s3.heap := T.keep _ _ _ t2 fun b _ o e => by rw [hp3]; exact Heap.get?_push_of_some _ e
  have I4 := block_start I3 ok hN f3
  have pg := hg s3 (L2.upd H2 D (TSetO X.prog X.w D [])) s3.heap.objs.size (cellsFrom (s3.heap.objs.size + 1) sc.names (cloFrom X.env.cells sc.names [])) fp
  have pt := ht s3 (L2.upd H2 D (TSetO X.prog X.w D [])) s3.heap.objs.size (cellsFrom (s3.heap.objs.size + 1) sc.names (cloFrom X.env.cells sc.names [])) fp
  have pe := he s3 (L2.upd H2 D (TSetO X.prog X.w D [])) s3.heap.objs.size (cellsFrom (s3.heap.objs.size + 1) sc.names (cloFrom X.env.cells sc.names [])) fp
  have ceL : (compEnvC sc (cellsFrom (s3.heap.objs.size + 1) sc.names (cloFrom X.env.cells sc.names [])) s3.heap.objs.size X.env).locals = s3.heap.objs.size := rfl
  show codeAny _ _ (.compStart (.SetComp elt [⟨tg, iter, ifs, 0⟩] sc pos) 0 (.ref it) (.ref D) (compEnvC sc (cellsFrom (s3.heap.objs.size + 1) sc.names (cloFrom X.env.cells sc.names [])) s3.heap.objs.size X.env)) (compPost (model X.prog X.w) X.A X.xe use Qf (.ref D) s3.heap.objs.size) { s3 with heap := pushCells (s3.heap.push { cls := .type "dict", data := .dict #[] }) sc.names }
  generalize compEnvC sc (cellsFrom (s3.heap.objs.size + 1) sc.names (cloFrom X.env.cells sc.names [])) s3.heap.objs.size X.env = ce at I4 pg pt pe ceL ⊢
  generalize L2.upd H2 D (TSetO X.prog X.w D []) = H3 at I3 I4 pg pt pe w0 f3
  generalize hs4 : ({ s3 with heap := pushCells (s3.heap.push { cls := .type "dict", data := .dict #[] }) sc.names } : Shared) = s4 at I4 ⊢
  have t4 : tn 0 s4.heap := T.keep _ _ _ t3 fun b _ o e => by subst hs4; exact pushCells_keeps _ _ _ _ (Heap.get?_push_of_some _ e)
  have own_fp : ∀ {σ' H' s'}, Inv (X.blk s3 H3 sc ce fp) [] σ' H' s' → (∀ b ∈ fp, H' b = none) → ∀ b ∈ fp, FpOk (X.blk s3 H3 sc ce fp) [] H' b := fun {σ' H' s'} I' hn b hb =>
    ⟨hn b hb, (I'.ok.exf b hb).1, I'.ok.exfs b hb, .inl hb, (I'.ok.exf b hb).2, fun p hp => absurd (show p ∈ ([] : List (Addr × Obj)) ++ [] from hp) List.not_mem_nil⟩
  have loop : codeAny (model X.prog X.w) X.A (.compLoop (.SetComp elt [⟨tg, iter, ifs, 0⟩] sc pos) 0 (.ref it) (.ref D) ce) (compPost (model X.prog X.w) X.A X.xe use Qf (.ref D) s3.heap.objs.size) s4 := by
    refine PpSet.compLoopS_any (fun n s' => ∃ i H', Inv (X.blk s3 H3 sc ce fp) [] (wipe σ (own.map (·.2))) H' s' ∧ tn i s'.heap ∧ (∀ b ∈ fp, H' b = none) ∧ W i n H') ?_ m0 ⟨0, H3, I4, t4, fun b hb => (f3 b hb).1.1, w0⟩
    rintro n s5 ⟨i, H5, I5, t5, n5, w5⟩
    rcases turn i n H5 w5 with ⟨stop, qq⟩ | ⟨go, Nx, hNx, step⟩
    · refine thnF (T.done (X.blk s3 H3 sc ce fp) rfl rfl rfl hc i [] s5 _ H5 (fun _ _ => False) I5 (own_fp I5 n5) t5 stop) fun r s6 ⟨hr, I6⟩ => ?_
      subst hr
      obtain ⟨m, hn, _⟩ := I6.loc
      have nC : H5 ce.locals = none := I6.free
      have hn : s6.heap.Ns ce.locals m := hn
      rw [ceL] at hn nC
      exact fin D _ s6 m H5 (I3.call' (ch := fp) I6.os I6.base I6.hok I6.bare fun b hb => let ⟨_, f1, _, f4, f5, f6⟩ := (f3 b hb).1; ⟨f4, f1, f5, f6⟩) qq hn (I3.fpOk (Nat.le_refl _) nC)
    · refine thnF (T.item (X.blk s3 H3 sc ce fp) rfl rfl rfl hc i [] s5 _ H5 (fun _ _ => False) I5 (own_fp I5 n5) t5 go) fun r s6 ⟨u, hr, h6⟩ => ?_
      subst hr
      refine thnF h6 fun _ s7 ⟨x, H7, I7, r7, y7, t7, n7⟩ => ?_
      have I7p := I7.pinned (own_fp I7 n7) (T.obj _ _ t7)
      refine thnF (pg.run _ s7 _ H7 x u _ I7p r7 (step x H7 y7)) fun _ s8 ⟨σ8, H8, I8, hw8, q8⟩ => thnF (pt.run _ s8 σ8 H8 _ I8 q8) fun b s9 ⟨H9, I9, q9⟩ => ?_
      have onward : ∀ {s' H'}, Inv (X.blk s3 H3 sc ce fp) ([] ++ pinsAt fp s7.heap) σ8 H' s' → Nx H' → ∃ m, m < n ∧ ∃ i H', Inv (X.blk s3 H3 sc ce fp) [] (wipe σ (own.map (·.2))) H' s' ∧ tn i s'.heap ∧ (∀ b ∈ fp, H' b = none) ∧ W i m H' := fun {s' H'} I' nx => by
        obtain ⟨m', hm, w'⟩ := hNx H' nx
        have kept : ∀ b ∈ fp, ∀ o, s7.heap.get? b = some o → s'.heap.get? b = some o ∧ H' b = none := fun b hb o e =>
          let z := I'.pin (b, o) (List.mem_append_right _ (List.mem_append_right _ (mem_pinsAt hb e)))
          ⟨z.1, z.2.1⟩
        refine ⟨m', hm, i + 1, H', (I'.unpinned (pins := [])).weak (by rw [← hw8, wipe_length]) (fun j v e => (wipe_some (by rw [hw8]; exact e)).1), T.keep _ _ _ t7 fun b hb o e => (kept b hb o e).1, fun b hb => ?_, w'⟩
        obtain ⟨o, e, _⟩ := T.obj _ _ t7 b hb
        exact (kept b hb o e).2
      cases b with
      | false =>
        rw [if_neg Bool.false_ne_true] at q9 ⊢
        exact onward I9 q9
      | true =>
        rw [if_pos rfl] at q9 ⊢
        refine thnF (pe.run _ s9 σ8 H9 _ I9 q9) fun z s10 ⟨yv, H10, I10, r10, c, xs, ey, hD10, hz10, nx⟩ => ?_
        subst ey
        exact tset_put_in (X := X.blk s3 H3 sc ce fp) I10 hD10 hz10 r10 fun s11 I11 => onward I11 nx
  exact PpSet.codeAny_compStart_set loop (T.self X.A 0 _ _ _ t4 loop)
theorem pe_scT {elt tg iter : Expr} {ifs : List Expr} {sc : Scope} {own : List (Str × Nat)} {pos : Pos} {wi : TI} {g : TG} {tt : TT} {te : TE} (hc : X.calm = true) (hN : X.N.Nodup) (hi : PI X tg iter wi) (ok : BlkOk X.N X.env.scope sc own)
    (hg : ∀ s H C cl fp, PG (X.blk s H sc (compEnvC sc cl C X.env) fp) tg g) (ht : ∀ s H C cl fp, PTs (X.blk s H sc (compEnvC sc cl C X.env) fp) ifs tt) (he : ∀ s H C cl fp, PE (X.blk s H sc (compEnvC sc cl C X.env) fp) elt te)
    (hst : ∀ x, foldedSetIterable iter X.env x = pure x := by intro _; rfl) : PE X (.SetComp elt [⟨tg, iter, ifs, 0⟩] sc pos) (tScT X.prog X.w wi g tt te (own.map (·.2))) := by
  refine ⟨fun pins s σ H Q I h => ?_⟩
  rw [PpSet.eval_SetComp]
  refine sct_core hc hN I hi ok hg ht he hst h fun D C s1 m H1 I1 q hn ⟨f0, f1, _, f3, f4, f5⟩ => ⟨m, hn, fun h2 sb => ?_⟩
  exact ⟨.ref D, H1, I1.turned (t' := s1.toks) (fun b o hb e => (sb.2 b hb).trans e) f0 f1 f3 f4 f5, rfl, q⟩
end
/-! ### over a list of texts -/
theorem sct_it {P : Program} {w : World} {J : It} {n : Nat} {G : Hp → Prop} {Y : Nat → Hp → V → Hp → Prop} (wk : Walk J n G Y) {g : TG} {tt : TT} {te : TE} {vs : List Nat} {σ : L2.St} {H1 : Hp} {D : Addr} {Qd : Hp → Prop} (Pv : Nat → Hp → Prop) (h0 : Pv 0 (L2.upd H1 D (TSetO P w D []))) (hG : ∀ i H, i ≤ n → Pv i H → G H)
    (hs : ∀ i x H H', i < n → Pv i H → Y i H x H' → g x (wipe σ vs) H' fun σ2 H2 => wipe σ2 vs = wipe σ vs ∧
      tt σ2 H2 fun b H3 => if b = true then te σ2 H3 (fun y H4 => ∃ (c : Str) (xs : List Str), y = .str c ∧ H4 D = some (TSetO P w D xs) ∧ xs.length + 1 < scanBound ∧ Pv (i + 1) (L2.upd H4 D (TSetO P w D (if c ∈ xs then xs else xs ++ [c])))) else Pv (i + 1) H3) (hd : ∀ H, Pv n H → Qd H) :
    ScG P w J g tt te vs σ H1 D Qd := by
  refine ⟨fun i m H => (m = n - i ∧ i ≤ n) ∧ Pv i H, ⟨n, ⟨rfl, Nat.zero_le _⟩, h0⟩, ?_⟩
  rintro i m H ⟨⟨rfl, hi⟩, p⟩
  have q := hG i H hi p
  by_cases hlt : i < n
  · exact .inr ⟨wk.goes i H hlt q, Pv (i + 1), fun H' p' => ⟨n - (i + 1), by omega, ⟨rfl, hlt⟩, p'⟩, fun x H' y => hs i x H H' hlt p (wk.yields i H x H' hlt q y)⟩
  · obtain rfl : i = n := by omega
    exact .inl ⟨wk.stops H q, hd H p⟩
def addS (ys : List Str) (y : Str) : List Str := if y ∈ ys then ys else ys ++ [y]
theorem addS_mem {ys : List Str} {y z : Str} : z ∈ addS ys y ↔ z ∈ ys ∨ z = y := by
  unfold addS
  by_cases h : y ∈ ys
  · rw [if_pos h]
    exact ⟨.inl, fun q => q.elim id fun e => e ▸ h⟩
  · rw [if_neg h, List.mem_append, List.mem_singleton]
theorem addS_nodup {ys : List Str} {y : Str} (h : ys.Nodup) : (addS ys y).Nodup := by
  unfold addS
  by_cases q : y ∈ ys
  · rw [if_pos q]; exact h
  · rw [if_neg q]
    exact List.nodup_append.mpr ⟨h, List.pairwise_singleton _ _, fun u hu v hv e => by rw [List.mem_singleton.mp hv] at e; exact q (e ▸ hu)⟩
theorem addS_len {ys : List Str} {y : Str} : (addS ys y).length ≤ ys.length + 1 := by
  unfold addS
  by_cases q : y ∈ ys
  · rw [if_pos q]; omega
  · rw [if_neg q, List.length_append]; exact Nat.le_refl _
theorem sct_list {P : Program} {w : World} {K : PySem.W.Frag} {a : Addr} {xs : List Str} {j : Nat} {tt : TT} {te : TE} {σ : L2.St} {H1 : Hp} {D : Addr} {Qd : Hp → Prop} (f : Str → Bool) (g : Str → Str) (hS : SqL K H1 a (xs.map V.str)) (hD : H1 D = none) (hx : xs.length + 1 < scanBound)
    (ht : ∀ x ∈ xs, ∀ (H' : Hp) (Q' : Bool → Hp → Prop), Same H1 H' → Q' (f x) H' → tt ((wipe σ [j]).set j (some (.str x))) H' Q')
    (he : ∀ x ∈ xs, f x = true → ∀ (H' : Hp) (Q' : VK), Same H1 H' → Q' (.str (g x)) H' → te ((wipe σ [j]).set j (some (.str x))) H' Q')
    (hd : ∀ ys : List Str, ys.Nodup → (∀ y, y ∈ ys ↔ ∃ x ∈ xs, f x = true ∧ y = g x) → Qd (L2.upd H1 D (TSetO P w D ys))) :
    ScG P w (Itl K a) (gName j) tt te [j] σ H1 D Qd := by
  refine sct_it (walk_list (K := K) (a := a) (xs := xs.map V.str)) (fun i H => ∃ ys : List Str, H = L2.upd H1 D (TSetO P w D ys) ∧ ys.Nodup ∧ ys.length ≤ i ∧ ∀ y, y ∈ ys ↔ ∃ x ∈ xs.take i, f x = true ∧ y = g x) ⟨[], rfl, List.nodup_nil, Nat.le_refl _, fun y => by simp⟩
    (fun i H _ ⟨ys, e, _⟩ => by rw [e]; exact Same.seq (same_new (Same.refl _) hD) hS) ?_ (fun H h => by obtain ⟨ys, e, n1, _, m⟩ := h; rw [e]; rw [List.length_map, List.take_length] at m; exact hd ys n1 m)
  rintro i v H H' hi ⟨ys, rfl, n1, l1, m1⟩ ⟨rfl, e⟩
  obtain ⟨x, hx1, rfl⟩ := getMap e
  have hm := List.mem_of_getElem? hx1
  rw [List.length_map] at hi
  refine ⟨wipe_set1 _ _ _, ht x hm _ _ (same_new (Same.refl _) hD) ?_⟩
  cases hf : f x with
  | false =>
    refine ⟨ys, rfl, n1, by omega, fun y => ?_⟩
    rw [m1 y, take_snoc hx1]
    constructor
    · rintro ⟨z, hz, q⟩
      exact ⟨z, List.mem_append_left _ hz, q⟩
    · rintro ⟨z, hz, q1, q2⟩
      rcases List.mem_append.mp hz with hz | hz
      · exact ⟨z, hz, q1, q2⟩
      · rw [List.mem_singleton.mp hz, hf] at q1
        cases q1
  | true =>
    refine he x hm hf _ _ (same_new (Same.refl _) hD) ⟨g x, ys, rfl, upd_same, by omega, addS ys (g x), ?_, addS_nodup n1, Nat.le_trans addS_len (by omega), fun y => ?_⟩
    · rw [upd_upd]
      rfl
    · rw [addS_mem, m1 y, take_snoc hx1]
      constructor
      · rintro (⟨z, hz, q⟩ | rfl)
        · exact ⟨z, List.mem_append_left _ hz, q⟩
        · exact ⟨x, by simp, hf, rfl⟩
      · rintro ⟨z, hz, q1, q2⟩
        rcases List.mem_append.mp hz with hz | hz
        · exact .inl ⟨z, hz, q1, q2⟩
        · rw [List.mem_singleton.mp hz] at q2
          exact .inr q2
end KC
namespace KC
open PySem PySem.Spec PyProof.Rows L2
/-! ### list(zip(v1, v2)) of two things of any kind, a text among them -/
section
variable {prog : Program} {w : World} {A : Around} {E : Value → Shared → Prop} {s : Shared} {z TI TO i1 i2 T : Addr} {fp1 fp2 : List Addr} {n1 n2 : Nat} {P1 P2 : Nat → Value → Prop} {St1 St2 : Nat → Heap → Prop} {f : Bool} {oT : Obj} {i : Nat}
theorem zipH_next_item {Q : Value → Shared → Prop} (S : ZipSep2 z TI TO i1 i2 fp1 fp2) (D1 : Draws prog w A i1 fp1 n1 P1 St1) (D2 : Draws prog w A i2 fp2 n2 P2 St2)
    (hz : IsZipHeld s.heap z TI TO T f) (hT : s.heap.get? T = some oT) (hTI : IsTupOf2 s.heap TI (.ref i1) (.ref i2)) (st1 : St1 i s.heap) (st2 : St2 i s.heap) (hlt1 : i < n1) (hlt2 : i < n2)
    (hQ : ∀ x1 x2 h' tk, P1 i x1 → P2 i x2 → IsZipHeld h' z TI TO T true → St1 (i + 1) h' → St2 (i + 1) h' → IsTupOf2 h' s.heap.objs.size x1 x2 → h'.objs.size = s.heap.objs.size + 1 →
      (∀ c o, c ≠ z → c ≠ i1 → c ≠ i2 → s.heap.get? c = some o → h'.get? c = some o) → Q (.ref s.heap.objs.size) { s with heap := h', toks := tk }) :
    wpAny (model prog w) A (Builtin.«zip.__next__» ⟨[.ref z], []⟩) (fun fin s' => ∃ v, fin = .done (.ret v) ∧ Q v s') E s := by
  obtain ⟨hp, g, d, tk0, os⟩ := s
  show wpAny _ _ (field (.ref z) 2 >>= _) _ _ _
  refine wpAny_bind (wpAny_field hz rfl (x := .bool false) rfl ?_)
  show wpAny _ _ (field (.ref z) 3 >>= _) _ _ _
  refine wpAny_bind (wpAny_field hz rfl (x := .ref TI) rfl ?_)
  refine wpAny_bind (wpAny_seqItems hTI rfl ?_)
  show wpAny _ _ (Builtin.SmallTypes.ownedTupleIsFree (.ref z) >>= _) _ _ _
  refine wpAny_bind (wpAny_tupleHeld_zip hz hT fun h₁ hz₁ hs₁ => ?_)
  replace hs₁ : Heap.SameBut z hp h₁ := hs₁
  simp only [Bool.false_eq_true, if_false]
  refine wpAny_bind ?_
  rw [← Array.forIn_toList]
  simp only [List.forIn_cons, List.forIn_nil]
  refine wpAny_bind (wpAny_bind (wpAny_holding ?_))
  show wpAny _ _ (Builtin.SmallTypes.nextOf (.ref i1) >>= _) _ _ ⟨h₁, g, d, tk0, os⟩
  refine wpAny_bind (D1.item i _ _ _ hlt1 (D1.over st1 hs₁ S.zf1) fun x1 p1 tk1 hx1 sn1 hp1 => wpAny_pure ?_)
  replace hp1 : Heap.SameBut i1 h₁ p1 := hp1
  refine wpAny_pure ?_
  refine wpAny_bind (wpAny_bind (wpAny_holding ?_))
  show wpAny _ _ (Builtin.SmallTypes.nextOf (.ref i2) >>= _) _ _ ⟨p1, g, d, tk1, os⟩
  refine wpAny_bind (D2.item i _ _ _ hlt2 (D2.over (D2.over st2 hs₁ S.zf2) hp1 S.sep1_2) fun x2 p2 tk2 hx2 sn2 hp2 => wpAny_pure ?_)
  replace hp2 : Heap.SameBut i2 p1 p2 := hp2
  refine wpAny_pure (wpAny_pure ?_)
  show wpAny _ _ (newTuple [x1, x2] >>= _) _ _ ⟨p2, g, d, tk2, os⟩
  refine wpAny_bind (wpAny_newTuple ?_)
  have hsz : p2.objs.size = hp.objs.size := by rw [hp2.1, hp1.1, hs₁.1]
  have hz₃ : IsZipHeld p2 z TI TO T true := hp2.extBut _ _ S.zi2 (hp1.extBut _ _ S.zi1 hz₁)
  have hk : ∀ c o, c ≠ z → c ≠ i1 → c ≠ i2 → hp.get? c = some o → p2.get? c = some o := fun c o c1 c2 c3 e => hp2.extBut _ _ c3 (hp1.extBut _ _ c2 (hs₁.extBut _ _ c1 e))
  have hj1 : St1 (i + 1) p2 := D1.over sn1 hp2 S.sep2_1
  refine wpAny_pure ⟨_, rfl, ?_⟩
  show Q (.ref p2.objs.size) ⟨_, g, d, tk2, os⟩
  have hpr : IsTupOf2 (p2.push { cls := .type "tuple", data := .seq #[x1, x2] }) p2.objs.size x1 x2 := Heap.get?_push_size _ rfl
  have hz4 : (p2.push { cls := .type "tuple", data := .seq #[x1, x2] }).objs.size = p2.objs.size + 1 := Heap.size_push ..
  rw [hsz] at hpr hz4 ⊢
  exact hQ x1 x2 _ tk2 hx1 hx2 (Heap.get?_push_of_some _ hz₃) (D1.frame _ _ _ hj1 fun b _ o e => Heap.get?_push_of_some _ e) (D2.frame _ _ _ sn2 fun b _ o e => Heap.get?_push_of_some _ e) hpr hz4 fun c o c1 c2 c3 e => Heap.get?_push_of_some _ (hk c o c1 c2 c3 e)
theorem zipH_next_end {Q : Fin → Shared → Prop} (S : ZipSep2 z TI TO i1 i2 fp1 fp2) (D1 : Draws prog w A i1 fp1 n1 P1 St1) (D2 : Draws prog w A i2 fp2 n2 P2 St2)
    (hz : IsZipHeld s.heap z TI TO T f) (hT : s.heap.get? T = some oT) (hTI : IsTupOf2 s.heap TI (.ref i1) (.ref i2)) (st1 : St1 i s.heap) (st2 : St2 i s.heap) (hle1 : i ≤ n1) (hle2 : i ≤ n2) (hend : i = n1 ∨ i = n2)
    (hE : ∀ h' tk e, (∀ c o, c ≠ z → c ≠ i1 → c ≠ i2 → s.heap.get? c = some o → h'.get? c = some o) → (∃ o, h'.get? e = some o ∧ o.cls = .type "StopIteration") → E (.ref e) { s with heap := h', toks := tk }) :
    wpAny (model prog w) A (Builtin.«zip.__next__» ⟨[.ref z], []⟩) Q E s := by
  obtain ⟨hp, g, d, tk0, os⟩ := s
  show wpAny _ _ (field (.ref z) 2 >>= _) _ _ _
  refine wpAny_bind (wpAny_field hz rfl (x := .bool false) rfl ?_)
  show wpAny _ _ (field (.ref z) 3 >>= _) _ _ _
  refine wpAny_bind (wpAny_field hz rfl (x := .ref TI) rfl ?_)
  refine wpAny_bind (wpAny_seqItems hTI rfl ?_)
  show wpAny _ _ (Builtin.SmallTypes.ownedTupleIsFree (.ref z) >>= _) _ _ _
  refine wpAny_bind (wpAny_tupleHeld_zip hz hT fun h₁ hz₁ hs₁ => ?_)
  replace hs₁ : Heap.SameBut z hp h₁ := hs₁
  simp only [Bool.false_eq_true, if_false]
  refine wpAny_bind ?_
  rw [← Array.forIn_toList]
  simp only [List.forIn_cons, List.forIn_nil]
  refine wpAny_bind (wpAny_bind (wpAny_holding ?_))
  show wpAny _ _ (Builtin.SmallTypes.nextOf (.ref i1) >>= _) _ _ ⟨h₁, g, d, tk0, os⟩
  by_cases hlt1 : i < n1
  · refine wpAny_bind (D1.item i _ _ _ hlt1 (D1.over st1 hs₁ S.zf1) fun x1 p1 tk1 hx1 sn1 hp1 => wpAny_pure ?_)
    replace hp1 : Heap.SameBut i1 h₁ p1 := hp1
    refine wpAny_pure ?_
    have hi2 : i = n2 := by omega
    refine wpAny_bind (wpAny_bind (wpAny_holding ?_))
    show wpAny _ _ (Builtin.SmallTypes.nextOf (.ref i2) >>= _) _ _ ⟨p1, g, d, tk1, os⟩
    refine wpAny_bind (D2.done ⟨p1, g, d, tk1, os⟩ _ _ (by rw [← hi2]; exact (D2.over (D2.over st2 hs₁ S.zf2) hp1 S.sep1_2)) fun q e hq he => ?_)
    exact hE q tk1 e (fun c o cz c1 c2 x => hq _ _ c2 (hp1.extBut _ _ c1 (hs₁.extBut _ _ cz x))) he
  · have hi1 : i = n1 := by omega
    refine wpAny_bind (D1.done ⟨h₁, g, d, tk0, os⟩ _ _ (by rw [← hi1]; exact (D1.over st1 hs₁ S.zf1)) fun q e hq he => ?_)
    exact hE q tk0 e (fun c o cz c1 c2 x => hq _ _ c1 (hs₁.extBut _ _ cz x)) he
theorem zipH_pyNext_item {Q : Option Value → Shared → Prop} (S : ZipSep2 z TI TO i1 i2 fp1 fp2) (D1 : Draws prog w A.in1 i1 fp1 n1 P1 St1) (D2 : Draws prog w A.in1 i2 fp2 n2 P2 St2)
    (hz : IsZipHeld s.heap z TI TO T f) (hT : s.heap.get? T = some oT) (hTI : IsTupOf2 s.heap TI (.ref i1) (.ref i2)) (st1 : St1 i s.heap) (st2 : St2 i s.heap) (hlt1 : i < n1) (hlt2 : i < n2)
    (hQ : ∀ x1 x2 h' tk, P1 i x1 → P2 i x2 → IsZipHeld h' z TI TO T true → St1 (i + 1) h' → St2 (i + 1) h' → IsTupOf2 h' s.heap.objs.size x1 x2 → h'.objs.size = s.heap.objs.size + 1 →
      (∀ c o, c ≠ z → c ≠ i1 → c ≠ i2 → s.heap.get? c = some o → h'.get? c = some o) → Q (some (.ref s.heap.objs.size)) { s with heap := h', toks := tk }) :
    wpAny (model prog w) A (pyNext (.ref z)) Q E s := by
  have hTy : s.TypeIs (.ref z) "zip" := ⟨_, hz, rfl⟩
  unfold pyNext
  exact wpAny_bind (wpAny_attempt (wpAny_callSpecial?_slot (name := Str.ofString "__next__") hTy F.slot_zip_next
    (wpAny_call_entry F.slot_zip_next hTy F.entry_zip_next
      (zipH_next_item S D1 D2 hz hT hTI st1 st2 hlt1 hlt2 fun x1 x2 h' tk a1 a2 a3 a4 a5 a6 a7 a8 => wpAny_pure (hQ x1 x2 h' tk a1 a2 a3 a4 a5 a6 a7 a8)) (F.args_zip_next_1 _))))
theorem zipH_pyNext_end {Q : Option Value → Shared → Prop} (S : ZipSep2 z TI TO i1 i2 fp1 fp2) (D1 : Draws prog w A.in1 i1 fp1 n1 P1 St1) (D2 : Draws prog w A.in1 i2 fp2 n2 P2 St2)
    (hz : IsZipHeld s.heap z TI TO T f) (hT : s.heap.get? T = some oT) (hTI : IsTupOf2 s.heap TI (.ref i1) (.ref i2)) (st1 : St1 i s.heap) (st2 : St2 i s.heap) (hle1 : i ≤ n1) (hle2 : i ≤ n2) (hend : i = n1 ∨ i = n2)
    (hQ : ∀ h' tk, (∀ c o, c ≠ z → c ≠ i1 → c ≠ i2 → s.heap.get? c = some o → h'.get? c = some o) → Q none { s with heap := h', toks := tk }) : wpAny (model prog w) A (pyNext (.ref z)) Q E s := by
  have hTy : s.TypeIs (.ref z) "zip" := ⟨_, hz, rfl⟩
  unfold pyNext
  refine wpAny_bind (wpAny_attempt (wpAny_callSpecial?_slot (name := Str.ofString "__next__") hTy F.slot_zip_next
    (wpAny_call_entry F.slot_zip_next hTy F.entry_zip_next (zipH_next_end S D1 D2 hz hT hTI st1 st2 hle1 hle2 hend fun h' tk e hk he => ?_) (F.args_zip_next_1 _))))
  obtain ⟨o, ho, hc⟩ := he
  refine wpAny_bind (wpAny_isInstance (T := "StopIteration") (b := true) ⟨o, ho, hc⟩ isSubtype_stop ?_)
  exact wpAny_pure (hQ _ _ hk)
end
section
variable {prog : Program} {w : World} {A : Around} {E : Value → Shared → Prop} {s : Shared} {z TI TO i1 i2 L : Addr} {fp1 fp2 : List Addr} {n1 n2 : Nat} {P1 P2 : Nat → Value → Prop} {St1 St2 : Nat → Heap → Prop}
/-- the zip has given k pairs; all of them are still held -/
def ZStD (h : Heap) (z TI TO i1 i2 L : Addr) (St1 St2 : Nat → Heap → Prop) (k : Nat) : Prop :=
  IsTupOf2 h TI (.ref i1) (.ref i2) ∧ St1 k h ∧ St2 k h ∧
  ((IsZip h z TI TO .none ∧ ∃ a b, IsTupOf2 h TO a b) ∨ ∃ (T : Addr) (f : Bool) (oT : Obj), IsZipHeld h z TI TO T f ∧ h.get? T = some oT ∧ T ≠ z ∧ T ≠ i1 ∧ T ≠ i2 ∧ T ≠ L)
theorem ZStD.keep {h h' : Heap} {k : Nat} (F1 : ∀ i h h', St1 i h → (∀ b ∈ fp1, ∀ o, h.get? b = some o → h'.get? b = some o) → St1 i h') (F2 : ∀ i h h', St2 i h → (∀ b ∈ fp2, ∀ o, h.get? b = some o → h'.get? b = some o) → St2 i h') (st : ZStD h z TI TO i1 i2 L St1 St2 k)
    (nL : L ≠ TI ∧ L ∉ fp1 ∧ L ∉ fp2 ∧ L ≠ z ∧ L ≠ TO) (hk : ∀ b o, b ≠ L → h.get? b = some o → h'.get? b = some o) : ZStD h' z TI TO i1 i2 L St1 St2 k := by
  obtain ⟨hTI, h1, h2, hz⟩ := st
  obtain ⟨m1, m2, m3, m4, m5⟩ := nL
  refine ⟨hk _ _ (Ne.symm m1) hTI, F1 _ _ _ h1 fun b hb o e => hk _ o (fun q => m2 (q ▸ hb)) e, F2 _ _ _ h2 fun b hb o e => hk _ o (fun q => m3 (q ▸ hb)) e, ?_⟩
  rcases hz with ⟨hz, a, b, hTO⟩ | ⟨T, f, oT, hz, hT, r1, r2, r3, r4⟩
  · exact .inl ⟨hk _ _ (Ne.symm m4) hz, a, b, hk _ _ (Ne.symm m5) hTO⟩
  · exact .inr ⟨T, f, oT, hk _ _ (Ne.symm m4) hz, hk _ _ r4 hT, r1, r2, r3, r4⟩
theorem zipD_take {k : Nat} {Q : Option Value → Shared → Prop} (S : ZipSep2 z TI TO i1 i2 fp1 fp2) (D1 : Draws prog w A.in1 i1 fp1 n1 P1 St1) (D2 : Draws prog w A.in1 i2 fp2 n2 P2 St2) (hL : L < s.heap.objs.size) (st : ZStD s.heap z TI TO i1 i2 L St1 St2 k) (h1 : k < n1) (h2 : k < n2)
    (hQ : ∀ x y h' tk, P1 k x → P2 k y → ZStD h' z TI TO i1 i2 L St1 St2 (k + 1) → IsTupOf2 h' s.heap.objs.size x y → h'.objs.size = s.heap.objs.size + 1 → (∀ c o, c ≠ z → c ≠ TO → c ≠ i1 → c ≠ i2 → s.heap.get? c = some o → h'.get? c = some o) → Q (some (.ref s.heap.objs.size)) { s with heap := h', toks := tk }) :
    wpAny (model prog w) A (pyNext (.ref z)) Q E s := by
  obtain ⟨hTI, st1, st2, hz⟩ := st
  have lt : ∀ {c o}, s.heap.get? c = some o → s.heap.objs.size ≠ c := fun e => Nat.ne_of_gt (Heap.lt_size e)
  have m1 : s.heap.objs.size ≠ i1 := let ⟨_, e⟩ := D1.live _ _ st1; lt e
  have m2 : s.heap.objs.size ≠ i2 := let ⟨_, e⟩ := D2.live _ _ st2; lt e
  rcases hz with ⟨hz, a, b, hTO⟩ | ⟨T, f, oT, hz, hT, r1, r2, r3, r4⟩
  · refine wpAny_pyNext_zipD2_item S D1 D2 hz hTI hTO st1 st2 h1 h2 fun x1 x2 h' tk p1 p2 a1 a2 a3 a4 a5 a6 hk => ?_
    exact hQ x1 x2 h' tk p1 p2 ⟨hk _ _ S.TIz S.TITO S.TIi1 S.TIi2 hTI, a3, a4, .inr ⟨s.heap.objs.size, false, _, a1, a5, lt hz, m1, m2, Nat.ne_of_gt hL⟩⟩ a5 a6 hk
  · refine zipH_pyNext_item S D1 D2 hz hT hTI st1 st2 h1 h2 fun x1 x2 h' tk p1 p2 a1 a3 a4 a5 a6 hk => ?_
    exact hQ x1 x2 h' tk p1 p2 ⟨hk _ _ S.TIz S.TIi1 S.TIi2 hTI, a3, a4, .inr ⟨T, true, oT, a1, hk _ _ r1 r2 r3 hT, r1, r2, r3, r4⟩⟩ a5 a6 fun c o c1 _ c3 c4 e => hk c o c1 c3 c4 e
theorem zipD_over {k : Nat} {Q : Option Value → Shared → Prop} (S : ZipSep2 z TI TO i1 i2 fp1 fp2) (D1 : Draws prog w A.in1 i1 fp1 n1 P1 St1) (D2 : Draws prog w A.in1 i2 fp2 n2 P2 St2) (st : ZStD s.heap z TI TO i1 i2 L St1 St2 k) (h1 : k ≤ n1) (h2 : k ≤ n2) (hend : k = n1 ∨ k = n2)
    (hQ : ∀ h' tk, (∀ c o, c ≠ z → c ≠ TO → c ≠ i1 → c ≠ i2 → s.heap.get? c = some o → h'.get? c = some o) → Q none { s with heap := h', toks := tk }) : wpAny (model prog w) A (pyNext (.ref z)) Q E s := by
  obtain ⟨hTI, st1, st2, hz⟩ := st
  rcases hz with ⟨hz, a, b, hTO⟩ | ⟨T, f, oT, hz, hT, r1, r2, r3, r4⟩
  · exact wpAny_pyNext_zipD2_end S D1 D2 hz hTI hTO st1 st2 h1 h2 hend fun h' tk hk => hQ h' tk hk
  · exact zipH_pyNext_end S D1 D2 hz hT hTI st1 st2 h1 h2 hend fun h' tk hk => hQ h' tk fun c o c1 _ c3 c4 e => hk c o c1 c3 c4 e
end

/-- the addresses as hold the pairs, in order; all lie above lo -/
structure ZipGD (P1 P2 : Nat → Value → Prop) (lo : Addr) (h : Heap) (as : List Addr) : Prop where
  rise : as.Pairwise (· < ·)
  above : ∀ a ∈ as, lo < a
  pairs : ∀ (j : Nat) (a : Addr), as[j]? = some a → ∃ x y, P1 j x ∧ P2 j y ∧ IsTupOf2 h a x y
theorem ZipGD.there {P1 P2 : Nat → Value → Prop} {lo : Addr} {h : Heap} {as : List Addr} (g : ZipGD P1 P2 lo h as) {a : Addr} (ha : a ∈ as) : a < h.objs.size := by
  obtain ⟨j, hj⟩ := List.mem_iff_getElem?.mp ha
  obtain ⟨_, _, _, _, e⟩ := g.pairs j a hj
  exact Heap.lt_size e
section
variable {prog : Program} {w : World} {A : Around} {s : Shared} {R : Result → Shared → Prop} {z TI TO i1 i2 L : Addr} {fp1 fp2 : List Addr} {n1 n2 : Nat} {P1 P2 : Nat → Value → Prop} {St1 St2 : Nat → Heap → Prop}
theorem zipD_loop (hh : A.handled = none) (S : ZipSep2 z TI TO i1 i2 fp1 fp2) (D1 : ∀ A' : Around, A'.handled = none → Draws prog w A' i1 fp1 n1 P1 St1) (D2 : ∀ A' : Around, A'.handled = none → Draws prog w A' i2 fp2 n2 P2 St2)
    (nL : L ≠ TI ∧ L ∉ fp1 ∧ L ∉ fp2 ∧ L ≠ z ∧ L ≠ TO) (hn : min n1 n2 ≤ 1000000) (res : Value) (lo : Addr) (hlo : z ≤ lo ∧ TO ≤ lo ∧ i1 ≤ lo ∧ i2 ≤ lo ∧ L ≤ lo) {h₁ : Heap}
    (hR : ∀ h' tk acc c as, (∀ b o, b ≠ L → b ≠ z → b ≠ TO → b ≠ i1 → b ≠ i2 → h₁.get? b = some o → h'.get? b = some o) → h'.get? L = some { cls := .type "list", dict := none, data := .seq acc c, slots := #[] } → as.length = min n1 n2 → ZipGD P1 P2 lo h' as →
      acc.toList = as.map Value.ref → R (.ok (.ret res)) { s with heap := h', toks := tk }) :
    ∀ (k i : Nat) (h : Heap) (tk c : Nat) (acc : Array Value) (as : List Addr), min n1 n2 - i = k → i ≤ min n1 n2 → ZStD h z TI TO i1 i2 L St1 St2 i → (∀ b o, b ≠ L → b ≠ z → b ≠ TO → b ≠ i1 → b ≠ i2 → h₁.get? b = some o → h.get? b = some o) →
      h.get? L = some { cls := .type "list", dict := none, data := .seq acc c, slots := #[] } → acc.toList = as.map Value.ref → as.length = i → ZipGD P1 P2 lo h as → lo < h.objs.size →
      codeAny (model prog w) A (.builtin "list.extend.loop" ⟨[.ref L, .ref z, res], []⟩) R { s with heap := h, toks := tk } := by
  have nz := nL.2.2.2.1
  have nT := nL.2.2.2.2
  have m1 : L ≠ i1 := fun e => nL.2.1 (e ▸ S.mem1)
  have m2 : L ≠ i2 := fun e => nL.2.2.1 (e ▸ S.mem2)
  intro k
  induction k with
  | zero =>
    intro i h tk c acc as hk hi hst hkeep hS hacc hal hG hIs
    have hin : i = min n1 n2 := by omega
    refine codeAny_builtin PySem.F.entry_extend_loop ?_
    rw [Around.under_plainId PySem.F.plain_extend_loop _]
    show wpAny _ A.in1 (pyNext (.ref z) >>= _) _ _ _
    refine wpAny_bind (zipD_over (s := { s with heap := h, toks := tk }) (A := A.in1) (L := L) S (D1 _ hh) (D2 _ hh) hst (by omega) (by omega) (by omega) fun h' tk' he => ?_)
    refine wpAny_pure (hR h' tk' acc c as (fun b o b0 b1 b2 b3 b4 e => he b o b1 b2 b3 b4 (hkeep b o b0 b1 b2 b3 b4 e)) (he L _ nz nT m1 m2 hS) (by omega) ⟨hG.rise, hG.above, fun j a hj => ?_⟩ hacc)
    obtain ⟨x, y, ex, ey, e3⟩ := hG.pairs j a hj
    have ha := hG.above a (List.mem_of_getElem? hj)
    exact ⟨x, y, ex, ey, he a _ (Nat.ne_of_gt (Nat.lt_of_le_of_lt hlo.1 ha)) (Nat.ne_of_gt (Nat.lt_of_le_of_lt hlo.2.1 ha)) (Nat.ne_of_gt (Nat.lt_of_le_of_lt hlo.2.2.1 ha)) (Nat.ne_of_gt (Nat.lt_of_le_of_lt hlo.2.2.2.1 ha)) e3⟩
  | succ k ih =>
    intro i h tk c acc as hk hi hst hkeep hS hacc hal hG hIs
    have hlt : i < min n1 n2 := by omega
    have hsz : acc.size = i := by rw [← Array.length_toList, hacc, List.length_map, hal]
    refine codeAny_builtin PySem.F.entry_extend_loop ?_
    rw [Around.under_plainId PySem.F.plain_extend_loop _]
    show wpAny _ A.in1 (pyNext (.ref z) >>= _) _ _ _
    refine wpAny_bind (zipD_take (s := { s with heap := h, toks := tk }) (L := L) S (D1 _ hh) (D2 _ hh) (Heap.lt_size hS) hst (by omega) (by omega) fun x y h' tk' px py hst' ht hz hkp => ?_)
    dsimp only at ht hz hkp ⊢
    have hS' := hkp L _ nz nT m1 m2 hS
    have up : ∀ b o, b ≠ L → h'.get? b = some o → (h'.update L (Obj.mapSeq (·.push (Value.ref h.objs.size)))).get? b = some o := fun b o hb e => (Heap.get?_update_other _ _ (Ne.symm hb)).trans e
    have hSl : L < h.objs.size := Heap.lt_size hS
    show wpAny _ A.in1 (updateSeq L (·.push (Value.ref h.objs.size)) >>= _) _ _ _
    refine wpAny_bind ?_
    refine wpAny_updateSeq hS' rfl (wpAny_pure ⟨plainId_quiet PySem.F.plain_extend_loop _, ih (i + 1) _ tk' _ (acc.push (Value.ref h.objs.size)) (as ++ [h.objs.size]) (by omega) (by omega) (hst'.keep (D1 _ hh).frame (D2 _ hh).frame nL up)
      (fun b o b0 b1 b2 b3 b4 e => up b o b0 (hkp b o b1 b2 b3 b4 (hkeep b o b0 b1 b2 b3 b4 e))) (Heap.get?_update_self _ hS' rfl) (by rw [Array.toList_push, hacc, List.map_append]; rfl) (by rw [List.length_append, hal]; rfl) ⟨?_, ?_, ?_⟩ ?_⟩) (sz_le (m := 1000000) (by rw [hsz]; omega) rfl) (by show (acc.push _).size ≤ _; rw [Array.size_push, hsz]; exact Nat.le_succ_of_le (sz_le (m := 1000000) (by omega) rfl))
    · refine List.pairwise_append.mpr ⟨hG.rise, List.pairwise_singleton _ _, fun a ha b hb => ?_⟩
      rw [List.mem_singleton.mp hb]
      exact hG.there ha
    · intro a ha
      rcases List.mem_append.mp ha with ha | ha
      · exact hG.above a ha
      · rw [List.mem_singleton.mp ha]; exact hIs
    · intro j b hj
      rcases Nat.lt_trichotomy j as.length with q | q | q
      · rw [List.getElem?_append_left q] at hj
        obtain ⟨x, y, ex, ey, e3⟩ := hG.pairs j b hj
        have hb := hG.above b (List.mem_of_getElem? hj)
        exact ⟨x, y, ex, ey, up b _ (Nat.ne_of_gt (Nat.lt_of_le_of_lt hlo.2.2.2.2 hb)) (hkp b _ (Nat.ne_of_gt (Nat.lt_of_le_of_lt hlo.1 hb)) (Nat.ne_of_gt (Nat.lt_of_le_of_lt hlo.2.1 hb)) (Nat.ne_of_gt (Nat.lt_of_le_of_lt hlo.2.2.1 hb)) (Nat.ne_of_gt (Nat.lt_of_le_of_lt hlo.2.2.2.1 hb)) e3)⟩
      · subst q
        have hb : h.objs.size = b := by simpa using hj
        subst hb
        exact ⟨x, y, by rw [hal]; exact px, by rw [hal]; exact py, up _ _ (Nat.ne_of_gt hSl) ht⟩
      · have hnone : (as ++ [h.objs.size])[j]? = none := List.getElem?_eq_none (by rw [List.length_append, List.length_singleton]; omega)
        rw [hnone] at hj; cases hj
    · have e : (h'.update L (Obj.mapSeq (·.push (Value.ref h.objs.size)))).get? h.objs.size = _ := up _ _ (Nat.ne_of_gt hSl) ht
      exact Nat.lt_trans hIs (Heap.lt_size e)
theorem zipD_extend (hh : A.handled = none) (S : ZipSep2 z TI TO i1 i2 fp1 fp2) (D1 : ∀ A' : Around, A'.handled = none → Draws prog w A' i1 fp1 n1 P1 St1) (D2 : ∀ A' : Around, A'.handled = none → Draws prog w A' i2 fp2 n2 P2 St2)
    (nL : L ≠ TI ∧ L ∉ fp1 ∧ L ∉ fp2 ∧ L ≠ z ∧ L ≠ TO) (hn : min n1 n2 ≤ 1000000) (res : Value) (lo : Addr) (hlo : z ≤ lo ∧ TO ≤ lo ∧ i1 ≤ lo ∧ i2 ≤ lo ∧ L ≤ lo) (hsz : lo < s.heap.objs.size)
    (hz : IsZip s.heap z TI TO .none) (st : ZStD s.heap z TI TO i1 i2 L St1 St2 0) (c₀ : Nat) (hS : s.heap.get? L = some { cls := .type "list", data := .seq #[] c₀ })
    (hR : ∀ h' tk acc c as, (∀ b o, b ≠ L → b ≠ z → b ≠ TO → b ≠ i1 → b ≠ i2 → s.heap.get? b = some o → h'.get? b = some o) → h'.get? L = some { cls := .type "list", dict := none, data := .seq acc c, slots := #[] } → as.length = min n1 n2 → ZipGD P1 P2 lo h' as →
      acc.toList = as.map Value.ref → R (.ok (.ret res)) { s with heap := h', toks := tk }) :
    wpAny (model prog w) A.in1 (Builtin.List.listExtendWith (.ref L) (.ref z) res)
      (fun fin s' => match fin with | .done f => R (.ok f) s' | .again c' => c'.quiet = true ∧ codeAny (model prog w) A c' R s') (fun e s' => R (.error e) s') s := by
  unfold Builtin.List.listExtendWith
  have hT : s.TypeIs (.ref z) "zip" := ⟨_, hz, rfl⟩
  refine wpAny_bind (wpAny_typeOf hT ?_)
  have h1 : Builtin.List.listSameRef (.ref L) (.ref z) = false := by simp [Builtin.List.listSameRef, nL.2.2.2.1]
  have h2 : (Value.type "zip" == Value.type "list") = false := by decide
  have h3 : (Value.type "zip" == Value.type "tuple") = false := by decide
  simp only [h1, h2, h3, Bool.or_false, Bool.false_eq_true, if_false]
  refine wpAny_bind (wpAny_pyIter_zip hz ?_)
  refine wpAny_bind (wpAny_holding (zip_hint hT ?_))
  refine wpAny_ite_split (fun _ => ?_) (fun hab => absurd (by simp) hab)
  refine wpAny_bind (wpAny_rule ?_)
  refine wpAny_bind ?_
  show wpAny _ _ (updateSeq L (·.push .none) >>= fun _ => updateSeq L (·.pop)) _ _ _
  refine wpAny_bind (wpAny_updateSeq hS rfl ?_)
  have hS₂ := Heap.get?_update_self (Obj.mapSeq (·.push Value.none)) hS rfl
  refine wpAny_updateSeq (hz := by seq_fits) hS₂ rfl ?_
  have hS₃ := Heap.get?_update_self (Obj.mapSeq (·.pop)) hS₂ rfl
  have hk : ∀ b o, b ≠ L → s.heap.get? b = some o → ((s.heap.update L (Obj.mapSeq (·.push Value.none))).update L (Obj.mapSeq (·.pop))).get? b = some o := fun b o hb e => (Heap.get?_update_other _ _ (Ne.symm hb)).trans ((Heap.get?_update_other _ _ (Ne.symm hb)).trans e)
  refine wpAny_pure ⟨plainId_quiet PySem.F.plain_extend_loop _, ?_⟩
  refine zipD_loop (s := s) (h₁ := s.heap) hh S D1 D2 nL hn res lo hlo hR (min n1 n2) 0 _ _ _ #[] [] (Nat.sub_zero _) (Nat.zero_le _) (st.keep (D1 A hh).frame (D2 A hh).frame nL hk) (fun b o b0 _ _ _ _ e => hk b o b0 e) hS₃ rfl rfl ⟨.nil, (fun _ ha => nomatch ha), (fun j a hj => by simp at hj)⟩ ?_
  show lo < ((s.heap.update L _).update L _).objs.size
  rw [Heap.size_update, Heap.size_update]
  exact hsz
theorem zipD_init (hh : A.handled = none) (S : ZipSep2 z TI TO i1 i2 fp1 fp2) (D1 : ∀ A' : Around, A'.handled = none → Draws prog w A' i1 fp1 n1 P1 St1) (D2 : ∀ A' : Around, A'.handled = none → Draws prog w A' i2 fp2 n2 P2 St2)
    (nL : L ≠ TI ∧ L ∉ fp1 ∧ L ∉ fp2 ∧ L ≠ z ∧ L ≠ TO) (hn : min n1 n2 ≤ 1000000) (hlo : z ≤ L ∧ TO ≤ L ∧ i1 ≤ L ∧ i2 ≤ L ∧ L ≤ L)
    (hz : IsZip s.heap z TI TO .none) (st : ZStD s.heap z TI TO i1 i2 L St1 St2 0) (hS : s.heap.get? L = some { cls := .type "list", data := .seq #[] })
    (hR : ∀ h' tk acc c as, (∀ b o, b ≠ L → b ≠ z → b ≠ TO → b ≠ i1 → b ≠ i2 → s.heap.get? b = some o → h'.get? b = some o) → h'.get? L = some { cls := .type "list", dict := none, data := .seq acc c, slots := #[] } → as.length = min n1 n2 → ZipGD P1 P2 L h' as →
      acc.toList = as.map Value.ref → R (.ok (.ret .none)) { s with heap := h', toks := tk }) :
    wpAny (model prog w) A.in1 (Builtin.«list.__init__» ⟨[.ref L, .ref z], []⟩)
      (fun fin s' => match fin with | .done f => R (.ok f) s' | .again c' => c'.quiet = true ∧ codeAny (model prog w) A c' R s') (fun e s' => R (.error e) s') s := by
  show wpAny _ _ (do let old ← Builtin.List.listItems (.ref L); Builtin.List.listUpdate (.ref L) (fun _ => #[]); letGo old.toList.reverse; Builtin.List.listExtendWith (.ref L) (.ref z) .none) _ _ s
  refine wpAny_bind ?_
  unfold Builtin.List.listItems
  refine wpAny_bind (wpAny_seqItems hS rfl (wpAny_pure ?_))
  show wpAny _ _ (updateSeq L (fun _ => #[]) >>= fun _ => letGo (#[] : Array Value).toList.reverse >>= fun _ => Builtin.List.listExtendWith (.ref L) (.ref z) .none) _ _ s
  refine wpAny_bind (wpAny_updateSeq hS rfl ?_)
  have hS₂ := Heap.get?_update_self (Obj.mapSeq (fun _ => (#[] : Array Value))) hS rfl
  have oth : ∀ b o, b ≠ L → s.heap.get? b = some o → (s.heap.update L (Obj.mapSeq (fun _ => (#[] : Array Value)))).get? b = some o :=
    fun b o hb e => (Heap.get?_update_other _ _ (Ne.symm hb)).trans e
  refine wpAny_bind (wpAny_letGo ?_)
  refine zipD_extend (s := { s with heap := s.heap.update L (Obj.mapSeq (fun _ => (#[] : Array Value))) }) hh S D1 D2 nL hn .none L hlo (by show L < (s.heap.update L _).objs.size; rw [Heap.size_update]; exact Heap.lt_size hS) (oth _ _ (Ne.symm nL.2.2.2.1) hz) (st.keep (D1 A hh).frame (D2 A hh).frame nL oth) _ hS₂ (fun h' tk acc c as hk hS' hl hG hacc => ?_)
  exact hR h' tk acc c as (fun b o b0 b1 b2 b3 b4 e => hk b o b0 b1 b2 b3 b4 (oth b o b0 e)) hS' hl hG hacc
theorem zipD_lcall {E : Value → Shared → Prop} {Q : Value → Shared → Prop} (hh : A.handled = none) (S : ZipSep2 z TI TO i1 i2 fp1 fp2) (D1 : ∀ A' : Around, A'.handled = none → Draws prog w A' i1 fp1 n1 P1 St1) (D2 : ∀ A' : Around, A'.handled = none → Draws prog w A' i2 fp2 n2 P2 St2) (hn : min n1 n2 ≤ 1000000)
    (hz : IsZip s.heap z TI TO .none) (hTI : IsTupOf2 s.heap TI (.ref i1) (.ref i2)) (hTO : ∃ a b, IsTupOf2 s.heap TO a b) (h1 : St1 0 s.heap) (h2 : St2 0 s.heap) (f1 : ∀ b ∈ fp1, b < s.heap.objs.size) (f2 : ∀ b ∈ fp2, b < s.heap.objs.size)
    (hQ : ∀ h' tk acc c as, (∀ b o, b ≠ z → b ≠ TO → b ≠ i1 → b ≠ i2 → s.heap.get? b = some o → h'.get? b = some o) → h'.get? s.heap.objs.size = some { cls := .type "list", dict := none, data := .seq acc c, slots := #[] } → as.length = min n1 n2 → ZipGD P1 P2 s.heap.objs.size h' as →
      acc.toList = as.map Value.ref → Q (.ref s.heap.objs.size) { s with heap := h', toks := tk }) :
    wpAny (model prog w) A (call (.type "list") [.ref z]) Q E s := by
  refine callType_codes (Q₁ := fun obj s₁ => obj = .ref s.heap.objs.size ∧ s₁ = { s with heap := s.heap.push { cls := .type "list", data := .seq #[] } }) PySem.F.called_list (PySem.F.typeCall_list_1 _) PySem.F.entry_list_init
    (code_list_new _ ⟨rfl, rfl⟩) fun obj s₁ h₁ => ?_
  obtain ⟨rfl, rfl⟩ := h₁
  have hS : (s.heap.push { cls := .type "list", data := .seq #[] }).get? s.heap.objs.size = some { cls := .type "list", data := .seq #[] } := Heap.get?_push_size _ rfl
  obtain ⟨a, b, hTO⟩ := hTO
  have k : ∀ {b o}, s.heap.get? b = some o → (s.heap.push { cls := .type "list", data := .seq #[] }).get? b = some o := fun e => Heap.get?_push_of_some _ e
  have lt : ∀ {c o}, s.heap.get? c = some o → s.heap.objs.size ≠ c := fun e => Nat.ne_of_gt (Heap.lt_size e)
  have le : ∀ {c o}, s.heap.get? c = some o → c ≤ s.heap.objs.size := fun e => Nat.le_of_lt (Heap.lt_size e)
  have m1 : i1 ≤ s.heap.objs.size := Nat.le_of_lt (f1 _ S.mem1)
  have m2 : i2 ≤ s.heap.objs.size := Nat.le_of_lt (f2 _ S.mem2)
  refine ⟨⟨_, hS, rfl⟩, PySem.F.args_list_init_2 _ _, zipD_init (A := A.in1) (s := { s with heap := s.heap.push { cls := .type "list", data := .seq #[] } }) hh S D1 D2 ⟨lt hTI, fun q => Nat.lt_irrefl _ (f1 _ q), fun q => Nat.lt_irrefl _ (f2 _ q), lt hz, lt hTO⟩ hn ⟨le hz, le hTO, m1, m2, Nat.le_refl _⟩ (k hz)
    ⟨k hTI, (D1 A hh).frame _ _ _ h1 fun b _ o e => k e, (D2 A hh).frame _ _ _ h2 fun b _ o e => k e, .inl ⟨k hz, a, b, k hTO⟩⟩ hS (fun h' tk acc c as hk hS' hl hG hacc => ?_)⟩
  exact ⟨rfl, hQ h' tk acc c as (fun b o b1 b2 b3 b4 e => hk b o (Nat.ne_of_lt (Heap.lt_size e)) b1 b2 b3 b4 (k e)) hS' hl hG hacc⟩
end
/-! ### the rule -/
/-- the signs of a text, as keys -/
def signK (x : Str) : List Key := x.cps.toList.map fun c => .inr ⟨#[c]⟩
def rListZipS (K : PySem.W.Frag) : List V → Hp → VK → Prop := fun vs H Q => ∃ (x : Str) (b : Addr) (ys : List V), vs = [.str x, .ref b] ∧ SqL K H b ys ∧ min x.cps.size ys.length ≤ 1000000 ∧
  ∀ (H' : Hp) (p : Addr) (ts : List Addr), Same H H' → H p = none → H' p = some (.lst (ts.map V.ref)) → Paired (fun (t : Addr) (q : Key × V) => H' t = some (.tup [kV q.1, q.2])) ts ((signK x).zip ys) → Q (.ref p) H'
def tListZipS (K : PySem.W.Frag) (ta : TA) : TE := fun σ H Q => ta σ H fun vs H1 => rListZipS K vs H1 Q
section
variable {X : Cx} {K : PySem.W.Frag} {e e2 : Expr} {ta : TA} {p p2 pos pos2 : Pos}
theorem pe_listZipS (hc : X.calm = true) (ha : PA X [e, e2] ta) (hg : Gl X "list") (hm : X.mg "list" = none) (hv : bootBuiltins "list" = some (.type "list")) (hg2 : Gl X "zip") (hm2 : X.mg "zip" = none)
    (hst : starEach [e, e2] X.env = (false, eval e X.env) :: starEach [e2] X.env := by rfl) (hpl : (backTo pos2 (starEach [e2] X.env)).any (·.1) = false := by rfl)
    (hs : starEach [.Call (.Name "zip" p2) [e, e2] [] pos2] X.env = (false, eval (.Call (.Name "zip" p2) [e, e2] [] pos2) X.env) :: starEach [] X.env := by rfl) (hK : X.K = K := by rfl) :
    PE X (.Call (.Name "list" p) [.Call (.Name "zip" p2) [e, e2] [] pos2] [] pos) (tListZipS K ta) := by
  subst hK
  refine ⟨fun pins s σ H Q I hq => ?_⟩
  refine wpAny_Call_Name_kw (ld_blt I hg hm hv ?_)
  refine PyProof.Rows.callWith_type1 ?_ hs rfl
  rw [hs]
  show wpAny _ _ (spliced ((false, eval (.Call (.Name "zip" p2) [e, e2] [] pos2) X.env) :: backTo pos (starEach [] X.env))) _ _ s
  refine Calls.spliced_cons ?_
  refine Call_ (ld_blt I hg2 hm2 PyProof.Rows.boot_zip (PyProof.Rows.callWith_type1 (thn (ha.run pos2 pins s σ H _ I hq) fun us s1 ⟨vs, H1, I1, r1, q1⟩ => ?_) hst hpl))
  obtain ⟨x, b, ys, ex, hqy, hmin, q⟩ := q1
  subst ex
  cases r1 with
  | cons r rr =>
    cases rr with
    | cons r' rr =>
      cases rr
      obtain ⟨t, rfl⟩ := r
      cases r'
      obtain ⟨its2, rv2, p2', _⟩ := I1.list hqy
      have lb : b < s1.heap.objs.size := p2'.lt
      have e2' : its2.toArray.size = ys.length := by rw [List.size_toArray, ← rv2.length]
      refine zip_begins2 (begins_text x t) (begins_list b its2.toArray) trivial p2'.isList fun h' hz hTI hTO g1 g2 hsz hk => ?_
      have hL2 := p2'.isList.at fun o q => hk _ o q
      have h1 : h'.IsStrIter s1.heap.objs.size (strIterType x) x t 0 := ⟨_, g1, rfl, rfl⟩
      have h2 : h'.IsListIter (s1.heap.objs.size + 1) b 0 := ⟨_, g2, rfl, rfl⟩
      have S : ZipSep2 (s1.heap.objs.size + 4) (s1.heap.objs.size + 2) (s1.heap.objs.size + 3) s1.heap.objs.size (s1.heap.objs.size + 1) [s1.heap.objs.size] [s1.heap.objs.size + 1, b] := by
        have A := PySem.W.ktu_apart s1.heap.objs.size b b lb lb
        refine ⟨A.TIz, A.TOz, A.TITO, A.TIi1, by simp, ?_, ?_, A.TIi2, by simp, ?_, ?_, ?_, ?_⟩
        · intro q; exact A.i1z (List.mem_singleton.mp q).symm
        · intro q; exact A.TOi1 (List.mem_singleton.mp q)
        · intro q
          rcases List.mem_cons.mp q with q | q
          · exact A.i2z q.symm
          · exact A.l1z (List.mem_singleton.mp q).symm
        · intro q
          rcases List.mem_cons.mp q with q | q
          · exact A.TOi2 q
          · exact A.l1TO (List.mem_singleton.mp q).symm
        · intro q
          rcases List.mem_cons.mp q with q | q
          · exact A.i12 q
          · exact A.l1i1 (List.mem_singleton.mp q).symm
        · intro q; exact A.i12 (List.mem_singleton.mp q).symm
      refine Calls.spliced_nil ?_
      refine zipD_lcall (s := { s1 with heap := h' }) (I1.ok.hd hc) S (fun A' hA => Draws.text hA s1.heap.objs.size x t) (fun A' hA => Draws.list hA (s1.heap.objs.size + 1) b (Nat.ne_of_lt (Nat.lt_succ_of_lt lb)) its2.toArray) (by rw [e2']; exact hmin) hz hTI ⟨_, _, hTO⟩ h1 ⟨h2, hL2⟩ ?_ ?_ fun h'' tk acc c as hk2 hS hl hG hacc => ?_
      · intro c hc; rw [List.mem_singleton.mp hc]; exact Heap.lt_size g1
      · intro c hc
        rcases List.mem_cons.mp hc with hc | hc
        · rw [hc]; exact Heap.lt_size g2
        · rw [List.mem_singleton.mp hc]; obtain ⟨_, e, _⟩ := hL2; exact Heap.lt_size e
      have kv := kv_zip (ks := signK x) rv2
      have hk3 : ∀ b o, s1.heap.get? b = some o → h''.get? b = some o := fun b o q =>
        have lt := Heap.lt_size q
        hk2 b o (Nat.ne_of_lt (Nat.lt_of_lt_of_le lt (Nat.le_add_right _ _))) (Nat.ne_of_lt (Nat.lt_of_lt_of_le lt (Nat.le_add_right _ _))) (Nat.ne_of_lt lt) (Nat.ne_of_lt (Nat.lt_of_lt_of_le lt (Nat.le_add_right _ _))) (hk b o q)
      have ls : (signK x).length = x.cps.size := by unfold signK; rw [List.length_map, Array.length_toList]
      have hmin2 : ((signK x).zip ys).length ≤ 1000000 := by rw [List.length_zip, ls]; exact hmin
      have pr : ∀ (j : Nat) (a' : Addr), as[j]? = some a' → ∃ key k y, ((signK x).zip its2)[j]? = some (k, y) ∧ RelV (kV k) key ∧ h''.get? a' = some { cls := .type "tuple", data := .seq #[key, y] } := by
        intro j a' hj
        obtain ⟨u, y, ⟨c, tk', ex, eu⟩, ey, ht⟩ := hG.pairs j a' hj
        rw [← Array.getElem?_toList] at ey ex
        have ey' : its2[j]? = some y := ey
        refine ⟨u, .inr ⟨#[c]⟩, y, ?_, ⟨tk', eu⟩, ht⟩
        rw [List.getElem?_zip_eq_some]
        refine ⟨?_, ey'⟩
        unfold signK
        rw [List.getElem?_map, ex]
        rfl
      obtain ⟨H', k1, k2, k3, k4, J⟩ := zip_laid (tk := tk) (S := h'.objs.size) I1 (sz_le hmin2 rfl) kv (by rw [hsz]; exact Nat.le_add_right _ _) hk3 hS (by rw [hl, e2', List.length_zip, ls, ← rv2.length]) hG.rise hG.above pr hacc
      exact ⟨.ref _, H', J, rfl, q H' _ as k1 k2 k3 k4⟩
end
end KC
namespace KC
open PySem PySem.Spec PyProof.Rows L2
/-! ### the strings of a level: all, each once, ascending -/
theorem lvlM {ds : List Nat} : ∀ {n : Nat} {x : Str}, x.length = n → (∀ c ∈ TL.tl x, c ∈ ds) → x ∈ lvl ds n
  | 0, x, h, _ => by
    have : TL.tl x = [] := List.length_eq_zero_iff.mp (by rw [← TL.len_tl]; exact h)
    rw [show x = "" from TL.ext_tl (by rw [this, tl_empty])]
    exact List.mem_singleton.mpr rfl
  | n + 1, x, h, hc => by
    rcases List.eq_nil_or_concat (TL.tl x) with e | ⟨l, c, e⟩
    · rw [TL.len_tl, e] at h
      cases h
    · rw [List.concat_eq_append] at e
      have ex : x = (⟨l.toArray⟩ : Str) ++ (⟨#[c]⟩ : Str) := TL.ext_tl (e.trans (by rw [TL.tl_append]))
      have hl : (⟨l.toArray⟩ : Str).length = n := by
        rw [TL.len_tl, TL.tl_mk]
        rw [TL.len_tl, e, List.length_append] at h
        exact Nat.succ.inj h
      refine List.mem_flatMap.mpr ⟨⟨l.toArray⟩, lvlM hl fun d hd => hc d (by rw [e]; exact List.mem_append_left _ hd), ?_⟩
      rw [ex]
      exact List.mem_map_of_mem (f := fun c => (⟨l.toArray⟩ : Str) ++ (⟨#[c]⟩ : Str)) (hc c (by rw [e]; simp))
theorem app1_inj {x y : Str} {c d : Nat} (e : x ++ (⟨#[c]⟩ : Str) = y ++ (⟨#[d]⟩ : Str)) : x = y ∧ c = d := by
  have e := congrArg TL.tl e
  rw [TL.tl_append, TL.tl_append] at e
  have e : TL.tl x ++ [c] = TL.tl y ++ [d] := e
  obtain ⟨h1, h2⟩ := List.append_inj' e rfl
  exact ⟨TL.ext_tl h1, (List.cons.inj h2).1⟩
theorem lvlN {ds : List Nat} (hd : ds.Nodup) : ∀ n : Nat, (lvl ds n).Nodup
  | 0 => List.pairwise_singleton _ _
  | n + 1 => by
    show List.Pairwise _ _
    unfold lvl growS
    rw [List.pairwise_flatMap]
    refine ⟨fun x _ => ?_, ?_⟩
    · rw [List.pairwise_map]
      exact hd.imp fun h e => h (app1_inj e).2
    · refine (lvlN hd n).imp fun h x hx y hy e => ?_
      obtain ⟨c, _, rfl⟩ := List.mem_map.mp hx
      obtain ⟨d, _, rfl⟩ := List.mem_map.mp hy
      exact h (app1_inj e).1
theorem leC_snoc : ∀ {a b : List Nat} {c d : Nat}, a.length = b.length → leC a b = true → (a = b → c ≤ d) → leC (a ++ [c]) (b ++ [d]) = true
  | [], [], c, d, _, _, h => by
    rw [List.nil_append, List.nil_append, leC_cons, Bool.or_eq_true, Bool.and_eq_true, decide_eq_true_eq, decide_eq_true_eq]
    have := h rfl
    by_cases e : c < d
    · exact .inl e
    · exact .inr ⟨by omega, leC_nil _⟩
  | x :: a, y :: b, c, d, hl, h, hc => by
    rw [List.cons_append, List.cons_append, leC_cons, Bool.or_eq_true, Bool.and_eq_true, decide_eq_true_eq, decide_eq_true_eq]
    rw [leC_cons, Bool.or_eq_true, Bool.and_eq_true, decide_eq_true_eq, decide_eq_true_eq] at h
    rcases h with h | ⟨h1, h2⟩
    · exact .inl h
    · exact .inr ⟨h1, leC_snoc (by simpa using hl) h2 fun e => hc (by rw [h1, e])⟩
  | [], _ :: _, _, _, hl, _, _ => by cases hl
  | _ :: _, [], _, _, hl, _, _ => by cases hl
theorem lvl_asc {ds : List Nat} (hd : ds.Pairwise (· < ·)) : ∀ n : Nat, Asc (lvl ds n)
  | 0 => List.pairwise_singleton _ _
  | n + 1 => by
    have nd : ds.Nodup := hd.imp fun h => Nat.ne_of_lt h
    have hn := lvlN nd n
    show List.Pairwise _ _
    unfold lvl growS
    rw [List.pairwise_flatMap]
    refine ⟨fun x _ => ?_, ?_⟩
    · rw [List.pairwise_map]
      refine hd.imp fun {c d} h => ?_
      show leC (TL.tl (x ++ _)) (TL.tl (x ++ _)) = true
      rw [TL.tl_append, TL.tl_append]
      refine leC_snoc rfl ?_ fun _ => Nat.le_of_lt h
      have := leC_total (TL.tl x) (TL.tl x)
      rwa [Bool.or_self] at this
    · have key : ∀ x ∈ lvl ds n, ∀ y ∈ lvl ds n, (leS x y = true ∧ x ≠ y) → ∀ u ∈ ds.map (fun c => x ++ (⟨#[c]⟩ : Str)), ∀ v ∈ ds.map (fun c => y ++ (⟨#[c]⟩ : Str)), leS u v = true := by
        intro x hx y hy h u hu v hv
        obtain ⟨c, _, rfl⟩ := List.mem_map.mp hu
        obtain ⟨d, _, rfl⟩ := List.mem_map.mp hv
        show leC (TL.tl (x ++ _)) (TL.tl (y ++ _)) = true
        rw [TL.tl_append, TL.tl_append]
        refine leC_snoc ?_ h.1 fun e => absurd (TL.ext_tl e) h.2
        rw [← TL.len_tl, ← TL.len_tl, (lvl_of hx).1, (lvl_of hy).1]
      exact List.Pairwise.imp_of_mem (fun hx hy h => key _ hx _ hy h) ((lvl_asc hd n).and hn)
/-! ### what is touched -/
def touch1 (x t : Str) : Bool := (TL.tl x).isPrefixOf (TL.tl t) && decide (t ≠ x)
def touchB (ts : List Str) (x : Str) : Bool := ts.any (touch1 x)
theorem touch1_iff {n : Nat} {x t : Str} (h : x.length = n) : touch1 x t = true ↔ n < t.length ∧ x = cutN n t := by
  unfold touch1
  rw [Bool.and_eq_true, List.isPrefixOf_iff_prefix, decide_eq_true_eq]
  have lx : (TL.tl x).length = n := h
  have ec : TL.tl (cutN n t) = (TL.tl t).take n := tl_cut t n
  have lt : (TL.tl t).length = t.length := rfl
  constructor
  · rintro ⟨h1, h2⟩
    have h3 := List.prefix_iff_eq_take.mp h1
    rw [lx] at h3
    have h4 := h1.length_le
    refine ⟨?_, TL.ext_tl (by rw [ec]; exact h3)⟩
    refine Nat.lt_of_le_of_ne (by omega) fun e => h2 (TL.ext_tl ?_)
    rw [h3, List.take_of_length_le (by omega)]
  · rintro ⟨h1, h2⟩
    have h3 : TL.tl x = (TL.tl t).take n := by rw [← ec, ← h2]
    refine ⟨by rw [h3]; exact List.take_prefix _ _, fun e => ?_⟩
    rw [e, h] at h1
    exact Nat.lt_irrefl _ h1
theorem touched_srt {ds : List Nat} (hd : ds.Pairwise (· < ·)) {n : Nat} {ts xs : List Str} (hw : ∀ t ∈ ts, ∀ c ∈ TL.tl t, c ∈ ds) (hm : ∀ x, x ∈ xs ↔ ∃ t ∈ ts, n < t.length ∧ x = cutN n t) (nd : xs.Nodup) :
    srt xs = (lvl ds n).filter (touchB ts) := by
  have nd2 : ((lvl ds n).filter (touchB ts)).Nodup := (lvlN (hd.imp fun h => Nat.ne_of_lt h) n).filter _
  have asc2 : Asc ((lvl ds n).filter (touchB ts)) := (lvl_asc hd n).filter _
  refine srt_eq ?_ asc2
  refine (List.perm_ext_iff_of_nodup nd2 nd).mpr fun x => ?_
  rw [hm, List.mem_filter]
  unfold touchB
  rw [List.any_eq_true]
  constructor
  · rintro ⟨h1, t, h2, h3⟩
    exact ⟨t, h2, (touch1_iff (lvl_of h1).1).mp h3⟩
  · rintro ⟨t, h2, h3, h4⟩
    have e : TL.tl x = (TL.tl t).take n := by rw [h4]; exact tl_cut t n
    have lx : x.length = n := by
      show (TL.tl x).length = n
      rw [e, List.length_take]
      have : (TL.tl t).length = t.length := rfl
      omega
    refine ⟨lvlM lx fun c hc => hw t h2 c ?_, t, h2, (touch1_iff lx).mpr ⟨h3, h4⟩⟩
    rw [e] at hc
    exact List.mem_of_mem_take hc
theorem touchB_perm {ts ts' : List Str} (p : ts.Perm ts') (x : Str) : touchB ts x = touchB ts' x := by
  unfold touchB
  rw [Bool.eq_iff_iff, List.any_eq_true, List.any_eq_true]
  exact ⟨fun ⟨y, hy, h⟩ => ⟨y, p.mem_iff.mp hy, h⟩, fun ⟨y, hy, h⟩ => ⟨y, p.mem_iff.mpr hy, h⟩⟩
/-- [a new list for x in xs] -/
theorem lc_listNewG {K : PySem.W.Frag} {a : Addr} {xs : List V} {j : Nat} {te : TE} {σ : L2.St} {H1 : Hp} {D : Addr} {Qd : Hp → Prop} (f : V → List V) (hS : SqL K H1 a xs) (hD : H1 D = none) (hx : xs.length < 16777216)
    (he : ∀ x ∈ xs, ∀ (H' : Hp) (Q' : VK), Same H1 H' → (∀ H'' T, Same H' H'' → H' T = none → H'' T = some (.lst (f x)) → Q' (.ref T) H'') → te ((wipe σ [j]).set j (some x)) H' Q')
    (hd : ∀ H' (ps : List Addr), Same H1 H' → H' D = some (.lst (ps.map V.ref)) → Paired (fun p x => H1 p = none ∧ p ≠ D ∧ H' p = some (.lst (f x))) ps xs → Qd H') :
    LcG (Itl K a) (gName j) tYes te [j] σ H1 D Qd := by
  refine lc_it walk_list (fun i H => Same H1 H ∧ ∃ ps : List Addr, H D = some (.lst (ps.map V.ref)) ∧ ps.length ≤ i ∧ Paired (fun p x => H1 p = none ∧ p ≠ D ∧ H p = some (.lst (f x))) ps (xs.take i))
    ⟨same_new (Same.refl _) hD, [], upd_same, Nat.le_refl _, .nil⟩ (fun i H _ h => Same.seq h.1 hS) ?_ (fun H ⟨s, ps, hDp, _, hp⟩ => hd H ps s hDp (by rw [List.take_length] at hp; exact hp))
  rintro i x H H' hi ⟨s, ps, hDp, hpl, hp⟩ ⟨rfl, e⟩
  refine ⟨wipe_set1 _ _ _, ?_⟩
  refine he x (List.mem_of_getElem? e) _ _ s fun H2 T s2 hT hT2 => ?_
  have hDT : D ≠ T := fun z => by rw [z, hT] at hDp; cases hDp
  refine ⟨ps.map V.ref, s2 _ _ hDp, by rw [List.length_map]; exact Nat.lt_of_lt_of_le (show ps.length < 16777216 by omega) (by decide), same_mut (Same.trans s s2) hD, ps ++ [T], ?_, by rw [List.length_append]; simp; omega, ?_⟩
  · rw [upd_same, List.map_append]
    rfl
  · rw [take_snoc e]
    exact Paired.snoc (Paired.imp (fun p kv z => ⟨z.1, z.2.1, (upd_ne z.2.1).trans (s2 _ _ z.2.2)⟩) hp) ⟨s.free hT, Ne.symm hDT, (upd_ne (Ne.symm hDT)).trans hT2⟩
/-- [a new list for x in xs] -/
theorem lc_tupNewG {K : PySem.W.Frag} {a : Addr} {xs : List V} {j : Nat} {te : TE} {σ : L2.St} {H1 : Hp} {D : Addr} {Qd : Hp → Prop} (f : V → List V) (hS : SqT K H1 a xs) (hD : H1 D = none) (hx : xs.length < 16777216)
    (he : ∀ x ∈ xs, ∀ (H' : Hp) (Q' : VK), Same H1 H' → (∀ H'' T, Same H' H'' → H' T = none → H'' T = some (.lst (f x)) → Q' (.ref T) H'') → te ((wipe σ [j]).set j (some x)) H' Q')
    (hd : ∀ H' (ps : List Addr), Same H1 H' → H' D = some (.lst (ps.map V.ref)) → Paired (fun p x => H1 p = none ∧ p ≠ D ∧ H' p = some (.lst (f x))) ps xs → Qd H') :
    LcG (Itt K a) (gName j) tYes te [j] σ H1 D Qd := by
  refine lc_it walk_tup (fun i H => Same H1 H ∧ ∃ ps : List Addr, H D = some (.lst (ps.map V.ref)) ∧ ps.length ≤ i ∧ Paired (fun p x => H1 p = none ∧ p ≠ D ∧ H p = some (.lst (f x))) ps (xs.take i))
    ⟨same_new (Same.refl _) hD, [], upd_same, Nat.le_refl _, .nil⟩ (fun i H _ h => same_seqT h.1 hS) ?_ (fun H ⟨s, ps, hDp, _, hp⟩ => hd H ps s hDp (by rw [List.take_length] at hp; exact hp))
  rintro i x H H' hi ⟨s, ps, hDp, hpl, hp⟩ ⟨rfl, e⟩
  refine ⟨wipe_set1 _ _ _, ?_⟩
  refine he x (List.mem_of_getElem? e) _ _ s fun H2 T s2 hT hT2 => ?_
  have hDT : D ≠ T := fun z => by rw [z, hT] at hDp; cases hDp
  refine ⟨ps.map V.ref, s2 _ _ hDp, by rw [List.length_map]; exact Nat.lt_of_lt_of_le (show ps.length < 16777216 by omega) (by decide), same_mut (Same.trans s s2) hD, ps ++ [T], ?_, by rw [List.length_append]; simp; omega, ?_⟩
  · rw [upd_same, List.map_append]
    rfl
  · rw [take_snoc e]
    exact Paired.snoc (Paired.imp (fun p kv z => ⟨z.1, z.2.1, (upd_ne z.2.1).trans (s2 _ _ z.2.2)⟩) hp) ⟨s.free hT, Ne.symm hDT, (upd_ne (Ne.symm hDT)).trans hT2⟩
theorem dpAll_lists {K : PySem.W.Frag} {H : Hp} {f : V → List Str} : ∀ {ps : List Addr} {xs : List V}, Paired (fun p x => H p = some (.lst ((f x).map V.str))) ps xs → DpAll K H (ps.map V.ref) (xs.map fun x => .list ((f x).map PyData.str))
  | _, _, .nil => .nil
  | _, _, .cons h t => .cons (.lst (SqL.of h) (dpAll_strs _)) (dpAll_lists t)
end KC
namespace KC
open PySem PySem.Spec PyProof.Rows L2
/-! ### what repr shows: longer lists of texts, tuples and lists of numbers -/
theorem lst_shownB {xs : List Str} (h : ∀ p ∈ xs, Small p) (hl : xs.length ≤ 1000) : (PyData.list (xs.map PyData.str)).shown.length ≤ sizeLine := by
  rw [PyData.shown, shownAll_strs]
  unfold listText
  rw [strLen_append]
  have h1 := textFrom_len_le (xs.map reprText) 0 "["
  have h2 := sum_le (B := 1002) (xs := xs.map reprText) fun t ht => by
    obtain ⟨p, hp, rfl⟩ := List.mem_map.mp ht
    exact repr_small (h p hp)
  rw [List.length_map] at h1 h2
  refine sz_le (m := 2500000) ?_ rfl
  have h3 : xs.length * 1002 ≤ 1000 * 1002 := Nat.mul_le_mul_right _ hl
  have e1 : (("[" : String) : Str).length = 1 := rfl
  have e2 : (("]" : String) : Str).length = 1 := rfl
  omega
theorem shownAll_ints : ∀ ns : List Int, PyData.shownAll (ns.map PyData.int) = ns.map fun n => Str.ofString (toString n)
  | [] => by rw [List.map_nil, PyData.shownAll]; rfl
  | n :: r => by rw [List.map_cons, PyData.shownAll, shownAll_ints r, PyData.shown]; rfl
theorem log_numX {i : Int} (h0 : 0 ≤ i) (h1 : i < 1000000000) : i.natAbs.log2 < 1920 := by
  by_cases hz : i.natAbs = 0
  · rw [hz]; decide
  · refine Nat.lt_of_lt_of_le ((Nat.log2_lt hz).mpr (show i.natAbs < 2 ^ 30 by omega)) (by decide)
theorem showAll_ints : ∀ {ns : List Int}, (∀ n ∈ ns, 0 ≤ n ∧ n < 1000000000) → PyData.showableAll (ns.map PyData.int) = true
  | [], _ => by rw [List.map_nil, PyData.showableAll]
  | n :: r, h => by
    have hn := h n (by simp)
    rw [List.map_cons, PyData.showableAll, showAll_ints fun m hm => h m (List.mem_cons_of_mem _ hm), PyData.showable, Bool.and_true]
    exact decide_eq_true (log_numX hn.1 hn.2)
theorem int_len {n : Int} (h0 : 0 ≤ n) (h1 : n < 1000000000) : (Str.ofString (toString n)).length ≤ 10 := toString_length_le (k := 10) h0 (by decide) (show n < 10 ^ 10 by omega)
theorem tupI_shown {ns : List Int} (h : ∀ n ∈ ns, 0 ≤ n ∧ n < 1000000000) (hl : ns.length ≤ 1000) : (PyData.tuple (ns.map PyData.int)).shown.length ≤ sizeLine := by
  rw [PyData.shown, shownAll_ints]
  unfold tupleText
  rw [strLen_append, strLen_append]
  have hj := join_le (B := 10) (ts := ns.map fun n => Str.ofString (toString n)) fun t ht => by
    obtain ⟨n, hn, rfl⟩ := List.mem_map.mp ht
    exact int_len (h n hn).1 (h n hn).2
  have e1 : (("(" : String) : Str).length = 1 := rfl
  have e3 : ((if (ns.map fun n => Str.ofString (toString n)).length == 1 then ",)" else ")" : String) : Str).length ≤ 2 := by split <;> decide
  rw [List.length_map] at hj
  have e4 : ns.length * (10 + 2) ≤ 1000 * 12 := Nat.mul_le_mul_right _ hl
  rw [e1]
  refine sz_le (m := 30000) ?_ rfl
  omega
theorem tupI_showable {ns : List Int} (h : ∀ n ∈ ns, 0 ≤ n ∧ n < 1000000000) : (PyData.tuple (ns.map PyData.int)).showable = true := by
  rw [PyData.showable, showAll_ints h]
theorem tupI_depth (ns : List Int) : (PyData.tuple (ns.map PyData.int)).depth ≤ 8 := by
  rw [PyData.depth, depth_ints]
  decide
theorem dpS_tupI {K : PySem.W.Frag} {H : Hp} {a : Addr} {ns : List Int} (h : SqT K H a (ns.map V.int)) : DpS K H (.ref a) (.tuple (ns.map PyData.int)) := .inl (.tup h (dpAll_ints ns))
end KC
namespace KC
open PySem PySem.Spec PyProof.Rows L2
/-! ### a tuple backwards -/
section
variable {prog : Program} {w : World} {A : Around} {E : Value → Shared → Prop} {s : Shared}
theorem rev_places (n : Nat) : Builtin.Slice.slicePlaces ((n : Int) - 1) (-1) (-1) = n := by
  unfold Builtin.Slice.slicePlaces
  rw [if_neg (by decide)]
  by_cases h : (n : Int) - 1 > -1
  · rw [if_pos h]
    show (((n : Int) - 1 - -1 - 1) / 1 + 1).toNat = n
    rw [Int.ediv_one]
    omega
  · rw [if_neg h]
    show (0 : Nat) = n
    omega
theorem sliced_rev {sl : Addr} {n : Nat} {u : Value} {Q : Int × Int × Nat → Shared → Prop} (hs : s.heap.IsSliceOf sl .none .none u) (pu : IsPart u (some (-1))) (h : Q ((n : Int) - 1, -1, n) s) :
    wpAny (model prog w) A (Builtin.Slice.sliceApplied (.ref sl) (pure (n : Int))) Q E s := by
  obtain ⟨os, hos, hcs, hds⟩ := id hs
  unfold Builtin.Slice.sliceApplied Builtin.Slice.sliceFields
  refine wpAny_bind (wpAny_bind (wpAny_field hos hds (x := .none) rfl (wpAny_bind (wpAny_field hos hds (x := .none) rfl (wpAny_bind (wpAny_field hos hds (x := u) rfl (wpAny_pure ?_)))))))
  refine wpAny_bind (HT.slicePart_ pu ?_)
  show wpAny _ _ (if ((-1 : Int) == 0) = true then _ else _) _ _ s
  rw [if_neg (by decide)]
  refine wpAny_bind (slicePart_none (wpAny_bind (slicePart_none (wpAny_bind (wpAny_pure ?_)))))
  show wpAny _ _ (pure ((n : Int) - 1, (-1 : Int), Builtin.Slice.slicePlaces ((n : Int) - 1) (-1) (-1))) _ _ s
  rw [rev_places]
  exact wpAny_pure h
theorem pick_rev (xs : Array Value) : ((List.range xs.size).filterMap fun (k : Nat) => xs[(((xs.size : Nat) : Int) - 1 + (k : Int) * (-1)).toNat]?).toArray = xs.toList.reverse.toArray := by
  have e : ((List.range xs.size).filterMap fun (k : Nat) => xs[(((xs.size : Nat) : Int) - 1 + (k : Int) * (-1)).toNat]?) = (List.range xs.size).map fun k => (xs.toList.reverse[k]?).getD .none := by
    have key : ∀ k ∈ List.range xs.size, xs[(((xs.size : Nat) : Int) - 1 + (k : Int) * (-1)).toNat]? = some ((xs.toList.reverse[k]?).getD .none) := fun k hk => by
      rw [List.mem_range] at hk
      have e1 : (((xs.size : Nat) : Int) - 1 + (k : Int) * (-1)).toNat = xs.size - 1 - k := by omega
      rw [e1, List.getElem?_reverse (by rw [Array.length_toList]; exact hk), Array.length_toList, Array.getElem?_toList]
      have h2 : xs.size - 1 - k < xs.size := by omega
      rw [Array.getElem?_eq_getElem h2]
      rfl
    generalize List.range xs.size = l at key
    induction l with
    | nil => rfl
    | cons a r ih =>
      rw [List.filterMap_cons, key a (List.mem_cons_self ..), List.map_cons]
      exact congrArg _ (ih fun k hk => key k (List.mem_cons_of_mem _ hk))
  rw [e, map_range_get Value.none xs.toList.reverse xs.size (by rw [List.length_reverse, Array.length_toList]; exact Nat.le_refl _), List.take_of_length_le (by rw [List.length_reverse, Array.length_toList]; exact Nat.le_refl _)]
theorem tuple_rev {t sl : Addr} {items : Array Value} {u : Value} {Q : Value → Shared → Prop} (ht : IsTup s.heap t items) (hs : s.heap.IsSliceOf sl .none .none u) (pu : IsPart u (some (-1)))
    (h : Q (.ref s.heap.objs.size) { s with heap := s.heap.push { cls := .type "tuple", data := .seq items.toList.reverse.toArray } })
    (hsz : items.size ≤ sizeLine) : wpAny (model prog w) A (getItem (.ref t) (.ref sl)) Q E s := by
  have hfit : sizeOk (.seq items.toList.reverse.toArray) := by
    show items.toList.reverse.toArray.size ≤ sizeLine
    rw [List.size_toArray, List.length_reverse, Array.length_toList]
    exact hsz
  obtain ⟨os, hos, hcs, hds⟩ := id hs
  have hTs : s.TypeIs (.ref sl) "slice" := ⟨os, hos, hcs⟩
  unfold getItem
  try with_reducible refine wpAny_holding ?_
  first | refine wpAny_bind (wpAny_pure ?_) | skip
  refine wpAny_bind (wpAny_sequenceKey ht.typeIs (by decide) ?_)
  refine wpAny_bind (wpAny_callSpecial?_slot (name := Str.ofString "__getitem__") ht.typeIs slot_tuple_getitem (wpAny_call_entry slot_tuple_getitem ht.typeIs entry_tuple_getitem ?_ (args_tuple_getitem _ _)))
  show wpAny _ _ (Builtin.Tuple.tupleItemsOf (.ref t) >>= _) _ _ s
  refine wpAny_bind (tupleItemsOf_ ht (wpAny_bind (wpAny_typeOf hTs ?_)))
  rw [if_pos (by decide)]
  refine wpAny_bind (sliced_rev hs pu ?_)
  have hno : ¬ ((((items.size : Nat) : Int) - 1 == 0 && (-1 : Int) == 1 && (items.size == items.size)) = true) := by simp
  show wpAny _ _ (if (((items.size : Nat) : Int) - 1 == 0 && (-1 : Int) == 1 && items.size == items.size) = true then _ else _) _ _ s
  rw [if_neg hno, pick_rev items]
  first
    | exact wpAny_bind (m := Builtin.Tuple.tupleExact _) (wpAny_newObj_type (wpAny_pure ⟨_, rfl, wpAny_pure h⟩) hfit)
    | exact wpAny_bind (m := Builtin.Tuple.tupleExact _) (wpAny_newObj_type (wpAny_bind (wpAny_pure (wpAny_pure ⟨_, rfl, wpAny_pure h⟩))) hfit)
    | exact wpAny_bind (wpAny_bind (m := Builtin.Tuple.tupleExact _) (wpAny_newObj_type (wpAny_pure (wpAny_pure ⟨_, rfl, wpAny_pure h⟩)) hfit))
    | exact wpAny_bind (wpAny_bind (m := Builtin.Tuple.tupleExact _) (wpAny_newObj_type (wpAny_pure ⟨_, rfl, wpAny_pure h⟩) hfit))
end
def tRevT (K : PySem.W.Frag) (te : TE) : TE := fun σ H Q => te σ H fun x H1 => ∃ a xs, x = .ref a ∧ SqT K H1 a xs ∧ ∀ p, H1 p = none → Q (.ref p) (L2.upd H1 p (.tup xs.reverse))
theorem pe_revT {X : Cx} {pos : Pos} {e : Expr} {te : TE} {k : Nat} {p1 p2 p3 : Pos} (he : PE X e te) : PE X (.Subscript e (.Slice none none (some (.UnaryOp .USub (.Constant (.int 1) k p1) p2)) p3) pos) (tRevT X.K te) := by
  refine ⟨fun pins s σ H Q I h => ?_⟩
  refine Subscript_ (thn (he.run pins s σ H _ I h) fun v s1 ⟨x, H1, I1, r1, q1⟩ => ?_)
  obtain ⟨a, xs, ex, hx, q⟩ := q1
  subst ex
  cases r1
  have step : PO X (some (.UnaryOp .USub (.Constant (.int 1) k p1) p2)) (tPart (tUn (rU fun i => .int (-i)) (tC (.int 1)))) := po_some (pe_un un_neg pe_int)
  refine wpAny_Slice (thn (po_none.run pins s1 σ H1 (fun o H2 => o = none ∧ H2 = H1) I1 ⟨rfl, rfl⟩) fun vl s2 ⟨l, H2, I2, pl, el, e2⟩ => ?_)
  subst el e2
  refine thn (po_none.run pins s2 σ H2 (fun o H3 => o = none ∧ H3 = H2) I2 ⟨rfl, rfl⟩) fun vu s3 ⟨u, H3, I3, pu, eu, e3⟩ => ?_
  subst eu e3
  refine thn (step.run pins s3 σ H3 (fun o H4 => o = some (-1) ∧ H4 = H3) I3 ⟨1, rfl, -1, rfl, rfl, rfl⟩) fun vs s4 ⟨o, H4, I4, ps, eo, e4⟩ => ?_
  subst eo e4
  cases pl
  cases pu
  have I5 : Inv X pins σ H4 { s4 with heap := s4.heap.push { cls := .type "slice", data := .fields #[.none, .none, vs] } } := I4.kept (t' := s4.toks) fun b ob q => Heap.get?_push_of_some _ q
  obtain ⟨its, r, ht, hz⟩ := I5.tuple hx
  have hlen := r.length
  show wpAny (model X.prog X.w) X.A (subscriptTail e (.Slice none none (some (.UnaryOp .USub (.Constant (.int 1) k p1) p2)) p3) (.ref a) (.ref s4.heap.objs.size)) (EP X pins σ Q) X.xe _
  refine tail_any (ops := [.ref a, .ref s4.heap.objs.size]) ht.typeIs PyProof.Rows.slot_tuple_getitem.lookup ?_ (by with_unfolding_all rfl)
  refine tuple_rev ht (Heap.IsSliceOf.new _ _ _ vs) ps ?_ (by rw [List.size_toArray]; omega)
  refine ⟨.ref _, _, I5.laid (t' := s4.toks) (o := .tup xs.reverse) (fun b ob q => Heap.get?_push_of_some _ q) (Nat.le_refl _) ?_, rfl, q _ (I5.hok.fresh (Nat.le_refl _))⟩
  exact ⟨by rw [List.length_reverse]; exact hz, its.reverse, r.reverse, ⟨_, Heap.get?_push_size _ rfl, rfl, 0, rfl⟩⟩
/-! ### (a, b, d, t) == (..), d a dict of texts, t a tuple of texts -/
structure Quad (K : PySem.W.Frag) (H : Hp) (x : V) (i j : Int) (d p : Addr) (ks : List (Key × V)) (xs : List Str) : Prop where
  at_ : ∃ a, x = .ref a ∧ SqT K H a [.int i, .int j, .ref d, .ref p]
  dict : Rd H d (.dK ks)
  flat : ∀ q ∈ ks, flatV q.2 = true
  tup : SqT K H p (xs.map V.str)
def rEqQ (K : PySem.W.Frag) : R2 := fun x y H Q => ∃ (i j i2 j2 : Int) (d p d2 p2 : Addr) (ks ks2 : List (Key × V)) (xs xs2 : List Str), Quad K H x i j d p ks xs ∧ Quad K H y i2 j2 d2 p2 ks2 xs2 ∧ d ≠ d2 ∧ p ≠ p2 ∧
  Q (.bl (i == i2 && (j == j2 && (eqDictB ks ks2 && decide (xs = xs2))))) H
theorem four_vals {i j : Int} {d p : Addr} {us : List Value} (h : Vals [V.int i, V.int j, V.ref d, V.ref p] us) : ∃ t u, us = [.int i t, .int j u, .ref d, .ref p] := by
  cases h with
  | cons h1 h =>
    cases h with
    | cons h2 h =>
      cases h with
      | cons h3 h =>
        cases h with
        | cons h4 h =>
          cases h
          obtain ⟨t, rfl⟩ := h1
          obtain ⟨u, rfl⟩ := h2
          cases h3
          cases h4
          exact ⟨t, u, rfl⟩
theorem eqV_int (i j : Int) : eqV (.int i) (.int j) = (i == j) := rfl
theorem strs_eqIn {X : Cx} {pins : List (Addr × Obj)} {σ : L2.St} {H : Hp} {s : Shared} {A : Around} (I : Inv X pins σ H s) {p q : Addr} {xs ys : List Str} (hp : SqT X.K H p (xs.map V.str)) (hq : SqT X.K H q (ys.map V.str)) (hne : p ≠ q) (hu : A.units + 2 < cLine) :
    SeqAt.EqIn X.prog X.w A s (.ref p) (.ref q) (decide (xs = ys)) := by
  obtain ⟨its, r1, p1, _⟩ := I.tuple hp
  obtain ⟨its2, r2, p2, _⟩ := I.tuple hq
  have l1 : its.length = xs.length := by rw [← r1.length, List.length_map]
  have l2 : its2.length = ys.length := by rw [← r2.length, List.length_map]
  have e : ((List.range (min its.toArray.size its2.toArray.size)).all (fun m => decide (xs[m]? = ys[m]?)) && its.toArray.size == its2.toArray.size) = decide (xs = ys) := by
    rw [List.size_toArray, List.size_toArray, l1, l2, Bool.eq_iff_iff, Bool.and_eq_true, List.all_eq_true, decide_eq_true_eq, beq_iff_eq]
    constructor
    · rintro ⟨h1, h2⟩
      refine List.ext_getElem? fun m => ?_
      by_cases hm : m < xs.length
      · exact of_decide_eq_true (h1 m (by rw [List.mem_range]; omega))
      · rw [List.getElem?_eq_none (by omega), List.getElem?_eq_none (by omega)]
    · rintro rfl
      exact ⟨fun m _ => decide_eq_true rfl, rfl⟩
  rw [← e]
  refine SeqAt.EqIn.of_refs hne fun E Q hq => SeqAt.rcIn_tuples p1 p2 (by omega) (fun m h1 h2 => ?_) hq
  rw [List.size_toArray] at h1 h2
  obtain ⟨x, hx⟩ : ∃ x, xs[m]? = some x := ⟨_, List.getElem?_eq_getElem (by omega)⟩
  obtain ⟨y, hy⟩ : ∃ y, ys[m]? = some y := ⟨_, List.getElem?_eq_getElem (by omega)⟩
  obtain ⟨u, hu1, rx⟩ := Paired.at r1 (k := m) (x := .str x) (by rw [List.getElem?_map, hx]; rfl)
  obtain ⟨v, hv1, ry⟩ := Paired.at r2 (k := m) (x := .str y) (by rw [List.getElem?_map, hy]; rfl)
  rw [List.getElem?_eq_getElem h1] at hu1
  rw [List.getElem?_eq_getElem h2] at hv1
  obtain rfl := Option.some.inj hu1
  obtain rfl := Option.some.inj hv1
  have := (eqAt_V' (A := A.in1) (s := s) rx ry rfl rfl).inModel X.prog X.w
  have e2 : eqV (.str x) (.str y) = decide (xs[m]? = ys[m]?) := by
    show (x == y) = _
    rw [hx, hy, Bool.eq_iff_iff, beq_iff_eq, decide_eq_true_eq, Option.some.injEq]
  rw [e2] at this
  exact this
theorem op_eqQ {X : Cx} (hu : X.A.units + 64 < cLine) : OpR X (compareOp .Eq) (rEqQ X.K) := by
  intro pins s σ H x y v u Q I rx ry h
  obtain ⟨i, j, i2, j2, d, p, d2, p2, ks, ks2, xs, xs2, q1, q2, nd, np, k⟩ := h
  obtain ⟨a, rfl, ha⟩ := q1.at_
  obtain ⟨b, rfl, hb⟩ := q2.at_
  cases rx
  cases ry
  obtain ⟨its, r1, p1, _⟩ := I.tuple ha
  obtain ⟨its2, r2, p2', _⟩ := I.tuple hb
  obtain ⟨t1, u1, rfl⟩ := four_vals r1
  obtain ⟨t2, u2, rfl⟩ := four_vals r2
  obtain ⟨_, sa, va, ra, da⟩ := dk_rd I.hok q1.dict
  obtain ⟨_, sb, vb, rb, db⟩ := dk_rd I.hok q2.dict
  have hd : SeqAt.EqIn X.prog X.w X.A.in1 s (.ref d) (.ref d2) (eqDictB ks ks2) := by
    refine SeqAt.EqIn.of_refs nd fun E Q hq => PySem.W.keq_eq sa sb da db (by show X.A.units + 1 < cLine; omega) (fun _ => hits_flat rb q2.flat ra q1.flat) ?_
    rw [kv_len ra, kv_len rb]
    exact hq
  have hp := strs_eqIn (A := X.A.in1) I q1.tup q2.tup np (by show X.A.units + 1 + 2 < cLine; omega)
  have R : wpAny (model X.prog X.w) X.A (richCompare .Eq (.ref a) (.ref b)) (EP X pins σ Q) X.xe s := by
    refine SeqAt.rcIn_tuples (e := fun m => match m with | 0 => i == i2 | 1 => j == j2 | 2 => eqDictB ks ks2 | _ => decide (xs = xs2)) p1 p2' (by omega) (fun m h1 h2 => ?_) ?_
    · match m, h1, h2 with
      | 0, _, _ => exact (eqAt_V' (x := .int i) (y := .int i2) ⟨_, rfl⟩ ⟨_, rfl⟩ rfl rfl).inModel X.prog X.w
      | 1, _, _ => exact (eqAt_V' (x := .int j) (y := .int j2) ⟨_, rfl⟩ ⟨_, rfl⟩ rfl rfl).inModel X.prog X.w
      | 2, _, _ => exact hd
      | 3, _, _ => exact hp
    · have e : ((List.range (min [Value.int i t1, Value.int j u1, Value.ref d, Value.ref p].toArray.size [Value.int i2 t2, Value.int j2 u2, Value.ref d2, Value.ref p2].toArray.size)).all (fun m => match m with | 0 => i == i2 | 1 => j == j2 | 2 => eqDictB ks ks2 | _ => decide (xs = xs2)) && [Value.int i t1, Value.int j u1, Value.ref d, Value.ref p].toArray.size == [Value.int i2 t2, Value.int j2 u2, Value.ref d2, Value.ref p2].toArray.size) = (i == i2 && (j == j2 && (eqDictB ks ks2 && decide (xs = xs2)))) := by
        show ((i == i2) && ((j == j2) && (eqDictB ks ks2 && (decide (xs = xs2) && true))) && true) = _
        simp
      rw [e]
      exact ⟨.bl _, H, I, rfl, k⟩
  exact R
/-! ### str of a dict -/
def rStrD (K : PySem.W.Frag) : List V → Hp → VK → Prop := fun vs H Q => ∃ (x : V) (a : Addr) (ws : List (Str × Str)), vs = [x] ∧ x = .ref a ∧ H a = some (.dK (kvsOf ws)) ∧ (dD ws).shown.length ≤ sizeLine ∧ ∀ z : Str, Q (.str z) H
theorem call_strD {X : Cx} {k : Nat} (hr : RoomG k X.A) : CallR X (.type "str") (rStrD X.K) := by
  intro pins s σ H xs us Q I r h
  obtain ⟨x, a, ws, rfl, rfl, ha, hz, q⟩ := h
  obtain ⟨u, rfl, ru⟩ := vals1 r
  cases ru
  have hdep := dD_depth ws
  have hu : X.A.units + ((dD ws).depth + 3) < cLine := by have := hr.toRoom.units; omega
  have hd : DpS X.K H (.ref a) (dD ws) := dpS_dict ha
  rcases hd with hd | ⟨a', kvs, e0, ha', hf, ed⟩
  · cases hd
  obtain rfl : a = a' := V.ref.inj e0
  obtain ⟨z, lo, vs, rel, o, es, ep, ho, hex, hda, hks, hps, hnd⟩ := dk_rd I.hok ha'
  obtain ⟨hk1, hk2⟩ := paired_keys rel hps
  have r1 := keys_reads (h := s.heap) hk1
  have r2 := readsAll_flat (h := s.heap) rel hf
  rw [← hk2] at r2
  have rd : Reads s.heap (.ref a) (dD ws) (a :: [] ++ []) := by
    rw [ed]
    refine Reads.dict ho hex.1 hda ?_ ?_
    · rw [List.map_map]
      exact r1
    · rw [List.map_map]
      exact r2
  have hsm : (dD ws).hasDict = true → sysModules ∉ a :: [] ++ [] := fun _ hm => by
    have e : sysModules = a := by simpa using hm
    rw [← e] at lo
    simp at lo
  exact str_of_reads rd (dD_showable ws) hsm hr.gd hu (fun _ _ e => e) (fun h' u tk hk => ⟨.str (dD ws).shown, H, I.kept (t' := tk) hk, ⟨_, rfl⟩, q _⟩) hz
/-! ### [(f(k), g(v)) for k in d if ..], d locked -/
theorem lc_keysPairs {d : Addr} {o : Obj} {ws : List (Str × Str)} {j : Nat} {tt : TT} {te : TE} {σ : L2.St} {H1 : Hp} {D : Addr} {Qd : Hp → Prop} (p : Str × Str → Bool) (f : Str × Str → Key × V) (hS : H1 d = some (.frz o (.dK (kvsOf ws)))) (hD : H1 D = none) (hx : ws.length < 16777216)
    (ht : ∀ q ∈ ws, ∀ (H' : Hp) (Q' : Bool → Hp → Prop), Same H1 H' → Q' (p q) H' → tt ((wipe σ [j]).set j (some (.str q.1))) H' Q')
    (he : ∀ q ∈ ws, p q = true → ∀ (H' : Hp) (Q' : VK), Same H1 H' → (∀ T, H' T = none → Q' (.ref T) (L2.upd H' T (.tup [kV (f q).1, (f q).2]))) → te ((wipe σ [j]).set j (some (.str q.1))) H' Q')
    (hd : ∀ H' (ts : List Addr), Same H1 H' → H' D = some (.lst (ts.map V.ref)) → Paired (fun t kv => H' t = some (.tup [kV kv.1, kv.2])) ts ((ws.filter p).map f) → Qd H') :
    LcG (Itk d o (kvsOf ws)) (gName j) tt te [j] σ H1 D Qd := by
  have hlen : (kvsOf ws).length = ws.length := kvsOf_len ws
  refine lc_it (walk_keys (d := d) (o := o) (kvs := kvsOf ws)) (fun i H => Same H1 H ∧ ∃ ts : List Addr, H D = some (.lst (ts.map V.ref)) ∧ ts.length ≤ i ∧ Paired (fun t kv => H t = some (.tup [kV kv.1, kv.2])) ts (((ws.take i).filter p).map f))
    ⟨same_new (Same.refl _) hD, [], upd_same, Nat.le_refl _, .nil⟩ (fun i H _ e => e.1 _ _ hS) ?_ (fun H ⟨s, ts, hDt, _, hp⟩ => hd H ts s hDt (by rw [hlen, List.take_length] at hp; exact hp))
  rintro i x H H' hi ⟨s, ts, hDt, htl, hp⟩ ⟨rfl, k, v, e, rfl⟩
  obtain ⟨q, hq, eq⟩ := getMap (show ((ws.map fun p => ((Sum.inr p.1 : Key), V.str p.2)))[i]? = some (k, v) from e)
  cases eq
  have hm := List.mem_of_getElem? hq
  refine ⟨wipe_set1 _ _ _, ?_⟩
  refine ht q hm _ _ s ?_
  refine if_b (fun hpq => ?_) (fun hpq => ?_)
  · refine he q hm hpq _ _ s fun T hT => ?_
    have hDT : D ≠ T := fun z => by rw [z, hT] at hDt; cases hDt
    rw [hlen] at hi
    refine ⟨ts.map V.ref, by rw [upd_ne hDT]; exact hDt, by rw [List.length_map]; exact Nat.lt_of_lt_of_le (show ts.length < 16777216 by omega) (by decide), same_mut (same_new s (s.free hT)) hD, ts ++ [T], ?_, by rw [List.length_append]; simp; omega, ?_⟩
    · rw [upd_same, List.map_append]
      rfl
    · rw [take_snoc hq, List.filter_append, List.filter_cons, hpq, List.map_append]
      refine Paired.snoc (Paired.imp (fun t kv z => ?_) hp) ?_
      · have h1 : t ≠ T := fun w => by rw [w, hT] at z; cases z
        have h2 : t ≠ D := fun w => by rw [w, hDt] at z; cases z
        rw [upd_ne h2, upd_ne h1]
        exact z
      · rw [upd_ne (Ne.symm hDT), upd_same]
  · refine ⟨s, ts, hDt, by omega, ?_⟩
    rw [take_snoc hq, List.filter_append, List.filter_cons, hpq]
    simpa using hp
/-! ### tables of names, as sets of pairs -/
theorem perm_of_sub {α : Type} [DecidableEq α] : ∀ {l1 l2 : List α}, l1.Nodup → (∀ x ∈ l1, x ∈ l2) → l2.length ≤ l1.length → l1.Perm l2
  | [], l2, _, _, h => by
    cases l2 with
    | nil => exact .nil
    | cons a r => exact absurd h (by simp)
  | x :: r, l2, hn, hs, hl => by
    have hx := hs x (List.mem_cons_self ..)
    have hz := List.pairwise_cons.mp hn
    have hp := List.perm_cons_erase hx
    refine (List.Perm.cons x (perm_of_sub hz.2 (fun y hy => ?_) ?_)).trans hp.symm
    · exact (List.mem_erase_of_ne (fun e => hz.1 y hy e.symm)).mpr (hs y (List.mem_cons_of_mem _ hy))
    · have := hp.length_eq
      rw [List.length_cons] at this hl
      omega
theorem nodup_pairs {ws : List (Str × Str)} (h : (ws.map (·.1)).Nodup) : ws.Nodup := List.Pairwise.of_map (fun p : Str × Str => p.1) (fun a b hab e => hab (by rw [e])) h
theorem eqDict_iff_perm {ka kb : List (Str × Str)} (na : (ka.map (·.1)).Nodup) (nb : (kb.map (·.1)).Nodup) : eqDictB (kvsOf ka) (kvsOf kb) = true ↔ ka.Perm kb := by
  unfold eqDictB
  rw [Bool.and_eq_true, beq_iff_eq, kvsOf_len, kvsOf_len, eqKV_iff]
  constructor
  · rintro ⟨h1, h2⟩
    exact perm_of_sub (nodup_pairs na) (fun p hp => wordAt_some (h2 p hp)) (by omega)
  · intro p
    exact ⟨p.length_eq, fun q hq => wordAt_nodup nb (p.mem_iff.mp hq)⟩
theorem putK_set {ws : List (Str × Str)} {n x : Str} (h : n ∈ ws.map (·.1)) : putK (kvsOf ws) (.inr n) (.str x) = kvsOf (ws.map fun p => if p.1 = n then (p.1, x) else p) := by
  unfold putK
  have e1 : ((kvsOf ws).any fun kv => decide (kv.1 = Sum.inr n)) = true := by
    obtain ⟨p, hp, rfl⟩ := List.mem_map.mp h
    rw [List.any_eq_true]
    exact ⟨_, List.mem_map_of_mem (f := fun p : Str × Str => ((Sum.inr p.1 : Key), V.str p.2)) hp, decide_eq_true rfl⟩
  rw [if_pos e1]
  unfold kvsOf
  rw [List.map_map, List.map_map]
  refine List.map_congr_left fun p _ => ?_
  show (if (Sum.inr p.1 : Key) = Sum.inr n then ((Sum.inr p.1 : Key), V.str x) else (Sum.inr p.1, V.str p.2)) = (Sum.inr (if p.1 = n then (p.1, x) else p).1, V.str (if p.1 = n then (p.1, x) else p).2)
  by_cases e : p.1 = n
  · rw [if_pos e, if_pos (by rw [e])]
  · rw [if_neg e, if_neg (fun z => e (Sum.inr.inj z))]
end KC
namespace KC
open PySem PySem.Spec PyProof.Rows L2
/-! ### an own exception whose __init__ calls the __init__ of ValueError by super() -/
section
variable {prog : Program} {w : World} {A : Around} {E : Value → Shared → Prop} {h : Heap} {g : Array GenState} {d : Drawn} {t : Nat} {os : OsState}
theorem call_mw {nm q : Str} {C N : Addr} {bs bm : List Value} {sn : List Str} {sub : List Value} {ab : Bool} {col : Option Bool} {dd : Option Addr} {k0 k1 k2 k3 k5 : Option Value} {u e t0 : Addr} {rest : List Value} {Q : Value → Shared → Prop}
    (hC : h.get? C = some (excClassObj nm q C N bs bm true sn sub ab col dd k0 k1 k2 k3 k5 "ValueError.__new__"))
    (he : h.get? e = some ({ cls := .ref C, dict := none, data := .fields #[.ref t0, .none, .none, .none, .bool false, .none] } : Obj)) (hu : h.get? u = some (PySem.W.kxs_mw "ValueError.__init__" e)) (hrest : rest.length ≤ sizeLine)
    (hq : ∀ h' t1, (∀ b o, b ≠ e → h.get? b = some o → h'.get? b = some o) → h'.get? e = some ({ cls := .ref C, dict := none, data := .fields #[.ref t1, .none, .none, .none, .bool false, .none] } : Obj) → Q .none ⟨h', g, d, t, os⟩) :
    wpAny (model prog w) A (call (.ref u) rest) Q E ⟨h, g, d, t, os⟩ := by
  refine wpAny_call (codeAny_of_tree ?_)
  show wpAny _ A.in1 (callAny (.ref u) ⟨rest, []⟩) _ _ _
  simp only [callAny]
  refine wpAny_bind (wpAny_load hu ?_)
  simp only [PySem.W.kxs_mw, show (Value.type "method-wrapper" == Value.type "method" || Value.type "method-wrapper" == Value.type "builtin_function_or_method" || Value.type "method-wrapper" == Value.type "method-wrapper") = true by decide, if_true]
  refine PySem.W.KFB.if_so (by decide) ?_
  refine wpAny_bind (PySem.W.check_bound_init F.excBase_ValueError.toExcCallFacts hC he rfl ?_)
  refine wpAny_bind (wpAny_pure (wpAny_pure ?_))
  refine ⟨plainId_quiet F.excBase_ValueError.init.plain _, codeAny_builtin F.excBase_ValueError.initEntry ?_⟩
  exact PySem.W.exc_init_tree (cls := .ref C) (t0 := t0) (dv := none) (c2 := .none) (c3 := .none) (b4 := .bool false) he hrest fun h' k e' t' => hq h' _ k e'
end
/-- the def of such an __init__, its closure's cell at cc, its code at cda -/
abbrev supD (qual : Str) (params : Arguments) (body : List Stmt) (scope : Scope) (dV kV doc pm : Value) (an : Option Addr) (cda : Addr) (ct : Value) (cc : Addr) : FuncData :=
  PySem.W.fnX "__init__" qual params body scope [("__class__", cc)] dV kV doc pm an (.ref cda) ct
/-- what the written part says of the __init__ at f of the class at C -/
structure SupF (P : Program) (K : PySem.W.Frag) (C f cc cda : Addr) (qual : Str) (fd : FuncData) : Prop where
  lk : ∃ oc od osl, K.lookup f = some ⟨oc, od, .func fd, osl⟩
  cd : PySem.W.codeIn K (.ref cda) qual = true
  file : ∃ ccl cdd vs ccs fl tf, K.lookup cda = some ⟨ccl, cdd, .fields vs, ccs⟩ ∧ vs[2]? = some (.str fl tf) ∧ (P.main.file == fl) = true
  cell : ∃ cl cld csl, K.lookup cc = some ⟨cl, cld, .cell (some (.ref C)), csl⟩
  top : (P.main.scope.names.lookup ("super" : Str)).isSome = false
  self : PySem.W.mroIn K C (.ref C) = some true
  bv : PySem.W.subIn K (.ref C) (.type "ValueError") = some true
  op : PySem.W.nsIn K cStatics "thirdparty.any" = some none
  su : PySem.W.ks_superIn K C C "__init__" = some (some (.builtin "ValueError.__init__"))
  gs : PySem.W.nsIn K mainGlobals "super" = some none
abbrev supNF (qual : Str) (params : Arguments) (body : List Stmt) (scope : Scope) (cc cda : Addr) : NdefX.NF := ⟨"__init__", qual, params, body, scope, [("__class__", cc)], cda⟩
theorem cells1 {K : PySem.W.Frag} {P : Program} {w : World} {mg : Str → Option Value} {base : Heap} {A : Around} {outer : List Env} {s : Shared} {H : Hp} (e0 : Env0 P w K mg base A outer s H) {cc C : Addr} {cl : Value} {cld : Option Addr} {csl : Array (Option Value)}
    (e : K.lookup cc = some ⟨cl, cld, .cell (some (.ref C)), csl⟩) : NdefX.CellsAt [("__class__", cc)] ["__class__"] [none] s.heap H := by
  have hb : base.get? cc = some (⟨cl, cld, .cell (some (.ref C)), csl⟩ : Obj) := e0.mod.kin _ _ e
  have key : ∀ {y : Str} {c : Addr}, ([("__class__", cc)] : List (Str × Addr)).lookup y = some c → y = "__class__" ∧ c = cc := fun {y c} z => by
    have m := PySem.mem_of_lookup z
    rw [List.mem_singleton] at m
    exact ⟨congrArg Prod.fst m, congrArg Prod.snd m⟩
  refine ⟨rfl, fun y c z => ?_, fun x y c z1 z2 => (key z1).1.trans (key z2).1.symm, fun i y hy => ?_⟩
  · obtain ⟨_, rfl⟩ := key z
    exact ⟨(e0.bs _ _ hb).2, _, _, (e0.bs _ _ hb).1, rfl⟩
  · have hi : i = 0 := by
      cases i with
      | zero => rfl
      | succ n => simp at hy
    subst hi
    have hy : y = "__class__" := by simpa using hy.symm
    subst hy
    exact ⟨cc, rfl, fun v z => by simp at z⟩
abbrev sargs (arg : Str) : List Str := ["self", arg]
abbrev supBody (p0 p1 p2 p3 p4 : Pos) (e : Expr) (st2 : Stmt) : List Stmt := [.Expr (.Call (.Attribute (.Call (.Name "super" p0) [] [] p1) "__init__" p2) [e] [] p3) p4, st2]
/-- how super().__init__(e) is walked -/
def SupCall (p0 p1 p2 p3 : Pos) (e : Expr) (env : Env) : Prop := ∃ pl : Sem Bool, eval (.Call (.Attribute (.Call (.Name "super" p0) [] [] p1) "__init__" p2) [e] [] p3) env = (do
      let ov ← attributeBase (.Call (.Name "super" p0) [] [] p1) "__init__" env (eval (.Call (.Name "super" p0) [] [] p1) env)
      standAt p2.atName
      let (f, first) ← holding [ov] (getMethod ov "__init__" pl)
      callWith p3 f first (backTo p3 (starEach [e] env)) [])
/-- THE RULE of such an __init__: its first statement is super().__init__(e); what follows is walked as ever -/
theorem sup_fn {CX : CXT} {P : Program} {w : World} {K : PySem.W.Frag} {mg : Str → Option Value} {base : Heap} {k : Nat} {C f cc cda : Addr} {qual arg : Str} {params : Arguments} {body : List Stmt} {scope : Scope} {dV kV doc pm ct : Value} {an : Option Addr} {sp : Sp} {N : List Str}
    {p0 p1 p2 p3 p4 : Pos} {e : Expr} {st2 : Stmt} {ar0 : Arg} {ars : List Arg}
    (SF : SupF P K C f cc cda qual (supD qual params body scope dV kV doc pm an cda ct cc)) (T : OexC K C)
    (hbody : body = supBody p0 p1 p2 p3 p4 e st2)
    (hpar : params.posonlyargs ++ params.args = ar0 :: ars) (har : ar0.arg = "self") (S : NdefX.NScope N (sargs arg) ["__class__"] scope) (hna : arg ≠ "self") (hks : scope.names.lookup ("super" : Str) = some .globalImplicit)
    (len : ∀ vs H Q E, sp vs H Q E → vs.length = 2)
    (hrun : ∀ (A : Around) (outer : List Env) (s : Shared) (H : Hp) (vs : List V) (Q : VK) (E : XK), Room k (A.deeper (NdefX.envF (supNF qual params body scope cc cda) f s.heap.objs.size)) → sp vs H Q E →
      SupCall p0 p1 p2 p3 e (NdefX.envF (supNF qual params body scope cc cda) f s.heap.objs.size) ∧ ∃ (te : TA) (t2 : TS) (a : Addr) (v : V), vs = [.ref a, v] ∧ H a = some (exo a C none) ∧ PA (NdefX.ncx CX P w K mg base N (supNF qual params body scope cc cda) f A outer s H E) [e] te ∧
        (starEach [e] (NdefX.envF (supNF qual params body scope cc cda) f s.heap.objs.size) = (false, eval e (NdefX.envF (supNF qual params body scope cc cda) f s.heap.objs.size)) :: starEach [] (NdefX.envF (supNF qual params body scope cc cda) f s.heap.objs.size)) ∧
        PSs (NdefX.ncx CX P w K mg base N (supNF qual params body scope cc cda) f A outer s H E) [st2] t2 ∧
        te (NdefX.startF N vs [none]) H (fun ws H1 => ws.length ≤ 1000 ∧ H1 a = some (exo a C none) ∧ t2 { nx := fun _ H' => Q .non H', rt := Q } (NdefX.startF N vs [none]) H1)) :
    FnOk P w K mg base CX (k + 1) f (supD qual params body scope dV kV doc pm an cda ct cc) (sargs arg) sp := by
  subst hbody
  refine ⟨len, fun A outer s H args us vs Q E hr e0 hb r hsp => ?_⟩
  have hl := len _ _ _ _ hsp
  have KX : K.In s.heap := e0.mod.kin.keeps fun b o e => (e0.bs b o e).1
  have lim : s.heap.NoLimit := e0.mod.nolimit.keeps fun b o e => (e0.bs b o e).1
  obtain ⟨oc, od, osl, lk⟩ := SF.lk
  obtain ⟨cl, cld, csl, hcl⟩ := SF.cell
  obtain ⟨ccl, cdd, cvs, ccs, fl, tf, hcda, hcvs, hfile⟩ := SF.file
  have hc2 := cells1 e0 hcl
  have hloc : ∀ y ∈ (sargs arg).zip us, scope.names.lookup y.1 = some .local := fun ⟨n, _⟩ hy => S.par n (List.of_mem_zip hy).1
  refine PySem.ks_codeAny_call_defAt (binds := (sargs arg).zip us) hr.depth (KX _ _ lk) rfl lim (PySem.W.codeRec_of KX SF.cd) rfl hb S.nocell hloc (fun h₁ hns kp => ?_) S.co S.gen S.kind
  obtain ⟨⟨pl, hmc⟩, te, t2, a, v, rfl, ha, he, hse, h2, q⟩ := hrun A outer s H vs Q E (hr.deeper _) hsp
  have I : Inv (NdefX.ncx CX P w K mg base N (supNF qual params (supBody p0 p1 p2 p3 p4 e st2) scope cc cda) f A outer s H E) [] (NdefX.startF N [.ref a, v] [none]) H { s with heap := h₁, toks := s.toks + ((sargs arg).zip us).length } := NdefX.inv_startN S hr.hd e0 hl r hc2 hns kp
  have hmsuper : mg "super" = none := PySem.W.mg_none_of e0.mod.kin e0.mod.glob SF.gs
  obtain ⟨mb, hmb1, hmb2⟩ := e0.mod.blt
  obtain ⟨u0, u1, rfl, r0, r1⟩ : ∃ u0 u1, us = [u0, u1] ∧ RelV (.ref a) u0 ∧ RelV v u1 := by
    cases r with
    | cons ra rr => cases rr with
      | cons rb rn => cases rn with
        | nil => exact ⟨_, _, rfl, ra, rb⟩
  cases (show u0 = Value.ref a from r0)
  have KX1 : K.In h₁ := KX.keeps kp
  obtain ⟨t0, hoe⟩ := exo_at e0.hok ha
  obtain ⟨nm, q', N', bs, bm, sn, sub, ab, col, dd, k0, k1, k2, k3, k5, hC, hbm⟩ := T.cls
  have hclC : PySem.W.clsIn K C = some { name := nm, bases := bs, mro := .ref C :: bm, ns := N', qualname := q', hasDict := true, slotNames := sn, subclasses := sub, abstract := ab, collection := col, hasDel := false } := by unfold PySem.W.clsIn; rw [hC] <;> rfl
  have hne : a ≠ C := fun z => by
    subst z
    have y := KX _ _ hC
    rw [hoe] at y
    cases y
  have hint : interactive (callEnv (supD qual params (supBody p0 p1 p2 p3 p4 e st2) scope dV kV doc pm an cda ct cc) s.heap.objs.size f) = false := by
    unfold interactive
    rw [show (callEnv (supD qual params (supBody p0 p1 p2 p3 p4 e st2) scope dV kV doc pm an cda ct cc) s.heap.objs.size f).scope.kind = .function from S.kind]
    rfl
  refine PySem.ks_wpAt_execs_cons (PySem.ks_wpAt_Expr_any (PySem.ks_wpAt_MethodCall (pl := pl) ?_ hmc) (hi := hint))
  refine PySem.ks_wpAt_super_base (f := f) (cc := cda) (ar := ar0) hks (S.frk _ (List.mem_singleton.mpr rfl)) rfl rfl (KX1 _ _ lk) rfl (by show (params.posonlyargs ++ params.args).head? = _; rw [hpar]; rfl) rfl (KX1 _ _ hcda) rfl hcvs hfile SF.top ?_
  have bk : ∀ b o, base.get? b = some o → h₁.get? b = some o := fun b o z => kp _ _ (e0.bs b o z).1
  refine PySem.W.ks_loadName_global S.kind hks (Calls.loadGlobal_builtin (e0.mod.glob.keeps bk) hmsuper (hmb1.keeps bk) ((hmb2 "super" (by decide)).trans (show bootBuiltins "super" = some (.type "super") by decide +kernel)) ⟨rfl, ?_⟩)
  refine wpAny_loadName_free S.kind (S.frk _ (List.mem_singleton.mpr rfl)) rfl ⟨_, KX1 _ _ hcl, rfl⟩ ?_
  rw [har]
  have hself : ((sargs arg).zip [Value.ref a, u1]).reverse.lookup ("self" : Str) = some (Value.ref a) := NdefX.zip_look (ps := sargs arg) (us := [Value.ref a, u1]) (i := 0) (by simp; exact fun z => hna z.symm) rfl rfl
  refine wpAny_loadName_local S.kind (S.par _ (by simp)) hns hself ?_
  refine PySem.ks_wpAny_isType_cls (KX1 _ _ hC) rfl ⟨rfl, ?_⟩
  refine PySem.ks_wpAny_call_super (KX1 _ _ hC) rfl (kp _ _ hoe) rfl (fun c z => nomatch z) (PySem.W.looks_mroIn KX1 SF.self) (fun h2' hso2 kp2 => ?_)
  have KX2 : K.In h2' := KX1.keeps kp2
  have I2 := I.kept (h' := h2') (t' := s.toks + ((sargs arg).zip [Value.ref a, u1]).length) kp2
  have hsu := SF.su
  unfold PySem.W.ks_superIn at hsu
  rw [hclC] at hsu
  have ho2 : h2'.get? a = some ({ cls := .ref C, dict := none, data := .fields #[.ref t0, .none, .none, .none, .bool false, .none] } : Obj) := kp2 _ _ (kp _ _ hoe)
  have Ia : PySem.W.InstAt h2' a ({ cls := .ref C, dict := none, data := .fields #[.ref t0, .none, .none, .none, .bool false, .none] } : Obj) C none := ⟨ho2, rfl, rfl, trivial⟩
  refine PySem.W.kxs_getMethod PySem.W.kxs_ValueError hso2 (PySem.W.looks_opaque KX2 SF.op) (fun A Q E s k q => wpAny_bind ((PySem.W.looks_clsIn KX2 hclC) A _ E s k (wpAny_pure q))) rfl KX2 hsu (Ia.type.andThen (PySem.W.looks_subIn KX2 SF.bv)) hne rfl ?_
  have kp3 : ∀ b o, h2'.get? b = some o → (h2'.push (PySem.W.kxs_mw "ValueError.__init__" a)).get? b = some o := fun b o z => Heap.get?_push_of_some _ z
  have I3 := I2.kept (h' := h2'.push (PySem.W.kxs_mw "ValueError.__init__" a)) (t' := s.toks + ((sargs arg).zip [Value.ref a, u1]).length + 1) kp3
  have hu3 : (h2'.push (PySem.W.kxs_mw "ValueError.__init__" a)).get? h2'.objs.size = some (PySem.W.kxs_mw "ValueError.__init__" a) := Heap.get?_push_at rfl rfl
  have I4 := I3.pins_of (pins' := [(h2'.objs.size, PySem.W.kxs_mw "ValueError.__init__" a)]) fun p hp => by
    rw [List.mem_singleton] at hp
    subst hp
    exact ⟨hu3, I2.hok.fresh (Nat.le_refl _), fun z => absurd I2.lt (by rw [← z]; exact Nat.lt_irrefl _), I2.nofs (Nat.le_refl _), fun v z => nomatch z⟩
  have hse' : starEach [e] (callEnv (supD qual params (supBody p0 p1 p2 p3 p4 e st2) scope dV kV doc pm an cda ct cc) s.heap.objs.size f) = (false, eval e (callEnv (supD qual params (supBody p0 p1 p2 p3 p4 e st2) scope dV kV doc pm an cda ct cc) s.heap.objs.size f)) :: starEach [] (callEnv (supD qual params (supBody p0 p1 p2 p3 p4 e st2) scope dV kV doc pm an cda ct cc) s.heap.objs.size f) := hse
  have hr5 := he.run p3 _ _ _ H _ I4 q
  change wpAny _ _ (spliced (backTo p3 (starEach [e] (callEnv (supD qual params (supBody p0 p1 p2 p3 p4 e st2) scope dV kV doc pm an cda ct cc) s.heap.objs.size f)))) _ _ _ at hr5
  rw [hse'] at hr5 ⊢
  refine PySem.W.kxs_callWith (i := "ValueError.__init__") (x := a) (by rfl) ?_
  refine Calls.evalArgs_plain ?_
  refine thn hr5 fun us' s5 hh => ?_
  obtain ⟨ws, H5, I5, rw5, ew, ha5, q5⟩ := hh
  obtain ⟨hu5, _⟩ := I5.pin (h2'.objs.size, PySem.W.kxs_mw "ValueError.__init__" a) (List.mem_append_right _ (List.mem_singleton.mpr rfl))
  obtain ⟨t5', hoe5⟩ := exo_at I5.hok ha5
  have KX5 : K.In s5.heap := I5.kIn
  obtain ⟨h5, g5, d5, t5, os5⟩ := s5
  refine ⟨hu5, ?_⟩
  have hlen : us'.length ≤ sizeLine := by
    rw [← Paired.length rw5, sizeLine_eq]
    omega
  refine call_mw (KX5 _ _ hC) hoe5 hu5 hlen fun h' t1 k hx => ?_
  have J := I5.write (t' := t5) (x := a) (e := a) (o := exo a C none) (by rw [ha5]; exact True.intro) (.inl rfl) k ⟨_, hx⟩ (exo_ok hx)
  have eu : L2.upd H5 a (exo a C none) = H5 := by
    funext b
    by_cases hb : b = a
    · rw [hb, upd_same, ha5]
    · rw [upd_ne hb]
  rw [eu] at J
  have fin : ∀ {pins : List (Addr × Obj)} {σ' : L2.St} {H' : Hp} {s' : Shared} {v : V} {u : Value}, Inv (NdefX.ncx CX P w K mg base N (supNF qual params (supBody p0 p1 p2 p3 p4 e st2) scope cc cda) f A outer s H E) pins σ' H' s' → RelV v u → Q v H' → CE outer P w H s Q u s' :=
    fun {pins σ' H' s' v u} J rv q => ⟨v, H', J.os, J.bare, J.base, J.hok, rv, q⟩
  refine wpAt_of_wpAny (wpAny_mono (h2.run _ _ _ H5 _ J q5) (fun fl s' hs => ?_) fun e s' hs => hs)
  cases fl with
  | ret u =>
    obtain ⟨v, σ', H', J, rv, q⟩ := hs
    exact fin J rv q
  | next =>
    obtain ⟨σ', H', J, q⟩ := hs
    exact fin (v := V.non) (u := Value.none) J rfl q
  | brk =>
    obtain ⟨_, _, _, q⟩ := hs
    exact False.elim q
  | cont =>
    obtain ⟨_, _, _, q⟩ := hs
    exact False.elim q
/-! ### such an exception, made and raised -/
def sp_sup (C : Addr) (f : Str) : Sp := fun vs H Q _ => ∃ (a : Addr) (i : Int), vs = [.ref a, .int i] ∧ 0 ≤ i ∧ i < 1000000000 ∧ H a = some (exo a C none) ∧
  ∀ d, H d = none → d ≠ a → Q .non (L2.upd (L2.upd H d (exd d [(f, .int i)])) a (exo a C (some d)))
/-- the class x at C, its __init__ keeping f -/
structure SupX (P : Program) (w : World) (K : PySem.W.Frag) (mg : Str → Option Value) (base : Heap) (x : Str) (C : Addr) (f : Str) : Prop where
  gl : mg x = some (.ref C)
  ox : OexC K C
  no : PySem.W.findIn K (.ref C) f = some none
  fn : ∃ (fI : Addr) (fd : FuncData), FnOk P w K mg base CX0 1 fI fd (sargs f) (sp_sup C f) ∧ PySem.W.findIn K (.ref C) "__init__" = some (some (.ref fI)) ∧ PySem.W.typeIn K (.ref fI) = some (.type "function") ∧ Binds K fd (sargs f) []
/-- the reading of C(e): the exception's own dict is new -/
def tMkS (C : Addr) (f : Str) (te : TE) : L2.St → Hp → XK → Prop := fun σ H Q => te σ H fun v H1 => ∃ i : Int, v = .int i ∧ 0 ≤ i ∧ i < 1000000000 ∧ ∀ d, H1 d = none → Q (.ref C) (some d) (L2.upd H1 d (.xd [(f, .int i)]))
def tMo (te : TE) : TE := fun σ H Q => ∃ Q' : VK, te σ H Q' ∧ ∀ v H1, Q' v H1 → Q v H1
theorem pe_mo {X : Cx} {e : Expr} {te : TE} (he : PE X e te) : PE X e (tMo te) := ⟨fun pins s σ H Q I ⟨Q', h, k⟩ => thn (he.run pins s σ H Q' I h) fun _ _ ⟨v, H1, I1, r, q⟩ => ⟨v, H1, I1, r, k _ _ q⟩⟩
theorem upd_back {H1 : Hp} {a d : Addr} {o1 o2 o3 o4 : HO} (ha : H1 a = none) (hd : d ≠ a) : L2.upd (del (L2.upd (L2.upd (L2.upd H1 a o1) d o2) a o3) a) d o4 = L2.upd H1 d o4 := by
  funext b
  by_cases hb : b = d
  · rw [hb, upd_same, upd_same]
  · rw [upd_ne hb, upd_ne hb]
    by_cases ha' : b = a
    · rw [ha', del_same, ha]
    · rw [del_ne ha', upd_ne ha', upd_ne hb, upd_ne ha']
theorem pmk_sup {X : Cx} {x f : Str} {C : Addr} {e : Expr} {te : TE} {p pos : Pos} (Z : SupX X.prog X.w X.K X.mg X.base x C f) (hr : Room 2 X.A) (hg : Gl X x) (he : PE X e te)
    (hdb : (x == ("__debug__" : Str)) = false := by decide) (hse : starEach [e] X.env = (false, eval e X.env) :: starEach [] X.env := by rfl) :
    PMk X (.Call (.Name x p) [e] [] pos) (tMkS C f te) := by
  obtain ⟨fI, fd, F, hi, ht, hb⟩ := Z.fn
  have z := pmk_oex (pos := pos) (p := p) Z.ox hi ht F hr hb (dvs := []) .nil pass0 hg Z.gl (pa_cons (pe_mo he) pa_nil hse) hdb hse
  intro pins s σ H Q I h
  refine z pins s σ H Q I ⟨_, h, fun v H1 q => ?_⟩
  obtain ⟨i, rfl, i0, i1, q⟩ := q
  refine ⟨by simp, fun a ha => ⟨a, i, rfl, i0, i1, upd_same, fun d hd hne => ⟨rfl, d, [(f, .int i)], upd_same, ?_, ?_, ?_⟩⟩⟩
  · rw [upd_ne hne, upd_same]
  · rw [← hd, upd_ne hne]
  · have hd1 : H1 d = none := by rw [← hd, upd_ne hne]
    rw [upd_back ha hne]
    exact q d hd1
/-! ### isinstance of such an exception that is kept, its field -/
/-- the kept exception at a of the class at D: its own dict, if it has one, is known -/
def KeptX (H : Hp) (a D : Addr) (d : Option Addr) : Prop := H a = some (ExK (.ref D) d a) ∧ ∀ dd, d = some dd → ∃ fs, H dd = some (.xd fs)
def rIsY (K : PySem.W.Frag) : List V → Hp → VK → Prop := fun xs H Q => ∃ (a D : Addr) (d : Option Addr) (c : V) (u : Value) (b : Bool), xs = [.ref a, c] ∧ KeptX H a D d ∧ ExcC K D ∧ ClsV c u ∧ PySem.W.kitOne K (.ref D) u = some b ∧ Q (.bl b) H
def rIsYT (K : PySem.W.Frag) : List V → Hp → VK → Prop := fun xs H Q => ∃ (a D : Addr) (d : Option Addr) (tp : Addr) (cs : List V) (us : List Value) (b : Bool), xs = [.ref a, .ref tp] ∧ KeptX H a D d ∧ ExcC K D ∧ H tp = some (.tup cs) ∧ Paired ClsV cs us ∧ PySem.W.kitAny K (.ref D) us = some b ∧ Q (.bl b) H
section
variable {X : Cx}
theorem kept_instY {pins : List (Addr × Obj)} {σ : L2.St} {H : Hp} {s : Shared} {a D : Addr} {d : Option Addr} (I : Inv X pins σ H s) (h : KeptX H a D d) : ∃ (oe : Obj) (od : Option Obj), PySem.W.InstAt s.heap a oe D od := by
  obtain ⟨⟨oe, vs, e, z, dt⟩, _⟩ := (show ObjOk X.prog X.w H s.heap a (ExK (.ref D) d a) from I.hok a _ h.1)
  obtain ⟨oc, od, oda, osl⟩ := oe
  obtain ⟨h1, h2⟩ := z
  dsimp only at h1 h2 dt
  subst h1 h2 dt
  cases od with
  | none => exact ⟨_, none, e, rfl, rfl, trivial⟩
  | some dd =>
    obtain ⟨fs, hf⟩ := h.2 dd rfl
    have hx : ObjOk X.prog X.w H s.heap dd (.xd fs) := I.hok dd _ hf
    obtain ⟨mA, hns, hr⟩ := hx
    obtain ⟨od2, ho, hl⟩ := lookIn_ns hns
    exact ⟨_, some od2, e, rfl, rfl, ho⟩
theorem cls_of_dict {K : PySem.W.Frag} {D : Addr} (h : PySem.W.hasDictIn K D = true) : (PySem.W.clsIn K D).isSome = true := by
  obtain ⟨cd, hc, _⟩ := PySem.W.any_some h
  rw [hc]
  rfl
theorem call_isY : CallR X (.builtin "isinstance") (rIsY X.K) := by
  intro pins s σ H xs us Q I r h
  obtain ⟨a, D, d, c, u, b, rfl, ha, C, k, e, q⟩ := h
  obtain ⟨u1, u2, rfl, r1, r2⟩ := vals2 r
  have e2 := k.eq r2
  subst e2
  cases (show u1 = Value.ref a from r1)
  obtain ⟨oe, od, J⟩ := kept_instY I ha
  exact PySem.W.kia_one (PySem.W.kitx_exc (cls_of_dict C.hd) C.hg C.hk C.hs C.ha C.hn C.ht C.hm) I.kIn J e (fun z => nomatch z) fun tk => ⟨.bl b, H, I.tok tk, rfl, q⟩
theorem call_isYT : CallR X (.builtin "isinstance") (rIsYT X.K) := by
  intro pins s σ H xs us Q I r h
  obtain ⟨a, D, d, tp, cs, ws, b, rfl, ha, C, hT, k, e, q⟩ := h
  obtain ⟨u1, u2, rfl, r1, r2⟩ := vals2 r
  cases (show u2 = Value.ref tp from r2)
  cases (show u1 = Value.ref a from r1)
  obtain ⟨oe, od, J⟩ := kept_instY I ha
  obtain ⟨_, its, rv, o, h1, h2, n, h3⟩ := (show ObjOk X.prog X.w H s.heap tp (.tup cs) from I.hok tp _ hT)
  have e3 := ClsV.all k rv
  subst e3
  obtain ⟨oc, odd, dt, sl⟩ := o
  simp only at h2 h3
  subst h2 h3
  exact PySem.W.kia_tup (PySem.W.kitx_exc (cls_of_dict C.hd) C.hg C.hk C.hs C.ha C.hn C.ht C.hm) I.kIn J h1 e (fun z => nomatch z) fun tk => ⟨.bl b, H, I.tok tk, rfl, q⟩
end
/-- e.f, e a kept exception -/
def tXk (K : PySem.W.Frag) (f : Str) (te : TE) : TE := fun σ H Q => te σ H fun x H1 => ∃ (a D dd : Addr) (fs : List (Str × V)) (v : V), x = .ref a ∧ H1 a = some (ExK (.ref D) (some dd) a) ∧ H1 dd = some (.xd fs) ∧ fs.lookup f = some v ∧ ExcC K D ∧ PySem.W.findIn K (.ref D) f = some none ∧ Q v H1
theorem pe_xk {X : Cx} {e : Expr} {te : TE} {pos : Pos} {n : Str} (he : PE X e te) (hb : attributeBase e n X.env (eval e X.env) = eval e X.env := by rfl) : PE X (.Attribute e n pos) (tXk X.K n te) := by
  refine ⟨fun pins s σ H Q I h => ?_⟩
  refine attr_of hb (thn (he.run pins s σ H _ I h) fun u s1 hh => ?_)
  obtain ⟨x, H1, I1, rx, a, D, dd, fs, v, ex, ha, ed, l, C, hno, q⟩ := hh
  subst ex
  obtain rfl : u = Value.ref a := rx
  obtain ⟨⟨oe, vs, e1, z, dt⟩, _⟩ := (show ObjOk X.prog X.w H1 s1.heap a (ExK (.ref D) (some dd) a) from I1.hok a _ ha)
  have hx : ObjOk X.prog X.w H1 s1.heap dd (.xd fs) := I1.hok dd _ ed
  obtain ⟨mA, hns, hr⟩ := hx
  obtain ⟨od, ho, hl⟩ := lookIn_ns hns
  obtain ⟨u, hu, ru⟩ := RelO.some_of (v := v) (o := mA n) (by rw [← l]; exact hr n)
  have J : PySem.W.InstAt s1.heap a oe D (some od) := ⟨e1, z.1, by unfold PySem.W.notCls; rw [dt] <;> rfl, by rw [z.2]; exact ho⟩
  exact HandSPX.exc_get I1.kIn J C.hg C.hk C.hs (PySem.W.findObj_own C.hd hno rfl (by rw [hl, hu])) (handed_of ru) ⟨v, H1, I1.tok _, ru, q⟩
theorem pe_xkK {X : Cx} {K : PySem.W.Frag} {e : Expr} {te : TE} {pos : Pos} {n : Str} (he : PE X e te) (hb : attributeBase e n X.env (eval e X.env) = eval e X.env := by rfl) (hK : X.K = K := by rfl) : PE X (.Attribute e n pos) (tXk K n te) := hK ▸ pe_xk he hb
theorem log_num {i : Int} (h0 : 0 ≤ i) (h1 : i < 1000000000) : i.natAbs.log2 < 1920 := by
  by_cases hz : i.natAbs = 0
  · rw [hz]; decide
  · refine Nat.lt_of_lt_of_le ((Nat.log2_lt hz).mpr (show i.natAbs < 2 ^ 30 by omega)) (by decide)
/-! ### a new dict, walked -/
def tFrz (te : TE) : TE := fun σ H Q => te σ H fun x H1 => ∃ d u, x = .ref d ∧ H1 d = some u ∧ Mut (some u) ∧ ∀ od, Q x (L2.upd H1 d (.frz od u))
theorem pe_frz {X : Cx} {e : Expr} {te : TE} (h : PE X e te) : PE X e (tFrz te) := by
  refine ⟨fun pins s σ H Q I hw => thn (h.run pins s σ H _ I hw) fun v s1 ⟨x, H1, I1, r, d, u, ex, hd, mu, q⟩ => ?_⟩
  obtain ⟨od, I2⟩ := I1.lock hd mu
  exact ⟨x, _, I2, r, q od⟩
end KC
namespace KC
open PySem PySem.Spec PyProof.Rows L2
/-! ### dict comprehensions over items -/
/-- {fk(q): fv(q) for a, b in d.items()} -/
theorem dc_itemsG {K : PySem.W.Frag} {d : Addr} {o : Obj} {kvs : List (Key × V)} {i j : Nat} {tk tv : TE} {σ : L2.St} {H1 : Hp} {D : Addr} {Qd : Hp → Prop} (fk : Key × V → Key) (fv : Key × V → V) (hij : i ≠ j) (hS : H1 d = some (.frz o (.dK kvs))) (hD : H1 D = none) (hx : kvs.length < 16777216)
    (hk : ∀ q ∈ kvs, ∀ (H' : Hp) (Q' : VK), Same H1 H' → Q' (kV (fk q)) H' → tk (((wipe σ [i, j]).set i (some (kV q.1))).set j (some q.2)) H' Q')
    (hv : ∀ q ∈ kvs, ∀ (H' : Hp) (Q' : VK), Same H1 H' → Q' (fv q) H' → tv (((wipe σ [i, j]).set i (some (kV q.1))).set j (some q.2)) H' Q')
    (hd : ∀ H', Same H1 H' → H' D = some (.dK (mergeK [] (kvs.map fun q => (fk q, fv q)))) → Qd H') :
    DcG (Iti d o kvs) (gTup K 2 (gCons (gName i) (gCons (gName j) gNil))) tYes tk tv [i, j] σ H1 D Qd := by
  refine dc_it walk_items (fun n H => Same H1 H ∧ H D = some (.dK (mergeK [] ((kvs.take n).map fun q => (fk q, fv q))))) ⟨same_new (Same.refl _) hD, upd_same⟩ (fun n H _ h => h.1 _ _ hS) ?_ (fun H h => hd H h.1 (by rw [h.2, List.take_length]))
  rintro n v H H' hn ⟨s, hDn⟩ ⟨T, x, y, rfl, hT, rfl, e1, e2⟩
  cases e : kvs[n]? with
  | none =>
    have h1 : (kvs[n]?.map fun kv => kV kv.1) = some x := e1
    rw [e] at h1
    cases h1
  | some q =>
    have h1 : (kvs[n]?.map fun kv => kV kv.1) = some x := e1
    have h2 : (kvs[n]?.map Prod.snd) = some y := e2
    rw [e] at h1 h2
    obtain rfl : kV q.1 = x := Option.some.inj h1
    obtain rfl : q.2 = y := Option.some.inj h2
    refine ⟨T, _, rfl, SqT.of upd_same, rfl, _, _, rfl, _, _, rfl, rfl, wipe_set2 σ hij _ _, ?_⟩
    have hDT : D ≠ T := fun z => by rw [z, hT] at hDn; cases hDn
    have hm := List.mem_of_getElem? e
    have sT := same_new (o := .tup [kV q.1, q.2]) s (s.free hT)
    have hD2 : upd H T (.tup [kV q.1, q.2]) D = some (.dK (mergeK [] ((kvs.take n).map fun q => (fk q, fv q)))) := by rw [upd_ne hDT]; exact hDn
    refine hk q hm _ _ sT (hv q hm _ _ sT ⟨_, _, rfl, hD2, ?_, same_new sT hD, ?_⟩)
    · have h1 := merge_len ((kvs.take n).map fun q => (fk q, fv q)) []
      rw [List.length_nil, List.length_map, List.length_take] at h1
      exact Nat.lt_of_lt_of_le (show _ < 16777216 by omega) (by decide)
    · rw [upd_same, take_snoc e, List.map_append, List.map_singleton, merge_snoc]
/-! ### codewords taken off from the left -/
theorem tl_seg (x : Str) (i j : Nat) : TL.tl (cutS x (some (i : Int)) (some (j : Int))) = ((TL.tl x).take j).drop i := by
  show (List.toArray _).toList = _
  rw [HT.sIx_nat, HT.sIx_nat, TL.len_tl]
  show ((TL.tl x).drop (min i (TL.tl x).length)).take (min j (TL.tl x).length - min i (TL.tl x).length) = ((TL.tl x).take j).drop i
  rw [List.drop_take]
  generalize TL.tl x = t
  by_cases hi : i ≤ t.length
  · rw [show min i t.length = i by omega]
    by_cases hj : j ≤ t.length
    · rw [show min j t.length = j by omega]
    · rw [show min j t.length = t.length by omega, List.take_of_length_le (by rw [List.length_drop]; omega), List.take_of_length_le (by rw [List.length_drop]; omega)]
  · rw [show min i t.length = t.length by omega, List.drop_eq_nil_of_le (Nat.le_refl _), List.drop_eq_nil_of_le (by omega), List.take_nil, List.take_nil]
abbrev Wds := List (Str × Str)
/-- the entry whose codeword stands at the left -/
def stp (ws : Wds) (t : List Nat) : Option (Str × Str) := ws.find? fun p => (TL.tl p.2).isPrefixOf t
theorem stp_mem {ws : Wds} {t : List Nat} {p : Str × Str} (h : stp ws t = some p) : p ∈ ws ∧ TL.tl p.2 <+: t :=
  ⟨List.mem_of_find?_eq_some h, List.isPrefixOf_iff_prefix.mp (List.find?_some (p := fun p : Str × Str => (TL.tl p.2).isPrefixOf t) h)⟩
theorem stp_no {ws : Wds} {t : List Nat} (h : stp ws t = none) {p : Str × Str} (hp : p ∈ ws) : ¬ TL.tl p.2 <+: t := fun z =>
  List.find?_eq_none.mp h p hp (List.isPrefixOf_iff_prefix.mpr z)
theorem pf_uniq : ∀ {ws : Wds}, PF (ws.map (·.2)) → ∀ {p q : Str × Str}, p ∈ ws → q ∈ ws → cmpS p.2 q.2 = true → p = q
  | [], _, p, _, hp, _, _ => by cases hp
  | a :: r, h, p, q, hp, hq, c => by
    obtain ⟨h1, h2⟩ := List.pairwise_cons.mp (show ((a :: r).map (·.2)).Pairwise fun x y => cmpS x y = false from h)
    have no : ∀ {z : Str × Str}, z ∈ r → cmpS a.2 z.2 = false := fun {z} hz => h1 _ (List.mem_map.mpr ⟨z, hz, rfl⟩)
    rcases List.mem_cons.mp hp with e1 | hp
    · rcases List.mem_cons.mp hq with e2 | hq
      · rw [e1, e2]
      · rw [e1, no hq] at c
        cases c
    · rcases List.mem_cons.mp hq with e2 | hq
      · rw [e2, cmpS_symm, no hp] at c
        cases c
      · exact pf_uniq h2 hp hq c
theorem pre_cmp {x y : Str} {t : List Nat} (h1 : TL.tl x <+: t) (h2 : TL.tl y <+: t) : cmpS x y = true := cmpS_iff.mpr (List.prefix_or_prefix_of_prefix h1 h2)
theorem stp_of {ws : Wds} (pf : PF (ws.map (·.2))) {t : List Nat} {p : Str × Str} (hp : p ∈ ws) (h : TL.tl p.2 <+: t) : stp ws t = some p := by
  cases e : stp ws t with
  | none => exact absurd h (stp_no e hp)
  | some q =>
    obtain ⟨h1, h2⟩ := stp_mem e
    rw [pf_uniq pf h1 hp (pre_cmp h2 h)]
theorem stp_perm {ws ws' : Wds} (pf : PF (ws.map (·.2))) (pm : ws.Perm ws') (t : List Nat) : stp ws' t = stp ws t := by
  cases e : stp ws' t with
  | none =>
    cases e2 : stp ws t with
    | none => rfl
    | some q =>
      obtain ⟨h1, h2⟩ := stp_mem e2
      exact absurd h2 (stp_no e (pm.mem_iff.mp h1))
  | some q =>
    obtain ⟨h1, h2⟩ := stp_mem e
    exact (stp_of pf (pm.mem_iff.mpr h1) h2).symm
/-- the names that can be taken off, and the number of their digits -/
def runW (ws : Wds) : Nat → List Nat → List Str × Nat
  | 0, _ => ([], 0)
  | k + 1, t => match stp ws t with
    | none => ([], 0)
    | some p => (p.1 :: (runW ws k (t.drop p.2.length)).1, p.2.length + (runW ws k (t.drop p.2.length)).2)
def Ne1 (ws : Wds) : Prop := ∀ p ∈ ws, 1 ≤ p.2.length
theorem runW_fuel {ws : Wds} (ne : Ne1 ws) : ∀ (k m : Nat) (t : List Nat), t.length ≤ k → t.length ≤ m → runW ws k t = runW ws m t
  | 0, 0, t, _, _ => rfl
  | 0, m + 1, t, h, _ => by
    have e : t = [] := List.eq_nil_of_length_eq_zero (by omega)
    subst e
    show ([], 0) = runW ws (m + 1) []
    unfold runW
    cases e : stp ws [] with
    | none => rfl
    | some p =>
      obtain ⟨h1, h2⟩ := stp_mem e
      have := ne p h1
      have h3 := h2.length_le
      rw [TL.len_tl] at this
      simp at h3
      simp [h3] at this
  | k + 1, 0, t, _, h => by
    have e : t = [] := List.eq_nil_of_length_eq_zero (by omega)
    subst e
    show runW ws (k + 1) [] = ([], 0)
    unfold runW
    cases e : stp ws [] with
    | none => rfl
    | some p =>
      obtain ⟨h1, h2⟩ := stp_mem e
      have := ne p h1
      have h3 := h2.length_le
      rw [TL.len_tl] at this
      simp at h3
      simp [h3] at this
  | k + 1, m + 1, t, h1, h2 => by
    unfold runW
    cases e : stp ws t with
    | none => rfl
    | some p =>
      obtain ⟨hp, hpre⟩ := stp_mem e
      have := ne p hp
      have hl := hpre.length_le
      rw [← TL.len_tl] at hl
      show (_, _) = (_, _)
      rw [runW_fuel ne k m (t.drop p.2.length) (by rw [List.length_drop]; omega) (by rw [List.length_drop]; omega)]
def rst (ws : Wds) (t : List Nat) : List Str × Nat := runW ws t.length t
theorem rst_none {ws : Wds} {t : List Nat} (h : stp ws t = none) : rst ws t = ([], 0) := by
  unfold rst
  cases t with
  | nil => rfl
  | cons a r =>
    show runW ws (r.length + 1) (a :: r) = _
    unfold runW
    rw [h]
theorem rst_some {ws : Wds} (ne : Ne1 ws) {t : List Nat} {p : Str × Str} (h : stp ws t = some p) :
    rst ws t = (p.1 :: (rst ws (t.drop p.2.length)).1, p.2.length + (rst ws (t.drop p.2.length)).2) := by
  obtain ⟨hp, hpre⟩ := stp_mem h
  have := ne p hp
  have hl := hpre.length_le
  rw [← TL.len_tl] at hl
  have e1 : rst ws t = runW ws (t.length + 1) t := runW_fuel ne _ _ _ (Nat.le_refl _) (Nat.le_succ _)
  have e2 : rst ws (t.drop p.2.length) = runW ws t.length (t.drop p.2.length) := runW_fuel ne _ _ _ (Nat.le_refl _) (by rw [List.length_drop]; omega)
  rw [e1, e2]
  show (match stp ws t with | none => ([], 0) | some p => (p.1 :: (runW ws t.length (t.drop p.2.length)).1, p.2.length + (runW ws t.length (t.drop p.2.length)).2)) = _
  rw [h]
theorem stp_len {ws : Wds} (ne : Ne1 ws) {t : List Nat} {p : Str × Str} (h : stp ws t = some p) : 1 ≤ p.2.length ∧ p.2.length ≤ t.length := by
  obtain ⟨hp, hpre⟩ := stp_mem h
  have hl := hpre.length_le
  rw [← TL.len_tl] at hl
  exact ⟨ne p hp, hl⟩
theorem rst_le {ws : Wds} (ne : Ne1 ws) : ∀ (n : Nat) (t : List Nat), t.length ≤ n → (rst ws t).2 ≤ t.length ∧ (rst ws t).1.length ≤ (rst ws t).2
  | n, t, hn => by
    cases e : stp ws t with
    | none => rw [rst_none e]; simp
    | some p =>
      obtain ⟨l1, l2⟩ := stp_len ne e
      rw [rst_some ne e]
      cases n with
      | zero => omega
      | succ n =>
        obtain ⟨h1, h2⟩ := rst_le ne n (t.drop p.2.length) (by rw [List.length_drop]; omega)
        rw [List.length_drop] at h1
        constructor
        · show p.2.length + _ ≤ _
          omega
        · show (_ :: _).length ≤ p.2.length + _
          rw [List.length_cons]
          omega
theorem rst_mem {ws : Wds} (ne : Ne1 ws) : ∀ (n : Nat) (t : List Nat), t.length ≤ n → ∀ y ∈ (rst ws t).1, y ∈ ws.map (·.1)
  | n, t, hn, y, hy => by
    cases e : stp ws t with
    | none => rw [rst_none e] at hy; cases hy
    | some p =>
      obtain ⟨l1, l2⟩ := stp_len ne e
      rw [rst_some ne e] at hy
      rcases List.mem_cons.mp hy with rfl | hy
      · exact List.mem_map.mpr ⟨p, (stp_mem e).1, rfl⟩
      · cases n with
        | zero => omega
        | succ n => exact rst_mem ne n (t.drop p.2.length) (by rw [List.length_drop]; omega) y hy
theorem runW_perm {ws ws' : Wds} (pf : PF (ws.map (·.2))) (pm : ws.Perm ws') : ∀ (k : Nat) (t : List Nat), runW ws' k t = runW ws k t
  | 0, _ => rfl
  | k + 1, t => by
    unfold runW
    rw [stp_perm pf pm t]
    cases stp ws t with
    | none => rfl
    | some p =>
      show (_, _) = (_, _)
      rw [runW_perm pf pm k]
theorem rst_perm {ws ws' : Wds} (pf : PF (ws.map (·.2))) (pm : ws.Perm ws') (t : List Nat) : rst ws' t = rst ws t := runW_perm pf pm _ t
/-- where the walk stands: acc taken off, n digits gone -/
def At (ws : Wds) (t : List Nat) (acc : List Str) (n : Nat) : Prop := n ≤ t.length ∧ rst ws t = (acc ++ (rst ws (t.drop n)).1, n + (rst ws (t.drop n)).2)
theorem At.zero (ws : Wds) (t : List Nat) : At ws t [] 0 := ⟨Nat.zero_le _, by rw [List.drop_zero, Nat.zero_add]; rfl⟩
theorem At.step {ws : Wds} (ne : Ne1 ws) {t : List Nat} {acc : List Str} {n : Nat} (h : At ws t acc n) {p : Str × Str} (e : stp ws (t.drop n) = some p) : At ws t (acc ++ [p.1]) (n + p.2.length) := by
  obtain ⟨l1, l2⟩ := stp_len ne e
  obtain ⟨h1, h2⟩ := h
  rw [List.length_drop] at l2
  refine ⟨by omega, ?_⟩
  rw [h2, rst_some ne e, List.drop_drop]
  show (_, _) = (_, _)
  rw [List.append_assoc, Nat.add_assoc]
  rfl
theorem At.done {ws : Wds} {t : List Nat} {acc : List Str} {n : Nat} (h : At ws t acc n) (e : stp ws (t.drop n) = none) : rst ws t = (acc, n) := by
  rw [h.2, rst_none e, List.append_nil]
  rfl
/-! ### the dict from the codewords to the names -/
def ownK (ws : Wds) : List (Key × V) := ws.map fun p => (Sum.inr p.2, V.str p.1)
theorem ownK_len (ws : Wds) : (ownK ws).length = ws.length := by unfold ownK; rw [List.length_map]
theorem ownK_kvs (ws : Wds) : ownK ws = kvsOf (ws.map fun p => (p.2, p.1)) := by
  unfold ownK kvsOf
  rw [List.map_map]
  rfl
theorem pf_nodup {xs : List Str} (h : PF xs) : xs.Nodup := List.Pairwise.imp (fun {a b} c z => by subst z; rw [cmpS_iff.mpr (.inl (List.prefix_refl _))] at c; cases c) h
theorem ownK_nodup {ws : Wds} (pf : PF (ws.map (·.2))) : ((ownK ws).map (·.1)).Nodup := by
  rw [ownK_kvs]
  refine kvsOf_nodup ?_
  rw [List.map_map]
  exact pf_nodup pf
theorem ownK_merge {ws : Wds} (pf : PF (ws.map (·.2))) : mergeK [] (ownK ws) = ownK ws := merge_nodup (kvs := []) (by rw [List.nil_append]; exact ownK_nodup pf)
def swap (ws : Wds) : Wds := ws.map fun p => (p.2, p.1)
theorem ownK_val (ws : Wds) (x : Str) : valV (ownK ws) (.inr x) = (wordAt (swap ws) x).map V.str := by
  rw [ownK_kvs]
  exact valV_kvs x _
theorem own_some {ws : Wds} (pf : PF (ws.map (·.2))) {p : Str × Str} (hp : p ∈ ws) : wordAt (swap ws) p.2 = some p.1 :=
  wordAt_nodup (ws := swap ws) (p := (p.2, p.1)) (by unfold swap; rw [List.map_map]; exact pf_nodup pf) (List.mem_map.mpr ⟨p, hp, rfl⟩)
theorem own_mem {ws : Wds} {x y : Str} (h : wordAt (swap ws) x = some y) : (y, x) ∈ ws := by
  obtain ⟨q, hq, e⟩ := List.mem_map.mp (wordAt_some h)
  obtain ⟨a, b⟩ := q
  cases e
  exact hq
end KC
namespace KC
open PySem PySem.Spec PyProof.Rows L2
/-! ### what is kept in mind: what stays, and what is changed -/
def mix (G M : Hp) : Hp := fun b => match M b with
  | some o => some o
  | none => G b
def Dis (G M : Hp) : Prop := ∀ b o, M b = some o → G b = none
theorem mix_m {G M : Hp} {b : Addr} {o : HO} (h : M b = some o) : mix G M b = some o := by unfold mix; rw [h]
theorem mix_g {G M : Hp} {b : Addr} (h : M b = none) : mix G M b = G b := by unfold mix; rw [h]
theorem Dis.no {G M : Hp} (d : Dis G M) {b : Addr} {o : HO} (h : G b = some o) : M b = none := by
  cases e : M b with
  | none => rfl
  | some v => rw [d b v e] at h; cases h
theorem Dis.keep {G M : Hp} (d : Dis G M) : Same G (mix G M) := fun b o h => by rw [mix_g (d.no h)]; exact h
theorem mix_split {G M G' : Hp} (d : Dis G M) (s : Same (mix G M) G') : ∃ G1, Same G G1 ∧ Dis G1 M ∧ G' = mix G1 M ∧ ∀ b o, M b = none → G' b = some o → G1 b = some o := by
  refine ⟨fun b => match M b with | some _ => none | none => G' b, fun b o h => ?_, fun b o h => ?_, ?_, fun b o h e => ?_⟩
  · show (match M b with | some _ => none | none => G' b) = some o
    rw [d.no h]
    exact s b o (d.keep b o h)
  · show (match M b with | some _ => none | none => G' b) = none
    rw [h]
  · funext b
    cases e : M b with
    | some v => rw [mix_m e]; exact s b v (mix_m e)
    | none =>
      rw [mix_g e]
      show G' b = (match M b with | some _ => none | none => G' b)
      rw [e]
  · show (match M b with | some _ => none | none => G' b) = some o
    rw [h]
    exact e
/-- a thing that changes is changed -/
theorem mix_set {G M : Hp} (x : Addr) (o : HO) : upd (mix G M) x o = mix G (upd M x o) := by
  funext b
  by_cases hb : b = x
  · subst hb
    rw [upd_same, mix_m upd_same]
  · rw [upd_ne hb]
    unfold mix
    rw [upd_ne hb]
theorem Dis.set {G M : Hp} (d : Dis G M) {x : Addr} {o : HO} (gx : G x = none) : Dis G (upd M x o) := fun b v h => by
  by_cases hb : b = x
  · rw [hb]; exact gx
  · rw [upd_ne hb] at h; exact d b v h
/-- a thing that stayed will be changed -/
theorem mix_thaw {G M : Hp} (d : Dis G M) {x : Addr} {o : HO} (h : G x = some o) : ∃ G1, G1 x = none ∧ (∀ b v, b ≠ x → G b = some v → G1 b = some v) ∧ Dis G1 (upd M x o) ∧ mix G M = mix G1 (upd M x o) := by
  have mx := d.no h
  refine ⟨fun b => if b = x then none else G b, by simp, fun b v hb e => (by show (if b = x then none else G b) = some v; rw [if_neg hb]; exact e), fun b v e => ?_, ?_⟩
  · show (if b = x then none else G b) = none
    by_cases hb : b = x
    · rw [if_pos hb]
    · rw [if_neg hb]
      rw [upd_ne hb] at e
      exact d b v e
  · funext b
    by_cases hb : b = x
    · subst hb
      rw [mix_m upd_same, mix_g mx, h]
    · unfold mix
      rw [upd_ne hb]
      simp [hb]
/-- a thing that was changed stays from now on -/
theorem mix_freeze {G M : Hp} (d : Dis G M) {x : Addr} {o : HO} (h : M x = some o) : ∃ M1 : Hp, M1 x = none ∧ (∀ b, b ≠ x → M1 b = M b) ∧ Dis (upd G x o) M1 ∧ mix G M = mix (upd G x o) M1 ∧ Same G (upd G x o) := by
  have gx := d x o h
  refine ⟨fun b => if b = x then none else M b, by simp, fun b hb => if_neg hb, fun b v e => ?_, ?_, newS gx⟩
  · have hb : b ≠ x := fun z => by rw [z] at e; simp at e
    have e : (if b = x then none else M b) = some v := e
    rw [if_neg hb] at e
    rw [upd_ne hb]
    exact d b v e
  · funext b
    by_cases hb : b = x
    · subst hb
      rw [mix_m h]
      unfold mix
      simp [upd_same]
    · unfold mix
      rw [upd_ne hb]
      simp [hb]
theorem dis_none (G : Hp) : Dis G (fun _ => none) := fun b o h => by cases h
theorem mix_none (G : Hp) : mix G (fun _ => none) = G := rfl
/-! ### a test, and what is left of it -/
def tMoT (tt : TT) : TT := fun σ H Q => ∃ Q' : Bool → Hp → Prop, tt σ H Q' ∧ ∀ b H1, Q' b H1 → Q b H1
theorem pt_mo {X : Cx} {e : Expr} {tt : TT} (h : PT X e tt) : PT X e (tMoT tt) := ⟨fun pins s σ H Q I ⟨Q', q, k⟩ => thn (h.run pins s σ H Q' I q) fun _ _ ⟨H1, I1, z⟩ => ⟨H1, I1, k _ _ z⟩⟩
/-- [.. for y, z in xs if t(y, z)], t false for each; new objects may be made -/
theorem lc_listNo2 {K : PySem.W.Frag} {a : Addr} {xs : List V} {i j : Nat} {tt : TT} {te : TE} {σ : L2.St} {H1 : Hp} {D : Addr} {Qd : Hp → Prop} (hij : i ≠ j) (hS : SqL K H1 a xs) (hD : H1 D = none) (hx : xs.length < 16777216)
    (hT : ∀ v ∈ xs, ∃ (t : Addr) (y z : V), v = .ref t ∧ H1 t = some (.tup [y, z]) ∧ ∀ (H' : Hp) (Q' : Bool → Hp → Prop), Same H1 H' → (∀ H'', Same H' H'' → Q' false H'') → tt (((wipe σ [i, j]).set i (some y)).set j (some z)) H' Q') (hd : ∀ H', Same H1 H' → H' D = some (.lst []) → Qd H') :
    LcG (Itl K a) (gTup K 2 (gCons (gName i) (gCons (gName j) gNil))) tt te [i, j] σ H1 D Qd := by
  refine lc_it walk_list (fun n H => Same H1 H ∧ H D = some (.lst [])) ⟨same_new (Same.refl _) hD, upd_same⟩ (fun n H _ h => Same.seq h.1 hS) ?_ (fun H h => hd H h.1 h.2)
  rintro n v H H' hn ⟨s, hDn⟩ ⟨rfl, e⟩
  obtain ⟨t, y, z, rfl, ht, k⟩ := hT v (List.mem_of_getElem? e)
  refine ⟨t, _, rfl, SqT.of (s _ _ ht), rfl, _, _, rfl, _, _, rfl, rfl, wipe_set2 σ hij _ _, ?_⟩
  exact k _ _ s fun H'' s2 => ⟨Same.trans s s2, s2 _ _ hDn⟩
theorem ixN_of {n j : Nat} (hj : j < n) : ixN n (j : Int) = some j := by
  unfold ixN
  rw [if_pos (by omega), if_pos (by omega), Int.toNat_natCast]
end KC
namespace KC
open PySem PySem.Spec PyProof.Rows L2
/-! ### decoding of longer texts, of shorter ones, of joined codewords -/
theorem rst_ext {ws : Wds} (pf : PF (ws.map (·.2))) (ne : Ne1 ws) (y : List Nat) : ∀ (k : Nat) (P : List Nat), P.length ≤ k →
    rst ws (P ++ y) = ((rst ws P).1 ++ (rst ws ((P ++ y).drop (rst ws P).2)).1, (rst ws P).2 + (rst ws ((P ++ y).drop (rst ws P).2)).2)
  | k, P, hk => by
    cases e : stp ws P with
    | none =>
      rw [rst_none e, List.drop_zero, Nat.zero_add]
      rfl
    | some p =>
      obtain ⟨l1, l2⟩ := stp_len ne e
      obtain ⟨hp, hpre⟩ := stp_mem e
      have e2 : stp ws (P ++ y) = some p := stp_of pf hp (hpre.trans (List.prefix_append P y))
      rw [rst_some ne e2, rst_some ne e]
      cases k with
      | zero => omega
      | succ k =>
        have ih := rst_ext pf ne y k (P.drop p.2.length) (by rw [List.length_drop]; omega)
        rw [List.drop_append_of_le_length l2, ih, ← List.drop_append_of_le_length l2, List.drop_drop]
        show (_, _) = (_, _)
        rw [Nat.add_assoc]
        rfl
theorem rst_take {ws : Wds} (pf : PF (ws.map (·.2))) (ne : Ne1 ws) : ∀ (k : Nat) (t : List Nat), t.length ≤ k → rst ws (t.take (rst ws t).2) = rst ws t
  | k, t, hk => by
    cases e : stp ws t with
    | none =>
      rw [rst_none e, List.take_zero]
      rfl
    | some p =>
      obtain ⟨l1, l2⟩ := stp_len ne e
      obtain ⟨hp, hpre⟩ := stp_mem e
      rw [rst_some ne e]
      cases k with
      | zero => omega
      | succ k =>
        have ih := rst_take pf ne k (t.drop p.2.length) (by rw [List.length_drop]; omega)
        generalize hm : (rst ws (t.drop p.2.length)).2 = m at ih
        have hpre2 : TL.tl p.2 <+: t.take (p.2.length + m) := List.prefix_take_iff.mpr ⟨hpre, by rw [← TL.len_tl]; omega⟩
        have e2 : stp ws (t.take (p.2.length + m)) = some p := stp_of pf hp hpre2
        show rst ws (t.take (p.2.length + m)) = _
        rw [rst_some ne e2, List.drop_take, Nat.add_sub_cancel_left, ih]
        rw [← hm]
def flatW (ws : Wds) (ns : List Str) : List Nat := (ns.map fun n => TL.tl ((wordAt ws n).getD "")).flatten
theorem rst_flat {ws : Wds} (pf : PF (ws.map (·.2))) (ne : Ne1 ws) : ∀ {ns : List Str}, (∀ n ∈ ns, n ∈ ws.map (·.1)) → rst ws (flatW ws ns) = (ns, (flatW ws ns).length)
  | [], _ => rfl
  | n :: r, h => by
    obtain ⟨x, hx, hm⟩ := wordAt_mem (h n (List.mem_cons_self ..))
    have ih := rst_flat pf ne (ns := r) fun m hm => h m (List.mem_cons_of_mem _ hm)
    have ef : flatW ws (n :: r) = TL.tl x ++ flatW ws r := by
      unfold flatW
      rw [List.map_cons, List.flatten_cons, hx]
      rfl
    have e : stp ws (TL.tl x ++ flatW ws r) = some (n, x) := stp_of pf hm (List.prefix_append _ _)
    have ed : (TL.tl x ++ flatW ws r).drop x.length = flatW ws r := by rw [TL.len_tl, List.drop_left]
    rw [ef, rst_some ne e]
    show (n :: (rst ws ((TL.tl x ++ flatW ws r).drop x.length)).1, x.length + (rst ws ((TL.tl x ++ flatW ws r).drop x.length)).2) = _
    rw [ed, ih, List.length_append, ← TL.len_tl]
theorem flat_rst {ws : Wds} (ne : Ne1 ws) (nd : (ws.map (·.1)).Nodup) : ∀ (k : Nat) (t : List Nat), t.length ≤ k → flatW ws (rst ws t).1 = t.take (rst ws t).2
  | k, t, hk => by
    cases e : stp ws t with
    | none =>
      rw [rst_none e, List.take_zero]
      rfl
    | some p =>
      obtain ⟨l1, l2⟩ := stp_len ne e
      obtain ⟨hp, hpre⟩ := stp_mem e
      rw [rst_some ne e]
      cases k with
      | zero => omega
      | succ k =>
        have ih := flat_rst ne nd k (t.drop p.2.length) (by rw [List.length_drop]; omega)
        show flatW ws (p.1 :: (rst ws (t.drop p.2.length)).1) = t.take (p.2.length + (rst ws (t.drop p.2.length)).2)
        unfold flatW at ih ⊢
        rw [List.map_cons, List.flatten_cons, ih, wordAt_nodup nd hp]
        show TL.tl p.2 ++ _ = _
        have h3 := List.prefix_iff_eq_take.mp hpre
        rw [← TL.len_tl] at h3
        rw [List.take_add, ← h3]
theorem flat_join {ws : Wds} : ∀ {ns : List Str} {ss : List Str}, ns.map (fun n => wordAt ws n) = ss.map some → (ss.map TL.tl).flatten = flatW ws ns
  | [], [], _ => rfl
  | n :: r, s :: q, h => by
    rw [List.map_cons, List.map_cons] at h
    obtain ⟨h1, h2⟩ := List.cons.inj h
    unfold flatW
    rw [List.map_cons, List.map_cons, List.flatten_cons, List.flatten_cons, h1]
    show TL.tl s ++ (q.map TL.tl).flatten = TL.tl s ++ flatW ws r
    rw [flat_join h2]
end KC
namespace KC
open PySem PySem.Spec PyProof.Rows L2
/-! ### a list of triples of numbers, written out -/
def tTri0 : List (Int × Int × Int) → TA
  | [] => tNil
  | q :: r => tCons (tTup (tCons (tC (.int q.1)) (tCons (tC (.int q.2.1)) (tCons (tC (.int q.2.2)) tNil)))) (tTri0 r)
@[irreducible] def tTris (qs : List (Int × Int × Int)) : TA := tTri0 qs
theorem tTris_eq (qs : List (Int × Int × Int)) : tTris qs = tTri0 qs := by
  unfold tTris
  rfl
theorem tri0_ok {σ : L2.St} : ∀ {qs : List (Int × Int × Int)} {H : Hp} {Q : List V → Hp → Prop}, (∀ (ts : List Addr) (H' : Hp), Same H H' → Paired (fun t (q : Int × Int × Int) => H t = none ∧ H' t = some (.tup [.int q.1, .int q.2.1, .int q.2.2])) ts qs → Q (ts.map V.ref) H') → tTri0 qs σ H Q
  | [], H, Q, k => k [] H (Same.refl _) .nil
  | q :: r, H, Q, k => by
    show tTup (tCons (tC (.int q.1)) (tCons (tC (.int q.2.1)) (tCons (tC (.int q.2.2)) tNil))) σ H (fun x H1 => tTri0 r σ H1 fun xs H2 => Q (x :: xs) H2)
    refine ⟨(sz_rfl rfl), fun t ht => ?_⟩
    refine tri0_ok fun ts H' s' hp => ?_
    exact k (t :: ts) H' (Same.trans (newS ht) s') (.cons ⟨ht, s' _ _ upd_same⟩ (Paired.imp (fun a b z => ⟨(newS ht).free z.1, z.2⟩) hp))
theorem tris_ok {σ : L2.St} {qs : List (Int × Int × Int)} {H : Hp} {Q : List V → Hp → Prop} (h : ∀ (ts : List Addr) (H' : Hp), Same H H' → Paired (fun t (q : Int × Int × Int) => H t = none ∧ H' t = some (.tup [.int q.1, .int q.2.1, .int q.2.2])) ts qs → Q (ts.map V.ref) H') : tTris qs σ H Q := by
  rw [tTris_eq]
  exact tri0_ok h
theorem pa_trin {X : Cx} : PA X [] (tTris []) := by
  rw [tTris_eq]
  exact pa_nil
theorem pa_tri {X : Cx} {es : List Expr} {a b c : Int} {r : List (Int × Int × Int)} {k1 k2 k3 k4 : Nat} {p1 p2 p3 p4 : Pos} (h : PA X es (tTris r)) :
    PA X (.Tuple [.Constant (.int a) k1 p1, .Constant (.int b) k2 p2, .Constant (.int c) k4 p4] k3 p3 :: es) (tTris ((a, b, c) :: r)) := by
  rw [tTris_eq] at h ⊢
  exact pa_cons (pe_tup (pa_cons pe_int (pa_cons pe_int (pa_cons pe_int pa_nil)))) h
/-! ### d.update(d2) -/
def rDUpd : V → List V → Hp → VK → Prop := fun x vs H Q => ∃ (a b : Addr) (ka kb : List (Key × V)), x = .ref a ∧ vs = [.ref b] ∧ a ≠ b ∧ H a = some (.dK ka) ∧ H b = some (.dK kb) ∧ ka.length + kb.length ≤ sizeLine ∧ Q .non (upd H a (.dK (mergeK ka kb)))
theorem mt_dupd {X : Cx} : MtM X "dict.update" rDUpd := by
  intro pins s σ H x vs v us Q I rx rv h
  obtain ⟨a, b, ka, kb, rfl, rfl, ne, ea, eb, hz, q⟩ := h
  cases rx
  obtain ⟨u, rfl, ru⟩ := rv.one
  cases ru
  obtain ⟨z, hd, vs, rel, dd⟩ := dk_of I.hok ea
  obtain ⟨z2, hd2, vs2, rel2, dd2⟩ := dk_of I.hok eb
  refine call_meetsIn PySem.F.slot_dict_update dd.typeIs PySem.F.entry_dict_update (PySem.F.args_dict_update_2 _ _) (meets_dict_update (mixKind X.prog X.w) a b ne hd2) ⟨vs, vs2, dd, dd2, by rw [← rel.length, ← rel2.length]; exact hz, fun h' dd' _ hs => ?_⟩
  have he : ∃ q, h'.get? a = some q := let ⟨q, _, _, hq, _⟩ := dd'; ⟨q, hq⟩
  have hl : (mergeK ka kb).length ≤ sizeLine := Nat.le_trans (merge_len kb ka) hz
  exact ⟨.non, _, d_write (t' := s.toks) I (by rw [ea]; exact True.intro) hs he (dk_new hl hd (KV.merge rel2 rel) dd'), rfl, q⟩
/-! ### counting -/
theorem len_le_of_sub {α : Type} [DecidableEq α] : ∀ {l1 l2 : List α}, l1.Nodup → (∀ x ∈ l1, x ∈ l2) → l1.length ≤ l2.length
  | [], l2, _, _ => Nat.zero_le _
  | x :: r, l2, hn, hs => by
    have hx := hs x (List.mem_cons_self ..)
    have hz := List.pairwise_cons.mp hn
    have := len_le_of_sub (l1 := r) (l2 := l2.erase x) hz.2 fun y hy => (List.mem_erase_of_ne (fun e => hz.1 y hy e.symm)).mpr (hs y (List.mem_cons_of_mem _ hy))
    have hp := (List.perm_cons_erase hx).length_eq
    rw [List.length_cons] at hp ⊢
    omega
theorem len_eq_of_mem {α : Type} [DecidableEq α] {l1 l2 : List α} (h1 : l1.Nodup) (h2 : l2.Nodup) (h : ∀ x, x ∈ l1 ↔ x ∈ l2) : l1.length = l2.length :=
  Nat.le_antisymm (len_le_of_sub h1 fun x hx => (h x).mp hx) (len_le_of_sub h2 fun x hx => (h x).mpr hx)
theorem sum_zero {α : Type} (ws : List α) (g : α → Nat) (h : ∀ p ∈ ws, g p = 0) : (ws.map g).sum = 0 := by
  induction ws with
  | nil => rfl
  | cons p r ih =>
    rw [List.map_cons, List.sum_cons, h p (List.mem_cons_self ..), ih fun q hq => h q (List.mem_cons_of_mem _ hq)]
theorem sum_one1 {α : Type} [DecidableEq α] : ∀ {ws : List α} {p : α}, ws.Nodup → p ∈ ws → (ws.map fun q => if p = q then 1 else 0).sum = 1
  | q :: r, p, hn, hp => by
    have hz := List.pairwise_cons.mp hn
    rw [List.map_cons, List.sum_cons]
    rcases List.mem_cons.mp hp with rfl | h
    · rw [if_pos rfl, sum_zero r _ fun q hq => if_neg fun e => hz.1 q hq e]
    · rw [if_neg fun e => hz.1 p h e.symm, sum_one1 hz.2 h]
theorem sum_add {α : Type} (g k : α → Nat) : ∀ ws : List α, (ws.map fun q => g q + k q).sum = (ws.map g).sum + (ws.map k).sum
  | [] => rfl
  | p :: r => by
    rw [List.map_cons, List.sum_cons, sum_add g k r, List.map_cons, List.sum_cons, List.map_cons, List.sum_cons]
    omega
theorem split_count {α β : Type} [DecidableEq α] {ws : List α} (hn : ws.Nodup) (P : β → Bool) (f : β → Option α) : ∀ {L : List β}, (∀ t ∈ L, P t = true → ∃ p ∈ ws, f t = some p) →
    (L.filter P).length = (ws.map fun p => (L.filter fun t => P t && decide (f t = some p)).length).sum
  | [], _ => (sum_zero ws _ fun _ _ => rfl).symm
  | t :: r, h => by
    have ih := split_count hn P f (L := r) fun u hu => h u (List.mem_cons_of_mem _ hu)
    have e : ∀ p, ((t :: r).filter fun t => P t && decide (f t = some p)).length = (if P t = true ∧ f t = some p then 1 else 0) + (r.filter fun t => P t && decide (f t = some p)).length := fun p => by
      rw [List.filter_cons]
      by_cases c : P t = true ∧ f t = some p
      · rw [if_pos (by rw [c.1, c.2]; simp), if_pos c, List.length_cons, Nat.add_comm]
      · rw [if_neg (by rw [Bool.and_eq_true, decide_eq_true_eq]; exact c), if_neg c, Nat.zero_add]
    rw [List.map_congr_left fun p _ => e p, sum_add, ← ih, List.filter_cons]
    cases hP : P t with
    | false =>
      rw [if_neg (by simp), sum_zero ws _ fun p _ => if_neg (by simp), Nat.zero_add]
    | true =>
      obtain ⟨p, hp, hf⟩ := h t (List.mem_cons_self ..) hP
      have e2 : (ws.map fun q => if true = true ∧ f t = some q then 1 else 0).sum = 1 := by
        refine Eq.trans ?_ (sum_one1 hn hp)
        congr 1
        refine List.map_congr_left fun q _ => ?_
        rw [hf]
        simp
      rw [if_pos rfl, e2, List.length_cons, Nat.add_comm]
/-! ### all strings of a length -/
theorem lvl_mem {ds : List Nat} : ∀ {n : Nat} {x : Str}, x.length = n → (∀ c ∈ TL.tl x, c ∈ ds) → x ∈ lvl ds n
  | 0, x, h, _ => by
    have : TL.tl x = [] := List.length_eq_zero_iff.mp (by rw [← TL.len_tl]; exact h)
    rw [show x = "" from TL.ext_tl (by rw [this, tl_empty])]
    exact List.mem_singleton.mpr rfl
  | n + 1, x, h, hc => by
    rcases List.eq_nil_or_concat (TL.tl x) with e | ⟨l, c, e⟩
    · rw [TL.len_tl, e] at h
      cases h
    · rw [List.concat_eq_append] at e
      have ex : x = (⟨l.toArray⟩ : Str) ++ (⟨#[c]⟩ : Str) := TL.ext_tl (e.trans (by rw [TL.tl_append]))
      have hl : (⟨l.toArray⟩ : Str).length = n := by
        rw [TL.len_tl, TL.tl_mk]
        rw [TL.len_tl, e, List.length_append] at h
        exact Nat.succ.inj h
      refine List.mem_flatMap.mpr ⟨⟨l.toArray⟩, lvl_mem hl fun d hd => hc d (by rw [e]; exact List.mem_append_left _ hd), ?_⟩
      rw [ex]
      exact List.mem_map_of_mem (f := fun c => (⟨l.toArray⟩ : Str) ++ (⟨#[c]⟩ : Str)) (hc c (by rw [e]; simp))
theorem lvl_nodup {ds : List Nat} (hd : ds.Nodup) : ∀ n : Nat, (lvl ds n).Nodup
  | 0 => List.pairwise_singleton _ _
  | n + 1 => by
    have inj : ∀ {x y : Str} {c d : Nat}, x ++ (⟨#[c]⟩ : Str) = y ++ (⟨#[d]⟩ : Str) → x = y ∧ c = d := fun {x y c d} e => by
      have e := congrArg TL.tl e
      rw [TL.tl_append, TL.tl_append] at e
      have e : TL.tl x ++ [c] = TL.tl y ++ [d] := e
      obtain ⟨h1, h2⟩ := List.append_inj' e rfl
      exact ⟨TL.ext_tl h1, (List.cons.inj h2).1⟩
    show List.Pairwise _ _
    unfold lvl growS
    rw [List.pairwise_flatMap]
    refine ⟨fun x _ => ?_, ?_⟩
    · rw [List.pairwise_map]
      exact hd.imp fun h e => h (inj e).2
    · refine (lvl_nodup hd n).imp fun h x hx y hy e => ?_
      obtain ⟨c, _, rfl⟩ := List.mem_map.mp hx
      obtain ⟨d, _, rfl⟩ := List.mem_map.mp hy
      exact h (inj e).1
/-- the strings that are decoded whole -/
def fullB (ws : Wds) (x : Str) : Bool := decide ((rst ws (TL.tl x)).2 = x.length)
def fulls (ds : List Nat) (ws : Wds) (n : Nat) : List Str := (lvl ds n).filter (fullB ws)
theorem part_count {ds : List Nat} (hd : ds.Nodup) {ws : Wds} (pf : PF (ws.map (·.2))) (ne : Ne1 ws) {p : Str × Str} (hp : p ∈ ws) (hw : ∀ c ∈ TL.tl p.2, c ∈ ds) (n : Nat) :
    ((lvl ds n).filter fun t => fullB ws t && decide (stp ws (TL.tl t) = some p)).length = if p.2.length ≤ n then (fulls ds ws (n - p.2.length)).length else 0 := by
  by_cases hle : p.2.length ≤ n
  · rw [if_pos hle, ← List.length_map (as := fulls ds ws (n - p.2.length)) (f := fun x => p.2 ++ x)]
    refine len_eq_of_mem ((lvl_nodup hd n).filter _) ?_ fun t => ?_
    · show List.Pairwise _ _
      rw [List.pairwise_map]
      refine ((lvl_nodup hd _).filter _).imp fun h e => h ?_
      have e := congrArg TL.tl e
      rw [TL.tl_append, TL.tl_append] at e
      exact TL.ext_tl (List.append_cancel_left e)
    · rw [List.mem_filter, Bool.and_eq_true, decide_eq_true_eq, List.mem_map]
      constructor
      · rintro ⟨ht, hf, hs⟩
        obtain ⟨tl1, tl2⟩ := lvl_of ht
        obtain ⟨_, hpre⟩ := stp_mem hs
        obtain ⟨l, hl⟩ := hpre
        have hf := of_decide_eq_true hf
        rw [rst_some ne hs] at hf
        have hf : p.2.length + (rst ws ((TL.tl t).drop p.2.length)).2 = t.length := hf
        have ed : (TL.tl t).drop p.2.length = l := by rw [← hl, TL.len_tl, List.drop_left]
        have ln : l.length = n - p.2.length := by
          have := congrArg List.length hl
          rw [List.length_append, ← TL.len_tl, ← TL.len_tl, tl1] at this
          omega
        refine ⟨⟨l.toArray⟩, List.mem_filter.mpr ⟨lvl_mem (by rw [TL.len_tl, TL.tl_mk]; exact ln) fun c hc => tl2 c (by rw [← hl]; exact List.mem_append_right _ hc), ?_⟩, TL.ext_tl (by rw [TL.tl_append, TL.tl_mk]; exact hl)⟩
        refine decide_eq_true ?_
        rw [TL.tl_mk, TL.len_tl, TL.tl_mk, ← ed]
        rw [List.length_drop, ← TL.len_tl]
        omega
      · rintro ⟨x, hx, rfl⟩
        obtain ⟨hx, hf⟩ := List.mem_filter.mp hx
        obtain ⟨x1, x2⟩ := lvl_of hx
        have hf := of_decide_eq_true hf
        have hs : stp ws (TL.tl (p.2 ++ x)) = some p := stp_of pf hp (by rw [TL.tl_append]; exact List.prefix_append _ _)
        refine ⟨lvl_mem (by rw [len_app, x1]; omega) fun c hc => ?_, decide_eq_true ?_, hs⟩
        · rw [TL.tl_append] at hc
          rcases List.mem_append.mp hc with hc | hc
          · exact hw c hc
          · exact x2 c hc
        · rw [rst_some ne hs, len_app]
          show p.2.length + (rst ws ((TL.tl (p.2 ++ x)).drop p.2.length)).2 = _
          rw [TL.tl_append, TL.len_tl, List.drop_left, hf]
  · rw [if_neg hle, List.length_eq_zero_iff, List.filter_eq_nil_iff]
    intro t ht h
    rw [Bool.and_eq_true, decide_eq_true_eq] at h
    have := stp_len ne h.2
    rw [← TL.len_tl, (lvl_of ht).1] at this
    omega
theorem fulls_zero (ds : List Nat) (ws : Wds) : (fulls ds ws 0).length = 1 := by
  show ([("" : Str)].filter (fullB ws)).length = 1
  have : fullB ws "" = true := decide_eq_true (by rw [tl_empty]; rfl)
  rw [List.filter_cons, if_pos this]
  rfl
theorem fulls_step {ds : List Nat} (hd : ds.Nodup) {ws : Wds} (pf : PF (ws.map (·.2))) (nd : ws.Nodup) (ne : Ne1 ws) (hw : ∀ p ∈ ws, ∀ c ∈ TL.tl p.2, c ∈ ds) (n : Nat) :
    (fulls ds ws (n + 1)).length = (ws.map fun p => if p.2.length ≤ n + 1 then (fulls ds ws (n + 1 - p.2.length)).length else 0).sum := by
  unfold fulls
  rw [split_count nd (fullB ws) (fun t => stp ws (TL.tl t)) fun t ht hf => ?_]
  · congr 1
    exact List.map_congr_left fun p hp => part_count hd pf ne hp (hw p hp) (n + 1)
  · cases e : stp ws (TL.tl t) with
    | some p => exact ⟨p, (stp_mem e).1, rfl⟩
    | none =>
      have hf := of_decide_eq_true hf
      rw [rst_none e, (lvl_of ht).1] at hf
      cases hf
end KC
namespace KC
open PySem PySem.Spec PyProof.Rows L2
/-! ### strings that fill a level -/
def preB (p x : Str) : Bool := (TL.tl p).isPrefixOf (TL.tl x)
theorem preB_iff {p x : Str} : preB p x = true ↔ TL.tl p <+: TL.tl x := List.isPrefixOf_iff_prefix
theorem preB_cmp {p q x : Str} (h1 : preB p x = true) (h2 : preB q x = true) : cmpS p q = true := by
  rw [preB_iff] at h1 h2
  rw [cmpS_iff]
  exact List.prefix_or_prefix_of_prefix h1 h2
theorem pfs_uniq {W : List Str} (pf : PF W) : ∀ {p q : Str}, p ∈ W → q ∈ W → cmpS p q = true → p = q := by
  induction W with
  | nil => intro p q hp; cases hp
  | cons w r ih =>
    intro p q hp hq h
    have hz := List.pairwise_cons.mp pf
    rcases List.mem_cons.mp hp with e1 | hp'
    · rcases List.mem_cons.mp hq with e2 | hq'
      · rw [e1, e2]
      · rw [e1, hz.1 q hq'] at h; cases h
    · rcases List.mem_cons.mp hq with e2 | hq'
      · rw [e2, cmpS_symm, hz.1 p hp'] at h; cases h
      · exact ih hz.2 hp' hq' h
theorem under_count {ds : List Nat} (hd : ds.Nodup) {p : Str} (hp : ∀ c ∈ TL.tl p, c ∈ ds) {h : Nat} (hl : p.length ≤ h) : ((lvl ds h).filter (preB p)).length = ds.length ^ (h - p.length) := by
  rw [← lvl_len, ← List.length_map (as := lvl ds (h - p.length)) (f := fun x => p ++ x)]
  refine len_eq_of_mem ((lvlN hd h).filter _) ?_ fun t => ?_
  · show List.Pairwise _ _
    rw [List.pairwise_map]
    refine (lvlN hd _).imp fun h e => h ?_
    have e := congrArg TL.tl e
    rw [TL.tl_append, TL.tl_append] at e
    exact TL.ext_tl (List.append_cancel_left e)
  · rw [List.mem_filter, preB_iff, List.mem_map]
    constructor
    · rintro ⟨ht, l, hl2⟩
      obtain ⟨t1, t2⟩ := lvl_of ht
      have ln : l.length = h - p.length := by
        have := congrArg List.length hl2
        rw [List.length_append, ← TL.len_tl, ← TL.len_tl, t1] at this
        omega
      refine ⟨⟨l.toArray⟩, lvlM (by rw [TL.len_tl, TL.tl_mk]; exact ln) fun c hc => t2 c (by rw [← hl2]; exact List.mem_append_right _ hc), TL.ext_tl (by rw [TL.tl_append, TL.tl_mk]; exact hl2)⟩
    · rintro ⟨x, hx, rfl⟩
      obtain ⟨x1, x2⟩ := lvl_of hx
      refine ⟨lvlM (by rw [len_app, x1]; omega) fun c hc => ?_, by rw [TL.tl_append]; exact List.prefix_append _ _⟩
      rw [TL.tl_append] at hc
      rcases List.mem_append.mp hc with hc | hc
      · exact hp c hc
      · exact x2 c hc
theorem fill_sum {ds : List Nat} (hd : ds.Nodup) {h : Nat} {W : List Str} (nd : W.Nodup) (pf : PF W) (hc : ∀ p ∈ W, ∀ c ∈ TL.tl p, c ∈ ds) (hl : ∀ p ∈ W, p.length ≤ h) (cov : ∀ x ∈ lvl ds h, ∃ p ∈ W, preB p x = true) :
    (W.map fun p => ds.length ^ (h - p.length)).sum = ds.length ^ h := by
  have key := split_count nd (fun _ => true) (fun t => W.find? fun p => preB p t) (L := lvl ds h) fun t ht _ => by
    obtain ⟨p, hp, hq⟩ := cov t ht
    cases e : W.find? fun p => preB p t with
    | none => exact absurd hq (by have := List.find?_eq_none.mp e p hp; exact this)
    | some q => exact ⟨q, List.mem_of_find?_eq_some e, rfl⟩
  rw [List.filter_eq_self.mpr (fun _ _ => rfl), lvl_len] at key
  rw [key]
  congr 1
  refine List.map_congr_left fun p hp => ?_
  rw [← under_count hd (hc p hp) (hl p hp)]
  congr 1
  refine List.filter_congr fun t ht => ?_
  rw [Bool.true_and]
  cases hq : preB p t with
  | true =>
    symm
    refine decide_eq_true ?_
    cases e : W.find? fun p => preB p t with
    | none => exact absurd hq (by have := List.find?_eq_none.mp e p hp; exact this)
    | some q =>
      have h1 := List.find?_some (p := fun p => preB p t) e
      rw [pfs_uniq pf hp (List.mem_of_find?_eq_some e) (preB_cmp hq h1)]
  | false =>
    symm
    refine decide_eq_false fun e => ?_
    have h1 := List.find?_some (p := fun p => preB p t) e
    rw [hq] at h1
    cases h1
/-! ### free, touched, below -/
def belowB (ts : List Str) (x : Str) : Bool := ts.any fun t => preB t x
theorem three_ways {ts : List Str} (pf : PF ts) (x : Str) : ((freeB ts x).toNat + (touchB ts x).toNat + (belowB ts x).toNat) = 1 := by
  have e1 : freeB ts x = !(touchB ts x || belowB ts x) := by
    unfold freeB
    congr 1
    rw [Bool.eq_iff_iff, Bool.or_eq_true]
    unfold touchB belowB
    rw [List.any_eq_true, List.any_eq_true, List.any_eq_true]
    constructor
    · rintro ⟨t, ht, h⟩
      rw [cmpS_iff] at h
      by_cases e : t = x
      · exact .inr ⟨t, ht, by rw [e]; exact preB_iff.mpr (List.prefix_refl _)⟩
      · rcases h with h | h
        · refine .inl ⟨t, ht, ?_⟩
          unfold touch1
          rw [Bool.and_eq_true, List.isPrefixOf_iff_prefix, decide_eq_true_eq]
          exact ⟨h, e⟩
        · exact .inr ⟨t, ht, preB_iff.mpr h⟩
    · rintro (⟨t, ht, h⟩ | ⟨t, ht, h⟩)
      · unfold touch1 at h
        rw [Bool.and_eq_true, List.isPrefixOf_iff_prefix] at h
        exact ⟨t, ht, cmpS_iff.mpr (.inl h.1)⟩
      · exact ⟨t, ht, cmpS_iff.mpr (.inr (preB_iff.mp h))⟩
  have e2 : touchB ts x = true → belowB ts x = true → False := fun h1 h2 => by
    unfold touchB at h1
    unfold belowB at h2
    obtain ⟨t, ht, h1⟩ := List.any_eq_true.mp h1
    obtain ⟨u, hu, h2⟩ := List.any_eq_true.mp h2
    unfold touch1 at h1
    rw [Bool.and_eq_true, List.isPrefixOf_iff_prefix, decide_eq_true_eq] at h1
    rw [preB_iff] at h2
    have e := pfs_uniq pf hu ht (cmpS_iff.mpr (.inl (h2.trans h1.1)))
    subst e
    exact h1.2 (TL.ext_tl (List.IsPrefix.eq_of_length_le h2 h1.1.length_le))
  rw [e1]
  cases h1 : touchB ts x <;> cases h2 : belowB ts x
  · rfl
  · rfl
  · rfl
  · exact (e2 h1 h2).elim
theorem free_down {ts : List Str} {g x : Str} (h : preB g x = true) (hg : freeB ts g = true) : freeB ts x = true := by
  unfold freeB at hg ⊢
  rw [Bool.not_eq_true', List.any_eq_false] at hg ⊢
  intro t ht hc
  refine hg t ht ?_
  rw [preB_iff] at h
  rw [cmpS_iff] at hc ⊢
  rcases hc with hc | hc
  · exact .inl (h.trans hc)
  · exact List.prefix_or_prefix_of_prefix h hc
theorem lvl_prefix {ds : List Nat} {n m : Nat} {x : Str} (hx : x ∈ lvl ds n) (hm : m ≤ n) : cutN m x ∈ lvl ds m := by
  obtain ⟨h1, h2⟩ := lvl_of hx
  have e : TL.tl (cutN m x) = (TL.tl x).take m := tl_cut x m
  refine lvlM ?_ fun c hc => h2 c ?_
  · show (TL.tl (cutN m x)).length = m
    rw [e, List.length_take]
    have : (TL.tl x).length = n := h1
    omega
  · rw [e] at hc
    exact List.mem_of_mem_take hc
theorem cut_pre (m : Nat) (x : Str) : preB (cutN m x) x = true := by
  rw [preB_iff, show TL.tl (cutN m x) = (TL.tl x).take m from tl_cut x m]
  exact List.take_prefix _ _
end KC
namespace KC
open PySem PySem.Spec PyProof.Rows L2
/-! ### repr of a list or a tuple that holds flat things and flat dicts -/
def ItemF (H : Hp) (x : V) (d : PyData) : Prop :=
  (flatOk x = true ∧ d = flatD x) ∨ ∃ (b : Addr) (kvs : List (Key × V)), x = .ref b ∧ Rd H b (.dK kvs) ∧ (∀ q ∈ kvs, flatOk q.2 = true) ∧ d = .dict (kvs.map fun q => (flatD (kV q.1), flatD q.2))
inductive ItemsF (H : Hp) : List V → List PyData → Prop
  | nil : ItemsF H [] []
  | cons {x : V} {d : PyData} {xs : List V} {ds : List PyData} : ItemF H x d → ItemsF H xs ds → ItemsF H (x :: xs) (d :: ds)
theorem repr_list_at {prog : Program} {w : World} {A : Around} {E : Value → Shared → Prop} {s : Shared} {Q : Value → Shared → Prop} {a : Addr} {o : Obj} {its : List Value} {n : Nat} {ds : List PyData} {as : List Addr}
    (ho : s.heap.get? a = some o) (hc : o.cls = .type "list") (hd : o.data = .seq its.toArray n) (ra : ReadsAll s.heap its ds as) (hno : sysModules ∉ as) (hs : (PyData.list ds).showable = true) (hg : A.guards = some [])
    (hu : A.units + ((PyData.list ds).depth + 1) < cLine) (hz : (PyData.list ds).shown.length ≤ sizeLine)
    (hQ : ∀ h' u tk, (∀ b o, s.heap.get? b = some o → h'.get? b = some o) → Q (.str (PyData.list ds).shown u) { s with heap := h', toks := tk }) : wpAny (model prog w) A (call (.builtin "repr") [.ref a]) Q E s := by
  have hu2 : A.units + ((PyData.depthAll ds + 1) + 1) < cLine := by
    have := hu
    simp only [PyData.depth] at this
    omega
  have hz2 : (listText (PyData.shownAll ds)).length ≤ sizeLine := by
    have := hz
    simp only [PyData.shown] at this
    exact this
  have hQ2 : ∀ h' u tk, (∀ b o, s.heap.get? b = some o → h'.get? b = some o) → Q (.str (listText (PyData.shownAll ds)) u) { s with heap := h', toks := tk } := fun h' u tk hk => by
    have := hQ h' u tk hk
    simp only [PyData.shown] at this
    exact this
  obtain ⟨bs, hb, hk⟩ := ReprAllK.of_readsAll (prog := prog) (w := w) ra (by simpa [PyData.showable] using hs) (fun _ => hno) (fun t ht => Nat.le_trans (listText_mem_le ht) hz2)
  have hna : a ∉ bs := not_mem_of_deeper (.list ho hc hd ra) (by simp only [PyData.depth]; omega) hb
  refine call_repr_slot (by omega) ⟨o, ho, hc⟩ F.slot_list_repr.toG ?_
  cases its with
  | nil =>
    cases ra
    refine call_list_repr_empty ⟨o, ho, hc⟩ ho hd ⟨_, _, rfl, ?_⟩
    have := hQ2 s.heap s.toks (s.toks + 1) fun _ _ e => e
    simp only [PyData.shownAll, listText_nil] at this
    exact this
  | cons x l =>
    exact call_list_reprK ho hc hd hna (by simpa using hk.length_eq) (fun i y e => hk.item i y (by simpa using e)) (A := A.in1) hg (fun b _ => Clear.nil b) (by show A.units + 1 + (PyData.depthAll ds + 1) < cLine; omega) (fun _ _ e => e) (fun h' u tk hk => ⟨_, _, rfl, hQ2 h' u tk hk⟩) hz2
section
variable {X : Cx} {pins : List (Addr × Obj)} {σ : L2.St} {H : Hp} {s : Shared}
theorem ItemF.reads (I : Inv X pins σ H s) {x : V} {d : PyData} {u : Value} (h : ItemF H x d) (r : RelV x u) : ∃ as, Reads s.heap u d as ∧ sysModules ∉ as := by
  rcases h with ⟨hf, rfl⟩ | ⟨a, kvs, rfl, ha, hf, rfl⟩
  · exact ⟨[], flat_reads hf r, List.not_mem_nil⟩
  · cases r
    obtain ⟨z, lo, vs, rel, o, es, ep, ho, hex, hda, hks, hps, hnd⟩ := dk_rd I.hok ha
    obtain ⟨hk1, hk2⟩ := paired_keys rel hps
    have r1 := keys_reads (h := s.heap) hk1
    have r2 := readsAll_flat (h := s.heap) rel hf
    rw [← hk2] at r2
    refine ⟨a :: [] ++ [], Reads.dict ho hex.1 hda (by rw [List.map_map]; exact r1) (by rw [List.map_map]; exact r2), fun hm => ?_⟩
    have e : sysModules = a := by simpa using hm
    rw [← e] at lo
    simp at lo
theorem ItemsF.reads (I : Inv X pins σ H s) : ∀ {xs : List V} {ds : List PyData} {us : List Value}, ItemsF H xs ds → Vals xs us → ∃ as, ReadsAll s.heap us ds as ∧ sysModules ∉ as
  | _, _, _, .nil, .nil => ⟨[], .nil, List.not_mem_nil⟩
  | _, _, _, .cons h t, .cons r rs => by
    obtain ⟨as, h1, h2⟩ := h.reads I r
    obtain ⟨bs, t1, t2⟩ := ItemsF.reads I t rs
    exact ⟨as ++ bs, .cons h1 t1, fun hm => (List.mem_append.mp hm).elim h2 t2⟩
def DpF (K : PySem.W.Frag) (H : Hp) (x : V) (d : PyData) : Prop := ∃ (a : Addr) (xs : List V) (ds : List PyData), x = .ref a ∧ ItemsF H xs ds ∧ ((SqL K H a xs ∧ d = .list ds) ∨ (SqT K H a xs ∧ d = .tuple ds))
def rReprF (K : PySem.W.Frag) : List V → Hp → VK → Prop := fun vs H Q => ∃ (x : V) (d : PyData), vs = [x] ∧ (DpS K H x d ∨ DpF K H x d) ∧ d.showable = true ∧ d.depth ≤ 8 ∧ d.shown.length ≤ sizeLine ∧ Q (.str d.shown) H
theorem call_reprF {k : Nat} (hr : RoomG k X.A) : CallR X (.builtin "repr") (rReprF X.K) := by
  intro pins s σ H xs us Q I r h
  obtain ⟨x, d, rfl, hd, hs, hdep, hz, q⟩ := h
  rcases hd with hd | ⟨a, ys, ds, rfl, hi, hd⟩
  · exact call_reprG hr pins s σ H _ us Q I r ⟨x, d, rfl, hd, hs, hdep, hz, q⟩
  · obtain ⟨u, rfl, ru⟩ := vals1 r
    cases ru
    have hu : X.A.units + (d.depth + 1) < cLine := by have := hr.toRoom.units; omega
    rcases hd with ⟨hS, rfl⟩ | ⟨hS, rfl⟩
    · obtain ⟨its, rv, ⟨o, n, ho, hc, _, hda⟩, _⟩ := I.list hS
      obtain ⟨as, ra, hno⟩ := hi.reads I rv
      exact repr_list_at ho hc hda ra hno hs hr.gd hu hz (fun h' u tk hk => ⟨.str _, H, I.kept (t' := tk) hk, ⟨_, rfl⟩, q⟩)
    · obtain ⟨its, rv, ⟨o, ho, hc, n, hda⟩, _⟩ := I.tuple hS
      obtain ⟨as, ra, hno⟩ := hi.reads I rv
      exact repr_of_reads' (Reads.tuple ho hc hda ra) hs (fun _ => hno) hr.gd hu (fun _ _ e => e) (fun h' u tk hk => ⟨.str _, H, I.kept (t' := tk) hk, ⟨_, rfl⟩, q⟩) hz
end
end KC
namespace KC
open PySem PySem.Spec PyProof.Rows L2
/-! ### d.values() as a thing of its own, and sorted of it -/
def ViewV (d v : Addr) : HO := .ext fun h => h.IsValuesView v d
theorem viewV_ok {P : Program} {w : World} {H : Hp} {h : Heap} {d v : Addr} (e : h.IsValuesView v d) : ObjOk P w H h v (ViewV d v) :=
  ⟨e, ⟨e.choose, e.choose_spec.1⟩, fun _ _ z k => ⟨z.choose, k _ z.choose_spec.1, z.choose_spec.2⟩⟩
def tVals (te : TE) : TE := fun σ H Q => te σ H fun x H1 => ∃ (d : Addr) (kvs : List (Key × V)), x = .ref d ∧ Rd H1 d (.dK kvs) ∧ ∀ v, H1 v = none → Q (.ref v) (L2.upd H1 v (ViewV d v))
section
variable {X : Cx}
theorem pe_vals {e : Expr} {te : TE} {apos cpos : Pos} (he : PE X e te) (hbase : attributeBase e "values" X.env (eval e X.env) = eval e X.env := by rfl) (hline : (apos.endLine == cpos.line) = true := by rfl) :
    PE X (.Call (.Attribute e "values" apos) [] [] cpos) (tVals te) := by
  refine ⟨fun pins s σ H Q I hq => ?_⟩
  refine wpAny_Call_method (T := "dict") (id := "dict.values") hbase rfl hline F.plainAttrs_dict F.slot_dict_values F.type_dict_values (thn (he.run pins s σ H _ I hq) fun u s1 ⟨x, H1, I1, rx, d, kvs, ex, hd, q⟩ => ?_)
  subst ex
  obtain rfl : u = Value.ref d := rx
  obtain ⟨hz, hs0, vs, kv, hdo⟩ := dk_rd I1.hok hd
  refine ⟨hdo.typeIs, hdo.mapOf.noDict, ?_⟩
  show wpAny _ _ (callWith cpos (.builtin "dict.values") [.ref d] [] []) _ X.xe s1
  refine method_meetsIn F.slot_dict_values F.entry_dict_values rfl (PySem.evalArgs_none ⟨rfl, hdo.typeIs, F.args_dict_values_1 _, _, meets_dict_values (mixKind X.prog X.w) d hs0, ⟨vs, hdo⟩, ?_⟩)
  exact ⟨.ref _, L2.upd H1 _ (ViewV d _), I1.laid (t' := s1.toks) (fun b o e => Heap.get?_push_of_some _ e) (Nat.le_refl _) (viewV_ok ⟨_, Heap.get?_push_size _ rfl, rfl, rfl⟩), rfl, q _ (I1.hok.fresh (Nat.le_refl _))⟩
def rSortedV (K : PySem.W.Frag) : List V → Hp → VK → Prop := fun vs H Q => ∃ (v d : Addr) (kvs : List (Key × V)) (xs : List Str), vs = [.ref v] ∧ H v = some (ViewV d v) ∧ Rd H d (.dK kvs) ∧ kvs.map (·.2) = xs.map V.str ∧ xs.length < 64 ∧
  ∀ (ys : List Str) (p : Addr), ys.Perm xs → sortedS ys = true → H p = none → Q (.ref p) (L2.upd H p (.lst (ys.map V.str)))
theorem call_sortedV (hcalm : X.calm = true) : CallR X (.builtin "sorted") (rSortedV X.K) := by
  intro pins s σ H us0 us Q I r h
  obtain ⟨v, d, kvs, xs, rfl, hv, hd, hxs, h64, q⟩ := h
  obtain ⟨u, rfl, rx⟩ := vals1 r
  cases rx
  obtain ⟨z, lo, vs, rel, dd⟩ := dk_rd I.hok hd
  obtain ⟨ep, hat⟩ := dd.dictAt
  have hview : s.heap.IsValuesView v d := (show ObjOk X.prog X.w H s.heap v (ViewV d v) from I.hok v _ hv).1
  have lk : kvs.length = vs.length := Paired.length rel
  have lx : vs.length = xs.length := by
    have e := congrArg List.length hxs
    rw [List.length_map, List.length_map] at e
    omega
  refine Calls.call_function_entry PyProof.Rows.kind_sorted PyProof.Rows.plain_sorted PyProof.Rows.entry_sorted (PyProof.Rows.args_sorted1 _) ?_
  unfold Builtin.«sorted»
  refine wpAny_bind (m := checkCount "sorted" 1 1 _) (wpAny_pure (wpAny_bind (PySem.W.kdu_collect (A := X.A.in1) (PySem.W.kdl_values (knd := mixKind X.prog X.w) (kvs := vs) (ep := ep)) (I.ok.hd hcalm) ⟨hview, hat⟩ (by rw [lx, sizeLine_eq]; omega) fun h1 t1 got keep items => ?_)))
  have ev : got.toList = vs.map (·.2) := vals_at (by rw [Array.length_toList]; exact items.1) fun j v e => items.2 j v (by rw [← Array.getElem?_toList]; exact e)
  have txs : StrsAre got.toList xs := by
    rw [ev]
    have := kv_vals rel
    rw [hxs] at this
    exact this.strs
  have lg : got.toList.length = xs.length := by rw [ev, List.length_map, lx]
  have J : Inv X pins σ H { s with heap := h1, toks := t1 } := I.kept keep
  refine wpAny_bind (wpAny_newList ?_ (by rw [lg, sizeLine_eq]; omega))
  have at1 : (h1.push (seqObj "list" got.toList.toArray 0)).get? h1.objs.size = some (seqObj "list" got.toList.toArray 0) := Heap.get?_push_size _ rfl
  show wpAny _ _ _ _ _ { s with heap := h1.push (seqObj "list" got.toList.toArray 0), toks := t1 }
  refine wpAny_bind (wpAny_holding (wpAny_call_entry PyProof.Rows.slot_list_sort ⟨_, at1, rfl⟩ PyProof.Rows.entry_list_sort (list_sort_treeK strKind_oneLt (s := { s with heap := h1.push (seqObj "list" got.toList.toArray 0), toks := t1 }) at1 txs.keysOf (fun _ _ _ e => keyKind_strs (by rw [← e]; exact txs)) (by rw [lg]; exact h64) fun fin pm so => ⟨_, rfl, ?_⟩) (PyProof.Rows.args_list_sort _)))
  obtain ⟨ys, g1, g2, g3⟩ := sorted_out_str txs pm so
  obtain ⟨e1, at2⟩ := PyProof.Rows.sortedHeap_at (vs := got.toList) (out := (arrOf fin).map (·.2)) at1
  have short : (ys.map V.str).length ≤ sizeLine := by
    rw [List.length_map, g2.length_eq, sizeLine_eq]
    omega
  refine wpAny_pure ⟨_, rfl, .ref h1.objs.size, L2.upd H h1.objs.size (.lst (ys.map V.str)), J.laid (t' := t1) (fun b u e => ?_) (Nat.le_refl _) ⟨short, ((arrOf fin).map (·.2)).toList, e1, vals_of_strs g1, by rw [Array.toArray_toList]; exact at2⟩, rfl, q ys _ g2 g3 (J.hok.fresh (Nat.le_refl _))⟩
  have lt : b < h1.objs.size := Heap.lt_size e
  rw [PyProof.Rows.sortedHeap_old (Nat.ne_of_lt lt) (by rw [Heap.size_push]; exact Nat.lt_succ_of_lt lt)]
  exact Heap.get?_push_of_some _ e
end
end KC
namespace KC
open PySem PySem.Spec PyProof.Rows L2
/-! ### lists and tuples of things that repr shows -/
theorem dpAll_app {K : PySem.W.Frag} {H : Hp} : ∀ {xs : List V} {ds : List PyData} {ys : List V} {es : List PyData}, DpAll K H xs ds → DpAll K H ys es → DpAll K H (xs ++ ys) (ds ++ es)
  | _, _, _, _, .nil, h => h
  | _, _, _, _, .cons a b, h => .cons a (dpAll_app b h)
theorem itemsF_app {H : Hp} : ∀ {xs : List V} {ds : List PyData} {ys : List V} {es : List PyData}, ItemsF H xs ds → ItemsF H ys es → ItemsF H (xs ++ ys) (ds ++ es)
  | _, _, _, _, .nil, h => h
  | _, _, _, _, .cons a b, h => .cons a (itemsF_app b h)
theorem itemsF_strs {H : Hp} : ∀ xs : List Str, ItemsF H (xs.map V.str) (xs.map PyData.str)
  | [] => .nil
  | _ :: r => .cons (.inl ⟨rfl, rfl⟩) (itemsF_strs r)
theorem shownAll_is : ∀ ds : List PyData, PyData.shownAll ds = ds.map PyData.shown
  | [] => by rw [PyData.shownAll]; rfl
  | d :: r => by rw [PyData.shownAll, shownAll_is r]; rfl
theorem showableAll_of : ∀ {ds : List PyData}, (∀ d ∈ ds, d.showable = true) → PyData.showableAll ds = true
  | [], _ => by rw [PyData.showableAll]
  | d :: r, h => by
    rw [PyData.showableAll, h d (List.mem_cons_self ..), showableAll_of fun x hx => h x (List.mem_cons_of_mem _ hx)]
    rfl
theorem depthAll_of {n : Nat} : ∀ {ds : List PyData}, (∀ d ∈ ds, d.depth ≤ n) → PyData.depthAll ds ≤ n
  | [], _ => by rw [PyData.depthAll]; omega
  | d :: r, h => by
    have h1 := h d (List.mem_cons_self ..)
    have h2 := depthAll_of (n := n) fun x hx => h x (List.mem_cons_of_mem _ hx)
    rw [PyData.depthAll]
    omega
structure Shows (n : Nat) (d : PyData) : Prop where
  ok : d.showable = true
  dp : d.depth ≤ n
  sz : d.shown.length ≤ 1002
theorem shows_str {x : Str} (h : Small x) : Shows 3 (.str x) := ⟨by rw [PyData.showable], by rw [PyData.depth]; omega, by rw [PyData.shown]; exact repr_small h⟩
theorem shows_list {ds : List PyData} (h : ∀ d ∈ ds, Shows 3 d) (hl : ds.length ≤ 100) : (PyData.list ds).showable = true ∧ (PyData.list ds).depth ≤ 8 ∧ (PyData.list ds).shown.length ≤ sizeLine := by
  refine ⟨by rw [PyData.showable]; exact showableAll_of fun d hd => (h d hd).ok, ?_, ?_⟩
  · rw [PyData.depth]
    have := depthAll_of (n := 3) fun d hd => (h d hd).dp
    omega
  · rw [PyData.shown, shownAll_is]
    unfold listText
    rw [strLen_append]
    have h1 := textFrom_len_le (ds.map PyData.shown) 0 "["
    have h2 := sum_le (B := 1002) (xs := ds.map PyData.shown) fun t ht => by
      obtain ⟨d, hd, rfl⟩ := List.mem_map.mp ht
      exact (h d hd).sz
    rw [List.length_map] at h1 h2
    refine sz_le (m := 300000) ?_ rfl
    have h3 : ds.length * 1002 ≤ 100 * 1002 := Nat.mul_le_mul_right _ hl
    have e1 : (("[" : String) : Str).length = 1 := rfl
    have e2 : (("]" : String) : Str).length = 1 := rfl
    omega
theorem shows_tuple {ds : List PyData} (h : ∀ d ∈ ds, Shows 3 d) (hl : ds.length ≤ 100) : (PyData.tuple ds).showable = true ∧ (PyData.tuple ds).depth ≤ 8 ∧ (PyData.tuple ds).shown.length ≤ sizeLine := by
  refine ⟨by rw [PyData.showable]; exact showableAll_of fun d hd => (h d hd).ok, ?_, ?_⟩
  · rw [PyData.depth]
    have := depthAll_of (n := 3) fun d hd => (h d hd).dp
    omega
  · rw [PyData.shown, shownAll_is]
    unfold tupleText
    rw [strLen_append, strLen_append]
    have hj := join_le (B := 1002) (ts := ds.map PyData.shown) fun t ht => by
      obtain ⟨d, hd, rfl⟩ := List.mem_map.mp ht
      exact (h d hd).sz
    rw [List.length_map] at hj
    have e1 : (("(" : String) : Str).length = 1 := rfl
    have e3 : ((if (ds.map PyData.shown).length == 1 then ",)" else ")" : String) : Str).length ≤ 2 := by split <;> decide
    rw [e1]
    refine sz_le (m := 300000) ?_ rfl
    have : ds.length * (1002 + 2) ≤ 100 * (1002 + 2) := Nat.mul_le_mul_right _ hl
    omega
mutual
theorem dp_same {K : PySem.W.Frag} {H H' : Hp} (s : Same H H') : ∀ (d : PyData) (v : V), Dp K H v d → Dp K H' v d
  | .none, _, h => by cases h; exact .non
  | .bool _, _, h => by cases h; exact .bl _
  | .int _, _, h => by cases h; exact .int _
  | .str _, _, h => by cases h; exact .str _
  | .list ds, _, h => by cases h with | lst hs ha => exact .lst (Same.seq s hs) (dpAll_same s ds _ ha)
  | .tuple ds, _, h => by cases h with | tup hs ha => exact .tup (same_seqT s hs) (dpAll_same s ds _ ha)
  | .dict _, _, h => by cases h
theorem dpAll_same {K : PySem.W.Frag} {H H' : Hp} (s : Same H H') : ∀ (ds : List PyData) (vs : List V), DpAll K H vs ds → DpAll K H' vs ds
  | [], _, h => by cases h; exact .nil
  | d :: ds, _, h => by
    cases h with
    | cons h1 h2 => exact .cons (dp_same s d _ h1) (dpAll_same s ds _ h2)
end
theorem rd_same {H H' : Hp} (s : Same H H') {b : Addr} {kvs : List (Key × V)} (h : Rd H b (.dK kvs)) : Rd H' b (.dK kvs) := by
  rcases h with h | ⟨o, h⟩
  · exact .inl (s _ _ h)
  · exact .inr ⟨o, s _ _ h⟩
theorem itemF_same {H H' : Hp} (s : Same H H') {x : V} {d : PyData} (h : ItemF H x d) : ItemF H' x d := by
  rcases h with h | ⟨b, kvs, e, hb, hv, hd⟩
  · exact .inl h
  · exact .inr ⟨b, kvs, e, rd_same s hb, hv, hd⟩
theorem itemsF_same {H H' : Hp} (s : Same H H') : ∀ {xs : List V} {ds : List PyData}, ItemsF H xs ds → ItemsF H' xs ds
  | _, _, .nil => .nil
  | _, _, .cons a b => .cons (itemF_same s a) (itemsF_same s b)
theorem dpx_same {K : PySem.W.Frag} {H H' : Hp} (s : Same H H') {x : V} {d : PyData} (h : DpS K H x d ∨ DpF K H x d) : DpS K H' x d ∨ DpF K H' x d := by
  rcases h with (h | ⟨a, kvs, e, ha, hf, hd⟩) | ⟨a, xs, ds, e, hi, h⟩
  · exact .inl (.inl (dp_same s _ _ h))
  · exact .inl (.inr ⟨a, kvs, e, rd_same s ha, hf, hd⟩)
  · refine .inr ⟨a, xs, ds, e, itemsF_same s hi, ?_⟩
    rcases h with ⟨h, q⟩ | ⟨h, q⟩
    · exact .inl ⟨Same.seq s h, q⟩
    · exact .inr ⟨same_seqT s h, q⟩
end KC
namespace KC
open PySem PySem.Spec PyProof.Rows L2
/-! ### the signs of a text: sorted, as a list -/
def signs (x : Str) : List Str := x.cps.toList.map fun c => (⟨#[c]⟩ : Str)
theorem signs_len (x : Str) : (signs x).length = x.length := by
  unfold signs
  rw [List.length_map, Array.length_toList]
  rfl
theorem items_signs {x : Str} {acc : Array Value} (h : ItemsOf (SignAt x) acc x.cps.size) : StrsAre acc.toList (signs x) := by
  have key : ∀ (cs : List Nat) (vs : List Value), vs.length = cs.length → (∀ (j : Nat) (v : Value), vs[j]? = some v → ∃ c u, cs[j]? = some c ∧ v = Value.str ⟨#[c]⟩ u) → StrsAre vs (cs.map fun c => (⟨#[c]⟩ : Str)) := by
    intro cs
    induction cs with
    | nil =>
      intro vs hl _
      cases vs with
      | nil => exact .nil
      | cons v r => cases hl
    | cons c cs ih =>
      intro vs hl hv
      cases vs with
      | nil => cases hl
      | cons v r =>
        obtain ⟨c', u, e1, e2⟩ := hv 0 v rfl
        have e1 : c = c' := Option.some.inj e1
        subst e1
        subst e2
        exact .cons _ _ (ih r (Nat.succ.inj hl) fun j v hj => hv (j + 1) v hj)
  refine key x.cps.toList acc.toList (by rw [Array.length_toList, Array.length_toList, h.1]) fun j v hj => ?_
  rw [Array.getElem?_toList] at hj
  obtain ⟨c, u, e1, e2⟩ := h.2 j v hj
  exact ⟨c, u, by rw [Array.getElem?_toList]; exact e1, e2⟩
def rListC : List V → Hp → VK → Prop := fun vs H Q => ∃ x : Str, vs = [V.str x] ∧ x.length ≤ 1000000 ∧ ∀ p : Addr, H p = none → Q (.ref p) (L2.upd H p (.lst ((signs x).map V.str)))
theorem call_listC {X : Cx} (hc : X.calm = true) : CallR X (.type "list") rListC := by
  intro pins s σ H vs us Q I r h
  obtain ⟨x, rfl, hx, q⟩ := h
  obtain ⟨u, rfl, t, rfl⟩ := vals1 r
  refine call_list_str (I.ok.hd hc) x t (fun h' tk acc' c' kp e hi => ?_) (sz_le (m := 1000000) hx rfl)
  have hs := items_signs hi
  have hlen : ((signs x).map V.str).length ≤ sizeLine := by
    rw [List.length_map, signs_len]
    exact sz_le (m := 1000000) hx rfl
  exact ⟨.ref s.heap.objs.size, _, I.laid (t' := tk) kp (Nat.le_refl _) (show ObjOk X.prog X.w _ h' _ (.lst ((signs x).map V.str)) from ⟨hlen, acc'.toList, c', vals_of_strs hs, by rw [Array.toArray_toList]; exact e⟩), rfl, q _ (I.hok.fresh (Nat.le_refl _))⟩
/-! ### sorted of a text -/
section
variable {prog : Program} {w : World} {A : Around} {E : Value → Shared → Prop} {s : Shared}
/-- what is done with the new list -/
def takeItems (v : Value) : Sem (List Value) := match v with
  | .ref a => do
    match (← load a).data with
    | .seq xs _ => pure xs.toList
    | _ => unsupported "internal:collect"
  | _ => unsupported "internal:collect"
def RK (prog : Program) (w : World) (A : Around) (E : Value → Shared → Prop) (Q : List Value → Shared → Prop) : Result → Shared → Prop := fun r s' => match r with
  | .ok (.ret v) => wpAny (model prog w) A (takeItems v) Q E s'
  | .ok _ => False
  | .error e => E e s'
/-- the signs are gathered in a new list: the heap only grows -/
theorem collect_signs {Q : List Value → Shared → Prop} (hh : A.handled = none) (x : Str) (t : Tok) (hn : x.cps.size ≤ sizeLine)
    (hQ : ∀ s' vs, (∀ b o, s.heap.get? b = some o → s'.heap.get? b = some o) → s.heap.objs.size ≤ s'.heap.objs.size → s'.gens = s.gens → s'.os = s.os → StrsAre vs (signs x) → Q vs s') : wpAny (model prog w) A (collect (.str x t)) Q E s := by
  unfold collect
  refine wpAny_bind (wpAny_runValue (codeAny_builtin PySem.F.entry_proto_collect ?_))
  rw [Around.under_plainId PySem.F.plain_proto_collect _]
  show wpAny _ A.in1 (newList [] >>= fun l => again (.builtin "list.__iadd__" ⟨[l, .str x t], []⟩)) _ _ s
  refine wpAny_bind (wpAny_newObj_type ?_)
  refine wpAny_pure ⟨plainId_quiet PySem.F.plain_list_iadd _, codeAny_builtin PySem.F.entry_list_iadd ?_⟩
  rw [Around.under_plainId PySem.F.plain_list_iadd _]
  show wpAny _ A.in1 (Builtin.List.listExtendWith (.ref s.heap.objs.size) (.str x t) (.ref s.heap.objs.size)) _ _ _
  have hS0 : (s.heap.push { cls := .type "list", data := .seq ([] : List Value).toArray }).get? s.heap.objs.size = some { cls := .type "list", data := .seq #[] } := Heap.get?_push_size _ rfl
  show wpAny _ A.in1 _ (fun (fin : PySem.Fin) s' => match fin with | PySem.Fin.done f => RK prog w A E Q (.ok f) s' | PySem.Fin.again c' => c'.quiet = true ∧ codeAny (model prog w) A c' (RK prog w A E Q) s') (fun e s' => RK prog w A E Q (.error e) s') _
  refine wpAny_extend_str (R := RK prog w A E Q) (s := { s with heap := s.heap.push { cls := .type "list", data := .seq ([] : List Value).toArray } }) (hn := hn) hh x t s.heap.objs.size (.ref s.heap.objs.size) _ hS0 fun h' tk acc' c' hk hS' hacc => ?_
  show wpAny _ A (load s.heap.objs.size >>= _) _ _ _
  refine wpAny_bind (wpAny_load hS' ?_)
  refine wpAny_pure (hQ _ acc'.toList (fun b o e => ?_) (Nat.le_of_lt (Heap.lt_size hS')) rfl rfl (items_signs hacc))
  exact hk b o (Nat.ne_of_lt (Heap.lt_size e)) (Heap.get?_push_of_some _ e)
end
def rSortedC : List V → Hp → VK → Prop := fun vs H Q => ∃ x : Str, vs = [V.str x] ∧ x.length ≤ 1000000 ∧ ∀ p : Addr, H p = none → Q (.ref p) (L2.upd H p (.lst ((srt (signs x)).map V.str)))
theorem cr_sortedC {X : Cx} (hc : X.calm = true) : CallR X (.builtin "sorted") rSortedC := by
  intro pins s σ H vs us Q I r h
  obtain ⟨x, rfl, hx, q⟩ := h
  obtain ⟨u, rfl, t, rfl⟩ := vals1 r
  refine Calls.call_function_entry kind_sorted plain_sorted entry_sorted (args_sorted1 _) ?_
  unfold Builtin.«sorted»
  refine wpAny_bind (m := checkCount "sorted" 1 1 _) (wpAny_pure ?_)
  refine wpAny_bind (collect_signs (A := X.A.in1) (I.ok.hd hc) x t (sz_le (m := 1000000) hx rfl) fun s1 us1 k1 z1 g1 o1 hz1 => ?_)
  have lz : us1.length = x.length := by rw [strs_at hz1, signs_len]
  have small : us1.length ≤ sizeLine := by rw [lz]; exact sz_le (m := 1000000) hx rfl
  refine wpAny_bind (wpAny_newList ?_ small)
  have hoL : (s1.heap.push (seqObj "list" us1.toArray 0)).get? s1.heap.objs.size = some (seqObj "list" us1.toArray 0) := Heap.get?_push_size _ rfl
  refine wpAny_bind (wpAny_holding (wpAny_call_entry slot_list_sort ⟨_, hoL, rfl⟩ entry_list_sort (SrtO.list_sort_ord swo_str hoL small (fun h2 => strs_sortable hz1 h2) fun out h1 h2 => ⟨_, rfl, ?_⟩) (args_list_sort _)))
  obtain ⟨c, hco⟩ := sortedHeap_at (vs := us1) (out := out.toArray) hoL
  have o1s : StrsAre out (out.map svOf) := strs_sv fun v hv => strs_in hz1 v (h2.perm.mem_iff.mp hv)
  have o2 : (out.map svOf).Perm (signs x) := by
    have z := h2.perm.map svOf
    rw [sv_strs hz1] at z
    exact z
  have o3 : Asc (out.map svOf) := List.pairwise_map.mpr (h1.imp fun {x y} h => ltSv_no.mp h)
  have o4 : srt (signs x) = out.map svOf := srt_eq o2 o3
  have hlen : ((out.map svOf).map V.str).length ≤ sizeLine := by
    rw [List.length_map, o2.length_eq, signs_len, ← lz]
    exact small
  have fresh := I.hok.fresh z1
  have fin := q s1.heap.objs.size fresh
  rw [o4] at fin
  generalize hS : ({ s1 with heap := sortedHeap (s1.heap.push (seqObj "list" us1.toArray 0)) s1.heap.objs.size us1 out.toArray } : Shared) = s2
  have kept : ∀ b u, s.heap.get? b = some u → s2.heap.get? b = some u := fun b u e => by
    have e1 := k1 b u e
    have lt := Heap.lt_size e1
    rw [← hS]
    exact (sortedHeap_old (Nat.ne_of_lt lt) (by rw [size_push']; exact Nat.lt_succ_of_lt lt)).trans (Heap.get?_push_of_some _ e1)
  have at2 : s2.heap.get? s1.heap.objs.size = some (seqObj "list" out.toArray c) := by rw [← hS]; exact hco
  have g2 : s2.gens = s.gens := by rw [← hS]; exact g1
  have os2 : s2.os = s.os := by rw [← hS]; exact o1
  have J : Inv X pins σ (L2.upd H s1.heap.objs.size (.lst ((out.map svOf).map V.str))) { s with heap := s2.heap, gens := s2.gens, drawn := s2.drawn, toks := s2.toks } :=
    I.call (ch := []) (Un.laid kept z1 fresh) (I.hok.laid kept z1 ⟨hlen, out, c, vals_of_strs o1s, at2⟩) (by rw [g2]; exact I.bare) (fun _ z => nomatch z)
  have es2 : s2 = { s with heap := s2.heap, gens := s2.gens, drawn := s2.drawn, toks := s2.toks } := by
    cases s2
    cases s
    cases os2
    rfl
  refine wpAny_pure ⟨_, rfl, ?_⟩
  show EP X pins σ Q (.ref s1.heap.objs.size) _
  rw [← es2] at J
  subst hS
  exact ⟨.ref _, _, J, rfl, fin⟩
/-! ### for y, sign in zip(list, text) -/
/-- the list at a as it stands at each turn, and the signs of x, in new pairs -/
def ItzS (K : PySem.W.Frag) (a : Addr) (x : Str) : It :=
  ⟨fun i H => ∃ (xs : List V) (y : V), SqL K H a xs ∧ xs[i]? = some y ∧ i < x.cps.size,
    fun i H v H' => ∃ (T : Addr) (y : V) (c : Nat), v = .ref T ∧ H T = none ∧ H' = L2.upd H T (.tup [y, .str ⟨#[c]⟩]) ∧ (∀ xs, SqL K H a xs → xs[i]? = some y) ∧ x.cps.toList[i]? = some c,
    fun i H => ∃ xs : List V, SqL K H a xs ∧ xs.length = i ∧ x.cps.size = i⟩
theorem turn_zipS {P : Program} {w : World} {K : PySem.W.Frag} {elts : List Expr} {kk : Nat} {tpos : Pos} {a z TI TO i1 i2 : Addr} {x : Str} {t : Tok} (S : ZipSep2 z TI TO i1 i2 [i1, a] [i2]) (hne : a ≠ i1) :
    Turn P w K (.Tuple elts kk tpos) (ItzS K a x) [z, TI, TO, i1, i2] z (fun i h => IsZip h z TI TO .none ∧ IsTupOf2 h TI (.ref i1) (.ref i2) ∧ (∃ x y, IsTupOf2 h TO x y) ∧ h.IsListIter i1 a i ∧ h.IsStrIter i2 (strIterType x) x t i) where
  mem := by simp
  obj := fun i h st c hc => by
    obtain ⟨hz, hTI, ⟨x, y, hTO⟩, ⟨o1, e1, _, d1⟩, ⟨o2, e2, _, d2⟩⟩ := st
    have e' : c = z ∨ c = TI ∨ c = TO ∨ c = i1 ∨ c = i2 := by simpa using hc
    rcases e' with q | q | q | q | q
    · rw [q]; exact ⟨_, hz, fun v q => nomatch q⟩
    · rw [q]; exact ⟨_, hTI, fun v q => nomatch q⟩
    · rw [q]; exact ⟨_, hTO, fun v q => nomatch q⟩
    · rw [q]; exact ⟨o1, e1, fun v q => by rw [d1] at q; cases q⟩
    · rw [q]; exact ⟨o2, e2, fun v q => by rw [d2] at q; cases q⟩
  keep := fun i h h' st k => by
    obtain ⟨hz, hTI, ⟨x, y, hTO⟩, h1, ⟨o2, e2, r2⟩⟩ := st
    exact ⟨k z (by simp) _ hz, k TI (by simp) _ hTI, ⟨x, y, k TO (by simp) _ hTO⟩, h1.at fun o q => k i1 (by simp) o q, ⟨o2, k i2 (by simp) _ e2, r2⟩⟩
  item := by
    intro X hP hw hK hc i pins s σ H E I hf st hg
    subst hP hw hK
    obtain ⟨hz, hTI, ⟨x0, y0, hTO⟩, h1, h2⟩ := st
    obtain ⟨xs, y, hqx, hy, hix⟩ := hg
    obtain ⟨its, rv, p, _⟩ := I.list hqx
    obtain ⟨u, hu, ru⟩ := rv.get hy
    have hzl : z < s.heap.objs.size := Heap.lt_size hz
    have hlt1 : i < its.toArray.size := by
      have := (List.getElem?_eq_some_iff.mp hu).1
      simpa using this
    have D1 := Draws.list (prog := X.prog) (w := X.w) (A := X.A.in1) (show X.A.in1.handled = none from I.ok.hd hc) i1 a hne its.toArray
    have D2 := Draws.text (prog := X.prog) (w := X.w) (A := X.A.in1) (show X.A.in1.handled = none from I.ok.hd hc) i2 x t
    refine wpAny_pyNext_zipD2_item S D1 D2 hz hTI hTO ⟨h1, p.isList⟩ h2 hlt1 hix fun v1 v2 h' tk p1 p2 z' TO' h1' h2' hT hsz hk => ?_
    have ev : u = v1 := by
      have : its[i]? = some v1 := by rw [← Array.getElem?_toList] at p1; exact p1
      rw [hu] at this
      exact Option.some.inj this
    subst ev
    obtain ⟨c, tc, ec, rfl⟩ := p2
    refine ⟨_, rfl, wpAny_letOwnedTupleGo_zip (s := { s with heap := h', toks := tk }) z' fun h'' z'' sb => ?_⟩
    have hT2 : h''.get? s.heap.objs.size = some { cls := .type "tuple", data := .seq #[u, .str ⟨#[c]⟩ tc] } := (sb.2 _ (Nat.ne_of_gt hzl)).trans hT
    have new : ObjOk X.prog X.w (L2.upd H s.heap.objs.size (.tup [y, .str ⟨#[c]⟩])) h'' s.heap.objs.size (.tup [y, .str ⟨#[c]⟩]) :=
      ⟨by show 2 ≤ sizeLine; decide, [u, .str ⟨#[c]⟩ tc], .cons ru (.cons ⟨tc, rfl⟩ .nil), ⟨_, hT2, rfl, _, rfl⟩⟩
    have I1 : Inv X pins σ (L2.upd H s.heap.objs.size (.tup [y, .str ⟨#[c]⟩])) { s with heap := h'', toks := tk } :=
      I.turnedNew (t' := tk) (ch := [z, TI, TO, i1, i2]) (fun c o hb q => (sb.2 c (fun q' => hb (by simp [q']))).trans (hk c o (fun q' => hb (by simp [q'])) (fun q' => hb (by simp [q'])) (fun q' => hb (by simp [q'])) (fun q' => hb (by simp [q'])) q)) hf (Nat.le_refl _) new
    refine ⟨.ref s.heap.objs.size, _, I1, rfl, ⟨_, y, c, rfl, I.hok.fresh (Nat.le_refl _), rfl, fun l hl => by rw [I.list_inj hl hqx]; exact hy, by rw [Array.getElem?_toList]; exact ec⟩, ⟨z'', ?_, ⟨u, .str ⟨#[c]⟩ tc, ?_⟩, ?_, ?_⟩, fun c hcm => ?_⟩
    · exact (sb.2 _ S.TIz).trans (hk _ _ S.TIz S.TITO S.TIi1 S.TIi2 hTI)
    · exact (sb.2 _ S.TOz).trans TO'
    · exact h1'.1.at fun o q => (sb.2 _ (Ne.symm S.zi1)).trans q
    · obtain ⟨o2, e2, r2⟩ := h2'
      exact ⟨o2, (sb.2 _ (Ne.symm S.zi2)).trans e2, r2⟩
    · have hlt : c < s.heap.objs.size := by
        have e' : c = z ∨ c = TI ∨ c = TO ∨ c = i1 ∨ c = i2 := by simpa using hcm
        rcases e' with q | q | q | q | q
        · rw [q]; exact hzl
        · rw [q]; exact Heap.lt_size hTI
        · rw [q]; exact Heap.lt_size hTO
        · rw [q]; obtain ⟨_, e1, _⟩ := h1; exact Heap.lt_size e1
        · rw [q]; obtain ⟨_, e2, _⟩ := h2; exact Heap.lt_size e2
      rw [upd_ne (Nat.ne_of_lt hlt)]
      exact (hf c hcm).1
  done := by
    intro X hP hw hK hc i pins s σ H E I hf st hg
    subst hP hw hK
    obtain ⟨hz, hTI, ⟨x0, y0, hTO⟩, h1, h2⟩ := st
    obtain ⟨xs, hqx, hl1, hl2⟩ := hg
    obtain ⟨its, rv, p, _⟩ := I.list hqx
    have l1 := rv.length
    have e1 : its.toArray.size = i := by rw [List.size_toArray]; omega
    have D1 := Draws.list (prog := X.prog) (w := X.w) (A := X.A.in1) (show X.A.in1.handled = none from I.ok.hd hc) i1 a hne its.toArray
    have D2 := Draws.text (prog := X.prog) (w := X.w) (A := X.A.in1) (show X.A.in1.handled = none from I.ok.hd hc) i2 x t
    exact wpAny_pyNext_zipD2_end S D1 D2 hz hTI hTO ⟨h1, p.isList⟩ h2 (Nat.le_of_eq e1.symm) (Nat.le_of_eq hl2.symm) (.inl e1.symm) fun h' tk hk => ⟨rfl, I.turnedL (t' := tk) (ch := [z, TI, TO, i1, i2]) (fun c o hb q =>
      hk c o (fun q' => hb (by simp [q'])) (fun q' => hb (by simp [q'])) (fun q' => hb (by simp [q'])) (fun q' => hb (by simp [q'])) q) hf⟩
  self := fun A i s Q E st h => wpAny_pyIter_zip st.1 h
def iZipS (K : PySem.W.Frag) (ta : TA) : TI := fun σ H R => ta σ H fun vs H1 => ∃ (a : Addr) (x : Str) (xs : List V), vs = [.ref a, .str x] ∧ SqL K H1 a xs ∧ R (ItzS K a x) H1
theorem pi_zipS {X : Cx} {K : PySem.W.Frag} {e e2 : Expr} {ta : TA} {p pos tpos : Pos} {elts : List Expr} {kk : Nat} (hg : Gl X "zip") (hm : X.mg "zip" = none) (ha : PA X [e, e2] ta)
    (hs : starEach [e, e2] X.env = (false, eval e X.env) :: starEach [e2] X.env := by rfl) (hpl : (backTo pos (starEach [e2] X.env)).any (·.1) = false := by rfl) (hK : X.K = K := by rfl) :
    PI X (.Tuple elts kk tpos) (.Call (.Name "zip" p) [e, e2] [] pos) (iZipS K ta) := by
  subst hK
  refine ⟨fun pins s σ H R I h => ?_⟩
  refine Call_ (ld_blt I hg hm PyProof.Rows.boot_zip (PyProof.Rows.callWith_type1 (thn (ha.run pos pins s σ H _ I h) fun us s1 ⟨vs, H1, I1, r1, q1⟩ => ?_) hs hpl))
  obtain ⟨a, x, xs, ex, hqx, q⟩ := q1
  subst ex
  cases r1 with
  | cons r rr =>
    cases rr with
    | cons r' rr =>
      cases rr
      cases r
      obtain ⟨t, rfl⟩ := r'
      obtain ⟨its, rv, p1, _⟩ := I1.list hqx
      have la : a < s1.heap.objs.size := p1.lt
      refine zip_begins2 (begins_list a its.toArray) (begins_text x t) p1.isList trivial fun h' hz hTI hTO g1 g2 hsz hk => wpAny_pyIter_zip hz ?_
      have I2 : Inv X pins σ H1 { s1 with heap := h' } := I1.kept (t' := s1.toks) hk
      have A := PySem.W.ktu_apart s1.heap.objs.size a a la la
      have S : ZipSep2 (s1.heap.objs.size + 4) (s1.heap.objs.size + 2) (s1.heap.objs.size + 3) s1.heap.objs.size (s1.heap.objs.size + 1) [s1.heap.objs.size, a] [s1.heap.objs.size + 1] := by
        refine ⟨A.TIz, A.TOz, A.TITO, A.TIi1, by simp, ?_, ?_, A.TIi2, by simp, ?_, ?_, ?_, ?_⟩
        · intro q
          rcases List.mem_cons.mp q with q | q
          · exact A.i1z q.symm
          · exact A.l1z (List.mem_singleton.mp q).symm
        · intro q
          rcases List.mem_cons.mp q with q | q
          · exact A.TOi1 q
          · exact A.l1TO (List.mem_singleton.mp q).symm
        · intro q; exact A.i2z (List.mem_singleton.mp q).symm
        · intro q; exact A.TOi2 (List.mem_singleton.mp q)
        · intro q; exact A.i12 (List.mem_singleton.mp q)
        · intro q
          rcases List.mem_cons.mp q with q | q
          · exact A.i12 q.symm
          · exact A.l1i2 (List.mem_singleton.mp q).symm
      refine ⟨s1.heap.objs.size + 4, [s1.heap.objs.size + 4, s1.heap.objs.size + 2, s1.heap.objs.size + 3, s1.heap.objs.size, s1.heap.objs.size + 1], _, _, H1, rfl, I2, turn_zipS (x := x) (t := t) S (Nat.ne_of_lt la), ⟨hz, hTI, ⟨_, _, hTO⟩, ⟨_, g1, rfl, rfl⟩, ⟨_, g2, rfl, rfl⟩⟩, fun c hcm => ?_, q⟩
      have e' : c = s1.heap.objs.size + 4 ∨ c = s1.heap.objs.size + 2 ∨ c = s1.heap.objs.size + 3 ∨ c = s1.heap.objs.size ∨ c = s1.heap.objs.size + 1 := by simpa using hcm
      have hle : s1.heap.objs.size ≤ c := by
        rcases e' with z | z | z | z | z
        · rw [z]; exact Nat.le_add_right _ _
        · rw [z]; exact Nat.le_add_right _ _
        · rw [z]; exact Nat.le_add_right _ _
        · rw [z]; exact Nat.le_refl _
        · rw [z]; exact Nat.le_add_right _ _
      exact I1.fpOk hle (I1.hok.fresh hle)
theorem walk_zipS {K : PySem.W.Frag} {a : Addr} {xs : List V} {x : Str} (hl : xs.length = x.cps.size) : Walk (ItzS K a x) xs.length (fun H => SqL K H a xs) (fun i H v H' => ∃ (T : Addr) (y : V) (c : Nat), v = .ref T ∧ H T = none ∧ H' = L2.upd H T (.tup [y, .str ⟨#[c]⟩]) ∧ xs[i]? = some y ∧ x.cps.toList[i]? = some c) :=
  ⟨fun i _ hi q => ⟨xs, xs[i], q, by simp [hi], by rw [← hl]; exact hi⟩, fun _ q => ⟨xs, q, rfl, hl.symm⟩, fun _ _ _ _ _ q ⟨T, y, c, h1, h2, h3, h4, h5⟩ => ⟨T, y, c, h1, h2, h3, h4 xs q, h5⟩⟩
/-- [f(y, sign) for y, sign in zip(xs, x)], new objects may be made -/
theorem lc_zipS {K : PySem.W.Frag} {a : Addr} {xs : List V} {x : Str} {i j : Nat} {te : TE} {σ : L2.St} {H1 : Hp} {D : Addr} {Qd : Hp → Prop} (f : Nat → V) (hij : i ≠ j) (hl : xs.length = x.cps.size) (hS : SqL K H1 a xs) (hD : H1 D = none) (hx : xs.length < 16777216)
    (he : ∀ (k : Nat) (y : V) (c : Nat), xs[k]? = some y → x.cps.toList[k]? = some c → ∀ (H' : Hp) (Q' : VK), Same H1 H' → (∀ H'', Same H' H'' → Q' (f k) H'') → te (((wipe σ [i, j]).set i (some y)).set j (some (.str ⟨#[c]⟩))) H' Q')
    (hd : ∀ H', Same H1 H' → H' D = some (.lst ((List.range xs.length).map f)) → Qd H') :
    LcG (ItzS K a x) (gTup K 2 (gCons (gName i) (gCons (gName j) gNil))) tYes te [i, j] σ H1 D Qd := by
  refine lc_it (walk_zipS (K := K) (a := a) hl) (fun k H => Same H1 H ∧ H D = some (.lst ((List.range k).map f))) ⟨same_new (Same.refl _) hD, upd_same⟩ (fun k H _ h => Same.seq h.1 hS) ?_ (fun H h => hd H h.1 h.2)
  rintro k v H H' hk ⟨s, hDk⟩ ⟨T, y, c, rfl, hT, rfl, hy, hc⟩
  have sT := newS (o := .tup [y, .str ⟨#[c]⟩]) hT
  refine ⟨T, _, rfl, SqT.of upd_same, rfl, _, _, rfl, _, _, rfl, rfl, wipe_set2 σ hij _ _, ?_⟩
  refine he k y c hy hc _ _ (Same.trans s sT) fun H'' s2 => ⟨_, s2 _ _ (sT _ _ hDk), ?_, same_new (Same.trans s (Same.trans sT s2)) hD, ?_⟩
  · rw [List.length_map, List.length_range]
    exact Nat.lt_of_lt_of_le (show k < 16777216 by omega) (by decide)
  · rw [upd_same, List.range_succ, List.map_append]
    rfl
end KC
namespace KC
open PySem PySem.Spec PyProof.Rows L2
/-! ### text * number -/
def repS (x : Str) (n : Int) : Str := if n < 1 then Str.empty else if (n == 1 || x.length == 0) = true then x else ⟨(List.replicate n.toNat x.cps).foldl (· ++ ·) #[]⟩
def rMulS : R2 := fun x y H Q => ∃ (z : Str) (n : Int), x = .str z ∧ y = .int n ∧ -1000 ≤ n ∧ n ≤ 1000 ∧ z.length ≤ 1000 ∧ (repS z n).length ≤ sizeLine ∧ Q (.str (repS z n)) H
theorem op_mulS {X : Cx} : OpR X (binaryOp .Mult) rMulS := by
  intro pins s σ H x y v u Q I rx ry h
  obtain ⟨z, n, rfl, rfl, n0, n1, hz, hl, q⟩ := h
  obtain ⟨t, rfl⟩ := rx
  obtain ⟨t', rfl⟩ := ry
  refine P.mul_str ?_ ?_ ?_ ?_
  · rw [decide_eq_false (by omega), decide_eq_false (by omega)]
    rfl
  · intro h1 _
    have : (1000 : Int) ≤ (2 ^ 63 - 1) / n := by
      refine Int.le_ediv_of_mul_le (by omega) ?_
      omega
    omega
  · intro h1 _
    unfold Builtin.Str.tooLong
    have h2 : z.length * n.toNat ≤ 1000 * 1000 := Nat.mul_le_mul hz (by omega)
    have h3 : (1000000 : Nat) ≤ sizeLine := by decide
    exact decide_eq_false (by omega)
  · unfold repS at q hl
    by_cases c1 : n < 1
    · rw [if_pos c1] at q hl ⊢
      exact ⟨hl, .str _, H, I.tok _, ⟨_, rfl⟩, q⟩
    · rw [if_neg c1] at q hl ⊢
      by_cases c2 : (n == 1 || z.length == 0) = true
      · rw [if_pos c2] at q hl ⊢
        exact ⟨.str z, H, I, ⟨t, rfl⟩, q⟩
      · rw [if_neg c2] at q hl ⊢
        exact ⟨hl, .str _, H, I.tok _, ⟨_, rfl⟩, q⟩
/-! ### text[::-1] -/
def revS (x : Str) : Str := ⟨((List.range x.length).reverse.filterMap (x.cps[·]?)).toArray⟩
theorem rev_ix : ∀ n : Fin 9, Builtin.Str.strSliceIndices none none (-1) n.val = (List.range n.val).reverse := by decide +kernel
def tRevS (te : TE) : TE := fun σ H Q => te σ H fun x H1 => ∃ z : Str, x = .str z ∧ z.length ≤ 8 ∧ (revS z).length ≤ sizeLine ∧ Q (.str (revS z)) H1
theorem pe_revS {X : Cx} {pos : Pos} {e : Expr} {te : TE} {k : Nat} {p1 p2 p3 : Pos} (he : PE X e te) : PE X (.Subscript e (.Slice none none (some (.UnaryOp .USub (.Constant (.int 1) k p1) p2)) p3) pos) (tRevS te) := by
  refine ⟨fun pins s σ H Q I h => ?_⟩
  refine Subscript_ (thn (he.run pins s σ H _ I h) fun v s1 ⟨x, H1, I1, r1, q1⟩ => ?_)
  obtain ⟨z, ex, hz, hl, q⟩ := q1
  subst ex
  obtain ⟨t, rfl⟩ := r1
  have step : PO X (some (.UnaryOp .USub (.Constant (.int 1) k p1) p2)) (tPart (tUn (rU fun i => .int (-i)) (tC (.int 1)))) := po_some (pe_un un_neg pe_int)
  refine wpAny_Slice (thn (po_none.run pins s1 σ H1 (fun o H2 => o = none ∧ H2 = H1) I1 ⟨rfl, rfl⟩) fun vl s2 ⟨l, H2, I2, pl, el, e2⟩ => ?_)
  subst el e2
  refine thn (po_none.run pins s2 σ H2 (fun o H3 => o = none ∧ H3 = H2) I2 ⟨rfl, rfl⟩) fun vu s3 ⟨u, H3, I3, pu, eu, e3⟩ => ?_
  subst eu e3
  refine thn (step.run pins s3 σ H3 (fun o H4 => o = some (-1) ∧ H4 = H3) I3 ⟨1, rfl, -1, rfl, rfl, rfl⟩) fun vs s4 ⟨o, H4, I4, ps, eo, e4⟩ => ?_
  subst eo e4
  cases pl
  cases pu
  obtain ⟨st, rfl, est⟩ := IsPart.raw ps
  have I5 : Inv X pins σ H4 { s4 with heap := s4.heap.push { cls := .type "slice", data := .fields #[.none, .none, partValue st] } } := I4.kept (t' := s4.toks) fun b ob q => Heap.get?_push_of_some _ q
  show wpAny (model X.prog X.w) X.A (subscriptTail e (.Slice none none (some (.UnaryOp .USub (.Constant (.int 1) k p1) p2)) p3) (.str z t) (.ref s4.heap.objs.size)) (EP X pins σ Q) X.xe _
  refine tail_any (ops := [.str z t, .ref s4.heap.objs.size]) (typeIs_str _ _ _) F.slot_str_getitem.lookup ?_ (by with_unfolding_all rfl)
  refine wpAny_getItem_str_slice (l := none) (u := none) (st := st) ⟨_, Heap.get?_push_size _ rfl, rfl, rfl⟩ ?_ ?_
  · rw [est]
    rfl
  · have ep : slicePicked z none none st = (List.range z.length).reverse := by
      unfold slicePicked
      rw [est]
      exact rev_ix ⟨z.length, by omega⟩
    unfold sliceMade
    rw [est, ep, if_neg (by simp)]
    exact ⟨hl, .str _, H4, I5.tok _, ⟨_, rfl⟩, q⟩
end KC
namespace KC
open PySem PySem.Spec PyProof.Rows L2
/-! ### tuple(text) -/
section
variable {prog : Program} {w : World} {A : Around} {E : Value → Shared → Prop} {s : Shared}
theorem code_tuple_new_signs {x : Str} {t : Tok} {Q₁ : Value → Shared → Prop} (hh : A.handled = none) (hn : x.cps.size ≤ sizeLine)
    (h : ∀ (s' : Shared) (vs : List Value), (∀ b o, s.heap.get? b = some o → s'.heap.get? b = some o) → s.heap.objs.size ≤ s'.heap.objs.size → s'.gens = s.gens → s'.os = s.os → StrsAre vs (signs x) →
      Q₁ (.ref s'.heap.objs.size) { s' with heap := s'.heap.push { cls := .type "tuple", data := .seq vs.toArray } }) :
    codeAny (model prog w) A (.call (.builtin "tuple.__new__") ⟨[.type "tuple", .str x t], []⟩) (wants Q₁ E) s := by
  refine codeAny_of_tree ?_
  show wpAny _ A.in1 (do checkBuiltinCall "tuple.__new__" ⟨[.type "tuple", .str x t], []⟩; again (.builtin "tuple.__new__" ⟨[.type "tuple", .str x t], []⟩)) _ _ s
  refine wpAny_bind (wpAny_of_eq (F.newCall_tuple_1 _) (wpAny_pure ⟨plainId_quiet F.plain_tuple_new _, codeAny_builtin F.entry_tuple_new ?_⟩))
  rw [Around.under_plainId F.plain_tuple_new _]
  have hsub := sub_tuple_self
  have hinit := init_tuple_lookup
  have hmh := madeHere_tuple
  have hTI : s.TypeIs (.str x t) "str" := typeIs_str s x t
  have hh1 : A.in1.handled = none := hh
  wp_walk using wpAny_typeOf hTI, collect_signs (A := A.in1) hh1 x t hn
  intro s' vs hk hsz hg ho hv
  have hlen : vs.toArray.size ≤ sizeLine := by
    have e := strs_at hv
    rw [signs_len] at e
    rw [List.size_toArray, e]
    exact hn
  show wpAny _ _ (Builtin.Tuple.tupleExact vs.toArray >>= fun v => ret v) _ _ _
  unfold Builtin.Tuple.tupleExact
  refine wpAny_bind (wpAny_newObj_type ?_ hlen)
  refine wpAny_pure ?_
  exact h s' vs hk hsz hg ho hv
end
def rTupleC : List V → Hp → VK → Prop := fun vs H Q => ∃ x : Str, vs = [.str x] ∧ x.length ≤ 1000000 ∧ ∀ l, H l = none → Q (.ref l) (L2.upd H l (.tup ((signs x).map V.str)))
theorem call_tupleC {X : Cx} (hc : X.calm = true) : CallR X (.type "tuple") rTupleC := by
  intro pins s σ H vs us Q I r h
  obtain ⟨x, rfl, hx, q⟩ := h
  obtain ⟨u, rfl, t, rfl⟩ := vals1 r
  have hn : x.cps.size ≤ sizeLine := sz_le (m := 1000000) hx rfl
  have hlen : ((signs x).map V.str).length ≤ sizeLine := by
    rw [List.length_map, signs_len]
    exact hn
  refine callType_codes (Q₁ := fun obj s₁ => s₁.TypeIs obj "tuple" ∧ EP X pins σ Q obj s₁) F.called_tuple (F.typeCall_tuple_1 _) F.entry_object_init
    (code_tuple_new_signs (A := X.A.in1) (I.ok.hd hc) hn fun s1 us hk hz hg ho hv => ⟨⟨_, Heap.get?_push_size _ rfl, rfl⟩, ?_⟩) fun obj s₁ h₁ => ?_
  · have fresh := I.hok.fresh hz
    have fin := q s1.heap.objs.size fresh
    generalize hS : ({ s1 with heap := s1.heap.push { cls := .type "tuple", data := .seq us.toArray } } : Shared) = s2
    have kept : ∀ b u, s.heap.get? b = some u → s2.heap.get? b = some u := fun b u e => by
      rw [← hS]
      exact Heap.get?_push_of_some _ (hk b u e)
    have g2 : s2.gens = s.gens := by rw [← hS]; exact hg
    have os2 : s2.os = s.os := by rw [← hS]; exact ho
    have at2 : IsTup s2.heap s1.heap.objs.size us.toArray := by rw [← hS]; exact IsTup.new _ _
    have J : Inv X pins σ (L2.upd H s1.heap.objs.size (.tup ((signs x).map V.str))) { s with heap := s2.heap, gens := s2.gens, drawn := s2.drawn, toks := s2.toks } :=
      I.call (ch := []) (Un.laid kept hz fresh) (I.hok.laid kept hz (show ObjOk X.prog X.w _ s2.heap _ (.tup ((signs x).map V.str)) from ⟨hlen, us, vals_of_strs hv, at2⟩)) (by rw [g2]; exact I.bare) (fun _ z => nomatch z)
    have es2 : s2 = { s with heap := s2.heap, gens := s2.gens, drawn := s2.drawn, toks := s2.toks } := by
      cases s2
      cases s
      cases os2
      rfl
    rw [← es2] at J
    subst hS
    exact ⟨.ref _, _, J, rfl, fin⟩
  · exact ⟨h₁.1, F.args_object_init_2 obj _, object_init_meets F.called_tuple.init.lookup F.called_tuple.made (by decide) X.prog X.w X.A.in1 _ s₁ ⟨h₁.1, rfl, h₁.2⟩⟩
end KC
namespace KC
open PySem PySem.Spec PyProof.Rows L2
/-! ### repr of data in data: lists, tuples and dicts that hold one another -/
mutual
inductive DpN (K : PySem.W.Frag) (H : Hp) : V → PyData → Prop
  | flat {x : V} : flatOk x = true → DpN K H x (flatD x)
  | lst {a : Addr} {xs : List V} {ds : List PyData} : Rd H a (.lst xs) → DpNs K H xs ds → DpN K H (.ref a) (.list ds)
  | tup {a : Addr} {xs : List V} {ds : List PyData} : SqT K H a xs → DpNs K H xs ds → DpN K H (.ref a) (.tuple ds)
  | dct {a : Addr} {kvs : List (Key × V)} {ds : List PyData} : Rd H a (.dK kvs) → DpNs K H (kvs.map (·.2)) ds → DpN K H (.ref a) (.dict ((kvs.map fun q => flatD (kV q.1)).zip ds))
inductive DpNs (K : PySem.W.Frag) (H : Hp) : List V → List PyData → Prop
  | nil : DpNs K H [] []
  | cons {x : V} {d : PyData} {xs : List V} {ds : List PyData} : DpN K H x d → DpNs K H xs ds → DpNs K H (x :: xs) (d :: ds)
end
theorem DpNs.len {K : PySem.W.Frag} {H : Hp} : ∀ {xs : List V} {ds : List PyData}, DpNs K H xs ds → xs.length = ds.length
  | _, _, .nil => rfl
  | _, _, .cons _ t => by rw [List.length_cons, List.length_cons, DpNs.len t]
theorem Rd.same {H H' : Hp} {a : Addr} {u : HO} (s : Same H H') (h : Rd H a u) : Rd H' a u := by
  rcases h with h | ⟨o, h⟩
  · exact .inl (s _ _ h)
  · exact .inr ⟨o, s _ _ h⟩
mutual
theorem DpN.same {K : PySem.W.Frag} {H H' : Hp} (s : Same H H') : ∀ {x : V} {d : PyData}, DpN K H x d → DpN K H' x d
  | _, _, .flat h => .flat h
  | _, _, .lst h t => .lst (Rd.same s h) (DpNs.same s t)
  | _, _, .tup h t => .tup (same_seqT s h) (DpNs.same s t)
  | _, _, .dct h t => .dct (Rd.same s h) (DpNs.same s t)
theorem DpNs.same {K : PySem.W.Frag} {H H' : Hp} (s : Same H H') : ∀ {xs : List V} {ds : List PyData}, DpNs K H xs ds → DpNs K H' xs ds
  | _, _, .nil => .nil
  | _, _, .cons h t => .cons (DpN.same s h) (DpNs.same s t)
end
section
variable {X : Cx} {pins : List (Addr × Obj)} {σ : L2.St} {H : Hp} {s : Shared}
mutual
theorem DpN.reads (I : Inv X pins σ H s) : ∀ {x : V} {d : PyData} {u : Value}, DpN X.K H x d → RelV x u → ∃ as, Reads s.heap u d as
  | _, _, _, .flat h, r => ⟨[], flat_reads h r⟩
  | _, _, _, .lst h t, r => by
    cases r
    obtain ⟨its, rv, ⟨o, n, ho, hc, _, hda⟩, _⟩ := I.list (.inl h)
    obtain ⟨as, ra⟩ := DpNs.reads I t rv
    exact ⟨_, Reads.list ho hc hda ra⟩
  | _, _, _, .tup h t, r => by
    cases r
    obtain ⟨its, rv, ⟨o, ho, hc, n, hda⟩, _⟩ := I.tuple h
    obtain ⟨as, ra⟩ := DpNs.reads I t rv
    exact ⟨_, Reads.tuple ho hc hda ra⟩
  | _, _, _, .dct (kvs := kvs) (ds := ds) h t, r => by
    cases r
    obtain ⟨z, lo, vs, rel, o, es, ep, ho, hex, hda, hks, hps, hnd⟩ := dk_rd I.hok h
    obtain ⟨hk1, hk2⟩ := paired_keys rel hps
    have r1 := keys_reads (h := s.heap) hk1
    have rv : Vals (kvs.map (·.2)) (es.toList.map (·.val)) := by rw [hk2]; exact kv_vals rel
    obtain ⟨as, ra⟩ := DpNs.reads I t rv
    have hl := DpNs.len t
    rw [List.length_map] at hl
    have e1 : ((kvs.map fun q => flatD (kV q.1)).zip ds).map (·.1) = kvs.map fun q => flatD (kV q.1) := List.map_fst_zip (by rw [List.length_map]; omega)
    have e2 : ((kvs.map fun q => flatD (kV q.1)).zip ds).map (·.2) = ds := List.map_snd_zip (by rw [List.length_map]; omega)
    exact ⟨_, Reads.dict ho hex.1 hda (by rw [e1]; exact r1) (by rw [e2]; exact ra)⟩
theorem DpNs.reads (I : Inv X pins σ H s) : ∀ {xs : List V} {ds : List PyData} {us : List Value}, DpNs X.K H xs ds → Vals xs us → ∃ as, ReadsAll s.heap us ds as
  | _, _, _, .nil, .nil => ⟨[], .nil⟩
  | _, _, _, .cons h t, .cons r rs => by
    obtain ⟨as, h1⟩ := DpN.reads I h r
    obtain ⟨bs, t1⟩ := DpNs.reads I t rs
    exact ⟨_, .cons h1 t1⟩
end
/-- the parts of a tracked dict -/
theorem dct_parts (I : Inv X pins σ H s) {a : Addr} {kvs : List (Key × V)} {ds : List PyData} (h : Rd H a (.dK kvs)) (t : DpNs X.K H (kvs.map (·.2)) ds) :
    (a == sysModules) = false ∧ ∃ (o : Obj) (es : Array DictEntry) (ep : Nat), s.heap.get? a = some o ∧ o.cls = .type "dict" ∧ o.data = .dict es ep ∧ Vals (kvs.map (·.2)) (es.toList.map (·.val)) ∧
      ReadsAll s.heap (es.toList.map (·.key)) (((kvs.map fun q => flatD (kV q.1)).zip ds).map (·.1)) [] ∧ ((kvs.map fun q => flatD (kV q.1)).zip ds).map (·.2) = ds := by
  obtain ⟨z, lo, vs, rel, o, es, ep, ho, hex, hda, hks, hps, hnd⟩ := dk_rd I.hok h
  obtain ⟨hk1, hk2⟩ := paired_keys rel hps
  have hl := DpNs.len t
  rw [List.length_map] at hl
  have e1 : ((kvs.map fun q => flatD (kV q.1)).zip ds).map (·.1) = kvs.map fun q => flatD (kV q.1) := List.map_fst_zip (by rw [List.length_map]; omega)
  have e2 : ((kvs.map fun q => flatD (kV q.1)).zip ds).map (·.2) = ds := List.map_snd_zip (by rw [List.length_map]; omega)
  exact ⟨lo, o, es, ep, ho, hex.1, hda, by rw [hk2]; exact kv_vals rel, by rw [e1]; exact keys_reads hk1, e2⟩
mutual
theorem DpN.repr (I : Inv X pins σ H s) : ∀ {x : V} {d : PyData} {u : Value}, DpN X.K H x d → RelV x u → d.showable = true → d.shown.length ≤ sizeLine → ∃ bs, ReadAtMost s.heap d.depth bs ∧ ReprK X.prog X.w bs s.heap d.depth u d.shown
  | _, _, _, .flat h, r, hs, hz => ReprK.of_reads (flat_reads h r) hs (fun _ => List.not_mem_nil) hz
  | _, _, _, .lst (a := a) (ds := ds) h t, r, hs, hz => by
    have whole := DpN.reads I (.lst h t) r
    cases r
    obtain ⟨its, rv, ⟨o, n, ho, hc, _, hda⟩, _⟩ := I.list (.inl h)
    have hz' : (listText (PyData.shownAll ds)).length ≤ sizeLine := by simpa only [PyData.shown] using hz
    obtain ⟨bs, hb, hk⟩ := DpNs.repr I t rv (by simpa [PyData.showable] using hs) (fun t ht => Nat.le_trans (listText_mem_le ht) hz')
    obtain ⟨as, rr⟩ := whole
    have hna : a ∉ bs := not_mem_of_deeper rr (by simp only [PyData.depth]; omega) hb
    refine ⟨a :: bs, ReadAtMost.cons rr (by simp only [PyData.depth]; omega) hb, ?_⟩
    simp only [PyData.depth, PyData.shown]
    cases its with
    | nil =>
      have e : ds = [] := by
        cases rv
        cases t
        rfl
      subst e
      simp only [PyData.shownAll, listText_nil]
      exact ReprK.listEmpty ho hc hda
    | cons x l => exact ReprK.list ho hc hda hna (by simpa using hk.length_eq) (fun i y e => hk.item i y (by simpa using e))
  | _, _, _, .tup (a := a) (ds := ds) h t, r, hs, hz => by
    have whole := DpN.reads I (.tup h t) r
    cases r
    obtain ⟨its, rv, ⟨o, ho, hc, n, hda⟩, _⟩ := I.tuple h
    have hz' : (tupleText (PyData.shownAll ds)).length ≤ sizeLine := by simpa only [PyData.shown] using hz
    obtain ⟨bs, hb, hk⟩ := DpNs.repr I t rv (by simpa [PyData.showable] using hs) (fun t ht => Nat.le_trans (tupleText_mem_le ht) hz')
    obtain ⟨as, rr⟩ := whole
    have hna : a ∉ bs := not_mem_of_deeper rr (by simp only [PyData.depth]; omega) hb
    refine ⟨a :: bs, ReadAtMost.cons rr (by simp only [PyData.depth]; omega) hb, ?_⟩
    simp only [PyData.depth, PyData.shown]
    exact ReprK.tuple ho hc hda hna hk
  | _, _, _, .dct (a := a) (kvs := kvs) (ds := ds) h t, r, hs, hz => by
    have whole := DpN.reads I (.dct h t) r
    cases r
    obtain ⟨lo, o, es, ep, ho, hc, hda, rv, rk, e2⟩ := dct_parts I h t
    have ih := DpNs.repr I t rv
    revert hs hz whole rk
    generalize hkv : (kvs.map fun q => flatD (kV q.1)).zip ds = kd at e2 ⊢
    intro hs hz whole rk
    have hz' : (dictText (PyData.shownKv kd)).length ≤ sizeLine := by simpa only [PyData.shown] using hz
    obtain ⟨hs1, hs2⟩ := PyData.showableKv_split kd (by simpa [PyData.showable] using hs)
    obtain ⟨b1, hb1, k1⟩ := ReprAllK.of_readsAll (prog := X.prog) (w := X.w) rk hs1 (fun _ => List.not_mem_nil) (fun t ht => let ⟨p, hp, hl⟩ := PyData.shownKv_key_le kd t ht; Nat.le_trans hl (Nat.le_trans (dictText_mem_le hp) hz'))
    obtain ⟨b2, hb2, k2⟩ := ih (by rw [← e2]; exact hs2) (fun t ht => let ⟨p, hp, hl⟩ := PyData.shownKv_val_le kd t (by rw [e2]; exact ht); Nat.le_trans hl (Nat.le_trans (dictText_mem_le hp) hz'))
    rw [← e2] at hb2 k2
    obtain ⟨as, rr⟩ := whole
    have hb : ReadAtMost s.heap (PyData.depthKv kd) (b1 ++ b2) := (hb1.mono (PyData.depthAll_keys_le kd)).append (hb2.mono (PyData.depthAll_vals_le kd))
    have hna : a ∉ b1 ++ b2 := not_mem_of_deeper rr (by simp only [PyData.depth]; omega) hb
    refine ⟨a :: (b1 ++ b2), ReadAtMost.cons rr (by simp only [PyData.depth]; omega) hb, ?_⟩
    simp only [PyData.depth, PyData.shown, PyData.shownKv_eq]
    exact ReprK.dict ho hc hda lo hna (ReprEntriesK.of_two es.toList _ _
      (k1.more_le (fun b hb => List.mem_append_left _ hb) (PyData.depthAll_keys_le kd)) (k2.more_le (fun b hb => List.mem_append_right _ hb) (PyData.depthAll_vals_le kd)))
theorem DpNs.repr (I : Inv X pins σ H s) : ∀ {xs : List V} {ds : List PyData} {us : List Value}, DpNs X.K H xs ds → Vals xs us → PyData.showableAll ds = true → (∀ t ∈ PyData.shownAll ds, t.length ≤ sizeLine) →
    ∃ bs, ReadAtMost s.heap (PyData.depthAll ds) bs ∧ ReprAllK X.prog X.w bs s.heap (PyData.depthAll ds) us (PyData.shownAll ds)
  | _, _, _, .nil, .nil, _, _ => ⟨[], (fun _ h => nomatch h), by simp only [PyData.shownAll]; exact .nil⟩
  | _, _, _, .cons (d := d) (ds := ds) h t, .cons r rs, hs, hz => by
    have hs' : d.showable = true ∧ PyData.showableAll ds = true := by simpa [PyData.showableAll] using hs
    obtain ⟨b1, hb1, k1⟩ := DpN.repr I h r hs'.1 (hz _ (by simp only [PyData.shownAll]; exact List.mem_cons_self ..))
    obtain ⟨b2, hb2, k2⟩ := DpNs.repr I t rs hs'.2 (fun t ht => hz t (by simp only [PyData.shownAll]; exact List.mem_cons_of_mem _ ht))
    refine ⟨b1 ++ b2, ?_, ?_⟩
    · simp only [PyData.depthAll]
      exact (hb1.mono (Nat.le_max_left _ _)).append (hb2.mono (Nat.le_max_right _ _))
    · simp only [PyData.depthAll, PyData.shownAll]
      exact .cons ((k1.more fun b hb => List.mem_append_left _ hb).level_le (Nat.le_max_left _ _)) (k2.more_le (fun b hb => List.mem_append_right _ hb) (Nat.le_max_right _ _))
end
theorem repr_tree {A : Around} {E : Value → Shared → Prop} {Q : Value → Shared → Prop} (I : Inv X pins σ H s) {a : Addr} {d : PyData} (hd : DpN X.K H (.ref a) d) (hs : d.showable = true) (hg : A.guards = some []) (hu : A.units + (d.depth + 1) < cLine) (hz : d.shown.length ≤ sizeLine)
    (hQ : ∀ h' u tk, (∀ b o, s.heap.get? b = some o → h'.get? b = some o) → Q (.str d.shown u) { s with heap := h', toks := tk }) : wpAny (model X.prog X.w) A (call (.builtin "repr") [.ref a]) Q E s := by
  have whole := DpN.reads I hd rfl
  cases hd with
  | flat h => cases h
  | @lst _ xs ds h t =>
    obtain ⟨its, rv, ⟨o, n, ho, hc, _, hda⟩, _⟩ := I.list (.inl h)
    have hz' : (listText (PyData.shownAll ds)).length ≤ sizeLine := by simpa only [PyData.shown] using hz
    obtain ⟨bs, hb, hk⟩ := DpNs.repr I t rv (by simpa [PyData.showable] using hs) (fun t ht => Nat.le_trans (listText_mem_le ht) hz')
    obtain ⟨as, rr⟩ := whole
    have hna : a ∉ bs := not_mem_of_deeper rr (by simp only [PyData.depth]; omega) hb
    simp only [PyData.depth] at hu
    simp only [PyData.shown] at hQ
    refine call_repr_slot (by omega) ⟨o, ho, hc⟩ F.slot_list_repr.toG ?_
    cases its with
    | nil =>
      have e : ds = [] := by
        cases rv
        cases t
        rfl
      subst e
      refine call_list_repr_empty ⟨o, ho, hc⟩ ho hda ⟨_, _, rfl, ?_⟩
      have := hQ s.heap s.toks (s.toks + 1) fun _ _ e => e
      simp only [PyData.shownAll, listText_nil] at this
      exact this
    | cons x l =>
      exact call_list_reprK ho hc hda hna (by simpa using hk.length_eq) (fun i y e => hk.item i y (by simpa using e)) (A := A.in1) hg (fun b _ => Clear.nil b) (by show A.units + 1 + (PyData.depthAll ds + 1) < cLine; omega) (fun _ _ e => e) (fun h' u tk hk => ⟨_, _, rfl, hQ h' u tk hk⟩) hz'
  | @tup _ xs ds h t =>
    obtain ⟨its, rv, ⟨o, ho, hc, n, hda⟩, _⟩ := I.tuple h
    have hz' : (tupleText (PyData.shownAll ds)).length ≤ sizeLine := by simpa only [PyData.shown] using hz
    obtain ⟨bs, hb, hk⟩ := DpNs.repr I t rv (by simpa [PyData.showable] using hs) (fun t ht => Nat.le_trans (tupleText_mem_le ht) hz')
    obtain ⟨as, rr⟩ := whole
    have hna : a ∉ bs := not_mem_of_deeper rr (by simp only [PyData.depth]; omega) hb
    simp only [PyData.depth] at hu
    simp only [PyData.shown] at hQ
    refine call_repr_slot (by omega) ⟨o, ho, hc⟩ F.slot_tuple_repr ?_
    exact call_tuple_reprK ho hc hda hna hk (A := A.in1) hg (fun b _ => Clear.nil b) (by show A.units + 1 + (PyData.depthAll ds + 1) < cLine; omega) (fun _ _ e => e) (fun h' u tk hk => ⟨_, _, rfl, hQ h' u tk hk⟩) hz'
  | @dct _ kvs ds h t =>
    obtain ⟨lo, o, es, ep, ho, hc, hda, rv, rk, e2⟩ := dct_parts I h t
    have ih := DpNs.repr I t rv
    revert hs hz hu hQ whole rk
    generalize hkv : (kvs.map fun q => flatD (kV q.1)).zip ds = kd at e2 ⊢
    intro hs hu hz hQ whole rk
    have hz' : (dictText (PyData.shownKv kd)).length ≤ sizeLine := by simpa only [PyData.shown] using hz
    obtain ⟨hs1, hs2⟩ := PyData.showableKv_split kd (by simpa [PyData.showable] using hs)
    obtain ⟨b1, hb1, k1⟩ := ReprAllK.of_readsAll (prog := X.prog) (w := X.w) rk hs1 (fun _ => List.not_mem_nil) (fun t ht => let ⟨p, hp, hl⟩ := PyData.shownKv_key_le kd t ht; Nat.le_trans hl (Nat.le_trans (dictText_mem_le hp) hz'))
    obtain ⟨b2, hb2, k2⟩ := ih (by rw [← e2]; exact hs2) (fun t ht => let ⟨p, hp, hl⟩ := PyData.shownKv_val_le kd t (by rw [e2]; exact ht); Nat.le_trans hl (Nat.le_trans (dictText_mem_le hp) hz'))
    rw [← e2] at hb2 k2
    obtain ⟨as, rr⟩ := whole
    have hb : ReadAtMost s.heap (PyData.depthKv kd) (b1 ++ b2) := (hb1.mono (PyData.depthAll_keys_le kd)).append (hb2.mono (PyData.depthAll_vals_le kd))
    have hna : a ∉ b1 ++ b2 := not_mem_of_deeper rr (by simp only [PyData.depth]; omega) hb
    simp only [PyData.depth] at hu
    simp only [PyData.shown, PyData.shownKv_eq] at hQ
    refine call_repr_slot (by omega) ⟨o, ho, hc⟩ F.slot_dict_repr ?_
    exact call_dict_reprK ho hc hda lo hna (ReprEntriesK.of_two es.toList _ _
      (k1.more_le (fun b hb => List.mem_append_left _ hb) (PyData.depthAll_keys_le kd)) (k2.more_le (fun b hb => List.mem_append_right _ hb) (PyData.depthAll_vals_le kd))) (A := A.in1) hg (fun b _ => Clear.nil b) (by show A.units + 1 + (PyData.depthKv kd + 1) < cLine; omega) (fun _ _ e => e) (fun h' u tk hk => ⟨_, _, rfl, hQ h' u tk hk⟩) (by rw [← PyData.shownKv_eq]; exact hz')
theorem dpN_flat {K : PySem.W.Frag} {H : Hp} : ∀ {x : V}, flatOk x = true → Dp K H x (flatD x)
  | .non, _ => .non
  | .bl b, _ => .bl b
  | .int i, _ => .int i
  | .str x, _ => .str x
/-- lists of flat things -/
theorem dpNs_flat {K : PySem.W.Frag} {H : Hp} : ∀ {xs : List V}, (∀ x ∈ xs, flatOk x = true) → DpNs K H xs (xs.map flatD)
  | [], _ => .nil
  | x :: xs, h => .cons (.flat (h x (List.mem_cons_self ..))) (dpNs_flat fun y hy => h y (List.mem_cons_of_mem _ hy))
def rReprN (K : PySem.W.Frag) : List V → Hp → VK → Prop := fun vs H Q => ∃ (x : V) (d : PyData), vs = [x] ∧ DpN K H x d ∧ d.showable = true ∧ d.depth ≤ 8 ∧ d.shown.length ≤ sizeLine ∧ Q (.str d.shown) H
theorem call_reprN {k : Nat} (hr : RoomG k X.A) : CallR X (.builtin "repr") (rReprN X.K) := by
  intro pins s σ H xs us Q I r h
  obtain ⟨x, d, rfl, hd, hs, hdep, hz, q⟩ := h
  cases x with
  | ref a =>
    obtain ⟨u, rfl, ru⟩ := vals1 r
    cases ru
    have hu : X.A.units + (d.depth + 1) < cLine := by have := hr.toRoom.units; omega
    exact repr_tree I hd hs hr.gd hu hz (fun h' u tk hk => ⟨.str _, H, I.kept (t' := tk) hk, ⟨_, rfl⟩, q⟩)
  | _ => exact call_reprG hr pins s σ H _ us Q I r ⟨_, d, rfl, by cases hd with | flat h => exact .inl (dpN_flat h), hs, hdep, hz, q⟩
end
end KC
namespace KC
open PySem PySem.Spec PyProof.Rows L2
/-! ### enumerate(list, start=k) -/
/-- the list at a as it stands at each turn, each item in a new pair with its index from lo on -/
def ItE1 (K : PySem.W.Frag) (a : Addr) (lo : Int) : It :=
  ⟨fun i H => ∃ (xs : List V) (x : V), SqL K H a xs ∧ xs[i]? = some x,
    fun i H v H' => ∃ (T : Addr) (x : V), v = .ref T ∧ H T = none ∧ H' = L2.upd H T (.tup [.int (lo + (i : Nat)), x]) ∧ ∀ xs, SqL K H a xs → xs[i]? = some x,
    fun i H => ∃ xs : List V, SqL K H a xs ∧ xs.length = i⟩
theorem turn_enum1 {P : Program} {w : World} {K : PySem.W.Frag} {elts : List Expr} {kk : Nat} {tpos : Pos} {a e it : Addr} {lo : Int} (hei : e ≠ it) (hea : e ≠ a) (hai : a ≠ it) :
    Turn P w K (.Tuple elts kk tpos) (ItE1 K a lo) [e, it] e (fun i h => (∃ old, IsEnum h e it (lo + (i : Nat)) old) ∧ h.IsListIter it a i) where
  mem := by simp
  obj := fun i h st c hc => by
    obtain ⟨⟨old, he⟩, ⟨o, ho, _, hd⟩⟩ := st
    rcases List.mem_cons.mp hc with q | q
    · rw [q]; exact ⟨_, he, fun v q => nomatch q⟩
    · rw [List.mem_singleton.mp q]; exact ⟨o, ho, fun v q => by rw [hd] at q; cases q⟩
  keep := fun i h h' st k => ⟨let ⟨old, he⟩ := st.1; ⟨old, k e (by simp) _ he⟩, st.2.at fun o q => k it (by simp) o q⟩
  item := by
    intro X hP hw hK hc i pins s σ H E I hf st hg
    subst hP hw hK
    obtain ⟨⟨old, he⟩, hit⟩ := st
    obtain ⟨xs, x, hq, hx⟩ := hg
    obtain ⟨its, rv, p, _⟩ := I.list hq
    obtain ⟨u, hu, ru⟩ := rv.get hx
    have hel : e < s.heap.objs.size := Heap.lt_size he
    have hlt : i < its.toArray.size := by
      have := (List.getElem?_eq_some_iff.mp hu).1
      simpa using this
    have D := Draws.list (prog := X.prog) (w := X.w) (A := X.A.in1) (show X.A.in1.handled = none from I.ok.hd hc) it a hai its.toArray
    refine wpAny_pyNext_enum_itemC D he ⟨hit, p.isList⟩ hlt hei (by simp [hei, hea]) fun y h' tk hy ho st' hT hsz hk => ?_
    have ey : u = y := by
      have : its[i]? = some y := by rw [← Array.getElem?_toList] at hy; exact hy
      rw [hu] at this
      exact Option.some.inj this
    subst ey
    refine ⟨_, rfl, wpAny_letOwnedTupleGo_enum (s := { s with heap := h', toks := tk + 1 }) ho fun h'' he' sb => ?_⟩
    have hT2 : h''.get? s.heap.objs.size = some { cls := .type "tuple", data := .seq #[.int (lo + (i : Nat)) tk, u] } := (sb.2 _ (Nat.ne_of_gt hel)).trans hT
    have new : ObjOk X.prog X.w (L2.upd H s.heap.objs.size (.tup [.int (lo + (i : Nat)), x])) h'' s.heap.objs.size (.tup [.int (lo + (i : Nat)), x]) :=
      ⟨by show 2 ≤ sizeLine; decide, [.int (lo + (i : Nat)) tk, u], .cons ⟨_, rfl⟩ (.cons ru .nil), ⟨_, hT2, rfl, _, rfl⟩⟩
    have I1 : Inv X pins σ (L2.upd H s.heap.objs.size (.tup [.int (lo + (i : Nat)), x])) { s with heap := h'', toks := tk + 1 } :=
      I.turnedNew (t' := tk + 1) (ch := [e, it]) (fun c o hb q => (sb.2 c (fun z => hb (by simp [z]))).trans (hk c o (fun z => hb (by simp [z])) (fun z => hb (by simp [z])) q)) hf (Nat.le_refl _) new
    refine ⟨.ref s.heap.objs.size, _, I1, rfl, ⟨_, x, rfl, I.hok.fresh (Nat.le_refl _), rfl, fun ys hy => by rw [I.list_inj hy hq]; exact hx⟩, ⟨⟨u, ?_⟩, st'.1.at fun o q => (sb.2 it (Ne.symm hei)).trans q⟩, fun c hcm => ?_⟩
    · rw [show lo + ((i + 1 : Nat) : Int) = lo + (i : Nat) + 1 by omega]
      exact he'
    · have hlt : c < s.heap.objs.size := by
        rcases List.mem_cons.mp hcm with q | q
        · rw [q]; exact hel
        · rw [List.mem_singleton.mp q]
          obtain ⟨_, e2, _⟩ := hit
          exact Heap.lt_size e2
      rw [upd_ne (Nat.ne_of_lt hlt)]
      exact (hf c hcm).1
  done := by
    intro X hP hw hK hc i pins s σ H E I hf st hg
    subst hP hw hK
    obtain ⟨⟨old, he⟩, hit⟩ := st
    obtain ⟨xs, hq, hl⟩ := hg
    obtain ⟨its, rv, p, _⟩ := I.list hq
    have l1 := rv.length
    have e1 : its.toArray.size = i := by rw [List.size_toArray]; omega
    have D := Draws.list (prog := X.prog) (w := X.w) (A := X.A.in1) (show X.A.in1.handled = none from I.ok.hd hc) it a hai its.toArray
    obtain ⟨f0, f1, f2, f3, f4, f5⟩ := hf it (by simp)
    exact wpAny_pyNext_enum_endD D he (by rw [e1]; exact ⟨hit, p.isList⟩) fun h' eb => ⟨rfl, I.turned (t' := s.toks) (fun b o hb q => eb b o hb q) f0 f1 f3 f4 f5⟩
  self := fun A i s Q E st h => let ⟨_, he⟩ := st.1; wpAny_pyIter_enum he h
theorem callWith_typeK {M : Model} {A : Around} {E : Value → Shared → Prop} {s : Shared} {env : Env} {pos : Pos} {T : String} {e : Expr} {rest : List Expr} {kws : List Keyword} {Q : Value → Shared → Prop}
    (h : wpAny M A (spliced (backTo pos (starEach (e :: rest) env))) (fun vs s₁ => wpAny M A (evalAll ((backToKw pos (keywordEach kws env)).map (·.2))) (fun ks s₂ => wpAny M A (call (.type T) vs (((backToKw pos (keywordEach kws env)).filterMap (·.1)).zip ks)) Q E s₂) E s₁) E s)
    (he : backTo pos (starEach (e :: rest) env) = (false, eval e env) :: backTo pos (starEach rest env) := by rfl)
    (hpl : (backTo pos (starEach (e :: rest) env)).any (·.1) = false := by rfl) (hall : (backToKw pos (keywordEach kws env)).all (·.1.isSome) = true := by rfl) (hno : (backToKw pos (keywordEach kws env)).any (·.1.isNone) = false := by rfl) :
    wpAny M A (callWith pos (.type T) [] (backTo pos (starEach (e :: rest) env)) (backToKw pos (keywordEach kws env))) Q E s := by
  have k : wpAny M A (evalArgs (.type T) true (backTo pos (starEach (e :: rest) env)) (backToKw pos (keywordEach kws env))) (fun a s₁ => wpAny M A (call (.type T) ([] ++ a.pos) a.kw) Q E s₁) E s := by
    rw [he] at h ⊢
    exact evalArgs_kwB hall h
  unfold callWith
  refine wpAny_bind (wpAny_holding (wpAny_mono k (fun a s₁ h₁ => wpAny_bind (wpAny_standAt ?_)) fun _ _ x => x))
  simp only [hpl, hno, Bool.or_false]
  exact wpAny_bind (wpAny_pure (wpAny_bind (wpAny_mono h₁ (fun r s₂ hr => wpAny_bind (wpAny_holding (wpAny_point (wpAny_pure hr)))) fun _ _ x => x)))
def iEnum1 (K : PySem.W.Frag) (ta tk : TA) : TI := fun σ H R => ta σ H fun vs H1 => tk σ H1 fun zs H2 => ∃ (a : Addr) (xs : List V) (lo : Int), vs = [.ref a] ∧ zs = [.int lo] ∧ SqL K H2 a xs ∧ -(2 ^ 63) ≤ lo ∧ lo < 2 ^ 63 ∧ R (ItE1 K a lo) H2
theorem pi_enum1 {X : Cx} {K : PySem.W.Frag} {e : Expr} {kws : List Keyword} {ta tk : TA} {p pos tpos : Pos} {elts : List Expr} {kk : Nat} (hg : Gl X "enumerate") (hm : X.mg "enumerate" = none) (ha : PA X [e] ta) (hk : PK X kws tk)
    (he : backTo pos (starEach [e] X.env) = (false, eval e X.env) :: backTo pos (starEach [] X.env) := by rfl) (hpl : (backTo pos (starEach [e] X.env)).any (·.1) = false := by rfl)
    (hall : (backToKw pos (keywordEach kws X.env)).all (·.1.isSome) = true := by rfl) (hno : (backToKw pos (keywordEach kws X.env)).any (·.1.isNone) = false := by rfl) (hks : (backToKw pos (keywordEach kws X.env)).filterMap (·.1) = [Str.ofString "start"] := by rfl) (hK : X.K = K := by rfl) :
    PI X (.Tuple elts kk tpos) (.Call (.Name "enumerate" p) [e] kws pos) (iEnum1 K ta tk) := by
  subst hK
  refine ⟨fun pins s σ H R I h => ?_⟩
  refine wpAny_Call_Name_kw (ld_blt I hg hm boot_enumerate (callWith_typeK (thn (ha.run pos pins s σ H _ I h) fun us s1 ⟨vs, H1, I1, r1, q1⟩ => thn (hk.run pos pins s1 σ H1 _ I1 q1) fun ws s2 ⟨zs, H2, I2, r2, q2⟩ => ?_) he hpl hall hno))
  rw [hks]
  obtain ⟨a, xs, lo, rfl, rfl, hq, l0, l1, q⟩ := q2
  cases r1 with
  | cons r rr =>
    cases rr
    cases r
    cases r2 with
    | cons z zz =>
      cases zz
      obtain ⟨t, rfl⟩ := z
      obtain ⟨its, rv, p', _⟩ := I2.list hq
      have la : a < s2.heap.objs.size := p'.lt
      refine enum_begins_start (begins_list a its.toArray) p'.isList l0 l1 fun h' he hit hsz hk => wpAny_pyIter_enum he ?_
      have I3 : Inv X pins σ H2 { s2 with heap := h' } := I2.kept (t' := s2.toks) hk
      refine ⟨s2.heap.objs.size + 1, [s2.heap.objs.size + 1, s2.heap.objs.size], _, _, H2, rfl, I3, turn_enum1 (lo := lo) (Nat.succ_ne_self _) (Ne.symm (Nat.ne_of_lt (Nat.lt_succ_of_lt la))) (Nat.ne_of_lt la), ⟨⟨.none, ?_⟩, ⟨_, hit, rfl, rfl⟩⟩, fun b hb => ?_, q⟩
      · rw [show lo + ((0 : Nat) : Int) = lo by omega]
        exact he
      · have hle : s2.heap.objs.size ≤ b := by
          rcases List.mem_cons.mp hb with q | q
          · rw [q]; exact Nat.le_succ _
          · rw [List.mem_singleton.mp q]; exact Nat.le_refl _
        exact I2.fpOk hle (I2.hok.fresh hle)
theorem walk_enum1 {K : PySem.W.Frag} {a : Addr} {xs : List V} {lo : Int} : Walk (ItE1 K a lo) xs.length (fun H => SqL K H a xs) (fun i H v H' => ∃ (T : Addr) (x : V), v = .ref T ∧ H T = none ∧ H' = L2.upd H T (.tup [.int (lo + (i : Nat)), x]) ∧ xs[i]? = some x) :=
  ⟨fun i _ hi q => ⟨xs, xs[i], q, by simp [hi]⟩, fun _ q => ⟨xs, q, rfl⟩, fun _ _ _ _ _ q ⟨T, x, h1, h2, h3, h4⟩ => ⟨T, x, h1, h2, h3, h4 xs q⟩⟩
abbrev ForG (J : It) (g : TG) (tb : TS) (D : Ends) (σ : L2.St) (H : Hp) : Prop :=
  ∃ W : Nat → Nat → L2.St → Hp → Prop, (∃ m, W 0 m σ H) ∧ ∀ i m σ H, W i m σ H → (J.stop i H ∧ D.nx σ H) ∨ (J.go i H ∧ ∃ N : L2.St → Hp → Prop, (∀ σ' H', N σ' H' → ∃ m', m' < m ∧ W (i + 1) m' σ' H') ∧
    ∀ x H', J.yld i H x H' → g x σ H' fun σ2 H2 => tb { D with nx := N, ct := N, bk := D.nx } σ2 H2)
/-- for i, x in enumerate(xs, start=lo) -/
theorem for_enum1 {K : PySem.W.Frag} {a : Addr} {xs : List V} {lo : Int} {g : TG} {tb : TS} {D : Ends} {σ : L2.St} {H : Hp} (Pv : Nat → L2.St → Hp → Prop) (h0 : Pv 0 σ H) (hq : ∀ i σ H, Pv i σ H → SqL K H a xs)
    (hs : ∀ (i : Nat) (x : V) (T : Addr) (σ : L2.St) (H : Hp), xs[i]? = some x → Pv i σ H → H T = none → g (.ref T) σ (L2.upd H T (.tup [.int (lo + (i : Nat)), x])) fun σ2 H2 => tb { D with nx := Pv (i + 1), ct := Pv (i + 1), bk := D.nx } σ2 H2)
    (hd : ∀ σ H, Pv xs.length σ H → D.nx σ H) : ForG (ItE1 K a lo) g tb D σ H :=
  for_it walk_enum1 Pv h0 (fun i σ H _ h => hq i σ H h) (fun i v σ H H' hi hP ⟨T, x, e1, e2, e3, e4⟩ => by subst e1; subst e3; exact hs i x T σ H e4 hP e2) hd
end KC
namespace KC
open PySem PySem.Spec PyProof.Rows L2 Srt
/-! ### set(v): the new set, v's iterator, the loop -/
def setO0 (w : World) : Obj := { cls := .type "set", dict := none, data := .set #[] 0 (.fresh 0 0 (!w.params.followText "set-order")) }
section
variable {P : Program} {w : World} {A : Around} {E : Value → Shared → Prop} {s : Shared}
theorem set_call {l : Addr} {ov : Obj} {T : String} {o : Obj} {Hb : Heap → Prop} {Q : Value → Shared → Prop} (B : Begins (.ref l) o Hb) (hv : Hb s.heap) (hl : s.heap.get? l = some ov) (hcl : ov.cls = .type T) (n1 : isSubtype (.type T) (.type "set") = pure false)
    (n2 : isSubtype (.type T) (.type "frozenset") = pure false) (n3 : (Value.type T == Value.type "dict") = false)
    (h : ∀ (A' : Around) (R : Result → Shared → Prop), (A.handled = none → A'.in1.handled = none) → (∀ s', Q (.ref s.heap.objs.size) s' → R (.ok (.ret .none)) s') →
      codeAny (model P w) A' (.builtin "set.update.loop" ⟨[.ref s.heap.objs.size, .ref (s.heap.objs.size + 1)], []⟩) R { s with heap := (s.heap.push (setO0 w)).push o }) :
    wpAny (model P w) A (call (.type "set") [.ref l]) Q E s := by
  have hz : (s.heap.push (setO0 w)).objs.size = s.heap.objs.size + 1 := Heap.size_push ..
  obtain ⟨c, tl, hmro⟩ := F.called_set.mro
  have hmade := F.called_set.made
  have hsub := F.called_set.sub
  refine wpAny_call (codeAny_of_tree ?_)
  show wpAny _ _ (callAny (.type "set") _) _ _ _
  refine wpAny_pure ⟨Code.quiet_builtin _ (by decide +kernel), codeAny_builtin F.entry_type_call ?_⟩
  rw [Around.under_plain (weight_type_call_type "set" [.ref l] []) rfl]
  have h1 := F.called_set.notType
  have h2 := F.called_set.canCreate
  have hct := F.typeCall_set_1 (.ref l)
  repeat (any_goals (first | assumption | wp_step))
  refine codeAny_mono (L2.code_set_led1 (.ref l) (E := E) (Q₁ := fun x s₁ => x = .ref s.heap.objs.size ∧ s₁ = { s with heap := s.heap.push (setO0 w) }) ⟨rfl, rfl⟩) fun r s₁ hr => ?_
  rcases r with e | fl
  · exact hr
  cases fl with
  | ret obj =>
    obtain ⟨rfl, rfl⟩ := hr
    have hT : Shared.TypeIs { s with heap := s.heap.push (setO0 w) } (.ref s.heap.objs.size) "set" := ⟨_, Heap.get?_push_size _ rfl, rfl⟩
    have hli := F.called_set.init.lookup
    have hbi := F.called_set.init.bind (.ref s.heap.objs.size)
    repeat (any_goals (first | assumption | wp_step))
    refine codeAny_mono (codeAny_call_builtin (R := wants (fun r s₂ => r = .none ∧ Q (.ref s.heap.objs.size) s₂) E) F.called_set.init.plain F.entry_set_init (check_set_init_1 hT ?_)) fun r₂ s₂ hr₂ => ?_
    · have ht' : Shared.TypeIs { s with heap := s.heap.push (setO0 w) } (.ref l) T := ⟨ov, Heap.get?_push_of_some _ hl, hcl⟩
      have hS : (s.heap.push (setO0 w)).get? s.heap.objs.size = some (setO0 w) := Heap.get?_push_size _ rfl
      unfold Builtin.«set.__init__» noKeywords Builtin.Frozenset.updateFrom
      unfold setO0 at *
      generalize hPI : pyIter = PI
      wp_walk
      subst hPI
      refine B.iter _ _ _ _ _ _ (B.keeps _ _ hv fun b o' e => Heap.get?_push_of_some _ e) ?_
      refine wpAny_bind (wpAny_runValue ?_)
      rw [show (s.heap.push { cls := Value.type "set", dict := none, data := Data.set #[] 0 (SetTable.fresh 0 0 !w.params.followText "set-order") }).objs.size = s.heap.objs.size + 1 from Heap.size_push ..]
      refine h _ _ (fun e => by simp [e]) fun s' hq => ?_
      show wpAny _ _ _ _ _ _
      refine wpAny_pure ?_
      show wpAny _ _ (ret Value.none) _ _ _
      exact wpAny_pure ⟨rfl, hq⟩
    · rcases r₂ with e | fl₂
      · exact hr₂
      cases fl₂ with
      | ret r =>
        obtain ⟨rfl, hq⟩ := hr₂
        repeat (any_goals (first | assumption | wp_step))
      | _ => exact hr₂.elim
  | _ => exact hr.elim
/-- the texts, each once, in the order in which they are met -/
def uniqS (xs : List Str) : List Str := xs.foldl addS []
theorem uniqS_snoc (xs : List Str) (x : Str) : uniqS (xs ++ [x]) = addS (uniqS xs) x := by
  unfold uniqS
  rw [List.foldl_append]
  rfl
theorem addS_fold : ∀ (xs acc : List Str), acc.Nodup → (xs.foldl addS acc).Nodup ∧ (∀ x, x ∈ xs.foldl addS acc ↔ x ∈ acc ∨ x ∈ xs) ∧ (xs.foldl addS acc).length ≤ acc.length + xs.length
  | [], acc, h => ⟨h, fun x => by simp, Nat.le_refl _⟩
  | y :: l, acc, h => by
    obtain ⟨h1, h2, h3⟩ := addS_fold l (addS acc y) (addS_nodup h)
    refine ⟨h1, fun x => ?_, ?_⟩
    · rw [List.foldl_cons, h2 x, addS_mem, List.mem_cons, or_assoc]
    · have := addS_len (ys := acc) (y := y)
      rw [List.foldl_cons, List.length_cons]
      omega
theorem uniqS_all (xs : List Str) : (uniqS xs).Nodup ∧ (∀ x, x ∈ uniqS xs ↔ x ∈ xs) ∧ (uniqS xs).length ≤ xs.length := by
  obtain ⟨h1, h2, h3⟩ := addS_fold xs [] List.nodup_nil
  exact ⟨h1, fun x => by rw [uniqS, h2 x]; simp, by rw [List.length_nil, Nat.zero_add] at h3; exact h3⟩
theorem any_beq {xs : List Str} {k : Str} : xs.any (· == k) = true ↔ k ∈ xs := by
  rw [List.any_eq_true]
  constructor
  · rintro ⟨y, hy, e⟩
    rw [← eq_of_beq e]
    exact hy
  · exact fun h => ⟨k, h, beq_self_eq_true k⟩
theorem set_loopS {I : Addr} {fp wr : List Addr} {G : Array GenState → Array GenState → Prop} {n : Nat} {Pv : Nat → Value → Prop} {St : Nat → Shared → Prop} {R : Result → Shared → Prop}
    (W : WalksS P w A.in1 I fp wr G n Pv St) (S : Addr) (hSf : S ∉ fp) (xs : List Str) (hn : n = xs.length) (hb : n + 1 < scanBound) (hval : ∀ i v, Pv i v → ∃ x t, xs[i]? = some x ∧ v = .str x t)
    (hR : ∀ s', Moved (S :: wr) G s s' → s'.heap.SetOf (PySem.strKind P w) S (fun k => (uniqS xs).any (· == k)) (uniqS xs).length → R (.ok (.ret .none)) s') (h0 : St 0 s) (hS : s.heap.SetOf (PySem.strKind P w) S (fun k => ([] : List Str).any (· == k)) 0) :
    codeAny (model P w) A (.builtin "set.update.loop" ⟨[.ref S, .ref I], []⟩) R s := by
  have sub : ∀ b ∈ wr, b ∈ S :: wr := fun b hb => List.mem_cons_of_mem _ hb
  have go : ∀ (m i : Nat) (s1 : Shared), m + i = n → St i s1 → s1.heap.SetOf (PySem.strKind P w) S (fun k => (uniqS (xs.take i)).any (· == k)) (uniqS (xs.take i)).length →
      (∀ s', Moved (S :: wr) G s1 s' → s'.heap.SetOf (PySem.strKind P w) S (fun k => (uniqS xs).any (· == k)) (uniqS xs).length → R (.ok (.ret .none)) s') →
      codeAny (model P w) A (.builtin "set.update.loop" ⟨[.ref S, .ref I], []⟩) R s1 := by
    intro m
    induction m with
    | zero =>
      intro i s1 e st hs hr
      obtain rfl : i = n := by omega
      rw [hn, List.take_length] at hs
      refine codeAny_builtin PyProof.Rows.F.entry_set_update_loop ?_
      rw [Around.under_plainId PyProof.Rows.F.plain_set_update_loop _]
      refine wpAny_bind (W.done s1 _ _ st fun s' mv => wpAny_pure (hr s' (mv.mono sub) ?_))
      obtain ⟨o, es, ep, t, ho, rest⟩ := hs
      exact ⟨o, es, ep, t, mv.heap S _ (fun z => hSf (W.sub _ z)) ho, rest⟩
    | succ m ih =>
      intro i s1 e st hs hr
      refine codeAny_builtin PyProof.Rows.F.entry_set_update_loop ?_
      rw [Around.under_plainId PyProof.Rows.F.plain_set_update_loop _]
      refine wpAny_bind (W.item i s1 _ _ (by omega) st fun v s2 hp st2 mv => ?_)
      obtain ⟨x, t, hx, rfl⟩ := hval i v hp
      have hs2 : s2.heap.SetOf (PySem.strKind P w) S (fun k => (uniqS (xs.take i)).any (· == k)) (uniqS (xs.take i)).length := by
        obtain ⟨o, es, ep, tb, ho, rest⟩ := hs
        exact ⟨o, es, ep, tb, mv.heap S _ (fun z => hSf (W.sub _ z)) ho, rest⟩
      have small : (uniqS (xs.take i)).length + 1 < scanBound := by
        have h1 := (uniqS_all (xs.take i)).2.2
        rw [List.length_take] at h1
        omega
      refine wpAny_bind (wpAny_holding ?_)
      unfold setAdd
      refine wpAny_holding (wpAny_bind ((PySem.strKind P w).pyHash (k := x) (strKind_is _ _ _ _) ?_))
      refine wpAny_setAddHashed_of (knd := PySem.strKind P w) (s := { s2 with toks := s2.toks + 1 }) (strKind_is _ _ _ _) rfl hs2 small fun h' sb hs3 => ?_
      have es : uniqS (xs.take (i + 1)) = addS (uniqS (xs.take i)) x := by rw [take_snoc hx, uniqS_snoc]
      have hs4 : h'.SetOf (PySem.strKind P w) S (fun k => (uniqS (xs.take (i + 1))).any (· == k)) (uniqS (xs.take (i + 1))).length := by
        rw [es]
        refine SetOf_congr hs3 (fun k => ?_) ?_
        · rw [Bool.eq_iff_iff, Bool.or_eq_true, any_beq, decide_eq_true_eq, any_beq, addS_mem]
        · unfold addS
          by_cases hm : x ∈ uniqS (xs.take i)
          · rw [if_pos (any_beq.mpr hm), if_pos hm]
          · rw [if_neg (fun z => hm (any_beq.mp z)), if_neg hm, List.length_append]
            rfl
      refine wpAny_pure ⟨plainId_quiet PyProof.Rows.F.plain_set_update_loop _, ih (i + 1) _ (by omega) (W.frame _ s2 _ _ st2 (Nat.le_succ _) fun b hb o e => ?_) hs4 fun s3 mv3 hs5 => hr s3 (Moved.trans W.gtrans ((mv.mono sub).then_heap (Nat.le_succ _) fun b o hb e => ?_) mv3) hs5⟩
      · rw [sb.2 b fun z => hSf (by rw [← z]; exact hb)]
        exact e
      · rw [sb.2 b fun z => hb (by rw [z]; exact List.mem_cons_self)]
        exact e
  exact go n 0 s (by omega) h0 hS hR
end
/-! ### the rules -/
def SSetO (P : Program) (w : World) (a : Addr) (xs : List Str) : HO := .ext fun h => h.SetOf (PySem.strKind P w) a (fun k => (uniqS xs).any (· == k)) (uniqS xs).length
theorem ssetO_ok {P : Program} {w : World} {H : Hp} {h : Heap} {a : Addr} {xs : List Str} (R : h.SetOf (PySem.strKind P w) a (fun k => (uniqS xs).any (· == k)) (uniqS xs).length) : ObjOk P w H h a (SSetO P w a xs) := by
  have ⟨o, es, ep, t, ho, r⟩ := R
  exact ⟨R, ⟨o, ho⟩, fun _ _ p k => let ⟨o, es, ep, t, ho, r⟩ := p; ⟨o, es, ep, t, k o ho, r⟩⟩
def rSetS (P : Program) (w : World) (K : PySem.W.Frag) : List V → Hp → VK → Prop := fun vs H Q => ∃ (a : Addr) (xs : List Str), vs = [.ref a] ∧ (SqL K H a (xs.map V.str) ∨ SqT K H a (xs.map V.str)) ∧ xs.length + 1 < scanBound ∧ ∀ p, H p = none → Q (.ref p) (L2.upd H p (SSetO P w p xs))
theorem vals_back : ∀ {xs : List V} {us : List Value}, Vals xs us → ∀ {i : Nat} {v : Value}, us[i]? = some v → ∃ y, xs[i]? = some y ∧ RelV y v
  | _, _, .nil, i, v, h => by simp at h
  | _, _, .cons r rr, 0, v, h => ⟨_, rfl, by simp at h; rw [← h]; exact r⟩
  | _, _, .cons r rr, i + 1, v, h => vals_back rr (by simpa using h)
theorem str_at {us : List Value} {xs : List Str} (r : Vals (xs.map V.str) us) {i : Nat} {v : Value} (h : us.toArray[i]? = some v) : ∃ x t, xs[i]? = some x ∧ v = .str x t := by
  have h : us[i]? = some v := by rw [← Array.getElem?_toList] at h; exact h
  obtain ⟨y, hy, ry⟩ := vals_back r h
  obtain ⟨x, hx, rfl⟩ := getMap hy
  obtain ⟨t, rfl⟩ := ry
  exact ⟨x, t, hx, rfl⟩
section
variable {X : Cx}
theorem set_end {pins : List (Addr × Obj)} {σ : L2.St} {H : Hp} {s s' : Shared} {Q : VK} {i : Addr} {u : HO} {o1 o2 : Obj} {s0 : Shared} (I : Inv X pins σ H s) (e0 : s0 = { s with heap := (s.heap.push o1).push o2 }) (ei : i = s.heap.objs.size + 1)
    (mv : Moved [s.heap.objs.size, i] (fun a b => b = a) s0 s') (new : ObjOk X.prog X.w (L2.upd H s.heap.objs.size u) s'.heap s.heap.objs.size u) (q : H s.heap.objs.size = none → Q (.ref s.heap.objs.size) (L2.upd H s.heap.objs.size u)) : EP X pins σ Q (.ref s.heap.objs.size) s' := by
  subst e0
  obtain ⟨h', g', d', t', os'⟩ := s'
  obtain ⟨k, eg, ed, eo, _⟩ := mv
  dsimp only at eg ed eo k new
  subst eg; subst ed; subst eo
  refine ⟨.ref _, _, I.laid (t' := t') (fun b o e => ?_) (Nat.le_refl _) new, rfl, q (I.hok.fresh (Nat.le_refl _))⟩
  have lt := Heap.lt_size e
  exact k b o (by rw [ei]; simp only [List.mem_cons, List.not_mem_nil, or_false, not_or]; exact ⟨Nat.ne_of_lt lt, Nat.ne_of_lt (Nat.lt_succ_of_lt lt)⟩) (Heap.get?_push_of_some _ (Heap.get?_push_of_some _ e))
theorem call_setS (hc : X.calm = true) : CallR X (.type "set") (rSetS X.prog X.w X.K) := by
  intro pins s σ H vs us Q I r h
  obtain ⟨a, xs, rfl, hq, hl, q⟩ := h
  rw [Vals.ref1 r]
  have hd : X.A.handled = none := I.ok.hd hc
  have hz : (s.heap.push (setO0 X.w)).objs.size = s.heap.objs.size + 1 := Heap.size_push ..
  rcases hq with hq | hq
  · obtain ⟨its, rv, p, _⟩ := I.list hq
    have la : a < s.heap.objs.size := p.lt
    have ln : its.toArray.size = xs.length := by rw [List.size_toArray, ← rv.length, List.length_map]
    obtain ⟨ol, hol, hcl, hdl⟩ := p.isList
    refine set_call (begins_list a its.toArray) p.isList hol hcl F.sub_list_set F.sub_list_frozenset (by decide) fun A' R hA hR => ?_
    refine set_loopS (G := fun a b => b = a) ((Walks.list (hA hd) (s.heap.objs.size + 1) a (Nat.ne_of_lt (Nat.lt_succ_of_lt la)) its.toArray).toS) s.heap.objs.size ?_ xs ln (by rw [ln]; exact hl) (fun i v hv => str_at rv hv) (fun s' mv hs => hR s' (set_end I rfl rfl mv (ssetO_ok hs) (q _))) ⟨?_, ?_⟩ ?_
    · simp only [List.mem_cons, List.not_mem_nil, or_false, not_or]
      exact ⟨Nat.ne_of_lt (Nat.lt_succ_self _), Nat.ne_of_gt la⟩
    · refine ⟨{ cls := .type "list_iterator", data := .fields #[.ref a, .int 0 0] }, ?_, rfl, rfl⟩
      rw [← hz]
      exact Heap.get?_push_size _ rfl
    · exact (p.isList.push _).push _
    · exact SetOf_congr ((setObjOf_fresh (knd := PySem.strKind X.prog X.w) (!X.w.params.followText "set-order")).setOf (Heap.get?_push_of_some _ (Heap.get?_push_size _ rfl)) (by unfold scanBound; omega)) (fun _ => rfl) rfl
  · obtain ⟨its, rv, p, _⟩ := I.tuple hq
    obtain ⟨ol, hol, hcl, hdl⟩ := id p
    have la : a < s.heap.objs.size := Heap.lt_size hol
    have ln : its.toArray.size = xs.length := by rw [List.size_toArray, ← rv.length, List.length_map]
    refine set_call (begins_tuple a its.toArray) p hol hcl F.sub_tuple_set F.sub_tuple_frozenset (by decide) fun A' R hA hR => ?_
    refine set_loopS (G := fun a b => b = a) ((Walks.tuple (hA hd) (s.heap.objs.size + 1) a (Nat.ne_of_lt (Nat.lt_succ_of_lt la)) its.toArray).toS) s.heap.objs.size ?_ xs ln (by rw [ln]; exact hl) (fun i v hv => str_at rv hv) (fun s' mv hs => hR s' (set_end I rfl rfl mv (ssetO_ok hs) (q _))) ⟨?_, ?_⟩ ?_
    · simp only [List.mem_cons, List.not_mem_nil, or_false, not_or]
      exact ⟨Nat.ne_of_lt (Nat.lt_succ_self _), Nat.ne_of_gt la⟩
    · refine ⟨{ cls := .type "tuple_iterator", data := .fields #[.ref a, .int 0 0] }, ?_, rfl, rfl⟩
      rw [← hz]
      exact Heap.get?_push_size _ rfl
    · exact (Heap.IsTuple.push p _).push _
    · exact SetOf_congr ((setObjOf_fresh (knd := PySem.strKind X.prog X.w) (!X.w.params.followText "set-order")).setOf (Heap.get?_push_of_some _ (Heap.get?_push_size _ rfl)) (by unfold scanBound; omega)) (fun _ => rfl) rfl
def rLenSS (P : Program) (w : World) : List V → Hp → VK → Prop := fun vs H Q => ∃ (a : Addr) (xs : List Str), vs = [.ref a] ∧ H a = some (SSetO P w a xs) ∧ Q (.int ((uniqS xs).length : Nat)) H
theorem call_lenSS : CallR X (.builtin "len") (rLenSS X.prog X.w) := by
  intro pins s σ H vs us Q I r h
  obtain ⟨a, xs, rfl, ha, q⟩ := h
  rw [Vals.ref1 r]
  obtain ⟨o, es, ep, t, ho, hex, hd, _, _, hb, hf, hn⟩ : s.heap.SetOf (PySem.strKind X.prog X.w) a _ _ := (I.hok a _ ha).1
  have b2 : (es.size : Int) < 2 ^ 63 := by unfold scanBound at hb; omega
  exact call_len_set ho hex hd hf b2 ⟨.int ((uniqS xs).length : Nat), H, I.tok _, ⟨_, by rw [hn]⟩, q⟩
/-- set of a list of ints -/
def rSetI (w : World) (K : PySem.W.Frag) : List V → Hp → VK → Prop := fun vs H Q => ∃ (a : Addr) (ns : List Int), vs = [.ref a] ∧ SqL K H a (ns.map V.int) ∧ ns.length + 1 < scanBound ∧ ∀ p c, H p = none → c ≤ ns.length → Q (.ref p) (L2.upd H p (SetO w p (fun j => decide (j ∈ ns)) c))
theorem call_setI (hc : X.calm = true) : CallR X (.type "set") (rSetI X.w X.K) := by
  intro pins s σ H vs us Q I r h
  obtain ⟨a, ns, rfl, hq, hl, q⟩ := h
  rw [Vals.ref1 r]
  have hd : X.A.handled = none := I.ok.hd hc
  have hz : (s.heap.push (setO0 X.w)).objs.size = s.heap.objs.size + 1 := Heap.size_push ..
  obtain ⟨its, rv, p, _⟩ := I.list hq
  have la : a < s.heap.objs.size := p.lt
  have ln : its.toArray.size = ns.length := by rw [List.size_toArray, ← rv.length, List.length_map]
  obtain ⟨ol, hol, hcl, hdl⟩ := p.isList
  refine set_call (begins_list a its.toArray) p.isList hol hcl F.sub_list_set F.sub_list_frozenset (by decide) fun A' R hA hR => ?_
  refine set_update_ints (G := fun a b => b = a) ((Walks.list (hA hd) (s.heap.objs.size + 1) a (Nat.ne_of_lt (Nat.lt_succ_of_lt la)) its.toArray).toS) s.heap.objs.size ?_ ns ln hl (fun i v hv => ?_) its.toArray.size 0 _ (by omega) (Nat.zero_le _) ⟨?_, ?_⟩ ⟨0, Nat.le_refl _, setR_new_at ?_⟩
    (fun s' c mv hc' hs => hR s' (set_end I rfl rfl mv (setO_new hs) fun hp => q _ c hp (by rw [← ln]; exact hc')))
  · simp only [List.mem_cons, List.not_mem_nil, or_false, not_or]
    exact ⟨Nat.ne_of_lt (Nat.lt_succ_self _), Nat.ne_of_gt la⟩
  · have h : its[i]? = some v := by rw [← Array.getElem?_toList] at hv; exact hv
    obtain ⟨y, hy, ry⟩ := vals_back rv h
    obtain ⟨x, hx, rfl⟩ := getMap hy
    obtain ⟨t, rfl⟩ := ry
    exact ⟨x, t, hx, rfl⟩
  · refine ⟨{ cls := .type "list_iterator", data := .fields #[.ref a, .int 0 0] }, ?_, rfl, rfl⟩
    rw [← hz]
    exact Heap.get?_push_size _ rfl
  · exact (p.isList.push _).push _
  · exact Heap.get?_push_of_some _ (Heap.get?_push_size _ rfl)
end
end KC
namespace KC
open PySem PySem.Spec PyProof.Rows L2
/-! ### how full the levels of a tree are -/
theorem pow_bound {r : Int} (r2 : 2 ≤ r) (r4 : r ≤ 4) {n : Nat} (hn : n ≤ 6) : 1 ≤ r ^ n ∧ r ^ n ≤ 4096 := by
  have : r = 2 ∨ r = 3 ∨ r = 4 := by omega
  have hn' : n = 0 ∨ n = 1 ∨ n = 2 ∨ n = 3 ∨ n = 4 ∨ n = 5 ∨ n = 6 := by omega
  rcases this with rfl | rfl | rfl <;> rcases hn' with rfl | rfl | rfl | rfl | rfl | rfl | rfl <;> decide
/-- what codewords of these lengths fill on a level -/
def fillL (r : Int) (ls : List Nat) (n : Nat) : Int := ((ls.filter fun l => decide (l ≤ n)).map fun l => r ^ (n - l)).sum
/-- how many nodes of a level these strings touch -/
def touchN (ts : List Str) (n : Nat) : Nat := (uniqS ((ts.filter fun t => decide (n < t.length)).map (cutN n))).length
theorem touchN_mem {ts : List Str} {n : Nat} {x : Str} : x ∈ uniqS ((ts.filter fun t => decide (n < t.length)).map (cutN n)) ↔ ∃ t ∈ ts, n < t.length ∧ x = cutS t none (some (n : Int)) := by
  rw [(uniqS_all _).2.1, List.mem_map]
  constructor
  · rintro ⟨t, h1, rfl⟩
    obtain ⟨h1, h2⟩ := List.mem_filter.mp h1
    exact ⟨t, h1, of_decide_eq_true h2, rfl⟩
  · rintro ⟨t, h1, h2, rfl⟩
    exact ⟨t, List.mem_filter.mpr ⟨h1, decide_eq_true h2⟩, rfl⟩
theorem touchN_of {ts : List Str} {n : Nat} {xs : List Str} (hm : ∀ x, x ∈ xs ↔ ∃ t ∈ ts, n < t.length ∧ x = cutS t none (some (n : Int))) (nd : xs.Nodup) : xs.length = touchN ts n :=
  len_eq_of_mem nd (uniqS_all _).1 fun x => by rw [hm x, touchN_mem]
theorem touchN_perm {ts ts' : List Str} (p : ts.Perm ts') (n : Nat) : touchN ts n = touchN ts' n :=
  touchN_of (fun x => by rw [touchN_mem]; exact ⟨fun ⟨t, h1, h2⟩ => ⟨t, p.mem_iff.mp h1, h2⟩, fun ⟨t, h1, h2⟩ => ⟨t, p.mem_iff.mpr h1, h2⟩⟩) (uniqS_all _).1
theorem sum_perm {a b : List Int} (p : a.Perm b) : a.sum = b.sum := by
  induction p with
  | nil => rfl
  | cons x _ ih => rw [List.sum_cons, List.sum_cons, ih]
  | swap x y l => rw [List.sum_cons, List.sum_cons, List.sum_cons, List.sum_cons]; omega
  | trans _ _ h1 h2 => exact h1.trans h2
theorem fillL_perm {r : Int} {ls ls' : List Nat} (p : ls.Perm ls') (n : Nat) : fillL r ls n = fillL r ls' n := by
  unfold fillL
  exact sum_perm ((p.filter _).map _)
def loadAt (r : Int) (fixed : List Str) (ls : List Nat) (i : Nat) : List V := [.int (touchN fixed (i + 1) : Nat), .int (fillL r ls (i + 1))]
def failAt (r : Int) (fixed : List Str) (ls : List Nat) (i : Nat) : Bool := decide (((touchN fixed (i + 1) : Nat) : Int) + fillL r ls (i + 1) > r ^ (i + 1))
/-- the smallest level that fails, from the level i + 1 on -/
def failFrom (r : Int) (fixed : List Str) (ls : List Nat) : Nat → Nat → Option Nat
  | _, 0 => none
  | i, m + 1 => if failAt r fixed ls i = true then some (i + 1) else failFrom r fixed ls (i + 1) m
def failV : Option Nat → V
  | some n => .int (n : Nat)
  | none => .non
theorem uniq_fold : ∀ (xs acc : List Str), acc.Nodup → (xs.foldl addS acc).length = acc.length + xs.length → xs.Nodup ∧ ∀ x ∈ xs, x ∉ acc
  | [], _, _, _ => ⟨List.nodup_nil, fun _ h => nomatch h⟩
  | y :: l, acc, nd, h => by
    rw [List.foldl_cons, List.length_cons] at h
    have le := (addS_fold l (addS acc y) (addS_nodup nd)).2.2
    by_cases hy : y ∈ acc
    · rw [show addS acc y = acc from if_pos hy] at le h
      omega
    · have e : addS acc y = acc ++ [y] := if_neg hy
      have h2 : (l.foldl addS (addS acc y)).length = (addS acc y).length + l.length := by
        rw [h, e, List.length_append, List.length_singleton]
        omega
      obtain ⟨h3, h4⟩ := uniq_fold l (addS acc y) (addS_nodup nd) h2
      refine ⟨List.pairwise_cons.mpr ⟨fun z hz e2 => h4 z hz (addS_mem.mpr (.inr e2.symm)), h3⟩, fun x hx => ?_⟩
      rcases List.mem_cons.mp hx with rfl | hx
      · exact hy
      · exact fun z => h4 x hx (addS_mem.mpr (.inl z))
theorem uniq_nodup {xs : List Str} (h : (uniqS xs).length = xs.length) : xs.Nodup := (uniq_fold xs [] List.nodup_nil (by rw [List.length_nil, Nat.zero_add]; exact h)).1
/-! ### each node of a level is free, touched or filled -/
def fillN (k : Nat) (ls : List Nat) (n : Nat) : Nat := ((ls.filter fun l => decide (l ≤ n)).map fun l => k ^ (n - l)).sum
theorem fillL_nat {r : Int} (r0 : 0 ≤ r) (n : Nat) : ∀ ls : List Nat, fillL r ls n = ((fillN r.toNat ls n : Nat) : Int)
  | [] => rfl
  | l :: t => by
    have ih := fillL_nat r0 n t
    unfold fillL fillN at *
    rw [List.filter_cons]
    by_cases h : l ≤ n
    · rw [if_pos (decide_eq_true h), List.map_cons, List.map_cons, List.sum_cons, List.sum_cons, ih, Int.natCast_add, Int.natCast_pow, Int.toNat_of_nonneg r0]
    · rw [if_neg (by simpa using h)]
      exact ih
theorem fillN_append (k : Nat) (a b : List Nat) (n : Nat) : fillN k (a ++ b) n = fillN k a n + fillN k b n := by
  unfold fillN
  rw [List.filter_append, List.map_append, List.sum_append]
theorem fillN_cons (k l : Nat) (b : List Nat) (n : Nat) : fillN k (l :: b) n = (if l ≤ n then k ^ (n - l) else 0) + fillN k b n := by
  unfold fillN
  rw [List.filter_cons]
  by_cases h : l ≤ n
  · rw [if_pos (decide_eq_true h), if_pos h, List.map_cons, List.sum_cons]
  · rw [if_neg (by simpa using h), if_neg h, Nat.zero_add]
theorem sumN_perm {a b : List Nat} (p : a.Perm b) : a.sum = b.sum := by
  induction p with
  | nil => rfl
  | cons x _ ih => rw [List.sum_cons, List.sum_cons, ih]
  | swap x y l => rw [List.sum_cons, List.sum_cons, List.sum_cons, List.sum_cons]; omega
  | trans _ _ h1 h2 => exact h1.trans h2
theorem fillN_perm {k : Nat} {a b : List Nat} (p : a.Perm b) (n : Nat) : fillN k a n = fillN k b n := sumN_perm ((p.filter _).map _)
theorem pf_nd {ts : List Str} (pf : PF ts) : ts.Nodup := List.Pairwise.imp (fun {a b} h e => by rw [e, cmpS_iff.mpr (.inl (List.prefix_refl _))] at h; cases h) pf
theorem touch_count {ds : List Nat} (hd : ds.Nodup) {ts : List Str} (hc : ∀ t ∈ ts, ∀ c ∈ TL.tl t, c ∈ ds) (n : Nat) : ((lvl ds n).filter (touchB ts)).length = touchN ts n := by
  refine touchN_of (fun x => ?_) ((lvlN hd n).filter _)
  rw [List.mem_filter]
  unfold touchB
  rw [List.any_eq_true]
  constructor
  · rintro ⟨hx, t, ht, h⟩
    obtain ⟨h1, h2⟩ := (touch1_iff (lvl_of hx).1).mp h
    exact ⟨t, ht, h1, h2⟩
  · rintro ⟨t, ht, h1, h2⟩
    have e : TL.tl x = (TL.tl t).take n := by rw [h2]; exact tl_cut t n
    have hl : x.length = n := by
      rw [TL.len_tl, e, List.length_take]
      rw [TL.len_tl] at h1
      omega
    exact ⟨lvlM hl fun c hc' => hc t ht c (by rw [e] at hc'; exact List.mem_of_mem_take hc'), t, ht, (touch1_iff hl).mpr ⟨h1, h2⟩⟩
theorem below_count {ds : List Nat} (hd : ds.Nodup) {ts : List Str} (pf : PF ts) (hc : ∀ t ∈ ts, ∀ c ∈ TL.tl t, c ∈ ds) (n : Nat) : ((lvl ds n).filter (belowB ts)).length = fillN ds.length (ts.map (·.length)) n := by
  have ndW : (ts.filter fun t => decide (t.length ≤ n)).Nodup := (pf_nd pf).filter _
  have pfW : PF (ts.filter fun t => decide (t.length ≤ n)) := List.Pairwise.filter _ pf
  have cov : ∀ x ∈ lvl ds n, belowB ts x = true → ∃ p ∈ ts.filter (fun t => decide (t.length ≤ n)), preB p x = true := fun x hx hb => by
    obtain ⟨t, ht, hp⟩ := List.any_eq_true.mp hb
    refine ⟨t, List.mem_filter.mpr ⟨ht, decide_eq_true ?_⟩, hp⟩
    have h1 := (preB_iff.mp hp).length_le
    have h2 := (lvl_of hx).1
    rw [TL.len_tl] at h2 ⊢
    omega
  have key := split_count ndW (belowB ts) (fun x => (ts.filter fun t => decide (t.length ≤ n)).find? fun p => preB p x) (L := lvl ds n) fun x hx hb => by
    obtain ⟨p, hp, hq⟩ := cov x hx hb
    cases e : (ts.filter fun t => decide (t.length ≤ n)).find? fun p => preB p x with
    | none => exact absurd hq (by have := List.find?_eq_none.mp e p hp; exact this)
    | some q => exact ⟨q, List.mem_of_find?_eq_some e, rfl⟩
  rw [key]
  unfold fillN
  rw [List.filter_map, List.map_map]
  congr 1
  refine List.map_congr_left fun p hp => ?_
  obtain ⟨hp1, hp2⟩ := List.mem_filter.mp hp
  show _ = ds.length ^ (n - p.length)
  rw [← under_count hd (hc p hp1) (of_decide_eq_true hp2)]
  congr 1
  refine List.filter_congr fun x hx => ?_
  cases hq : preB p x with
  | true =>
    have hb : belowB ts x = true := List.any_eq_true.mpr ⟨p, hp1, hq⟩
    rw [hb, Bool.true_and]
    refine decide_eq_true ?_
    cases e : (ts.filter fun t => decide (t.length ≤ n)).find? fun p => preB p x with
    | none => exact absurd hq (by have := List.find?_eq_none.mp e p hp; exact this)
    | some q =>
      have h1 := List.find?_some (p := fun p => preB p x) e
      rw [pfs_uniq pfW hp (List.mem_of_find?_eq_some e) (preB_cmp hq h1)]
  | false =>
    have : decide (((ts.filter fun t => decide (t.length ≤ n)).find? fun p => preB p x) = some p) = false := decide_eq_false fun e => by
      have h1 := List.find?_some (p := fun p => preB p x) e
      rw [hq] at h1
      cases h1
    rw [this, Bool.and_false]
theorem sum_ways {ts : List Str} (pf : PF ts) : ∀ l : List Str, (l.filter (freeB ts)).length + (l.filter (touchB ts)).length + (l.filter (belowB ts)).length = l.length
  | [] => rfl
  | x :: r => by
    have ih := sum_ways pf r
    have h := three_ways pf x
    rw [List.filter_cons, List.filter_cons, List.filter_cons, List.length_cons]
    cases h1 : freeB ts x <;> cases h2 : touchB ts x <;> cases h3 : belowB ts x <;> simp only [h1, h2, h3, Bool.toNat_true, Bool.toNat_false, if_true, if_false, Bool.false_eq_true, List.length_cons] at h ⊢ <;> omega
theorem level_count {ds : List Nat} (hd : ds.Nodup) {ts : List Str} (pf : PF ts) (hc : ∀ t ∈ ts, ∀ c ∈ TL.tl t, c ∈ ds) (n : Nat) :
    ((lvl ds n).filter (freeB ts)).length + touchN ts n + fillN ds.length (ts.map (·.length)) n = ds.length ^ n := by
  rw [← touch_count hd hc, ← below_count hd pf hc, sum_ways pf, lvl_len]
/-! ### the criterion -/
/-- no level from lo to h has too few nodes for the fixed strings and strings of the moved lengths -/
def Fits (k : Nat) (fixed : List Str) (moved : List Nat) (lo h : Nat) : Prop := ∀ n, lo ≤ n → n ≤ h → touchN fixed n + fillN k (fixed.map (·.length) ++ moved) n ≤ k ^ n
theorem touchN_mono {ts us : List Str} (h : ∀ t ∈ ts, t ∈ us) (n : Nat) : touchN ts n ≤ touchN us n :=
  length_le_of_nodup_of_subset _ _ (uniqS_all _).1 fun x hx => touchN_mem.mpr (let ⟨t, h1, h2⟩ := touchN_mem.mp hx; ⟨t, h t h1, h2⟩)
theorem touchN_short {ts us : List Str} {n : Nat} (h : ∀ u ∈ us, u.length ≤ n) : touchN (ts ++ us) n = touchN ts n :=
  touchN_of (fun x => by
    rw [touchN_mem]
    constructor
    · rintro ⟨t, ht, h2, h3⟩
      rcases List.mem_append.mp ht with ht | ht
      · exact ⟨t, ht, h2, h3⟩
      · have := h t ht
        omega
    · rintro ⟨t, ht, h2⟩
      exact ⟨t, List.mem_append_left _ ht, h2⟩) (uniqS_all _).1
theorem fits_place {k l lo h : Nat} {fixed : List Str} {moved : List Nat} {x : Str} (f : Fits k fixed (l :: moved) lo h) (hx : x.length = l) (hl : l ≤ lo) : Fits k (fixed ++ [x]) moved lo h := fun n n1 n2 => by
  have := f n n1 n2
  rw [touchN_short (fun u hu => by rw [List.mem_singleton.mp hu]; omega)]
  rw [List.map_append, List.append_assoc, List.map_singleton, hx]
  exact this
theorem fits_mono {k lo lo' h : Nat} {fixed : List Str} {moved : List Nat} (f : Fits k fixed moved lo h) (hl : lo ≤ lo') : Fits k fixed moved lo' h := fun n n1 n2 => f n (Nat.le_trans hl n1) n2
theorem fill_count (k : Nat) : ∀ (moved : List Nat) (l : Nat), (moved.filter fun m => decide (m = l)).length ≤ fillN k moved l
  | [], _ => Nat.zero_le _
  | m :: r, l => by
    have ih := fill_count k r l
    rw [fillN_cons, List.filter_cons]
    by_cases h : m = l
    · rw [if_pos (decide_eq_true h), if_pos (by omega), h, Nat.sub_self, Nat.pow_zero, List.length_cons]
      omega
    · rw [if_neg (by simpa using h)]
      omega
/-- there are as many free nodes of a level as lengths ask for it -/
theorem fits_room {ds : List Nat} (hd : ds.Nodup) {fixed : List Str} {moved : List Nat} {l h lo : Nat} (pf : PF fixed) (hc : ∀ t ∈ fixed, ∀ c ∈ TL.tl t, c ∈ ds) (f : Fits ds.length fixed moved lo h) (h1 : lo ≤ l) (h2 : l ≤ h) :
    (moved.filter fun m => decide (m = l)).length ≤ ((lvl ds l).filter (freeB fixed)).length := by
  have e := level_count hd pf hc l
  have g := f l h1 h2
  rw [fillN_append] at g
  have c := fill_count ds.length moved l
  omega
/-- strings that are placed show that there is room -/
theorem placed_fits {ds : List Nat} (hd : ds.Nodup) {fixed placed : List Str} {lo h : Nat} (pf : PF (fixed ++ placed)) (hc : ∀ t ∈ fixed ++ placed, ∀ c ∈ TL.tl t, c ∈ ds) : Fits ds.length fixed (placed.map (·.length)) lo h := fun n _ _ => by
  have e := level_count hd pf hc n
  have m := touchN_mono (ts := fixed) (us := fixed ++ placed) (fun t ht => List.mem_append_left _ ht) n
  rw [← List.map_append]
  omega
theorem failAt_iff {r : Int} (r0 : 0 ≤ r) {fx : List Str} {ls : List Nat} {i : Nat} : failAt r fx ls i = false ↔ touchN fx (i + 1) + fillN r.toNat ls (i + 1) ≤ r.toNat ^ (i + 1) := by
  unfold failAt
  have e : r ^ (i + 1) = ((r.toNat ^ (i + 1) : Nat) : Int) := by rw [Int.natCast_pow, Int.toNat_of_nonneg r0]
  rw [fillL_nat r0, e, decide_eq_false_iff_not]
  omega
theorem fail_none {r : Int} {fx : List Str} {ls : List Nat} : ∀ (m i : Nat), failFrom r fx ls i m = none ↔ ∀ j, i ≤ j → j < i + m → failAt r fx ls j = false
  | 0, i => ⟨fun _ j h1 h2 => by omega, fun _ => rfl⟩
  | m + 1, i => by
    unfold failFrom
    constructor
    · intro h j h1 h2
      by_cases c : failAt r fx ls i = true
      · rw [if_pos c] at h
        cases h
      · rw [if_neg c] at h
        rcases Nat.eq_or_lt_of_le h1 with e | e
        · rw [← e]
          exact Bool.eq_false_iff.mpr c
        · exact (fail_none m (i + 1)).mp h j e (by omega)
    · intro h
      rw [if_neg (by rw [h i (Nat.le_refl _) (by omega)]; exact Bool.false_ne_true)]
      exact (fail_none m (i + 1)).mpr fun j h1 h2 => h j (by omega) (by omega)
theorem fail_fits {r : Int} (r0 : 0 ≤ r) {fx : List Str} {ls moved : List Nat} (p : ls.Perm (fx.map (·.length) ++ moved)) (h : Nat) : failFrom r fx ls 0 h = none ↔ Fits r.toNat fx moved 1 h := by
  rw [fail_none]
  constructor
  · intro g n n1 n2
    have := (failAt_iff r0).mp (g (n - 1) (Nat.zero_le _) (by omega))
    rw [show n - 1 + 1 = n by omega, fillN_perm p] at this
    exact this
  · intro g j _ h2
    refine (failAt_iff r0).mpr ?_
    have := g (j + 1) (by omega) (by omega)
    rw [fillN_perm p]
    exact this
end KC
namespace KC
open PySem PySem.Spec PyProof.Rows L2
/-! ### comprehensions over any simple walk; tests and elements may make new objects -/
theorem lc_genN {α : Type} {J : It} {n : Nat} {G : Hp → Prop} {Y : Nat → Hp → V → Hp → Prop} (wk : Walk J n G Y) (xs : List α) (g : α → V) (hn : n = xs.length) (hY : ∀ i H x H', Y i H x H' → H' = H ∧ ∃ a, xs[i]? = some a ∧ x = g a)
    {j : Nat} {tt : TT} {te : TE} {σ : L2.St} {H1 : Hp} {D : Addr} {Qd : Hp → Prop} (hG : ∀ H', Same H1 H' → G H') (p : α → Bool) (f : α → V) (hD : H1 D = none) (hx : xs.length < 16777216)
    (ht : ∀ a ∈ xs, ∀ (H' : Hp) (Q' : Bool → Hp → Prop), Same H1 H' → (∀ H'', Same H' H'' → Q' (p a) H'') → tt ((wipe σ [j]).set j (some (g a))) H' Q')
    (he : ∀ a ∈ xs, p a = true → ∀ (H' : Hp) (Q' : VK), Same H1 H' → (∀ H'', Same H' H'' → Q' (f a) H'') → te ((wipe σ [j]).set j (some (g a))) H' Q')
    (hd : ∀ H', Same H1 H' → H' D = some (.lst ((xs.filter p).map f)) → Qd H') : LcG J (gName j) tt te [j] σ H1 D Qd := by
  refine lc_it wk (fun i H => Same H1 H ∧ H D = some (.lst (((xs.take i).filter p).map f))) ⟨same_new (Same.refl _) hD, upd_same⟩ (fun i H _ h => hG H h.1) ?_ (fun H h => hd H h.1 (by rw [h.2, hn, List.take_length]))
  rintro i x H H' hi ⟨s, hDi⟩ y
  obtain ⟨rfl, a, e, rfl⟩ := hY i H x H' y
  have hm := List.mem_of_getElem? e
  refine ⟨wipe_set1 _ _ _, ht a hm _ _ s fun H2 s2 => ?_⟩
  refine if_b (fun hp => ?_) (fun hp => ?_)
  · refine he a hm hp _ _ (Same.trans s s2) fun H3 s3 => ⟨_, s3 _ _ (s2 _ _ hDi), ?_, same_mut (Same.trans s (Same.trans s2 s3)) hD, ?_⟩
    · rw [List.length_map]
      have h1 := List.length_filter_le p (xs.take i)
      rw [List.length_take] at h1
      exact Nat.lt_of_lt_of_le (show _ < 16777216 by omega) (by decide)
    · rw [upd_same, take_snoc e, List.filter_append, List.map_append, List.filter_cons, hp]
      rfl
  · refine ⟨Same.trans s s2, ?_⟩
    rw [s2 _ _ hDi, take_snoc e, List.filter_append, List.filter_cons, hp]
    simp
theorem fil_all {α : Type} (xs : List α) : xs.filter (fun _ => true) = xs := List.filter_eq_self.mpr fun _ _ => rfl
theorem lc_listPN {K : PySem.W.Frag} {a : Addr} {xs : List V} {j : Nat} {tt : TT} {te : TE} {σ : L2.St} {H1 : Hp} {D : Addr} {Qd : Hp → Prop} (p : V → Bool) (f : V → V) (hS : SqL K H1 a xs) (hD : H1 D = none) (hx : xs.length < 16777216)
    (ht : ∀ x ∈ xs, ∀ (H' : Hp) (Q' : Bool → Hp → Prop), Same H1 H' → (∀ H'', Same H' H'' → Q' (p x) H'') → tt ((wipe σ [j]).set j (some x)) H' Q')
    (he : ∀ x ∈ xs, p x = true → ∀ (H' : Hp) (Q' : VK), Same H1 H' → (∀ H'', Same H' H'' → Q' (f x) H'') → te ((wipe σ [j]).set j (some x)) H' Q')
    (hd : ∀ H', Same H1 H' → H' D = some (.lst ((xs.filter p).map f)) → Qd H') : LcG (Itl K a) (gName j) tt te [j] σ H1 D Qd :=
  lc_genN (walk_list (K := K) (a := a)) xs id rfl (fun i H x H' h => ⟨h.1, x, h.2, rfl⟩) (fun H' s => Same.seq s hS) p f hD hx ht he hd
/-- [f(k) for k in d if p(k)] -/
theorem lc_keysN {d : Addr} {o : Obj} {kvs : List (Key × V)} {j : Nat} {tt : TT} {te : TE} {σ : L2.St} {H1 : Hp} {D : Addr} {Qd : Hp → Prop} (p : Key × V → Bool) (f : Key × V → V) (hS : H1 d = some (.frz o (.dK kvs))) (hD : H1 D = none) (hx : kvs.length < 16777216)
    (ht : ∀ q ∈ kvs, ∀ (H' : Hp) (Q' : Bool → Hp → Prop), Same H1 H' → (∀ H'', Same H' H'' → Q' (p q) H'') → tt ((wipe σ [j]).set j (some (kV q.1))) H' Q')
    (he : ∀ q ∈ kvs, p q = true → ∀ (H' : Hp) (Q' : VK), Same H1 H' → (∀ H'', Same H' H'' → Q' (f q) H'') → te ((wipe σ [j]).set j (some (kV q.1))) H' Q')
    (hd : ∀ H', Same H1 H' → H' D = some (.lst ((kvs.filter p).map f)) → Qd H') : LcG (Itk d o kvs) (gName j) tt te [j] σ H1 D Qd :=
  lc_genN (walk_keys (d := d) (o := o) (kvs := kvs)) kvs (fun q => kV q.1) rfl (fun i H x H' h => by obtain ⟨h1, k, v, h2, h3⟩ := h; exact ⟨h1, (k, v), h2, h3⟩) (fun H' s => s _ _ hS) p f hD hx ht he hd
theorem lc_tupPN {K : PySem.W.Frag} {a : Addr} {xs : List V} {j : Nat} {tt : TT} {te : TE} {σ : L2.St} {H1 : Hp} {D : Addr} {Qd : Hp → Prop} (p : V → Bool) (f : V → V) (hS : SqT K H1 a xs) (hD : H1 D = none) (hx : xs.length < 16777216)
    (ht : ∀ x ∈ xs, ∀ (H' : Hp) (Q' : Bool → Hp → Prop), Same H1 H' → (∀ H'', Same H' H'' → Q' (p x) H'') → tt ((wipe σ [j]).set j (some x)) H' Q')
    (he : ∀ x ∈ xs, p x = true → ∀ (H' : Hp) (Q' : VK), Same H1 H' → (∀ H'', Same H' H'' → Q' (f x) H'') → te ((wipe σ [j]).set j (some x)) H' Q')
    (hd : ∀ H', Same H1 H' → H' D = some (.lst ((xs.filter p).map f)) → Qd H') : LcG (Itt K a) (gName j) tt te [j] σ H1 D Qd :=
  lc_genN (walk_tup (K := K) (a := a)) xs id rfl (fun i H x H' h => ⟨h.1, x, h.2, rfl⟩) (fun H' s => same_seqT s hS) p f hD hx ht he hd
theorem dc_genN {α : Type} {J : It} {n : Nat} {G : Hp → Prop} {Y : Nat → Hp → V → Hp → Prop} (wk : Walk J n G Y) (xs : List α) (g : α → V) (hn : n = xs.length) (hY : ∀ i H x H', Y i H x H' → H' = H ∧ ∃ a, xs[i]? = some a ∧ x = g a)
    {j : Nat} {tt : TT} {tk tv : TE} {σ : L2.St} {H1 : Hp} {D : Addr} {Qd : Hp → Prop} (hG : ∀ H', Same H1 H' → G H') (p : α → Bool) (fk : α → Key) (fv : α → V) (hD : H1 D = none) (hx : xs.length < 16777216)
    (ht : ∀ a ∈ xs, ∀ (H' : Hp) (Q' : Bool → Hp → Prop), Same H1 H' → (∀ H'', Same H' H'' → Q' (p a) H'') → tt ((wipe σ [j]).set j (some (g a))) H' Q')
    (hk : ∀ a ∈ xs, p a = true → ∀ (H' : Hp) (Q' : VK), Same H1 H' → (∀ H'', Same H' H'' → Q' (kV (fk a)) H'') → tk ((wipe σ [j]).set j (some (g a))) H' Q')
    (hv : ∀ a ∈ xs, p a = true → ∀ (H' : Hp) (Q' : VK), Same H1 H' → (∀ H'', Same H' H'' → Q' (fv a) H'') → tv ((wipe σ [j]).set j (some (g a))) H' Q')
    (hd : ∀ H', Same H1 H' → H' D = some (.dK (mergeK [] ((xs.filter p).map fun a => (fk a, fv a)))) → Qd H') : DcG J (gName j) tt tk tv [j] σ H1 D Qd := by
  refine dc_it wk (fun i H => Same H1 H ∧ H D = some (.dK (mergeK [] (((xs.take i).filter p).map fun a => (fk a, fv a))))) ⟨same_new (Same.refl _) hD, upd_same⟩ (fun i H _ h => hG H h.1) ?_ (fun H h => hd H h.1 (by rw [h.2, hn, List.take_length]))
  rintro i x H H' hi ⟨s, hDi⟩ y
  obtain ⟨rfl, a, e, rfl⟩ := hY i H x H' y
  have hm := List.mem_of_getElem? e
  refine ⟨wipe_set1 _ _ _, ht a hm _ _ s fun H2 s2 => ?_⟩
  refine if_b (fun hp => ?_) (fun hp => ?_)
  · refine hk a hm hp _ _ (Same.trans s s2) fun H3 s3 => hv a hm hp _ _ (Same.trans s (Same.trans s2 s3)) fun H4 s4 => ⟨_, _, rfl, s4 _ _ (s3 _ _ (s2 _ _ hDi)), ?_, same_mut (Same.trans s (Same.trans s2 (Same.trans s3 s4))) hD, ?_⟩
    · have h1 := merge_len (((xs.take i).filter p).map fun a => (fk a, fv a)) []
      have h2 := List.length_filter_le p (xs.take i)
      rw [List.length_take] at h2
      rw [List.length_nil, List.length_map] at h1
      exact Nat.lt_of_lt_of_le (show _ < 16777216 by omega) (by decide)
    · rw [upd_same, take_snoc e, List.filter_append, List.map_append, List.filter_cons, hp, if_pos rfl, List.filter_nil, List.map_singleton, merge_snoc]
  · refine ⟨Same.trans s s2, ?_⟩
    rw [s2 _ _ hDi, take_snoc e, List.filter_append, List.filter_cons, hp]
    simp
/-- {k(x): v(x) for x in d if p(x)}, over the keys of d -/
theorem dc_keysN {d : Addr} {o : Obj} {kvs : List (Key × V)} {j : Nat} {tt : TT} {tk tv : TE} {σ : L2.St} {H1 : Hp} {D : Addr} {Qd : Hp → Prop} (p : Key × V → Bool) (fk : Key × V → Key) (fv : Key × V → V) (hS : H1 d = some (.frz o (.dK kvs))) (hD : H1 D = none) (hx : kvs.length < 16777216)
    (ht : ∀ q ∈ kvs, ∀ (H' : Hp) (Q' : Bool → Hp → Prop), Same H1 H' → (∀ H'', Same H' H'' → Q' (p q) H'') → tt ((wipe σ [j]).set j (some (kV q.1))) H' Q')
    (hk : ∀ q ∈ kvs, p q = true → ∀ (H' : Hp) (Q' : VK), Same H1 H' → (∀ H'', Same H' H'' → Q' (kV (fk q)) H'') → tk ((wipe σ [j]).set j (some (kV q.1))) H' Q')
    (hv : ∀ q ∈ kvs, p q = true → ∀ (H' : Hp) (Q' : VK), Same H1 H' → (∀ H'', Same H' H'' → Q' (fv q) H'') → tv ((wipe σ [j]).set j (some (kV q.1))) H' Q')
    (hd : ∀ H', Same H1 H' → H' D = some (.dK (mergeK [] ((kvs.filter p).map fun a => (fk a, fv a)))) → Qd H') : DcG (Itk d o kvs) (gName j) tt tk tv [j] σ H1 D Qd :=
  dc_genN (walk_keys (d := d) (o := o) (kvs := kvs)) kvs (fun q => kV q.1) rfl (fun i H x H' h => by obtain ⟨h1, k, v, h2, h3⟩ := h; exact ⟨h1, (k, v), h2, h3⟩) (fun H' s => s _ _ hS) p fk fv hD hx ht hk hv hd
/-- {k(x): v(x) for x in xs} -/
theorem dc_listN {K : PySem.W.Frag} {a : Addr} {xs : List V} {j : Nat} {tt : TT} {tk tv : TE} {σ : L2.St} {H1 : Hp} {D : Addr} {Qd : Hp → Prop} (p : V → Bool) (fk : V → Key) (fv : V → V) (hS : SqL K H1 a xs) (hD : H1 D = none) (hx : xs.length < 16777216)
    (ht : ∀ x ∈ xs, ∀ (H' : Hp) (Q' : Bool → Hp → Prop), Same H1 H' → (∀ H'', Same H' H'' → Q' (p x) H'') → tt ((wipe σ [j]).set j (some x)) H' Q')
    (hk : ∀ x ∈ xs, p x = true → ∀ (H' : Hp) (Q' : VK), Same H1 H' → (∀ H'', Same H' H'' → Q' (kV (fk x)) H'') → tk ((wipe σ [j]).set j (some x)) H' Q')
    (hv : ∀ x ∈ xs, p x = true → ∀ (H' : Hp) (Q' : VK), Same H1 H' → (∀ H'', Same H' H'' → Q' (fv x) H'') → tv ((wipe σ [j]).set j (some x)) H' Q')
    (hd : ∀ H', Same H1 H' → H' D = some (.dK (mergeK [] ((xs.filter p).map fun a => (fk a, fv a)))) → Qd H') : DcG (Itl K a) (gName j) tt tk tv [j] σ H1 D Qd :=
  dc_genN (walk_list (K := K) (a := a)) xs id rfl (fun i H x H' h => ⟨h.1, x, h.2, rfl⟩) (fun H' s => Same.seq s hS) p fk fv hD hx ht hk hv hd
/-- [(a new tuple) for i in range(..)] -/
theorem lc_rangeTup {lo : Int} {n j : Nat} {te : TE} {σ : L2.St} {H1 : Hp} {D : Addr} {Qd : Hp → Prop} (f : Nat → List V) (hD : H1 D = none) (hn : n < 16777216)
    (he : ∀ i, i < n → ∀ (H' : Hp) (Q' : VK), Same H1 H' → (∀ H'' T, Same H' H'' → H' T = none → H'' T = some (.tup (f i)) → Q' (.ref T) H'') → te ((wipe σ [j]).set j (some (.int (lo + (i : Nat))))) H' Q')
    (hd : ∀ H' (ps : List Addr), Same H1 H' → H' D = some (.lst (ps.map V.ref)) → Paired (fun p i => H1 p = none ∧ p ≠ D ∧ H' p = some (.tup (f i))) ps (List.range n) → Qd H') :
    LcG (Itr lo n) (gName j) tYes te [j] σ H1 D Qd := by
  refine lc_it walk_range (fun i H => Same H1 H ∧ ∃ ps : List Addr, H D = some (.lst (ps.map V.ref)) ∧ ps.length ≤ i ∧ Paired (fun p i => H1 p = none ∧ p ≠ D ∧ H p = some (.tup (f i))) ps (List.range i))
    ⟨same_new (Same.refl _) hD, [], upd_same, Nat.le_refl _, .nil⟩ (fun _ _ _ _ => trivial) ?_ (fun H ⟨s, ps, hDp, _, hp⟩ => hd H ps s hDp hp)
  rintro i x H H' hi ⟨s, ps, hDp, hpl, hp⟩ ⟨rfl, rfl⟩
  refine ⟨wipe_set1 _ _ _, he i hi _ _ s fun H2 T s2 hT hT2 => ?_⟩
  have hDT : D ≠ T := fun z => by rw [z, hT] at hDp; cases hDp
  refine ⟨ps.map V.ref, s2 _ _ hDp, by rw [List.length_map]; exact Nat.lt_of_lt_of_le (show ps.length < 16777216 by omega) (by decide), same_mut (Same.trans s s2) hD, ps ++ [T], ?_, by rw [List.length_append]; simp; omega, ?_⟩
  · rw [upd_same, List.map_append]
    rfl
  · rw [List.range_succ]
    exact Paired.snoc (Paired.imp (fun p kv z => ⟨z.1, z.2.1, (upd_ne z.2.1).trans (s2 _ _ z.2.2)⟩) hp) ⟨s.free hT, Ne.symm hDT, (upd_ne (Ne.symm hDT)).trans hT2⟩
/-! ### dicts from names to numbers -/
def kvsI (rq : List (Str × Nat)) : List (Key × V) := rq.map fun p => (Sum.inr p.1, V.int (p.2 : Nat))
theorem kvsI_len (rq : List (Str × Nat)) : (kvsI rq).length = rq.length := List.length_map _
theorem kvsI_keys (rq : List (Str × Nat)) : (kvsI rq).map (·.1) = (rq.map (·.1)).map Sum.inr := by
  unfold kvsI
  rw [List.map_map, List.map_map]
  rfl
theorem kvsI_vals (rq : List (Str × Nat)) : (kvsI rq).map (·.2) = (rq.map (·.2)).map fun n : Nat => V.int n := by
  unfold kvsI
  rw [List.map_map, List.map_map]
  rfl
def lenAt (rq : List (Str × Nat)) (n : Str) : Option Nat := (rq.find? fun p => decide (p.1 = n)).map (·.2)
theorem valV_kvsI (n : Str) : ∀ rq : List (Str × Nat), valV (kvsI rq) (.inr n) = (lenAt rq n).map fun k : Nat => V.int k
  | [] => rfl
  | p :: r => by
    have ih := valV_kvsI n r
    unfold valV lenAt kvsI at *
    rw [List.map_cons, List.find?_cons, List.find?_cons]
    by_cases e : p.1 = n
    · have e1 : decide ((Sum.inr p.1 : Key) = Sum.inr n) = true := decide_eq_true (by rw [e])
      have e2 : decide (p.1 = n) = true := decide_eq_true e
      simp only [e1, e2]
      rfl
    · have e1 : decide ((Sum.inr p.1 : Key) = Sum.inr n) = false := decide_eq_false (fun z => e (Sum.inr.inj z))
      have e2 : decide (p.1 = n) = false := decide_eq_false e
      simp only [e1, e2]
      exact ih
theorem lenAt_none {rq : List (Str × Nat)} {n : Str} : lenAt rq n = none ↔ n ∉ rq.map (·.1) := by
  unfold lenAt
  rw [Option.map_eq_none_iff, List.find?_eq_none]
  constructor
  · intro h hn
    obtain ⟨p, hp, e⟩ := List.mem_map.mp hn
    exact h p hp (decide_eq_true e)
  · intro h p hp e
    exact h (List.mem_map.mpr ⟨p, hp, of_decide_eq_true e⟩)
theorem lenAt_some {rq : List (Str × Nat)} {n : Str} {k : Nat} (h : lenAt rq n = some k) : (n, k) ∈ rq := by
  unfold lenAt at h
  rw [Option.map_eq_some_iff] at h
  obtain ⟨p, h1, h2⟩ := h
  have e : p.1 = n := of_decide_eq_true (List.find?_some (p := fun p : Str × Nat => decide (p.1 = n)) h1)
  rw [← e, ← h2]
  exact List.mem_of_find?_eq_some h1
theorem lenAt_nodup {rq : List (Str × Nat)} (h : (rq.map (·.1)).Nodup) {p : Str × Nat} (hp : p ∈ rq) : lenAt rq p.1 = some p.2 := by
  induction rq with
  | nil => cases hp
  | cons q r ih =>
    rw [List.map_cons] at h
    have hz := List.pairwise_cons.mp h
    unfold lenAt
    rw [List.find?_cons]
    rcases List.mem_cons.mp hp with rfl | hp
    · rw [decide_eq_true rfl]
      rfl
    · rw [decide_eq_false (fun e => hz.1 p.1 (List.mem_map_of_mem hp) e)]
      exact ih hz.2 hp
def putN (es : List (Str × Nat)) (x : Str) (y : Nat) : List (Str × Nat) := if es.any (fun p => decide (p.1 = x)) = true then es.map (fun p => if p.1 = x then (p.1, y) else p) else es ++ [(x, y)]
theorem putK_I (es : List (Str × Nat)) (x : Str) (y : Nat) : putK (kvsI es) (.inr x) (.int (y : Nat)) = kvsI (putN es x y) := by
  have ea : ((kvsI es).any fun kv => decide (kv.1 = .inr x)) = es.any fun p => decide (p.1 = x) := by
    unfold kvsI
    rw [List.any_map]
    refine congrArg (es.any ·) (funext fun p => ?_)
    exact decide_eq_decide.mpr ⟨fun h => Sum.inr.inj h, fun h => congrArg Sum.inr h⟩
  unfold putK putN
  rw [ea]
  by_cases c : es.any (fun p => decide (p.1 = x)) = true
  · rw [if_pos c, if_pos c]
    unfold kvsI
    rw [List.map_map, List.map_map]
    refine List.map_congr_left fun p hp => ?_
    show (if (Sum.inr p.1 : Key) = Sum.inr x then ((Sum.inr p.1 : Key), V.int (y : Nat)) else (Sum.inr p.1, V.int (p.2 : Nat))) = (fun q : Str × Nat => ((Sum.inr q.1 : Key), V.int (q.2 : Nat))) (if p.1 = x then (p.1, y) else p)
    by_cases e : p.1 = x
    · rw [if_pos (congrArg Sum.inr e), if_pos e]
    · rw [if_neg (fun z => e (Sum.inr.inj z)), if_neg e]
  · rw [if_neg c, if_neg c]
    unfold kvsI
    rw [List.map_append]
    rfl
theorem putN_keys (es : List (Str × Nat)) (x : Str) (y : Nat) : (putN es x y).map (·.1) = if es.any (fun p => decide (p.1 = x)) = true then es.map (·.1) else es.map (·.1) ++ [x] := by
  unfold putN
  by_cases c : es.any (fun p => decide (p.1 = x)) = true
  · rw [if_pos c, if_pos c, List.map_map]
    refine List.map_congr_left fun p hp => ?_
    show (if p.1 = x then (p.1, y) else p).1 = p.1
    by_cases e : p.1 = x
    · rw [if_pos e]
    · rw [if_neg e]
  · rw [if_neg c, if_neg c, List.map_append]
    rfl
theorem putN_nd {es : List (Str × Nat)} (h : (es.map (·.1)).Nodup) (x : Str) (y : Nat) : ((putN es x y).map (·.1)).Nodup := by
  rw [putN_keys]
  by_cases c : es.any (fun p => decide (p.1 = x)) = true
  · rw [if_pos c]; exact h
  · rw [if_neg c]
    refine List.nodup_append.mpr ⟨h, List.pairwise_singleton _ _, fun u hu v hv e => ?_⟩
    rw [List.mem_singleton.mp hv] at e
    obtain ⟨p, hp, rfl⟩ := List.mem_map.mp hu
    exact c (List.any_eq_true.mpr ⟨p, hp, decide_eq_true e⟩)
theorem putN_mem {es : List (Str × Nat)} {x : Str} {y : Nat} {q : Str × Nat} (h : q ∈ putN es x y) : q ∈ es ∨ q = (x, y) := by
  unfold putN at h
  by_cases c : es.any (fun p => decide (p.1 = x)) = true
  · rw [if_pos c] at h
    obtain ⟨p, hp, rfl⟩ := List.mem_map.mp h
    by_cases e : p.1 = x
    · rw [if_pos e, e]; exact .inr rfl
    · rw [if_neg e]; exact .inl hp
  · rw [if_neg c] at h
    rcases List.mem_append.mp h with h | h
    · exact .inl h
    · exact .inr (List.mem_singleton.mp h)
theorem putN_len (es : List (Str × Nat)) (x : Str) (y : Nat) : (putN es x y).length ≤ es.length + 1 := by
  unfold putN
  by_cases c : es.any (fun p => decide (p.1 = x)) = true
  · rw [if_pos c, List.length_map]; omega
  · rw [if_neg c, List.length_append]; exact Nat.le_refl _
end KC
namespace KC
open PySem PySem.Spec PyProof.Rows L2
/-! ### data whose repr is short: nested lists, tuples, dicts -/
structure Shd (d : PyData) (k n : Nat) : Prop where
  sh : d.showable = true
  dep : d.depth ≤ k
  len : d.shown.length ≤ n
theorem Shd.mono {d : PyData} {k n k' n' : Nat} (h : Shd d k n) (hk : k ≤ k') (hn : n ≤ n') : Shd d k' n' := ⟨h.sh, Nat.le_trans h.dep hk, Nat.le_trans h.len hn⟩
theorem shd_all {k n : Nat} : ∀ {ds : List PyData}, (∀ d ∈ ds, Shd d k n) → PyData.showableAll ds = true ∧ PyData.depthAll ds ≤ k ∧ (∀ t ∈ PyData.shownAll ds, t.length ≤ n) ∧ (PyData.shownAll ds).length = ds.length
  | [], _ => ⟨by rw [PyData.showableAll], by rw [PyData.depthAll]; exact Nat.zero_le _, (by intro t ht; rw [PyData.shownAll] at ht; cases ht), by rw [PyData.shownAll]; rfl⟩
  | d :: r, h => by
    obtain ⟨h1, h2, h3⟩ := h d (List.mem_cons_self ..)
    obtain ⟨i1, i2, i3, i4⟩ := shd_all fun p hp => h p (List.mem_cons_of_mem _ hp)
    refine ⟨by rw [PyData.showableAll, h1, i1]; rfl, by rw [PyData.depthAll]; omega, fun t ht => ?_, by rw [PyData.shownAll, List.length_cons, List.length_cons, i4]⟩
    rw [PyData.shownAll] at ht
    rcases List.mem_cons.mp ht with rfl | ht
    · exact h3
    · exact i3 t ht
theorem shd_list {ds : List PyData} {k n m : Nat} (h : ∀ d ∈ ds, Shd d k n) (hl : ds.length ≤ m) : Shd (.list ds) (k + 1) (m * (n + 2) + 2) := by
  obtain ⟨h1, h2, h3, h4⟩ := shd_all h
  refine ⟨by rw [PyData.showable]; exact h1, by rw [PyData.depth]; omega, ?_⟩
  rw [PyData.shown]
  unfold listText
  rw [strLen_append]
  have f1 := textFrom_len_le (PyData.shownAll ds) 0 "["
  have f2 := sum_le (B := n) (xs := PyData.shownAll ds) h3
  rw [h4] at f1 f2
  have f3 : ds.length * (n + 2) ≤ m * (n + 2) := Nat.mul_le_mul_right _ hl
  rw [Nat.mul_add] at f3
  have e4 : (("[" : String) : Str).length = 1 := rfl
  have e5 : (("]" : String) : Str).length = 1 := rfl
  omega
theorem shd_tup {ds : List PyData} {k n m : Nat} (h : ∀ d ∈ ds, Shd d k n) (hl : ds.length ≤ m) : Shd (.tuple ds) (k + 1) (m * (n + 2) + 3) := by
  obtain ⟨h1, h2, h3, h4⟩ := shd_all h
  refine ⟨by rw [PyData.showable]; exact h1, by rw [PyData.depth]; omega, ?_⟩
  rw [PyData.shown]
  unfold tupleText
  rw [strLen_append, strLen_append]
  have hj := join_le (B := n) h3
  rw [h4] at hj
  have f3 : ds.length * (n + 2) ≤ m * (n + 2) := Nat.mul_le_mul_right _ hl
  have e1 : (("(" : String) : Str).length = 1 := rfl
  have e3 : ((if ((PyData.shownAll ds).length == 1) = true then ",)" else ")" : String) : Str).length ≤ 2 := by split <;> decide
  rw [e1]
  omega
theorem shd_kv {k n : Nat} : ∀ {qs : List (PyData × PyData)}, (∀ q ∈ qs, Shd q.1 k n ∧ Shd q.2 k n) → PyData.showableKv qs = true ∧ PyData.depthKv qs ≤ k ∧ (∀ t ∈ PyData.shownKv qs, t.length ≤ 2 * n + 2) ∧ (PyData.shownKv qs).length = qs.length
  | [], _ => ⟨by rw [PyData.showableKv], by rw [PyData.depthKv]; exact Nat.zero_le _, (by intro t ht; rw [PyData.shownKv] at ht; cases ht), by rw [PyData.shownKv]; rfl⟩
  | (a, b) :: r, h => by
    obtain ⟨hA, hB⟩ := h (a, b) (List.mem_cons_self ..)
    have h1 : a.showable = true := hA.sh
    have h2 : a.depth ≤ k := hA.dep
    have h3 : a.shown.length ≤ n := hA.len
    have g1 : b.showable = true := hB.sh
    have g2 : b.depth ≤ k := hB.dep
    have g3 : b.shown.length ≤ n := hB.len
    obtain ⟨i1, i2, i3, i4⟩ := shd_kv fun p hp => h p (List.mem_cons_of_mem _ hp)
    refine ⟨by rw [PyData.showableKv, h1, g1, i1]; rfl, by rw [PyData.depthKv]; omega, fun t ht => ?_, by rw [PyData.shownKv, List.length_cons, List.length_cons, i4]⟩
    rw [PyData.shownKv] at ht
    rcases List.mem_cons.mp ht with rfl | ht
    · rw [strLen_append, strLen_append]
      have : ((": " : String) : Str).length = 2 := rfl
      omega
    · exact i3 t ht
theorem shd_dict {qs : List (PyData × PyData)} {k n m : Nat} (h : ∀ q ∈ qs, Shd q.1 k n ∧ Shd q.2 k n) (hl : qs.length ≤ m) : Shd (.dict qs) (k + 1) (m * (2 * n + 4) + 2) := by
  obtain ⟨h1, h2, h3, h4⟩ := shd_kv h
  refine ⟨by rw [PyData.showable]; exact h1, by rw [PyData.depth]; omega, ?_⟩
  rw [PyData.shown]
  unfold dictText
  rw [strLen_append, strLen_append]
  have hj := join_le (B := 2 * n + 2) h3
  rw [h4] at hj
  have f3 : qs.length * (2 * n + 2 + 2) ≤ m * (2 * n + 2 + 2) := Nat.mul_le_mul_right _ hl
  have e1 : (("{" : String) : Str).length = 1 := rfl
  have e3 : (("}" : String) : Str).length = 1 := rfl
  rw [e1, e3]
  have e5 : 2 * n + 2 + 2 = 2 * n + 4 := by omega
  rw [e5] at hj f3
  omega
theorem shd_str {x : Str} (h : Small x) : Shd (.str x) 0 1002 := ⟨txt_showable x, by rw [PyData.depth]; exact Nat.le_refl _, by rw [PyData.shown]; exact repr_small h⟩
theorem shd_int {i : Int} (h0 : 0 ≤ i) (h1 : i < 1000000000) : Shd (.int i) 0 1002 :=
  ⟨by rw [PyData.showable]; exact decide_eq_true (log_numX h0 h1), by rw [PyData.depth]; exact Nat.le_refl _, by rw [PyData.shown]; exact Nat.le_trans (int_len h0 h1) (by decide)⟩
theorem shd_non : Shd .none 0 1002 := ⟨by decide +kernel, by decide +kernel, by decide +kernel⟩
/-! ### a dict of numbers, lists of texts, as data -/
def dI (rq : List (Str × Nat)) : PyData := .dict (((kvsI rq).map fun q => flatD (kV q.1)).zip (((kvsI rq).map (·.2)).map flatD))
theorem zip_map2 {α β γ : Type} (f : α → β) (g : α → γ) : ∀ l : List α, (l.map f).zip (l.map g) = l.map fun x => (f x, g x)
  | [] => rfl
  | x :: r => by rw [List.map_cons, List.map_cons, List.zip_cons_cons, zip_map2 f g r]; rfl
theorem dI_is (rq : List (Str × Nat)) : dI rq = .dict (rq.map fun p => (PyData.str p.1, PyData.int (p.2 : Nat))) := by
  unfold dI
  congr 1
  rw [List.map_map]
  rw [zip_map2]
  unfold kvsI
  rw [List.map_map]
  rfl
theorem dpN_dI {K : PySem.W.Frag} {H : Hp} {a : Addr} {rq : List (Str × Nat)} (h : Rd H a (.dK (kvsI rq))) : DpN K H (.ref a) (dI rq) := .dct h (dpNs_flat fun x hx => by
  unfold kvsI at hx
  rw [List.map_map] at hx
  obtain ⟨p, _, rfl⟩ := List.mem_map.mp hx
  rfl)
theorem shd_dI {rq : List (Str × Nat)} (h : ∀ p ∈ rq, Small p.1 ∧ p.2 < 1000000000) (hl : rq.length ≤ 100) : Shd (dI rq) 1 300000 := by
  rw [dI_is]
  refine (shd_dict (k := 0) (n := 1002) (m := 100) (fun q hq => ?_) (by rw [List.length_map]; exact hl)).mono (Nat.le_refl _) (by decide)
  obtain ⟨p, hp, rfl⟩ := List.mem_map.mp hq
  obtain ⟨h1, h2⟩ := h p hp
  exact ⟨shd_str h1, shd_int (by show (0 : Int) ≤ (p.2 : Nat); omega) (by show ((p.2 : Nat) : Int) < 1000000000; omega)⟩
theorem dpNs_strs {K : PySem.W.Frag} {H : Hp} : ∀ xs : List Str, DpNs K H (xs.map V.str) (xs.map PyData.str)
  | [] => .nil
  | x :: r => .cons (.flat (x := .str x) rfl) (dpNs_strs r)
theorem dpN_strs {K : PySem.W.Frag} {H : Hp} {a : Addr} {xs : List Str} (h : Rd H a (.lst (xs.map V.str))) : DpN K H (.ref a) (.list (xs.map PyData.str)) := .lst h (dpNs_strs xs)
theorem shd_strs {xs : List Str} (h : ∀ x ∈ xs, Small x) (hl : xs.length ≤ 100) : Shd (.list (xs.map PyData.str)) 1 110000 := by
  refine (shd_list (k := 0) (n := 1002) (m := 100) (fun d hd => ?_) (by rw [List.length_map]; exact hl)).mono (Nat.le_refl _) (by decide)
  obtain ⟨x, hx, rfl⟩ := List.mem_map.mp hd
  exact shd_str (h x hx)
end KC
namespace KC
open PySem PySem.Spec PyProof.Rows L2
/-! ### {**a, **b} -/
section
variable {P : Program} {w : World} {A : Around} {E : Value → Shared → Prop} {s : Shared}
theorem dict_put {K : Type} [DecidableEq K] {knd : KeyKind P w K} {d : Addr} {kvs : List (K × Value)} {k : K} {key v : Value} {Q : Unit → Shared → Prop} (hkey : knd.is k key = true) (hm : s.heap.DictOf knd d kvs)
    (hQ : ∀ h', h'.DictOf knd d (stored kvs k v) → Heap.SameBut d s.heap h' → Q () { s with heap := h' })
    (hsz : kvs.length ≤ sizeLine) : wpAny (model P w) A (dictPut d (knd.hash k) key v) Q E s := by
  obtain ⟨o, es, ep, ho, hc, hd, hk, hp, hn⟩ := hm
  have hes : es.size ≤ sizeLine := by
    have e1 := hp.length
    have e2 : es.toList.length = es.size := by simp
    omega
  unfold dictPut
  refine wpAny_bind (wpAny_dictFind_of hkey ho hd hk ?_)
  have hidx : (es.findIdx? fun e => knd.is k e.key) = kvs.findIdx? fun kv => decide (kv.1 = k) := by
    rw [← hp.findIdx k]; obtain ⟨l⟩ := es; simp
  cases hi : es.findIdx? fun e => knd.is k e.key with
  | some i =>
    refine wpAny_updateDict ho hd (hQ _ ⟨_, _, ep, Heap.get?_update_self _ ho (Obj.isFreed_of_dict (Obj.data_mapDict hd _)),
      hc.mapDict _, Obj.data_mapDict hd _, hk.modify _ _, ?_, ?_⟩ (Heap.SameBut.update ..))
    · rw [stored, if_pos (any_of_findIdx_some (hidx ▸ hi))]
      have hl : (es.toList.findIdx? fun e => knd.is k e.key) = some i := by rw [← hi]; obtain ⟨l⟩ := es; simp
      have := hp.modify hn hl v
      obtain ⟨l⟩ := es
      simpa using this
    · rw [stored, if_pos (any_of_findIdx_some (hidx ▸ hi)), keys_map_store]; exact hn
  | none =>
    have hnot : k ∉ kvs.map (·.1) := not_mem_of_findIdx_none (hidx ▸ hi)
    have hany : ¬ (kvs.any fun kv => decide (kv.1 = k)) = true := by
      rw [List.any_eq_true]; rintro ⟨kv, hkv, he⟩
      exact hnot (List.mem_map.mpr ⟨kv, hkv, of_decide_eq_true he⟩)
    refine wpAny_updateDictKeys (hz := hes) ho hd (hQ _ ⟨_, _, ep + 1, Heap.get?_update_self _ ho (Obj.isFreed_of_dict (Obj.data_mapDictKeys hd _)),
      hc.mapDictKeys _, Obj.data_mapDictKeys hd _, hk.push hkey _, ?_, ?_⟩ (Heap.SameBut.update ..))
    · rw [stored, if_neg hany]
      have := hp.append hkey (knd.hash k) v
      obtain ⟨l⟩ := es
      simpa using this
    · rw [stored, if_neg hany, List.map_append, List.nodup_append]
      refine ⟨hn, by simp, ?_⟩
      intro a ha b hb
      simp only [List.map_cons, List.map_nil, List.mem_singleton] at hb
      subst hb
      exact fun e => hnot (e ▸ ha)

theorem merge_map {K : Type} [DecidableEq K] {knd : KeyKind P w K} {d o : Addr} {kvs more : List (K × Value)} {Q : Unit → Shared → Prop} (hdo : d ≠ o) (hoS : (o == sysModules) = false) (hd : s.heap.DictOf knd d kvs) (ho : s.heap.DictOf knd o more) (hsz : kvs.length + more.length ≤ sizeLine)
    (hQ : ∀ h', h'.DictOf knd d (merged kvs more) → h'.DictOf knd o more → Heap.SameBut d s.heap h' → Q () { s with heap := h' }) : wpAny (model P w) A (mergeMapping d (.ref o) false) Q E s := by
  obtain ⟨od, esd, epd, hod, hcd, hdd, hkd, hpd, hnd⟩ := id hd
  obtain ⟨oo, eso, epo, hoo, hco, hdo', hko, hpo, hno⟩ := id ho
  have hT : s.TypeIs (.ref o) "dict" := ho.typeIs
  have look := PySem.F.slot_dict_iter.lookup
  have hlen : more.length = eso.size := by rw [← hpo.length]; simp
  unfold mergeMapping
  have sub : isSubtype (.type "dict") (.type "dict") = pure true := by rw [isSubtype_type]; kernel_rfl
  refine wpAny_bind (wpAny_isInstance hT sub ?_)
  simp only [if_true]
  refine wpAny_bind (wpAny_specialOf hT look ?_)
  refine wpAny_bind (wpAny_pure ?_)
  simp only [beq_self_eq_true]
  rw [if_neg (by rw [hoS]; exact Bool.false_ne_true)]
  refine wpAny_bind (wpAny_dictEntries hod hdd ?_)
  simp only [Bool.false_eq_true, if_false]
  by_cases he : esd.isEmpty = true
  rw [if_pos he]
  refine wpAny_bind (wpAny_dictEntries hoo hdo' ?_)
  refine wpAny_bind ?_
  rw [← Array.forIn_toList]
  refine wpAny_forIn_list _ (fun rest _ s' => s' = s ∧ ∀ e ∈ rest, e ∈ eso.toList) _ ?_ ?_ _ _ ⟨rfl, fun e h => h⟩
  · rintro e rest b s' ⟨rfl, hm⟩
    obtain ⟨k, hk, _⟩ := hko e (Array.mem_toList_iff.mp (hm e (List.mem_cons_self ..)))
    have nk : ∀ x, e.key ≠ .ref x := fun x z => by
      have := knd.byValue k _ hk
      rw [z] at this
      exact absurd this Bool.false_ne_true
    cases hkey : e.key with
    | ref x => exact absurd hkey (nk x)
    | _ => exact wpAny_pure ⟨rfl, fun e h => hm e (List.mem_cons_of_mem _ h)⟩
  rintro b s' ⟨hss, _⟩
  rw [hss]
  clear hss
  rotate_left
  rw [if_neg he]
  all_goals
    refine wpAny_bind (wpAny_dictEntries hoo hdo' ?_)
    refine wpAny_bind (wpAny_dictEpoch hoo hdo' ?_)
    refine wpAny_bind ?_
    rw [List.range_eq_range']
    refine wpAny_forIn_list _
      (fun rest _ s' => ∃ h' i, s' = { s with heap := h' } ∧ rest = List.range' i (eso.size - i) ∧ i ≤ eso.size ∧ h'.DictOf knd d (merged kvs (more.take i)) ∧ h'.get? o = some oo ∧ Heap.SameBut d s.heap h')
      _ ?_ ?_ _ _ ⟨s.heap, 0, rfl, by simp, Nat.zero_le _, by simpa [merged] using hd, hoo, Heap.SameBut.refl _ _⟩
    · rintro x rest b s' ⟨h', i, rfl, hr, hi, hd', hoo', hs'⟩
      have hlt : i < eso.size := by
        rcases Nat.lt_or_ge i eso.size with h | h
        · exact h
        · rw [Nat.sub_eq_zero_of_le h] at hr; simp at hr
      obtain ⟨rfl, hrest⟩ : x = i ∧ rest = List.range' (i + 1) (eso.size - (i + 1)) := by
        have e : eso.size - i = (eso.size - (i + 1)) + 1 := by omega
        rw [e, List.range'_succ] at hr
        injection hr with h1 h2
        exact ⟨h1, h2⟩
      refine wpAny_bind (wpAny_dictEntries hoo' hdo' ?_)
      rw [Array.getElem?_eq_getElem hlt]
      obtain ⟨kv, hkv⟩ : ∃ kv, more[x]? = some kv := ⟨more[x]'(by rw [hlen]; exact hlt), List.getElem?_eq_getElem _⟩
      obtain ⟨k, v⟩ := kv
      obtain ⟨hkey, hval⟩ := hpo.get? (e := eso[x]) (by simp [hlt]) hkv
      obtain ⟨k', hkey', hhash⟩ := hko eso[x] (Array.getElem_mem hlt)
      obtain rfl : k' = k := knd.inj _ _ _ hkey' hkey
      dsimp only
      rw [hhash, hval]
      have hmx : (merged kvs (more.take x)).length ≤ sizeLine := by
        have e1 := merged_length_le kvs (more.take x)
        have e2 : (more.take x).length ≤ more.length := by rw [List.length_take]; omega
        omega
      refine wpAny_bind (wpAny_holding (dict_put (hsz := hmx) hkey hd' fun h'' hd'' hs'' => ?_))
      have hoo'' : h''.get? o = some oo := (hs''.2 o (Ne.symm hdo)).trans hoo'
      refine wpAny_bind (wpAny_dictEpoch hoo'' hdo' ?_)
      rw [if_neg (by simp)]
      exact wpAny_pure ⟨h'', x + 1, rfl, hrest, hlt, by rw [merged_take_succ kvs more x (k', v) hkv]; exact hd'', hoo'', hs'.trans hs''⟩
    · rintro b s' ⟨h', i, rfl, hr, hi, hd', hoo', hs'⟩
      have hin : i = eso.size := by
        rcases Nat.lt_or_ge i eso.size with h | h
        · have e : eso.size - i = (eso.size - (i + 1)) + 1 := by omega
          rw [e, List.range'_succ] at hr; exact nomatch hr
        · exact Nat.le_antisymm hi h
      refine wpAny_pure (hQ h' ?_ ⟨oo, eso, epo, hoo', hco, hdo', hko, hpo, hno⟩ hs')
      rw [hin, ← hlen, List.take_length] at hd'; exact hd'
end
/-- {**a, **b} over dicts with keys ints and texts -/
def tStar2 (ta tb : TE) : TE := fun σ H Q => ∀ p, H p = none → ta σ (L2.upd H p (.dK [])) fun x H1 => ∃ (a : Addr) (ka : List (Key × V)), x = .ref a ∧ p ≠ a ∧ Rd H1 a (.dK ka) ∧ H1 p = some (.dK []) ∧
  tb σ (L2.upd H1 p (.dK (mergeK [] ka))) fun y H2 => ∃ (b : Addr) (kb : List (Key × V)), y = .ref b ∧ p ≠ b ∧ Rd H2 b (.dK kb) ∧ H2 p = some (.dK (mergeK [] ka)) ∧ ka.length + kb.length ≤ sizeLine ∧
    Q (.ref p) (L2.upd H2 p (.dK (mergeK (mergeK [] ka) kb)))
section
variable {X : Cx}
theorem d_merge {pins : List (Addr × Obj)} {s : Shared} {σ : L2.St} {H : Hp} {A : Around} {E : Value → Shared → Prop} {p a : Addr} {k0 ka : List (Key × V)} {Q : Unit → Shared → Prop} (I : Inv X pins σ H s) (ne : p ≠ a) (ep : H p = some (.dK k0)) (ea : Rd H a (.dK ka)) (hz : k0.length + ka.length ≤ sizeLine)
    (h : ∀ s', Inv X pins σ (L2.upd H p (.dK (mergeK k0 ka))) s' → Q () s') : wpAny (model X.prog X.w) A (mergeMapping p (.ref a) false) Q E s := by
  obtain ⟨z, hd, vs, rel, dd⟩ := dk_of I.hok ep
  obtain ⟨z2, hd2, vs2, rel2, dd2⟩ := dk_rd I.hok ea
  refine merge_map ne hd2 dd dd2 (by rw [← rel.length, ← rel2.length]; exact hz) fun h' dd' _ hs => h _ ?_
  have he : ∃ q, h'.get? p = some q := let ⟨q, _, _, hq, _⟩ := dd'; ⟨q, hq⟩
  have hl : (mergeK k0 ka).length ≤ sizeLine := Nat.le_trans (length_mergeK ka k0) hz
  exact d_write (t' := s.toks) I (by rw [ep]; exact True.intro) hs he (dk_new hl hd (KV.merge rel2 rel) dd')
theorem pe_star2 {pos : Pos} {a b : Expr} {ta tb : TE} (ha : PE X a ta) (hb : PE X b tb) : PE X (.Dict [none, none] [a, b] pos) (tStar2 ta tb) := by
  refine ⟨fun pins s σ H Q I q => ?_⟩
  have hn := I.hok.fresh (Nat.le_refl s.heap.objs.size)
  have I1 := I.laid (a := s.heap.objs.size) (o := .dK []) (h' := s.heap.push { cls := .type "dict", data := .dict #[] }) (t' := s.toks) (fun _ _ q => Heap.get?_push_of_some _ q) (Nat.le_refl _) (dk_empty s.heap I.big)
  rw [arm_eval_Dict]
  refine wpAny_bind (wpAny_standAt ?_)
  show wpAny _ _ (dictDisplay [(none, do let x ← eval a X.env; standAt pos; pure x), (none, do let x ← eval b X.env; standAt pos; pure x)]) _ _ s
  unfold dictDisplay
  dsimp only
  simp only [List.forIn_cons, List.forIn_nil, List.isEmpty_nil, if_true, pure_bind, bind_assoc]
  refine wpAny_bind (wpAny_alloc ?_)
  refine wpAny_bind (wpAny_holding (wpAny_bind (thn (ha.run pins _ σ _ _ I1 (q _ hn)) fun u s1 ⟨x, H1, I2, rx, a', ka, ex, ne, ea, ep, q1⟩ => wpAny_bind (wpAny_standAt (wpAny_pure ?_)))))
  subst ex
  obtain rfl : u = Value.ref a' := rx
  have z1 : (mergeK [] ka).length ≤ ka.length := by
    have := length_mergeK ka []
    rw [List.length_nil] at this
    omega
  refine wpAny_bind (wpAny_onRaise (wpAny_tryCatch (wpAny_onRaise (wpAny_holding (d_merge I2 ne ep ea (by rw [List.length_nil, Nat.zero_add]; exact (dk_rd I2.hok ea).1) fun s3 I3 => ?_)))))
  refine wpAny_bind (wpAny_holding (wpAny_bind (thn (hb.run pins _ σ _ _ I3 q1) fun u s4 ⟨y, H2, I4, ry, b', kb, ey, ne2, eb, ep2, hz, q2⟩ => wpAny_bind (wpAny_standAt (wpAny_pure ?_)))))
  subst ey
  obtain rfl : u = Value.ref b' := ry
  refine wpAny_bind (wpAny_onRaise (wpAny_tryCatch (wpAny_onRaise (wpAny_holding (d_merge I4 ne2 ep2 eb (by omega) fun s5 I5 => ?_)))))
  exact wpAny_pure ⟨.ref s.heap.objs.size, _, I5, rfl, q2⟩
end
end KC
namespace KC
open PySem PySem.Spec PyProof.Rows L2
/-! ### dict(zip(a, b)) of two lists -/
def tDictZip (K : PySem.W.Frag) (ta : TA) : TE := fun σ H Q => ta σ H fun vs H1 => ∃ (a b : Addr) (ks : List Key) (ys : List V), vs = [.ref a, .ref b] ∧ SqL K H1 a (ks.map kV) ∧ SqL K H1 b ys ∧ min ks.length ys.length ≤ 1000000 ∧
  ∀ p, H1 p = none → Q (.ref p) (L2.upd H1 p (.dK (mergeK [] (ks.zip ys))))
section
variable {X : Cx} {K : PySem.W.Frag} {e e2 : Expr} {ta : TA} {p p2 pos pos2 : Pos}
theorem pe_dictZip (hc : X.calm = true) (ha : PA X [e, e2] ta) (hg : Gl X "dict") (hm : X.mg "dict" = none) (hv : bootBuiltins "dict" = some (.type "dict")) (hg2 : Gl X "zip") (hm2 : X.mg "zip" = none)
    (hst : starEach [e, e2] X.env = (false, eval e X.env) :: starEach [e2] X.env := by rfl) (hpl : (backTo pos2 (starEach [e2] X.env)).any (·.1) = false := by rfl)
    (hs : starEach [.Call (.Name "zip" p2) [e, e2] [] pos2] X.env = (false, eval (.Call (.Name "zip" p2) [e, e2] [] pos2) X.env) :: starEach [] X.env := by rfl) (hK : X.K = K := by rfl) :
    PE X (.Call (.Name "dict" p) [.Call (.Name "zip" p2) [e, e2] [] pos2] [] pos) (tDictZip K ta) := by
  subst hK
  refine ⟨fun pins s σ H Q I hq => ?_⟩
  refine wpAny_Call_Name_kw (ld_blt I hg hm hv ?_)
  refine PyProof.Rows.callWith_type1 ?_ hs rfl
  rw [hs]
  show wpAny _ _ (spliced ((false, eval (.Call (.Name "zip" p2) [e, e2] [] pos2) X.env) :: backTo pos (starEach [] X.env))) _ _ s
  refine Calls.spliced_cons ?_
  refine Call_ (ld_blt I hg2 hm2 PyProof.Rows.boot_zip (PyProof.Rows.callWith_type1 (thn (ha.run pos2 pins s σ H _ I hq) fun us s1 ⟨vs, H1, I1, r1, q1⟩ => ?_) hst hpl))
  obtain ⟨a, b, ks, ys, ex, hqx, hqy, hmin, q⟩ := q1
  subst ex
  cases r1 with
  | cons r rr =>
    cases rr with
    | cons r' rr =>
      cases rr
      cases r
      cases r'
      obtain ⟨its, rv, p1, _⟩ := I1.list hqx
      obtain ⟨its2, rv2, p2', _⟩ := I1.list hqy
      have la : a < s1.heap.objs.size := p1.lt
      have lb : b < s1.heap.objs.size := p2'.lt
      have e1 : its.toArray.size = ks.length := by rw [List.size_toArray, ← rv.length, List.length_map]
      have e2' : its2.toArray.size = ys.length := by rw [List.size_toArray, ← rv2.length]
      refine call_zip_2 p1.isList p2'.isList fun h' hz hTI hTO h1 h2 hsz hk => ?_
      have I2 : Inv X pins σ H1 { s1 with heap := h' } := I1.kept (t' := s1.toks) hk
      refine Calls.spliced_nil ?_
      have hL1 := p1.isList.at fun o q => hk _ o q
      have hL2 := p2'.isList.at fun o q => hk _ o q
      have kv := kv_zip (ks := ks) rv2
      have hmin2 : (ks.zip ys).length ≤ 1000000 := by rw [List.length_zip]; exact hmin
      have hsq : (1000000 : Nat) ≤ sizeLine := sz_le (Nat.le_refl _) rfl
      refine call_dict_pairs (s := { s1 with heap := h' }) (knd := mixKind X.prog X.w) (kvs := ks.zip its2) (PairArg.zip _ _ _ _ _ a b (PySem.W.ktu_apart s1.heap.objs.size a b la lb) its.toArray its2.toArray) (I1.ok.hd hc)
        ⟨hz, hTI, ⟨_, _, hTO⟩, h1, h2, hL1, hL2⟩ ⟨by rw [List.length_zip, e1, e2', rv2.length], ?_⟩ (by rw [e1, e2']; omega) fun h'' tk hd hk2 => ?_
      · rintro i key v ⟨ex, ey⟩
        rw [← Array.getElem?_toList] at ex ey
        have ex' : its[i]? = some key := ex
        have ey' : its2[i]? = some v := ey
        have hlt : i < ks.length := by
          have := (List.getElem?_eq_some_iff.mp ex').1
          rw [← rv.length, List.length_map] at this
          exact this
        have ek := List.getElem?_eq_getElem hlt
        exact ⟨ks[i], List.getElem?_zip_eq_some.mpr ⟨ek, ey'⟩, kV_is (keys_vals rv i _ _ ek ex')⟩
      · have hk3 : ∀ b o, s1.heap.get? b = some o → h''.get? b = some o := fun b o q => by
          have lt := Heap.lt_size q
          refine hk2 b o ?_ (hk b o q)
          simp only [List.mem_cons, List.not_mem_nil, or_false, not_or]
          refine ⟨?_, ?_, ?_, ?_⟩ <;> first | exact Nat.ne_of_lt lt | exact Nat.ne_of_lt (Nat.lt_of_lt_of_le lt (Nat.le_add_right _ _))
        have hge : s1.heap.objs.size ≤ h'.objs.size := by rw [hsz]; exact Nat.le_add_right _ _
        have hl : (mergeK [] (ks.zip ys)).length ≤ sizeLine := by
          have := length_mergeK (ks.zip ys) []
          rw [List.length_nil] at this
          omega
        have I3 := I1.laid (a := h'.objs.size) (o := .dK (mergeK [] (ks.zip ys))) (t' := tk) hk3 hge ⟨hl, beq_eq_false_iff_ne.mpr (Ne.symm (Nat.ne_of_lt (Nat.lt_of_lt_of_le I1.big hge))), _, KV.merge kv .nil, hd⟩
        exact ⟨.ref _, _, I3, rfl, q _ (I1.hok.fresh hge)⟩
end
end KC
namespace KC
open PySem PySem.Spec PyProof.Rows L2 Srt
/-! ### sorted of pairs (an int, a text), any number of them -/
def ltT (x y : Str) : Bool := decide (x.cps.toList < y.cps.toList)
theorem ltT_no {x y : Str} : ltT x y = false ↔ leS y x = true := by
  unfold ltT leS leC
  rw [ltCps_eq]
  show _ ↔ (!decide (x.cps.toList < y.cps.toList)) = true
  cases decide (x.cps.toList < y.cps.toList) <;> simp
def ltIS (p q : Int × Str) : Bool := if p.1 = q.1 then ltT p.2 q.2 else decide (p.1 < q.1)
def leIS (p q : Int × Str) : Bool := decide (p.1 < q.1) || (decide (p.1 = q.1) && leS p.2 q.2)
theorem leIS_iff {p q : Int × Str} : leIS p q = true ↔ p.1 < q.1 ∨ (p.1 = q.1 ∧ leS p.2 q.2 = true) := by
  unfold leIS
  rw [Bool.or_eq_true, Bool.and_eq_true, decide_eq_true_eq, decide_eq_true_eq]
theorem ltIS_no {p q : Int × Str} : ltIS p q = false ↔ leIS q p = true := by
  rw [leIS_iff]
  unfold ltIS
  by_cases e : p.1 = q.1
  · rw [if_pos e, ltT_no]
    constructor
    · intro h
      exact .inr ⟨e.symm, h⟩
    · rintro (h | ⟨_, h⟩)
      · omega
      · exact h
  · rw [if_neg e, decide_eq_false_iff_not]
    constructor
    · intro h
      exact .inl (by omega)
    · rintro (h | ⟨h, _⟩) <;> omega
theorem leIS_trans {p q r : Int × Str} (h1 : leIS p q = true) (h2 : leIS q r = true) : leIS p r = true := by
  rw [leIS_iff] at h1 h2 ⊢
  rcases h1 with h1 | ⟨e1, h1⟩ <;> rcases h2 with h2 | ⟨e2, h2⟩
  · exact .inl (by omega)
  · exact .inl (by omega)
  · exact .inl (by omega)
  · exact .inr ⟨by omega, leS_trans h1 h2⟩
theorem leIS_total (p q : Int × Str) : (leIS p q || leIS q p) = true := by
  rw [Bool.or_eq_true, leIS_iff, leIS_iff]
  rcases Int.lt_trichotomy p.1 q.1 with h | h | h
  · exact .inl (.inl h)
  · have := leS_total p.2 q.2
    rw [Bool.or_eq_true] at this
    rcases this with z | z
    · exact .inl (.inr ⟨h, z⟩)
    · exact .inr (.inr ⟨h.symm, z⟩)
  · exact .inr (.inl h)
theorem leIS_antisymm {p q : Int × Str} (h1 : leIS p q = true) (h2 : leIS q p = true) : p = q := by
  rw [leIS_iff] at h1 h2
  rcases h1 with h1 | ⟨e1, h1⟩ <;> rcases h2 with h2 | ⟨e2, h2⟩
  · omega
  · omega
  · omega
  · exact Prod.ext e1 (leS_antisymm h1 h2)
def AscP (xs : List (Int × Str)) : Prop := xs.Pairwise fun x y => leIS x y = true
def srtP (xs : List (Int × Str)) : List (Int × Str) := xs.mergeSort leIS
theorem srtP_perm (xs : List (Int × Str)) : (srtP xs).Perm xs := List.mergeSort_perm xs leIS
theorem srtP_asc (xs : List (Int × Str)) : AscP (srtP xs) := List.pairwise_mergeSort (le := leIS) (fun _ _ _ h1 h2 => leIS_trans h1 h2) leIS_total xs
theorem ascP_unique {xs ys : List (Int × Str)} (p : xs.Perm ys) (hx : AscP xs) (hy : AscP ys) : xs = ys :=
  List.Perm.eq_of_pairwise (fun _ _ _ _ h1 h2 => leIS_antisymm h1 h2) hx hy p
theorem srtP_eq {xs ys : List (Int × Str)} (p : ys.Perm xs) (h : AscP ys) : srtP xs = ys := ascP_unique ((srtP_perm xs).trans p.symm) (srtP_asc xs) h
def IsPairS (h : Heap) (v : Value) (x : Int) (y : Str) : Prop := ∃ a o t u n, v = .ref a ∧ h.get? a = some o ∧ o.cls = .type "tuple" ∧ o.data = .seq #[.int x t, .str y u] n
theorem IsPairS.keeps {h h' : Heap} {v : Value} {x : Int} {y : Str} (p : IsPairS h v x y) (k : ∀ b o, h.get? b = some o → o.cls = .type "tuple" → h'.get? b = some o) : IsPairS h' v x y := by
  obtain ⟨a, o, t, u, n, e, ho, hc, hd⟩ := p
  exact ⟨a, o, t, u, n, e, k _ _ ho hc, hc, hd⟩
theorem swo_is (k : Value → Int × Str) : SrtO.Swo fun v u => ltIS (k v) (k u) := by
  refine ⟨fun x y h => ?_, fun x y z h1 h2 => ?_⟩
  · rw [ltIS_no]
    have := leIS_total (k x) (k y)
    rw [Bool.or_eq_true] at this
    rcases this with q | q
    · exact q
    · have e := ltIS_no.mpr q
      rw [h] at e
      cases e
  · rw [ltIS_no] at h1 h2 ⊢
    exact leIS_trans h1 h2
section
variable {prog : Program} {w : World} {A : Around} {s : Shared}
theorem is_cmp {vs : List Value} {k : Value → Int × Str} (hp : ∀ v ∈ vs, IsPairS s.heap v (k v).1 (k v).2) : SrtO.Cmp prog w A s (tuples' true) (fun p => p.1 ∈ vs) (SrtO.lt2 fun v u => ltIS (k v) (k u)) := by
  intro p q hm hm'
  have h1 := hp _ hm
  have h2 := hp _ hm'
  show wpAny (model prog w) A (keyLt' (tuples' true) p.1 q.1) (fun r s' => s' = s ∧ r = ltIS (k p.1) (k q.1)) (fun _ _ => False) s
  unfold ltIS
  generalize (k p.1).1 = x at h1 ⊢
  generalize (k p.1).2 = y at h1 ⊢
  generalize (k q.1).1 = x' at h2 ⊢
  generalize (k q.1).2 = y' at h2 ⊢
  obtain ⟨a, o, t, u, n, e, ho, hc, hd⟩ := h1
  obtain ⟨a', o', t', u', n', e', ho', hc', hd'⟩ := h2
  rw [e, e']
  refine PySem.W.kat_lt ho hd ho' hd' ?_
  show PySem.W.KatLex prog w A true (decide (2 < 2)) _ [(.int x t, .int x' t'), (.str y u, .str y' u')] 0 s
  refine PySem.W.kat_cons (SeqAt.EqAt.int_int x t x' t' prog w _ _ ?_)
  refine PySem.W.kat_go (fun e1 => ?_) (fun e1 => ?_)
  · have ex : x = x' := by simpa using e1
    refine PySem.W.kat_yes (PySem.W.kat_cons (SeqAt.EqAt.str_str y u y' u' prog w _ _ ?_))
    refine PySem.W.kat_go (fun e2 => ?_) (fun e2 => ?_)
    · have ey : y = y' := by simpa using e2
      have e3 : (if x = x' then ltT y y' else decide (x < x')) = false := by
        rw [if_pos ex, ey, ltT_no]
        have := leS_total y' y'
        rwa [Bool.or_self] at this
      exact PySem.W.kat_yes (PySem.W.kat_nil ⟨rfl, e3.symm⟩)
    · have e3 : (if x = x' then ltT y y' else decide (x < x')) = ltT y y' := if_pos ex
      refine PySem.W.kat_no (PySem.W.kat_one _ _ (PyProof.Rows.lt_str ?_))
      exact (show s = s ∧ ltT y y' = (if x = x' then ltT y y' else decide (x < x')) from ⟨rfl, e3.symm⟩)
  · have ex : ¬ x = x' := by simpa using e1
    have e3 : (if x = x' then ltT y y' else decide (x < x')) = decide (x < x') := if_neg ex
    exact PySem.W.kat_no (oneLt_int ⟨rfl, e3.symm⟩)
theorem is_firsts {h : Heap} : ∀ {vs : List Value}, (∀ v ∈ vs, ∃ x y, IsPairS h v x y) → ∃ fs : List Value, PySem.W.KatTups h vs fs ∧ fs.length = vs.length ∧ ∀ f ∈ fs, ∃ x t, f = Value.int x t
  | [], _ => ⟨[], PySem.W.KatTups.nil, rfl, fun _ hm => by simp at hm⟩
  | v :: vs, hp => by
    obtain ⟨fs, h1, h2, h3⟩ := is_firsts (vs := vs) fun v' hm => hp v' (List.mem_cons_of_mem _ hm)
    obtain ⟨x, y, a, o, t, u, n, e, ho, hc, hd⟩ := hp v (List.mem_cons_self ..)
    subst e
    refine ⟨.int x t :: fs, PySem.W.KatTups.cons ho hc hd rfl h1, by rw [List.length_cons, List.length_cons, h2], fun f hm => ?_⟩
    rcases List.mem_cons.mp hm with rfl | hm
    · exact ⟨x, t, rfl⟩
    · exact h3 f hm
theorem is_sortable {a : Addr} {vs : List Value} {k : Value → Int × Str} (h0 : 0 < vs.length) (hp : ∀ v ∈ vs, IsPairS s.heap v (k v).1 (k v).2) (ha : ∀ o, s.heap.get? a = some o → o.cls ≠ .type "tuple") : SrtO.SortableO prog w A s a vs fun v u => ltIS (k v) (k u) := by
  intro h' keep
  have hp' : ∀ v ∈ vs, IsPairS h' v (k v).1 (k v).2 := fun v hm => (hp v hm).keeps fun b o e c => keep b o (fun z => by subst z; exact ha o e c) e
  obtain ⟨fs, h1, h2, h3⟩ := is_firsts fun v hm => ⟨_, _, hp' v hm⟩
  refine ⟨tuples' true, fun Q E hq => ?_, is_cmp hp'⟩
  refine PySem.W.kat_kind (T := .type "int") h1 (by omega) (fun f hm => ?_) (by rfl) ?_
  · obtain ⟨x, t, rfl⟩ := h3 f hm
    exact PySem.W.Looks.now
  · have e : (Value.type "int" != Value.type "tuple") = true := by first | decide +kernel | rfl | decide
    rw [e]
    exact hq
end
/-- sorted(xs), xs a list of pairs: a new list of the same pairs, in ascending order -/
def rSortedIS (K : PySem.W.Frag) : List V → Hp → VK → Prop := fun vs H Q => ∃ (a : Addr) (ts : List Addr) (qs : List (Int × Str)), vs = [V.ref a] ∧ SqL K H a (ts.map V.ref) ∧ Paired (fun t (q : Int × Str) => H t = some (.tup [.int q.1, .str q.2])) ts qs ∧
  ∀ (us : List Addr) p, Paired (fun t (q : Int × Str) => H t = some (.tup [.int q.1, .str q.2])) us (srtP qs) → H p = none → Q (.ref p) (L2.upd H p (.lst (us.map V.ref)))
def pairK (H : Hp) (v : V) : Int × Str := match v with | .ref t => (match H t with | some (.tup [.int i, .str x]) => (i, x) | _ => (0, "")) | _ => (0, "")
theorem is_keys {H : Hp} : ∀ {ts : List Addr} {qs : List (Int × Str)}, Paired (fun t (q : Int × Str) => H t = some (.tup [.int q.1, .str q.2])) ts qs → (ts.map V.ref).map (pairK H) = qs
  | [], _, .nil => rfl
  | t :: ts, _, .cons (b := q) h r => by
    rw [List.map_cons, List.map_cons, is_keys r]
    congr 1
    show (match H t with | some (.tup [.int i, .str x]) => (i, x) | _ => (0, "")) = q
    rw [h]
theorem paired_back {H : Hp} : ∀ {us : List Addr}, (∀ u ∈ us, ∃ q : Int × Str, H u = some (.tup [.int q.1, .str q.2])) → Paired (fun t (q : Int × Str) => H t = some (.tup [.int q.1, .str q.2])) us ((us.map V.ref).map (pairK H))
  | [], _ => .nil
  | u :: us, h => by
    refine .cons ?_ (paired_back fun x hx => h x (List.mem_cons_of_mem _ hx))
    obtain ⟨q, e⟩ := h u (List.mem_cons_self ..)
    show H u = some (.tup [.int (match H u with | some (.tup [.int i, .str x]) => (i, x) | _ => (0, "")).1, .str (match H u with | some (.tup [.int i, .str x]) => (i, x) | _ => (0, "")).2])
    rw [e]
section
variable {X : Cx}
theorem cr_sortedIS : CallR X (.builtin "sorted") (rSortedIS X.K) := by
  intro pins s σ H vs us Q I r h
  obtain ⟨a, ts, qs, rfl, hs, hx, q⟩ := h
  obtain ⟨its, rv, hl, hz⟩ := I.list hs
  obtain ⟨u, rfl, ru⟩ := vals1 r
  obtain rfl : u = Value.ref a := ru
  have hx1 : ∀ x ∈ ts.map V.ref, ∃ t, x = V.ref t ∧ H t = some (.tup [.int (pairK H x).1, .str (pairK H x).2]) := fun x m => by
    obtain ⟨t, ht, rfl⟩ := List.mem_map.mp m
    refine ⟨t, rfl, ?_⟩
    obtain ⟨p, hp⟩ : ∃ p : Int × Str, H t = some (.tup [.int p.1, .str p.2]) := by
      clear q rv hs hz
      induction hx with
      | nil => cases ht
      | cons h r ih =>
        rcases List.mem_cons.mp ht with rfl | ht
        · exact ⟨_, h⟩
        · exact ih ht (List.mem_map_of_mem ht)
    show H t = some (.tup [.int (match H t with | some (.tup [.int i, .str x]) => (i, x) | _ => (0, "")).1, .str (match H t with | some (.tup [.int i, .str x]) => (i, x) | _ => (0, "")).2])
    rw [hp]
  obtain ⟨e1, e2⟩ := refs_back rv fun x m => by
    obtain ⟨t, e, _⟩ := hx1 x m
    exact ⟨t, e⟩
  have hpS : ∀ v ∈ its, IsPairS s.heap v (pairK H (backV v)).1 (pairK H (backV v)).2 := fun v hv => by
    obtain ⟨t, rfl⟩ := e2 v hv
    have hm : V.ref t ∈ ts.map V.ref := by rw [e1]; exact List.mem_map.mpr ⟨_, hv, rfl⟩
    obtain ⟨t', e, ht⟩ := hx1 _ hm
    cases e
    obtain ⟨_, its2, r2, o, ho, hc, n, hd⟩ := I.hok _ _ ht
    obtain ⟨u1, u2, rfl, ri, rj⟩ := vals2 r2
    obtain ⟨t1, rfl⟩ := ri
    obtain ⟨t2, rfl⟩ := rj
    exact ⟨t, o, t1, t2, n, rfl, ho, hc, hd⟩
  refine SrtO.sorted_ord (swo_is fun v => pairK H (backV v)) hl.isList (by rw [← rv.length]; exact hz) (fun h2 h₁ a' ha kk => ?_) fun out h1 h2 => ?_
  · refine is_sortable (s := { s with heap := h₁ }) (by omega) (fun v hm => (hpS v hm).keeps fun b o e _ => (kk b o e).2) fun o e => ?_
    have e' : some o = some (seqObj "list" its.toArray 0) := e.symm.trans ha
    cases e'
    intro c
    exact absurd (Value.type.inj c) (by decide)
  · have h3 : ∀ u ∈ out, ∃ a, u = Value.ref a := fun u hu => e2 u (h2.perm.mem_iff.mp hu)
    obtain ⟨n, hn⟩ := PyProof.Rows.sortedAll_at s.heap its out.toArray
    have pm : (out.map backV).Perm (ts.map V.ref) := by
      rw [e1]
      exact h2.perm.map _
    obtain ⟨us, eu⟩ : ∃ us : List Addr, out.map backV = us.map V.ref := by
      clear pm hn h1 h2 hpS
      induction out with
      | nil => exact ⟨[], rfl⟩
      | cons v r ih =>
        obtain ⟨us, e⟩ := ih fun u hu => h3 u (List.mem_cons_of_mem _ hu)
        obtain ⟨b, rfl⟩ := h3 v (List.mem_cons_self ..)
        exact ⟨b :: us, by rw [List.map_cons, e]; rfl⟩
    have hu : ∀ u ∈ us, ∃ p : Int × Str, H u = some (.tup [.int p.1, .str p.2]) := fun u hu => by
      have := pm.mem_iff.mp (by rw [eu]; exact List.mem_map_of_mem hu : V.ref u ∈ out.map backV)
      obtain ⟨t, e, ht⟩ := hx1 _ this
      cases e
      exact ⟨_, ht⟩
    have ek : srtP qs = (us.map V.ref).map (pairK H) := by
      refine srtP_eq ?_ ?_
      · have := pm.map (pairK H)
        rw [eu, is_keys hx] at this
        exact this
      · rw [← eu, List.map_map]
        exact List.pairwise_map.mpr (h1.imp fun {x y} h => ltIS_no.mp h)
    have fin := q us (s.heap.objs.size + 1) (by rw [ek]; exact paired_back hu) (I.hok.fresh (Nat.le_succ _))
    refine ⟨.ref _, L2.upd H (s.heap.objs.size + 1) (.lst (us.map V.ref)), I.laid (t' := s.toks) (fun _ _ => PyProof.Rows.sortedAll_old) (Nat.le_succ _) ⟨?_, out, n, by rw [← eu]; exact L2.vals_back h3, hn⟩, rfl, fin⟩
    rw [← eu, pm.length_eq]
    exact hz
end
end KC
namespace KC
open PySem PySem.Spec PyProof.Rows L2
/-! ### codewords in order of length and name, each the first free node -/
def freeN (ds : List Nat) (used : List Str) (l : Nat) : List Str := (lvl ds l).filter (freeB used)
theorem freeB_snoc {used : List Str} {x y : Str} : freeB (used ++ [x]) y = (freeB used y && !cmpS y x) := by
  unfold freeB
  rw [List.any_append, Bool.not_or]
  simp
theorem cmpS_eqlen {x y : Str} (h : x.length = y.length) : cmpS x y = decide (x = y) := by
  by_cases e : x = y
  · rw [decide_eq_true e, e]
    exact cmpS_iff.mpr (.inl (List.prefix_refl _))
  · rw [decide_eq_false e, ← Bool.not_eq_true, cmpS_iff]
    have hl : (TL.tl x).length = (TL.tl y).length := by
      rw [TL.len_tl, TL.len_tl] at h
      exact h
    rintro (q | q)
    · exact e (TL.ext_tl (q.eq_of_length hl))
    · exact e (TL.ext_tl (q.eq_of_length hl.symm)).symm
theorem freeN_nodup {ds : List Nat} (hd : ds.Nodup) (used : List Str) (l : Nat) : (freeN ds used l).Nodup := (lvl_nodup hd l).filter _
theorem freeN_mem {ds : List Nat} {used : List Str} {l : Nat} {x : Str} (h : x ∈ freeN ds used l) : x.length = l ∧ (∀ c ∈ TL.tl x, c ∈ ds) ∧ freeB used x = true := by
  obtain ⟨h1, h2⟩ := List.mem_filter.mp h
  obtain ⟨a, b⟩ := lvl_of h1
  exact ⟨a, b, h2⟩
theorem freeN_snoc {ds : List Nat} (hd : ds.Nodup) {used t : List Str} {l : Nat} {x : Str} (h : freeN ds used l = x :: t) : freeN ds (used ++ [x]) l = t := by
  have nd := freeN_nodup hd used l
  have e : freeN ds (used ++ [x]) l = (freeN ds used l).filter fun y => !cmpS y x := by
    unfold freeN
    rw [List.filter_filter]
    refine List.filter_congr fun y _ => ?_
    rw [freeB_snoc, Bool.and_comm]
  have hx : x.length = l := (freeN_mem (by rw [h]; exact List.mem_cons_self ..)).1
  rw [e, h, List.filter_cons, if_neg (by rw [cmpS_eqlen rfl]; simp)]
  refine List.filter_eq_self.mpr fun y hy => ?_
  rw [h] at nd
  have hyl : y.length = l := (freeN_mem (by rw [h]; exact List.mem_cons_of_mem _ hy)).1
  have ne : y ≠ x := fun q => (List.nodup_cons.mp nd).1 (by rw [← q]; exact hy)
  rw [cmpS_eqlen (by omega), decide_eq_false ne]
  rfl
def place (ds : List Nat) : List Str → List (Nat × Str) → List (Str × Str)
  | _, [] => []
  | used, (l, n) :: r => (n, (freeN ds used l).headD "") :: place ds (used ++ [(freeN ds used l).headD ""]) r
theorem place_batch {ds : List Nat} (hd : ds.Nodup) {l : Nat} {rest : List (Nat × Str)} : ∀ {names : List Str} {used : List Str}, names.length ≤ (freeN ds used l).length →
    place ds used (names.map (fun n => (l, n)) ++ rest) = names.zip (freeN ds used l) ++ place ds (used ++ (names.zip (freeN ds used l)).map (·.2)) rest
  | [], used, _ => by
    show place ds used rest = place ds (used ++ []) rest
    rw [List.append_nil]
  | n :: names, used, h => by
    cases hf : freeN ds used l with
    | nil => rw [hf] at h; cases h
    | cons x t =>
      have e := freeN_snoc hd hf
      rw [hf, List.length_cons, List.length_cons] at h
      have ih := place_batch hd (rest := rest) (names := names) (used := used ++ [x]) (l := l) (by rw [e]; omega)
      show (n, (freeN ds used l).headD "") :: place ds (used ++ [(freeN ds used l).headD ""]) (names.map (fun n => (l, n)) ++ rest) = _
      rw [hf]
      show (n, x) :: place ds (used ++ [x]) _ = _
      rw [ih, e, List.zip_cons_cons, List.map_cons, List.append_assoc]
      rfl
/-- what is placed: all of it has its length, nothing is in the way of another -/
theorem place_ok {ds : List Nat} (hd : ds.Nodup) {h : Nat} : ∀ {os : List (Nat × Str)} {used : List Str} {lo : Nat}, PF used → (∀ t ∈ used, ∀ c ∈ TL.tl t, c ∈ ds) → Fits ds.length used (os.map (·.1)) lo h →
    (∀ o ∈ os, lo ≤ o.1 ∧ o.1 ≤ h) → os.Pairwise (fun a b => a.1 ≤ b.1) →
    PF (used ++ (place ds used os).map (·.2)) ∧ (place ds used os).map (fun p => (p.2.length, p.1)) = os ∧ ∀ p ∈ place ds used os, ∀ c ∈ TL.tl p.2, c ∈ ds
  | [], used, lo, pf, hc, f, hb, ha => ⟨by simpa [place] using pf, rfl, fun p hp => nomatch hp⟩
  | (l, n) :: os, used, lo, pf, hc, f, hb, ha => by
    obtain ⟨b1, b2⟩ := hb _ (List.mem_cons_self ..)
    have rm := fits_room hd pf hc f b1 b2
    have b1 : lo ≤ l := b1
    have b2 : l ≤ h := b2
    have hp : 1 ≤ (freeN ds used l).length := by
      refine Nat.le_trans ?_ rm
      rw [List.map_cons, List.filter_cons, if_pos (decide_eq_true rfl), List.length_cons]
      omega
    obtain ⟨x, t, hf⟩ : ∃ x t, freeN ds used l = x :: t := by
      cases hf : freeN ds used l with
      | nil => rw [hf] at hp; cases hp
      | cons x t => exact ⟨x, t, rfl⟩
    obtain ⟨x1, x2, x3⟩ := freeN_mem (show x ∈ freeN ds used l by rw [hf]; exact List.mem_cons_self ..)
    have pf2 : PF (used ++ [x]) := by
      refine List.pairwise_append.mpr ⟨pf, List.pairwise_singleton _ _, fun a ha b hb => ?_⟩
      rw [List.mem_singleton.mp hb, cmpS_symm]
      have : freeB used x = true := x3
      unfold freeB at this
      rw [Bool.not_eq_true', List.any_eq_false] at this
      exact Bool.eq_false_iff.mpr (this a ha)
    have hc2 : ∀ t ∈ used ++ [x], ∀ c ∈ TL.tl t, c ∈ ds := fun t ht => by
      rcases List.mem_append.mp ht with ht | ht
      · exact hc t ht
      · rw [List.mem_singleton.mp ht]; exact x2
    have ha2 := List.pairwise_cons.mp ha
    obtain ⟨i1, i2, i3⟩ := place_ok hd (os := os) (used := used ++ [x]) (lo := l) pf2 hc2 (fits_place (fits_mono f b1) x1 (Nat.le_refl _)) (fun o ho => ⟨ha2.1 o ho, (hb o (List.mem_cons_of_mem _ ho)).2⟩) ha2.2
    have e : place ds used ((l, n) :: os) = (n, x) :: place ds (used ++ [x]) os := by
      show (n, (freeN ds used l).headD "") :: place ds (used ++ [(freeN ds used l).headD ""]) os = _
      rw [hf]
      rfl
    rw [e]
    refine ⟨?_, ?_, ?_⟩
    · rw [List.map_cons, List.append_cons]
      exact i1
    · rw [List.map_cons, i2]
      show (x.length, n) :: os = _
      rw [x1]
    · intro p hp
      rcases List.mem_cons.mp hp with rfl | hp
      · exact x2
      · exact i3 p hp
/-! ### level by level -/
def namesAt (lens : List (Str × Nat)) (l : Nat) : List Str := (srt (lens.map (·.1))).filter fun n => decide (lenAt lens n = some l)
def orderL (lens : List (Str × Nat)) (ls : List Nat) : List (Nat × Str) := ls.flatMap fun l => (namesAt lens l).map fun n => (l, n)
def packStep (ds : List Nat) (fixed : List Str) (lens : List (Str × Nat)) (found : List (Str × Str)) (l : Nat) : List (Str × Str) :=
  found ++ (namesAt lens l).zip (freeN ds (fixed ++ found.map (·.2)) l)
theorem orderL_cons (lens : List (Str × Nat)) (l : Nat) (ls : List Nat) : orderL lens (l :: ls) = (namesAt lens l).map (fun n => (l, n)) ++ orderL lens ls := rfl
theorem orderL_fst {lens : List (Str × Nat)} {ls : List Nat} {o : Nat × Str} (h : o ∈ orderL lens ls) : o.1 ∈ ls ∧ lenAt lens o.2 = some o.1 := by
  obtain ⟨l, hl, h2⟩ := List.mem_flatMap.mp h
  obtain ⟨n, hn, rfl⟩ := List.mem_map.mp h2
  exact ⟨hl, of_decide_eq_true (List.mem_filter.mp hn).2⟩
theorem orderL_asc {lens : List (Str × Nat)} : ∀ {ls : List Nat}, ls.Pairwise (· < ·) → (orderL lens ls).Pairwise (fun a b => a.1 ≤ b.1)
  | [], _ => List.Pairwise.nil
  | l :: ls, h => by
    have h2 := List.pairwise_cons.mp h
    rw [orderL_cons]
    refine List.pairwise_append.mpr ⟨List.pairwise_map.mpr (List.pairwise_of_forall fun _ _ => Nat.le_refl _), orderL_asc h2.2, fun a ha b hb => ?_⟩
    obtain ⟨n, _, rfl⟩ := List.mem_map.mp ha
    exact Nat.le_of_lt (h2.1 _ (orderL_fst hb).1)
theorem pack_place {ds : List Nat} (hd : ds.Nodup) {h : Nat} {fixed : List Str} {lens : List (Str × Nat)} : ∀ {ls : List Nat} {found : List (Str × Str)} {lo : Nat}, PF (fixed ++ found.map (·.2)) → (∀ t ∈ fixed ++ found.map (·.2), ∀ c ∈ TL.tl t, c ∈ ds) →
    Fits ds.length (fixed ++ found.map (·.2)) ((orderL lens ls).map (·.1)) lo h → ls.Pairwise (· < ·) → (∀ l ∈ ls, lo ≤ l ∧ l ≤ h) →
    ls.foldl (packStep ds fixed lens) found = found ++ place ds (fixed ++ found.map (·.2)) (orderL lens ls)
  | [], found, lo, _, _, _, _, _ => by
    show found = found ++ []
    rw [List.append_nil]
  | l :: ls, found, lo, pf, hc, f, ha, hb => by
    have ha2 := List.pairwise_cons.mp ha
    obtain ⟨b1, b2⟩ := hb l (List.mem_cons_self ..)
    have rm := fits_room hd pf hc f b1 b2
    have hn : (namesAt lens l).length ≤ (freeN ds (fixed ++ found.map (·.2)) l).length := by
      refine Nat.le_trans ?_ rm
      rw [orderL_cons, List.map_append, List.filter_append, List.length_append, List.map_map]
      have : (((namesAt lens l).map ((·.1) ∘ fun n => (l, n))).filter fun m => decide (m = l)).length = (namesAt lens l).length := by
        rw [List.filter_eq_self.mpr]
        · rw [List.length_map]
        · intro m hm
          obtain ⟨n, _, rfl⟩ := List.mem_map.mp hm
          exact decide_eq_true rfl
      omega
    have ok := place_ok hd (os := orderL lens (l :: ls)) pf hc f (fun o ho => hb _ (orderL_fst ho).1) (orderL_asc ha)
    have e := place_batch hd (rest := orderL lens ls) hn
    rw [← orderL_cons] at e
    have hzl : ((namesAt lens l).zip (freeN ds (fixed ++ found.map (·.2)) l)).map (fun p => (p.2.length, p.1)) = (namesAt lens l).map fun n => (l, n) := by
      have := ok.2.1
      rw [e, List.map_append, orderL_cons] at this
      refine (List.append_inj this ?_).1
      rw [List.length_map, List.length_zip, List.length_map]
      omega
    have ez : fixed ++ (packStep ds fixed lens found l).map (·.2) = (fixed ++ found.map (·.2)) ++ ((namesAt lens l).zip (freeN ds (fixed ++ found.map (·.2)) l)).map (·.2) := by
      unfold packStep
      rw [List.map_append, List.append_assoc]
    have pf2 : PF (fixed ++ (packStep ds fixed lens found l).map (·.2)) := by
      rw [ez]
      have := ok.1
      rw [e, List.map_append, ← List.append_assoc] at this
      exact pf_sub this (List.sublist_append_left _ _)
    have hc2 : ∀ t ∈ fixed ++ (packStep ds fixed lens found l).map (·.2), ∀ c ∈ TL.tl t, c ∈ ds := by
      rw [ez]
      intro t ht
      rcases List.mem_append.mp ht with ht | ht
      · exact hc t ht
      · obtain ⟨p, hp, rfl⟩ := List.mem_map.mp ht
        exact ok.2.2 p (by rw [e]; exact List.mem_append_left _ hp)
    have f2 : Fits ds.length (fixed ++ (packStep ds fixed lens found l).map (·.2)) ((orderL lens ls).map (·.1)) l h := by
      rw [ez]
      have gen : ∀ (zs : List (Str × Str)) (used : List Str), (∀ p ∈ zs, p.2.length = l) → Fits ds.length used (zs.map (fun _ => l) ++ (orderL lens ls).map (·.1)) l h → Fits ds.length (used ++ zs.map (·.2)) ((orderL lens ls).map (·.1)) l h := by
        intro zs
        induction zs with
        | nil => intro used _ g; simpa using g
        | cons z zs ih =>
          intro used hz g
          rw [List.map_cons, List.append_cons]
          exact ih _ (fun p hp => hz p (List.mem_cons_of_mem _ hp)) (fits_place g (hz z (List.mem_cons_self ..)) (Nat.le_refl _))
      refine gen _ _ (fun p hp => ?_) ?_
      · exact (freeN_mem (List.of_mem_zip hp).2).1
      · have : ((namesAt lens l).zip (freeN ds (fixed ++ found.map (·.2)) l)).map (fun _ => l) = ((namesAt lens l).map fun n => (l, n)).map (·.1) := by
          rw [← hzl, List.map_map]
          refine List.map_congr_left fun p hp => ?_
          exact (freeN_mem (List.of_mem_zip hp).2).1.symm
        rw [this, ← List.map_append, ← orderL_cons]
        exact fits_mono f b1
    have ih := pack_place hd (ls := ls) (found := packStep ds fixed lens found l) (lo := l) pf2 hc2 f2 ha2.2 (fun m hm => ⟨Nat.le_of_lt (ha2.1 m hm), (hb m (List.mem_cons_of_mem _ hm)).2⟩)
    show ls.foldl (packStep ds fixed lens) (packStep ds fixed lens found l) = _
    rw [ih, ez, e]
    show (found ++ _) ++ _ = found ++ (_ ++ _)
    rw [List.append_assoc]
/-- the levels in their order are all the names, in ascending order of length and name -/
theorem order_sorted {lens : List (Str × Nat)} (nd : (lens.map (·.1)).Nodup) {ls : List Nat} (ha : ls.Pairwise (· < ·)) (hm : ∀ l, l ∈ ls ↔ l ∈ lens.map (·.2)) :
    srtP (lens.map fun p => (((p.2 : Nat) : Int), p.1)) = (orderL lens ls).map fun p => (((p.1 : Nat) : Int), p.2) := by
  have strict : ((orderL lens ls).map fun p => (((p.1 : Nat) : Int), p.2)).Pairwise fun x y => leIS x y = true ∧ x ≠ y := by
    refine List.pairwise_map.mpr (List.pairwise_flatMap.mpr ⟨fun l _ => List.pairwise_map.mpr ?_, ha.imp fun {a b} hab x hx y hy => ?_⟩)
    · have h1 : Asc (namesAt lens l) := List.Pairwise.sublist List.filter_sublist (srt_asc _)
      have h2 : (namesAt lens l).Nodup := List.Nodup.sublist List.filter_sublist ((srt_perm _).nodup_iff.mpr nd)
      refine List.Pairwise.imp (fun {a b} (h : leS a b = true ∧ a ≠ b) => ⟨leIS_iff.mpr (.inr ⟨rfl, h.1⟩), fun q => h.2 (congrArg (·.2) q)⟩) (List.Pairwise.and h1 h2)
    · obtain ⟨n, _, rfl⟩ := List.mem_map.mp hx
      obtain ⟨m, _, rfl⟩ := List.mem_map.mp hy
      have hab : a < b := hab
      have hi : ((a : Nat) : Int) < ((b : Nat) : Int) := Int.ofNat_lt.mpr hab
      refine ⟨leIS_iff.mpr (.inl hi), fun q => ?_⟩
      have : ((a : Nat) : Int) = ((b : Nat) : Int) := congrArg (·.1) q
      omega
  refine srtP_eq ?_ (strict.imp fun h => h.1)
  have n1 : ((orderL lens ls).map fun p => (((p.1 : Nat) : Int), p.2)).Nodup := strict.imp fun h => h.2
  have n2 : (lens.map fun p => (((p.2 : Nat) : Int), p.1)).Nodup := by
    have : ((lens.map fun p => (((p.2 : Nat) : Int), p.1)).map (·.2)).Nodup := by
      rw [List.map_map]
      exact nd
    exact (List.pairwise_map.mp this).imp fun {a b} h q => h (congrArg _ q)
  refine (List.perm_ext_iff_of_nodup n1 n2).mpr fun q => ?_
  constructor
  · intro h
    obtain ⟨o, ho, rfl⟩ := List.mem_map.mp h
    exact List.mem_map.mpr ⟨(o.2, o.1), lenAt_some (orderL_fst ho).2, rfl⟩
  · intro h
    obtain ⟨p, hp, rfl⟩ := List.mem_map.mp h
    refine List.mem_map.mpr ⟨(p.2, p.1), List.mem_flatMap.mpr ⟨p.2, (hm _).mpr (List.mem_map_of_mem hp), List.mem_map.mpr ⟨p.1, List.mem_filter.mpr ⟨mem_srt.mpr (List.mem_map_of_mem hp), decide_eq_true (lenAt_nodup nd hp)⟩, rfl⟩⟩, rfl⟩
/-! ### what has been found before a level -/
structure PackInv (lens : List (Str × Nat)) (before : List Nat) (found : List (Str × Str)) : Prop where
  lv : ∀ p ∈ found, ∃ l ∈ before, lenAt lens p.1 = some l ∧ p.2.length = l
  nd : (found.map (·.1)).Nodup
  ln : found.length ≤ lens.length * before.length
theorem namesAt_nd {lens : List (Str × Nat)} (nd : (lens.map (·.1)).Nodup) (l : Nat) : (namesAt lens l).Nodup := List.Nodup.sublist List.filter_sublist ((srt_perm _).nodup_iff.mpr nd)
theorem zip_fst_sub {α β : Type} : ∀ (xs : List α) (ys : List β), ((xs.zip ys).map (·.1)).Sublist xs
  | [], _ => by rw [List.zip_nil_left]; exact List.Sublist.refl _
  | _ :: _, [] => by rw [List.zip_nil_right]; exact List.nil_sublist _
  | x :: xs, y :: ys => by
    rw [List.zip_cons_cons, List.map_cons]
    exact (zip_fst_sub xs ys).cons₂ x
theorem pack_fresh {ds : List Nat} {fixed : List Str} {lens : List (Str × Nat)} (nd : (lens.map (·.1)).Nodup) {before : List Nat} {found : List (Str × Str)} (I : PackInv lens before found) {l : Nat} (hl : l ∉ before) : ((packStep ds fixed lens found l).map (·.1)).Nodup := by
  unfold packStep
  rw [List.map_append]
  refine List.nodup_append.mpr ⟨I.nd, (namesAt_nd nd l).sublist (zip_fst_sub _ _), fun a ha b hb e => ?_⟩
  obtain ⟨p, hp, rfl⟩ := List.mem_map.mp ha
  obtain ⟨l', h1, h2, _⟩ := I.lv p hp
  have hb2 := (zip_fst_sub _ _).subset hb
  have h3 := of_decide_eq_true (List.mem_filter.mp hb2).2
  rw [← e, h2] at h3
  exact hl (Option.some.inj h3 ▸ h1)
theorem pack_inv {ds : List Nat} {fixed : List Str} {lens : List (Str × Nat)} (nd : (lens.map (·.1)).Nodup) {before : List Nat} {found : List (Str × Str)} (I : PackInv lens before found) {l : Nat} (hl : l ∉ before) : PackInv lens (before ++ [l]) (packStep ds fixed lens found l) := by
  refine ⟨fun p hp => ?_, pack_fresh nd I hl, ?_⟩
  · unfold packStep at hp
    rcases List.mem_append.mp hp with hp | hp
    · obtain ⟨l', h1, h2⟩ := I.lv p hp
      exact ⟨l', List.mem_append_left _ h1, h2⟩
    · obtain ⟨h1, h2⟩ := List.of_mem_zip hp
      exact ⟨l, List.mem_append_right _ (List.mem_singleton.mpr rfl), of_decide_eq_true (List.mem_filter.mp h1).2, (freeN_mem h2).1⟩
  · unfold packStep
    have h1 := I.ln
    have h2 : (namesAt lens l).length ≤ lens.length := by
      refine Nat.le_trans (List.length_filter_le _ _) ?_
      rw [srt_len, List.length_map]
      exact Nat.le_refl _
    rw [List.length_append, List.length_zip, List.length_append, List.length_singleton, Nat.mul_add, Nat.mul_one]
    omega
theorem levels_len {ls : List Nat} (ha : ls.Pairwise (· < ·)) (h6 : ∀ l ∈ ls, l ≤ 6) : ls.length ≤ 7 := by
  have := len_le_of_sub (l1 := ls) (l2 := List.range 7) (ha.imp fun h => Nat.ne_of_lt h) fun l hl => List.mem_range.mpr (Nat.lt_succ_of_le (h6 l hl))
  rw [List.length_range] at this
  exact this
theorem asc_notin {ls : List Nat} (ha : ls.Pairwise (· < ·)) {i l : Nat} (h : ls[i]? = some l) : l ∉ ls.take i := fun hm => by
  obtain ⟨j, hj⟩ := List.getElem?_of_mem hm
  rw [List.getElem?_take] at hj
  by_cases c : j < i
  · rw [if_pos c] at hj
    obtain ⟨h1, e1⟩ := List.getElem?_eq_some_iff.mp hj
    obtain ⟨h2, e2⟩ := List.getElem?_eq_some_iff.mp h
    have := List.pairwise_iff_getElem.mp ha j i h1 h2 c
    omega
  · rw [if_neg c] at hj
    cases hj
theorem foldl_snoc {α β : Type} {f : β → α → β} {b : β} {ls : List α} {i : Nat} {l : α} (h : ls[i]? = some l) : (ls.take (i + 1)).foldl f b = f ((ls.take i).foldl f b) l := by
  rw [take_snoc h, List.foldl_append]
  rfl
theorem pack_at {ds : List Nat} {fixed : List Str} {lens : List (Str × Nat)} (nd : (lens.map (·.1)).Nodup) {ls : List Nat} (ha : ls.Pairwise (· < ·)) : ∀ i : Nat, PackInv lens (ls.take i) ((ls.take i).foldl (packStep ds fixed lens) [])
  | 0 => ⟨fun p hp => absurd hp List.not_mem_nil, List.nodup_nil, Nat.zero_le _⟩
  | i + 1 => by
    have ih := pack_at (ds := ds) (fixed := fixed) nd ha i
    by_cases h : i < ls.length
    · have e := List.getElem?_eq_getElem h
      have h2 := pack_inv (ds := ds) (fixed := fixed) nd ih (asc_notin ha e)
      rw [foldl_snoc e]
      rw [take_snoc e]
      exact h2
    · rw [List.take_of_length_le (by omega)]
      rw [List.take_of_length_le (by omega)] at ih
      exact ih
theorem nats_of : ∀ {ns : List Int}, (∀ k ∈ ns, 0 ≤ k) → ∃ ls : List Nat, ns = ls.map fun n : Nat => (n : Int)
  | [], _ => ⟨[], rfl⟩
  | k :: r, h => by
    obtain ⟨ls, rfl⟩ := nats_of fun x hx => h x (List.mem_cons_of_mem _ hx)
    obtain ⟨n, rfl⟩ := Int.eq_ofNat_of_zero_le (h k (List.mem_cons_self ..))
    exact ⟨n :: ls, rfl⟩
/-! ### the codewords of all names -/
def placed (ds : List Nat) (used : List Str) (lens : List (Str × Nat)) : List (Str × Str) := place ds used ((srtP (lens.map fun p => (((p.2 : Nat) : Int), p.1))).map fun q => (q.1.toNat, q.2))
theorem freeB_mem {a b : List Str} (h : ∀ x, x ∈ a ↔ x ∈ b) (y : Str) : freeB a y = freeB b y := by
  unfold freeB
  congr 1
  rw [Bool.eq_iff_iff, List.any_eq_true, List.any_eq_true]
  exact ⟨fun ⟨x, h1, h2⟩ => ⟨x, (h x).mp h1, h2⟩, fun ⟨x, h1, h2⟩ => ⟨x, (h x).mpr h1, h2⟩⟩
theorem place_mem {ds : List Nat} : ∀ {os : List (Nat × Str)} {a b : List Str}, (∀ x, x ∈ a ↔ x ∈ b) → place ds a os = place ds b os
  | [], _, _, _ => rfl
  | (l, n) :: os, a, b, h => by
    have e : freeN ds a l = freeN ds b l := List.filter_congr fun y _ => freeB_mem h y
    show (n, (freeN ds a l).headD "") :: place ds (a ++ [(freeN ds a l).headD ""]) os = (n, (freeN ds b l).headD "") :: place ds (b ++ [(freeN ds b l).headD ""]) os
    rw [e, place_mem (os := os) (a := a ++ [(freeN ds b l).headD ""]) (b := b ++ [(freeN ds b l).headD ""]) fun x => by rw [List.mem_append, List.mem_append, h x]]
theorem srtP_congr {xs ys : List (Int × Str)} (p : xs.Perm ys) : srtP xs = srtP ys := srtP_eq ((srtP_perm ys).trans p.symm) (srtP_asc ys)
theorem placed_perm {ds : List Nat} {a b : List Str} {lens lens' : List (Str × Nat)} (h : ∀ x, x ∈ a ↔ x ∈ b) (p : lens.Perm lens') : placed ds a lens = placed ds b lens' := by
  unfold placed
  rw [srtP_congr (p.map _), place_mem h]
theorem order_placed {ds : List Nat} {used : List Str} {lens : List (Str × Nat)} (nd : (lens.map (·.1)).Nodup) {ls : List Nat} (ha : ls.Pairwise (· < ·)) (hm : ∀ l, l ∈ ls ↔ l ∈ lens.map (·.2)) : placed ds used lens = place ds used (orderL lens ls) := by
  unfold placed
  rw [order_sorted nd ha hm, List.map_map]
  congr 1
  exact List.map_id'' (fun o => rfl) _
theorem fits_perm {k lo h : Nat} {fixed : List Str} {m m' : List Nat} (p : m.Perm m') (f : Fits k fixed m lo h) : Fits k fixed m' lo h := fun n h1 h2 => by
  rw [← fillN_perm (p.append_left _)]
  exact f n h1 h2
theorem levels_of (lens : List (Str × Nat)) : ∃ ls : List Nat, ls.Pairwise (· < ·) ∧ ∀ l, l ∈ ls ↔ l ∈ lens.map (·.2) := by
  refine ⟨(List.range ((lens.map (·.2)).foldr max 0 + 1)).filter fun l => decide (l ∈ lens.map (·.2)), List.Pairwise.sublist List.filter_sublist List.pairwise_lt_range, fun l => ?_⟩
  have mx : ∀ (xs : List Nat) (x : Nat), x ∈ xs → x ≤ xs.foldr max 0 := by
    intro xs
    induction xs with
    | nil => intro x h; cases h
    | cons y ys ih =>
      intro x h
      show x ≤ max y (ys.foldr max 0)
      rcases List.mem_cons.mp h with rfl | h
      · exact Nat.le_max_left _ _
      · exact Nat.le_trans (ih x h) (Nat.le_max_right _ _)
  rw [List.mem_filter, decide_eq_true_eq, List.mem_range]
  exact ⟨fun h => h.2, fun h => ⟨Nat.lt_succ_of_le (mx _ l h), h⟩⟩
section
variable {ds : List Nat} (hd : ds.Nodup) {h : Nat} {used : List Str} {lens : List (Str × Nat)} (pf : PF used) (hc : ∀ t ∈ used, ∀ c ∈ TL.tl t, c ∈ ds) (nd : (lens.map (·.1)).Nodup) (f : Fits ds.length used (lens.map (·.2)) 1 h) (hb : ∀ p ∈ lens, 1 ≤ p.2 ∧ p.2 ≤ h)
include hd pf hc nd f hb
theorem order_fits {ls : List Nat} (ha : ls.Pairwise (· < ·)) (hm : ∀ l, l ∈ ls ↔ l ∈ lens.map (·.2)) : Fits ds.length used ((orderL lens ls).map (·.1)) 1 h ∧ (orderL lens ls).Perm (lens.map fun p => (p.2, p.1)) := by
  have p := (srtP_perm (lens.map fun p => (((p.2 : Nat) : Int), p.1))).map fun q => (q.1.toNat, q.2)
  rw [order_sorted nd ha hm, List.map_map, List.map_map] at p
  have p : (orderL lens ls).Perm (lens.map fun p => (p.2, p.1)) := by
    rw [show (orderL lens ls).map ((fun q : Int × Str => (q.1.toNat, q.2)) ∘ fun p : Nat × Str => (((p.1 : Nat) : Int), p.2)) = orderL lens ls from List.map_id'' (fun o => rfl) _] at p
    exact p
  refine ⟨fits_perm ?_ f, p⟩
  have := (p.map (·.1)).symm
  rw [List.map_map] at this
  exact this
theorem pack_placed {ls : List Nat} (ha : ls.Pairwise (· < ·)) (hm : ∀ l, l ∈ ls ↔ l ∈ lens.map (·.2)) : ls.foldl (packStep ds used lens) [] = placed ds used lens := by
  have g := pack_place hd (h := h) (fixed := used) (lens := lens) (ls := ls) (found := []) (lo := 1) (by rw [List.map_nil, List.append_nil]; exact pf) (by rw [List.map_nil, List.append_nil]; exact hc) (by rw [List.map_nil, List.append_nil]; exact (order_fits hd pf hc nd f hb ha hm).1) ha (fun l hl => by
    obtain ⟨p, hp, rfl⟩ := List.mem_map.mp ((hm l).mp hl)
    exact hb p hp)
  rw [g, order_placed nd ha hm, List.map_nil, List.append_nil, List.nil_append]
theorem placed_ok : PF (used ++ (placed ds used lens).map (·.2)) ∧ ((placed ds used lens).map fun p => (p.1, p.2.length)).Perm lens ∧ ∀ p ∈ placed ds used lens, ∀ c ∈ TL.tl p.2, c ∈ ds := by
  obtain ⟨ls, ha, hm⟩ := levels_of lens
  obtain ⟨f2, p⟩ := order_fits hd pf hc nd f hb ha hm
  rw [order_placed nd ha hm]
  obtain ⟨h1, h2, h3⟩ := place_ok hd pf hc f2 (fun o ho => by
    obtain ⟨q, hq, rfl⟩ := List.mem_map.mp (p.mem_iff.mp ho)
    exact hb q hq) (orderL_asc ha)
  refine ⟨h1, ?_, h3⟩
  have e : (place ds used (orderL lens ls)).map (fun p => (p.1, p.2.length)) = (orderL lens ls).map fun o => (o.2, o.1) := by
    have := congrArg (List.map fun o : Nat × Str => (o.2, o.1)) h2
    rw [List.map_map] at this
    exact this
  rw [e]
  have := p.map fun o : Nat × Str => (o.2, o.1)
  rw [List.map_map] at this
  rw [show lens.map ((fun o : Nat × Str => (o.2, o.1)) ∘ fun p : Str × Nat => (p.2, p.1)) = lens from List.map_id'' (fun o => rfl) _] at this
  exact this
end
end KC
namespace KC
open PySem PySem.Spec PyProof.Rows L2
/-! ### heaps that differ at some addresses at most -/
def SameX (X : List Addr) (H H' : Hp) : Prop := ∀ a o, a ∉ X → H a = some o → H' a = some o
theorem SameX.refl {X : List Addr} {H : Hp} : SameX X H H := fun _ _ _ h => h
theorem SameX.same {X : List Addr} {H H1 H2 : Hp} (h : SameX X H H1) (s : Same H1 H2) : SameX X H H2 := fun a o n e => s _ _ (h a o n e)
theorem SameX.put {X : List Addr} {H H1 : Hp} {a : Addr} {o : HO} (h : SameX X H H1) (m : a ∈ X) : SameX X H (L2.upd H1 a o) := fun b u n e => by
  have : b ≠ a := fun z => n (z ▸ m)
  rw [upd_ne this]
  exact h b u n e
theorem SameX.to {X : List Addr} {H0 H H1 : Hp} (h : SameX X H H1) (s : Same H0 H) (n : ∀ a ∈ X, H0 a = none) : Same H0 H1 := fun a o e => h a o (fun m => by rw [n a m] at e; cases e) (s a o e)
theorem same_put {H0 H : Hp} {a : Addr} {o : HO} (s : Same H0 H) (n : H0 a = none) : Same H0 (L2.upd H a o) := same_new s n
/-! ### comprehensions that make a new tuple for each element -/
theorem paired_to {α β γ δ : Type} {F : α → β → Prop} {G : α → γ → Prop} {f : δ → β} {g : δ → γ} (h : ∀ a d, F a (f d) → G a (g d)) : ∀ {l₁ : List α} {l₂ : List δ}, Paired F l₁ (l₂.map f) → Paired G l₁ (l₂.map g)
  | [], [], _ => .nil
  | [], _ :: _, z => nomatch z
  | _ :: _, [], z => nomatch z
  | _ :: _, _ :: _, .cons z r => .cons (h _ _ z) (paired_to h r)
theorem lc_genTup {α : Type} {J : It} {n : Nat} {G : Hp → Prop} {Y : Nat → Hp → V → Hp → Prop} (wk : Walk J n G Y) (xs : List α) (g : α → V) (hn : n = xs.length) (hY : ∀ i H x H', Y i H x H' → H' = H ∧ ∃ a, xs[i]? = some a ∧ x = g a)
    {j : Nat} {tt : TT} {te : TE} {σ : L2.St} {H1 : Hp} {D : Addr} {Qd : Hp → Prop} (hG : ∀ H', Same H1 H' → G H') (p : α → Bool) (f : α → List V) (hD : H1 D = none) (hx : xs.length < 16777216)
    (ht : ∀ a ∈ xs, ∀ (H' : Hp) (Q' : Bool → Hp → Prop), Same H1 H' → (∀ H'', Same H' H'' → Q' (p a) H'') → tt ((wipe σ [j]).set j (some (g a))) H' Q')
    (he : ∀ a ∈ xs, p a = true → ∀ (H' : Hp) (Q' : VK), Same H1 H' → (∀ H'' T, Same H' H'' → H' T = none → H'' T = some (.tup (f a)) → Q' (.ref T) H'') → te ((wipe σ [j]).set j (some (g a))) H' Q')
    (hd : ∀ H' (ps : List Addr), Same H1 H' → H' D = some (.lst (ps.map V.ref)) → Paired (fun t a => H1 t = none ∧ t ≠ D ∧ H' t = some (.tup (f a))) ps (xs.filter p) → Qd H') : LcG J (gName j) tt te [j] σ H1 D Qd := by
  refine lc_it wk (fun i H => Same H1 H ∧ ∃ ps : List Addr, H D = some (.lst (ps.map V.ref)) ∧ ps.length ≤ i ∧ Paired (fun t a => H1 t = none ∧ t ≠ D ∧ H t = some (.tup (f a))) ps ((xs.take i).filter p))
    ⟨same_new (Same.refl _) hD, [], upd_same, Nat.le_refl _, .nil⟩ (fun i H _ h => hG H h.1) ?_ (fun H ⟨s, ps, hDp, _, hp⟩ => hd H ps s hDp (by rw [hn, List.take_length] at hp; exact hp))
  rintro i x H H' hi ⟨s, ps, hDp, hpl, hp⟩ y
  obtain ⟨rfl, a, e, rfl⟩ := hY i H x H' y
  have hm := List.mem_of_getElem? e
  refine ⟨wipe_set1 _ _ _, ht a hm _ _ s fun H2 s2 => ?_⟩
  refine if_b (fun hpa => ?_) (fun hpa => ?_)
  · refine he a hm hpa _ _ (Same.trans s s2) fun H3 T s3 hT hT3 => ?_
    have hD2 := s2 _ _ hDp
    have hDT : D ≠ T := fun z => by rw [z, hT] at hD2; cases hD2
    refine ⟨ps.map V.ref, s3 _ _ hD2, by rw [List.length_map]; exact Nat.lt_of_lt_of_le (show ps.length < 16777216 by omega) (by decide), same_mut (Same.trans s (Same.trans s2 s3)) hD, ps ++ [T], ?_, by rw [List.length_append]; simp; omega, ?_⟩
    · rw [upd_same, List.map_append]
      rfl
    · rw [take_snoc e, List.filter_append, List.filter_cons, hpa, if_pos rfl, List.filter_nil]
      exact Paired.snoc (Paired.imp (fun t a z => ⟨z.1, z.2.1, (upd_ne z.2.1).trans (s3 _ _ (s2 _ _ z.2.2))⟩) hp) ⟨(Same.trans s s2).free hT, Ne.symm hDT, (upd_ne (Ne.symm hDT)).trans hT3⟩
  · refine ⟨Same.trans s s2, ps, s2 _ _ hDp, by omega, ?_⟩
    rw [take_snoc e, List.filter_append, List.filter_cons, hpa]
    simp only [Bool.false_eq_true, if_false, List.filter_nil, List.append_nil]
    exact Paired.imp (fun t a z => ⟨z.1, z.2.1, s2 _ _ z.2.2⟩) hp
/-- [(a new tuple) for k in d if p(k)] -/
theorem lc_keysTup {d : Addr} {o : Obj} {kvs : List (Key × V)} {j : Nat} {tt : TT} {te : TE} {σ : L2.St} {H1 : Hp} {D : Addr} {Qd : Hp → Prop} (p : Key × V → Bool) (f : Key × V → List V) (hS : H1 d = some (.frz o (.dK kvs))) (hD : H1 D = none) (hx : kvs.length < 16777216)
    (ht : ∀ q ∈ kvs, ∀ (H' : Hp) (Q' : Bool → Hp → Prop), Same H1 H' → (∀ H'', Same H' H'' → Q' (p q) H'') → tt ((wipe σ [j]).set j (some (kV q.1))) H' Q')
    (he : ∀ q ∈ kvs, p q = true → ∀ (H' : Hp) (Q' : VK), Same H1 H' → (∀ H'' T, Same H' H'' → H' T = none → H'' T = some (.tup (f q)) → Q' (.ref T) H'') → te ((wipe σ [j]).set j (some (kV q.1))) H' Q')
    (hd : ∀ H' (ps : List Addr), Same H1 H' → H' D = some (.lst (ps.map V.ref)) → Paired (fun t a => H1 t = none ∧ t ≠ D ∧ H' t = some (.tup (f a))) ps (kvs.filter p) → Qd H') : LcG (Itk d o kvs) (gName j) tt te [j] σ H1 D Qd :=
  lc_genTup (walk_keys (d := d) (o := o) (kvs := kvs)) kvs (fun q => kV q.1) rfl (fun i H x H' h => by obtain ⟨h1, k, v, h2, h3⟩ := h; exact ⟨h1, (k, v), h2, h3⟩) (fun H' s => s _ _ hS) p f hD hx ht he hd
/-- [(a new tuple) for x in xs if p(x)] -/
theorem lc_listTup {K : PySem.W.Frag} {a : Addr} {xs : List V} {j : Nat} {tt : TT} {te : TE} {σ : L2.St} {H1 : Hp} {D : Addr} {Qd : Hp → Prop} (p : V → Bool) (f : V → List V) (hS : SqL K H1 a xs) (hD : H1 D = none) (hx : xs.length < 16777216)
    (ht : ∀ x ∈ xs, ∀ (H' : Hp) (Q' : Bool → Hp → Prop), Same H1 H' → (∀ H'', Same H' H'' → Q' (p x) H'') → tt ((wipe σ [j]).set j (some x)) H' Q')
    (he : ∀ x ∈ xs, p x = true → ∀ (H' : Hp) (Q' : VK), Same H1 H' → (∀ H'' T, Same H' H'' → H' T = none → H'' T = some (.tup (f x)) → Q' (.ref T) H'') → te ((wipe σ [j]).set j (some x)) H' Q')
    (hd : ∀ H' (ps : List Addr), Same H1 H' → H' D = some (.lst (ps.map V.ref)) → Paired (fun t a => H1 t = none ∧ t ≠ D ∧ H' t = some (.tup (f a))) ps (xs.filter p) → Qd H') : LcG (Itl K a) (gName j) tt te [j] σ H1 D Qd :=
  lc_genTup (walk_list (K := K) (a := a)) xs id rfl (fun i H x H' h => ⟨h.1, x, h.2, rfl⟩) (fun H' s => Same.seq s hS) p f hD hx ht he hd
/-- [(a new tuple) for x in xs if p(x)], the elements of the list as images -/
theorem lc_listOfTup {α : Type} {K : PySem.W.Frag} {a : Addr} (W : List α) (g : α → V) {j : Nat} {tt : TT} {te : TE} {σ : L2.St} {H1 : Hp} {D : Addr} {Qd : Hp → Prop} (p : α → Bool) (f : α → List V) (hS : SqL K H1 a (W.map g)) (hD : H1 D = none) (hx : W.length < 16777216)
    (ht : ∀ x ∈ W, ∀ (H' : Hp) (Q' : Bool → Hp → Prop), Same H1 H' → (∀ H'', Same H' H'' → Q' (p x) H'') → tt ((wipe σ [j]).set j (some (g x))) H' Q')
    (he : ∀ x ∈ W, p x = true → ∀ (H' : Hp) (Q' : VK), Same H1 H' → (∀ H'' T, Same H' H'' → H' T = none → H'' T = some (.tup (f x)) → Q' (.ref T) H'') → te ((wipe σ [j]).set j (some (g x))) H' Q')
    (hd : ∀ H' (ps : List Addr), Same H1 H' → H' D = some (.lst (ps.map V.ref)) → Paired (fun t a => H1 t = none ∧ t ≠ D ∧ H' t = some (.tup (f a))) ps (W.filter p) → Qd H') : LcG (Itl K a) (gName j) tt te [j] σ H1 D Qd :=
  lc_genTup (walk_list (K := K) (a := a) (xs := W.map g)) W g (List.length_map _) (fun i H x H' h => ⟨h.1, by obtain ⟨y, hy, e⟩ := getMap h.2; exact ⟨y, hy, e⟩⟩) (fun H' s => Same.seq s hS) p f hD hx ht he hd
theorem lc_listOfN {α : Type} {K : PySem.W.Frag} {a : Addr} (W : List α) (g : α → V) {j : Nat} {tt : TT} {te : TE} {σ : L2.St} {H1 : Hp} {D : Addr} {Qd : Hp → Prop} (p : α → Bool) (f : α → V) (hS : SqL K H1 a (W.map g)) (hD : H1 D = none) (hx : W.length < 16777216)
    (ht : ∀ x ∈ W, ∀ (H' : Hp) (Q' : Bool → Hp → Prop), Same H1 H' → (∀ H'', Same H' H'' → Q' (p x) H'') → tt ((wipe σ [j]).set j (some (g x))) H' Q')
    (he : ∀ x ∈ W, p x = true → ∀ (H' : Hp) (Q' : VK), Same H1 H' → (∀ H'', Same H' H'' → Q' (f x) H'') → te ((wipe σ [j]).set j (some (g x))) H' Q')
    (hd : ∀ H', Same H1 H' → H' D = some (.lst ((W.filter p).map f)) → Qd H') : LcG (Itl K a) (gName j) tt te [j] σ H1 D Qd :=
  lc_genN (walk_list (K := K) (a := a) (xs := W.map g)) W g (List.length_map _) (fun i H x H' h => ⟨h.1, by obtain ⟨y, hy, e⟩ := getMap h.2; exact ⟨y, hy, e⟩⟩) (fun H' s => Same.seq s hS) p f hD hx ht he hd
/-- [f(x, y) for x, y in xs if p(x, y)], xs a list of pairs -/
theorem lc_pairsN {α : Type} {K : PySem.W.Frag} {a : Addr} {ps : List Addr} (W : List α) (g1 g2 : α → V) {i j : Nat} {tt : TT} {te : TE} {σ : L2.St} {H1 : Hp} {D : Addr} {Qd : Hp → Prop} (p : α → Bool) (f : α → V) (hij : i ≠ j)
    (hS : SqL K H1 a (ps.map V.ref)) (hP : Paired (fun e q => SqT K H1 e [g1 q, g2 q]) ps W) (hD : H1 D = none) (hx : W.length < 16777216)
    (ht : ∀ q ∈ W, ∀ (H' : Hp) (Q' : Bool → Hp → Prop), Same H1 H' → (∀ H'', Same H' H'' → Q' (p q) H'') → tt (((wipe σ [i, j]).set i (some (g1 q))).set j (some (g2 q))) H' Q')
    (he : ∀ q ∈ W, p q = true → ∀ (H' : Hp) (Q' : VK), Same H1 H' → (∀ H'', Same H' H'' → Q' (f q) H'') → te (((wipe σ [i, j]).set i (some (g1 q))).set j (some (g2 q))) H' Q')
    (hd : ∀ H', Same H1 H' → H' D = some (.lst ((W.filter p).map f)) → Qd H') :
    LcG (Itl K a) (gTup K 2 (gCons (gName i) (gCons (gName j) gNil))) tt te [i, j] σ H1 D Qd := by
  have hlen : (ps.map V.ref).length = W.length := by rw [List.length_map]; exact hP.length
  refine lc_it (walk_list (K := K) (a := a) (xs := ps.map V.ref)) (fun i H => Same H1 H ∧ H D = some (.lst (((W.take i).filter p).map f))) ⟨same_new (Same.refl _) hD, upd_same⟩ (fun i H _ h => Same.seq h.1 hS) ?_ (fun H h => hd H h.1 (by rw [h.2, hlen, List.take_length]))
  rintro n x H H' hi ⟨s, hDi⟩ ⟨rfl, hx1⟩
  obtain ⟨e, he1, rfl⟩ := getMap hx1
  obtain ⟨q, hq, hsq⟩ := Paired.at hP he1
  have hm := List.mem_of_getElem? hq
  refine ⟨e, _, rfl, same_seqT s hsq, rfl, _, _, rfl, _, _, rfl, rfl, wipe_set2 σ hij _ _, ?_⟩
  refine ht q hm _ _ s fun H2 s2 => ?_
  refine if_b (fun hp => ?_) (fun hp => ?_)
  · refine he q hm hp _ _ (Same.trans s s2) fun H3 s3 => ⟨_, s3 _ _ (s2 _ _ hDi), ?_, same_mut (Same.trans s (Same.trans s2 s3)) hD, ?_⟩
    · rw [List.length_map]
      have h1 := List.length_filter_le p (W.take n)
      rw [List.length_take] at h1
      exact Nat.lt_of_lt_of_le (show _ < 16777216 by omega) (by decide)
    · rw [upd_same, take_snoc hq, List.filter_append, List.map_append, List.filter_cons, hp]
      rfl
  · refine ⟨Same.trans s s2, ?_⟩
    rw [s2 _ _ hDi, take_snoc hq, List.filter_append, List.filter_cons, hp]
    simp
/-- while, by an invariant with a measure and what holds behind it -/
theorem while_ex {c : TT} {tb : TS} {D : Ends} {σ : L2.St} {H : Hp} (W : Nat → L2.St → Hp → Prop) (Ex : L2.St → Hp → Prop) (h0 : ∃ m, W m σ H)
    (step : ∀ m σ H (X : L2.St → Hp → Prop), W m σ H → (∀ H1, Ex σ H1 → X σ H1) → c σ H fun b H1 => if b = true then ∃ N : L2.St → Hp → Prop, (∀ σ' H', N σ' H' → ∃ m', m' < m ∧ W m' σ' H') ∧ tb { D with nx := N, ct := N, bk := D.nx } σ H1 else X σ H1)
    (ex : ∀ σ H, Ex σ H → D.nx σ H) : tWhile c tb D σ H := ⟨W, h0, fun m σ H w => step m σ H D.nx w (ex σ)⟩
/-! ### a dict of texts as data -/
theorem dD_zip (ws : List (Str × Str)) : dD ws = .dict (((kvsOf ws).map fun q => flatD (kV q.1)).zip (((kvsOf ws).map (·.2)).map flatD)) := by
  unfold dD
  congr 1
  rw [List.map_map, zip_map2]
  unfold kvsOf
  rw [List.map_map]
  rfl
theorem dpN_dD {K : PySem.W.Frag} {H : Hp} {a : Addr} {ws : List (Str × Str)} (h : Rd H a (.dK (kvsOf ws))) : DpN K H (.ref a) (dD ws) := by
  rw [dD_zip]
  exact .dct h (dpNs_flat fun x hx => by
    unfold kvsOf at hx
    rw [List.map_map] at hx
    obtain ⟨p, _, rfl⟩ := List.mem_map.mp hx
    rfl)
theorem shd_dD {ws : List (Str × Str)} (h : ∀ p ∈ ws, Small p.1 ∧ Small p.2) (hl : ws.length ≤ 100) : Shd (dD ws) 1 300000 := by
  refine (shd_dict (k := 0) (n := 1002) (m := 100) (fun q hq => ?_) (by rw [List.length_map]; exact hl)).mono (Nat.le_refl _) (by decide)
  obtain ⟨p, hp, rfl⟩ := List.mem_map.mp hq
  obtain ⟨h1, h2⟩ := h p hp
  exact ⟨shd_str h1, shd_str h2⟩
end KC
namespace KC
open PySem PySem.Spec PyProof.Rows L2
def top (i : Nat) : Stmt := PySem.Challenge.pw_keptcode_k22_canonical_codes.main.body.getD i (.Pass ⟨0, 0, 0, 0⟩)
abbrev s_is_whole : Stmt := top 13
abbrev s_is_shape : Stmt := top 14
abbrev s_is_length : Stmt := top 15
abbrev s_is_name : Stmt := top 16
abbrev s_is_codeword : Stmt := top 17
abbrev s_ancestors : Stmt := top 18
abbrev s_first_clash : Stmt := top 19
abbrev s_is_word_table : Stmt := top 20
abbrev s_is_codeword_list : Stmt := top 21
abbrev s_forms_codebook : Stmt := top 22
abbrev s_Codebook__init : Stmt := inClass (top 23) 0
abbrev s_Codebook_words : Stmt := inClass (top 23) 1
abbrev s_Codebook_reserved : Stmt := inClass (top 23) 2
abbrev s_Codebook_codeword : Stmt := inClass (top 23) 3
abbrev s_Codebook__len : Stmt := inClass (top 23) 4
abbrev s_Codebook__eq : Stmt := inClass (top 23) 5
abbrev s_is_request : Stmt := top 25
abbrev s_check_request : Stmt := top 26
abbrev s_unrequested_words : Stmt := top 27
abbrev s_is_selection : Stmt := top 28
abbrev s_nodes_of_level : Stmt := top 30
abbrev s_free_beside : Stmt := top 31
abbrev s_touched_above : Stmt := top 32
abbrev s_level_size : Stmt := top 34
abbrev s_filled_nodes : Stmt := top 35
abbrev s_loads : Stmt := top 36
abbrev s_failing_level : Stmt := top 37
abbrev s_first_free : Stmt := top 39
abbrev s_pack : Stmt := top 40
abbrev s_assign : Stmt := top 41
abbrev s_canonical : Stmt := top 42
abbrev s_l_power : Stmt := top 44
abbrev s_l_pen : Stmt := top 45
abbrev s_l_next : Stmt := top 46
abbrev s_l_draw : Stmt := top 47
abbrev s_l_names : Stmt := top 48
abbrev s_l_digits : Stmt := top 49
abbrev s_l_due : Stmt := top 50
abbrev s_l_outcome : Stmt := top 51
abbrev s_l_full : Stmt := top 52
abbrev s_law : Stmt := top 53
theorem sc_is_whole : FnScope ["thing"] ["thing"] (defScope s_is_whole) := ⟨rfl, rfl, rfl, by decide +kernel, rfl, by decide +kernel, by decide +kernel⟩
theorem sc_is_shape : FnScope ["radix", "depth"] ["radix", "depth"] (defScope s_is_shape) := ⟨rfl, rfl, rfl, by decide +kernel, rfl, by decide +kernel, by decide +kernel⟩
theorem sc_is_length : FnScope ["depth", "thing"] ["depth", "thing"] (defScope s_is_length) := ⟨rfl, rfl, rfl, by decide +kernel, rfl, by decide +kernel, by decide +kernel⟩
theorem sc_is_name : FnScope ["thing", "letter"] ["thing"] (defScope s_is_name) := ⟨rfl, rfl, rfl, by decide +kernel, rfl, by decide +kernel, by decide +kernel⟩
theorem sc_is_codeword : FnScope ["radix", "depth", "thing", "digit"] ["radix", "depth", "thing"] (defScope s_is_codeword) := ⟨rfl, rfl, rfl, by decide +kernel, rfl, by decide +kernel, by decide +kernel⟩
theorem sc_ancestors : FnScope ["node", "end"] ["node"] (defScope s_ancestors) := ⟨rfl, rfl, rfl, by decide +kernel, rfl, by decide +kernel, by decide +kernel⟩
theorem sc_first_clash : FnScope ["nodes", "earlier", "above_earlier", "at", "node", "above", "prefix"] ["nodes"] (defScope s_first_clash) := ⟨rfl, rfl, rfl, by decide +kernel, rfl, by decide +kernel, by decide +kernel⟩
theorem sc_is_word_table : FnScope ["radix", "depth", "thing", "name", "word"] ["radix", "depth", "thing"] (defScope s_is_word_table) := ⟨rfl, rfl, rfl, by decide +kernel, rfl, by decide +kernel, by decide +kernel⟩
theorem sc_is_codeword_list : FnScope ["radix", "depth", "thing", "node"] ["radix", "depth", "thing"] (defScope s_is_codeword_list) := ⟨rfl, rfl, rfl, by decide +kernel, rfl, by decide +kernel, by decide +kernel⟩
theorem sc_forms_codebook : FnScope ["radix", "depth", "words", "reserved"] ["radix", "depth", "words", "reserved"] (defScope s_forms_codebook) := ⟨rfl, rfl, rfl, by decide +kernel, rfl, by decide +kernel, by decide +kernel⟩
theorem sc_Codebook__init : FnScope ["self", "radix", "depth", "words", "reserved", "name"] ["self", "radix", "depth", "words", "reserved"] (defScope s_Codebook__init) := ⟨rfl, rfl, rfl, by decide +kernel, rfl, by decide +kernel, by decide +kernel⟩
theorem sc_Codebook_words : FnScope ["self"] ["self"] (defScope s_Codebook_words) := ⟨rfl, rfl, rfl, by decide +kernel, rfl, by decide +kernel, by decide +kernel⟩
theorem sc_Codebook_reserved : FnScope ["self"] ["self"] (defScope s_Codebook_reserved) := ⟨rfl, rfl, rfl, by decide +kernel, rfl, by decide +kernel, by decide +kernel⟩
theorem sc_Codebook_codeword : FnScope ["self", "name"] ["self", "name"] (defScope s_Codebook_codeword) := ⟨rfl, rfl, rfl, by decide +kernel, rfl, by decide +kernel, by decide +kernel⟩
theorem sc_Codebook__len : FnScope ["self"] ["self"] (defScope s_Codebook__len) := ⟨rfl, rfl, rfl, by decide +kernel, rfl, by decide +kernel, by decide +kernel⟩
theorem sc_Codebook__eq : FnScope ["self", "other"] ["self", "other"] (defScope s_Codebook__eq) := ⟨rfl, rfl, rfl, by decide +kernel, rfl, by decide +kernel, by decide +kernel⟩
theorem sc_is_request : FnScope ["depth", "thing", "name", "length"] ["depth", "thing"] (defScope s_is_request) := ⟨rfl, rfl, rfl, by decide +kernel, rfl, by decide +kernel, by decide +kernel⟩
theorem sc_check_request : FnScope ["book", "request"] ["book", "request"] (defScope s_check_request) := ⟨rfl, rfl, rfl, by decide +kernel, rfl, by decide +kernel, by decide +kernel⟩
theorem sc_unrequested_words : FnScope ["book", "request", "words", "name"] ["book", "request"] (defScope s_unrequested_words) := ⟨rfl, rfl, rfl, by decide +kernel, rfl, by decide +kernel, by decide +kernel⟩
theorem sc_is_selection : FnScope ["words", "thing", "name"] ["words", "thing"] (defScope s_is_selection) := ⟨rfl, rfl, rfl, by decide +kernel, rfl, by decide +kernel, by decide +kernel⟩
theorem sc_nodes_of_level : FnScope ["radix", "level", "nodes", "_", "node", "digit"] ["radix", "level"] (defScope s_nodes_of_level) := ⟨rfl, rfl, rfl, by decide +kernel, rfl, by decide +kernel, by decide +kernel⟩
theorem sc_free_beside : FnScope ["radix", "taken", "level", "cut", "node", "above"] ["radix", "taken", "level"] (defScope s_free_beside) := ⟨rfl, rfl, rfl, by decide +kernel, rfl, by decide +kernel, by decide +kernel⟩
theorem sc_touched_above : FnScope ["taken", "level", "node"] ["taken", "level"] (defScope s_touched_above) := ⟨rfl, rfl, rfl, by decide +kernel, rfl, by decide +kernel, by decide +kernel⟩
theorem sc_level_size : FnScope ["radix", "level", "size", "_"] ["radix", "level"] (defScope s_level_size) := ⟨rfl, rfl, rfl, by decide +kernel, rfl, by decide +kernel, by decide +kernel⟩
theorem sc_filled_nodes : FnScope ["radix", "lengths", "level", "length"] ["radix", "lengths", "level"] (defScope s_filled_nodes) := ⟨rfl, rfl, rfl, by decide +kernel, rfl, by decide +kernel, by decide +kernel⟩
theorem sc_loads : FnScope ["book", "request", "kept", "words", "reserved", "fixed", "lengths", "name", "node", "level"] ["book", "request", "kept"] (defScope s_loads) := ⟨rfl, rfl, rfl, by decide +kernel, rfl, by decide +kernel, by decide +kernel⟩
theorem sc_failing_level : FnScope ["book", "request", "kept", "level", "held", "filled"] ["book", "request", "kept"] (defScope s_failing_level) := ⟨rfl, rfl, rfl, by decide +kernel, rfl, by decide +kernel, by decide +kernel⟩
theorem sc_first_free : FnScope ["radix", "fixed", "lengths", "found", "length", "names", "free", "name"] ["radix", "fixed", "lengths"] (defScope s_first_free) := ⟨rfl, rfl, rfl, by decide +kernel, rfl, by decide +kernel, by decide +kernel⟩
theorem sc_pack : FnScope ["book", "request", "kept", "level", "words", "lengths", "fixed", "name"] ["book", "request", "kept"] (defScope s_pack) := ⟨rfl, rfl, rfl, by decide +kernel, rfl, by decide +kernel, by decide +kernel⟩
theorem sc_assign : FnScope ["book", "request", "kept", "found"] ["book", "request"] (defScope s_assign) := ⟨rfl, rfl, rfl, by decide +kernel, rfl, by decide +kernel, by decide +kernel⟩
theorem sc_canonical : FnScope ["radix", "depth", "lengths"] ["radix", "depth", "lengths"] (defScope s_canonical) := ⟨rfl, rfl, rfl, by decide +kernel, rfl, by decide +kernel, by decide +kernel⟩
theorem sc_l_power : FnScope ["base", "exponent", "found", "turn"] ["base", "exponent"] (defScope s_l_power) := ⟨rfl, rfl, rfl, by decide +kernel, rfl, by decide +kernel, by decide +kernel⟩
theorem sc_l_pen : FnScope ["script"] ["script"] (defScope s_l_pen) := ⟨rfl, rfl, rfl, by decide +kernel, rfl, by decide +kernel, by decide +kernel⟩
theorem sc_l_next : FnScope ["pen", "index", "cell", "low", "mid", "top"] ["pen"] (defScope s_l_next) := ⟨rfl, rfl, rfl, by decide +kernel, rfl, by decide +kernel, by decide +kernel⟩
theorem sc_l_draw : FnScope ["pen", "below", "digit"] ["pen", "below"] (defScope s_l_draw) := ⟨rfl, rfl, rfl, by decide +kernel, rfl, by decide +kernel, by decide +kernel⟩
theorem sc_l_names : FnScope ["pen", "tally", "pool", "turn"] ["pen", "tally"] (defScope s_l_names) := ⟨rfl, rfl, rfl, by decide +kernel, rfl, by decide +kernel, by decide +kernel⟩
theorem sc_l_digits : FnScope ["radix", "number", "length", "found", "turn"] ["radix", "number", "length"] (defScope s_l_digits) := ⟨rfl, rfl, rfl, by decide +kernel, rfl, by decide +kernel, by decide +kernel⟩
theorem sc_l_due : FnScope ["radix", "depth", "wanted", "level", "load", "found", "number", "last", "length", "name"] ["radix", "depth", "wanted"] (defScope s_l_due) := ⟨rfl, rfl, rfl, by decide +kernel, rfl, by decide +kernel, by decide +kernel⟩
theorem sc_l_outcome : FnScope ["radix", "depth", "wanted", "caught", "found", "e"] ["radix", "depth", "wanted"] (defScope s_l_outcome) := ⟨rfl, rfl, rfl, by decide +kernel, rfl, by decide +kernel, by decide +kernel⟩
theorem sc_l_full : FnScope ["pen", "radix", "depth", "lengths", "turn", "place", "longer"] ["pen", "radix", "depth"] (defScope s_l_full) := ⟨rfl, rfl, rfl, by decide +kernel, rfl, by decide +kernel, by decide +kernel⟩
theorem sc_law : FnScope ["script", "pen", "turn", "radix", "depth", "some", "road", "names", "wanted", "due", "seen", "again", "found", "k"] ["script"] (defScope s_law) := ⟨rfl, rfl, rfl, by decide +kernel, rfl, by decide +kernel, by decide +kernel⟩
abbrev s_NoRoom : Stmt := inClass (top 2) 0
structure Txt (K : PySem.W.Frag) (mg : Str → Option Value) : Prop where
  d_is_whole : DefT K mg "is_whole" s_is_whole ["thing"] []
  d_is_shape : DefT K mg "is_shape" s_is_shape ["radix", "depth"] []
  d_is_length : DefT K mg "is_length" s_is_length ["depth", "thing"] []
  d_is_name : DefT K mg "is_name" s_is_name ["thing"] []
  d_is_codeword : DefT K mg "is_codeword" s_is_codeword ["radix", "depth", "thing"] []
  d_ancestors : DefT K mg "ancestors" s_ancestors ["node"] []
  d_first_clash : DefT K mg "first_clash" s_first_clash ["nodes"] []
  d_is_word_table : DefT K mg "is_word_table" s_is_word_table ["radix", "depth", "thing"] []
  d_is_codeword_list : DefT K mg "is_codeword_list" s_is_codeword_list ["radix", "depth", "thing"] []
  d_forms_codebook : DefT K mg "forms_codebook" s_forms_codebook ["radix", "depth", "words", "reserved"] []
  d_is_request : DefT K mg "is_request" s_is_request ["depth", "thing"] []
  d_check_request : DefT K mg "check_request" s_check_request ["book", "request"] []
  d_unrequested_words : DefT K mg "unrequested_words" s_unrequested_words ["book", "request"] []
  d_is_selection : DefT K mg "is_selection" s_is_selection ["words", "thing"] []
  d_nodes_of_level : DefT K mg "nodes_of_level" s_nodes_of_level ["radix", "level"] []
  d_free_beside : DefT K mg "free_beside" s_free_beside ["radix", "taken", "level"] []
  d_touched_above : DefT K mg "touched_above" s_touched_above ["taken", "level"] []
  d_level_size : DefT K mg "level_size" s_level_size ["radix", "level"] []
  d_filled_nodes : DefT K mg "filled_nodes" s_filled_nodes ["radix", "lengths", "level"] []
  d_loads : DefT K mg "loads" s_loads ["book", "request", "kept"] []
  d_failing_level : DefT K mg "failing_level" s_failing_level ["book", "request", "kept"] []
  d_first_free : DefT K mg "first_free" s_first_free ["radix", "fixed", "lengths"] []
  d_pack : DefT K mg "pack" s_pack ["book", "request", "kept"] []
  d_assign : DefT K mg "assign" s_assign ["book", "request"] []
  d_canonical : DefT K mg "canonical" s_canonical ["radix", "depth", "lengths"] []
  d_l_power : DefT K mg "_law_power" s_l_power ["base", "exponent"] []
  d_l_pen : DefT K mg "_law_pen" s_l_pen ["script"] []
  d_l_next : DefT K mg "_law_next" s_l_next ["pen"] []
  d_l_draw : DefT K mg "_law_draw" s_l_draw ["pen", "below"] []
  d_l_names : DefT K mg "_law_names" s_l_names ["pen", "tally"] []
  d_l_digits : DefT K mg "_law_digits" s_l_digits ["radix", "number", "length"] []
  d_l_due : DefT K mg "_law_due" s_l_due ["radix", "depth", "wanted"] []
  d_l_outcome : DefT K mg "_law_outcome" s_l_outcome ["radix", "depth", "wanted"] []
  d_l_full : DefT K mg "_law_full" s_l_full ["pen", "radix", "depth"] []
  d_law : DefT K mg "law" s_law ["script"] []
  c_DEPTHS : ∃ p, mg "DEPTHS" = some (.ref p) ∧ ∀ H, SqT K H p [.int 1, .int 2, .int 3, .int 4, .int 5, .int 6]
  c_DIGITS : ∃ u, mg "DIGITS" = some u ∧ RelV (.str "0123456789") u
  c_LETTERS : ∃ u, mg "LETTERS" = some u ∧ RelV (.str "abcdefghijklmnopqrstuvwxyz") u
  c_LONGEST_NAME : ∃ u, mg "LONGEST_NAME" = some u ∧ RelV (.int 8) u
  c_RADIXES : ∃ p, mg "RADIXES" = some (.ref p) ∧ ∀ H, SqT K H p [.int 2, .int 3, .int 4]
  n_all : mg "all" = none
  n_any : mg "any" = none
  n_bool : mg "bool" = none
  n_dict : mg "dict" = none
  n_enumerate : mg "enumerate" = none
  n_int : mg "int" = none
  n_isinstance : mg "isinstance" = none
  n_len : mg "len" = none
  n_list : mg "list" = none
  n_range : mg "range" = none
  n_repr : mg "repr" = none
  n_set : mg "set" = none
  n_sorted : mg "sorted" = none
  n_str : mg "str" = none
  n_sum : mg "sum" = none
  n_tuple : mg "tuple" = none
  n_zip : mg "zip" = none
  x_InvalidCodebook : ExcT K mg "InvalidCodebook" (clsAt mg "InvalidCodebook")
  x_InvalidKept : ExcT K mg "InvalidKept" (clsAt mg "InvalidKept")
  x_InvalidRequest : ExcT K mg "InvalidRequest" (clsAt mg "InvalidRequest")
  x_UnknownName : ExcT K mg "UnknownName" (clsAt mg "UnknownName")
  q_NoRoom : AskT K mg "NoRoom" (clsAt mg "NoRoom")
  q_InvalidRequest : AskT K mg "InvalidRequest" (clsAt mg "InvalidRequest")
  h_CodeError : HanT K mg "CodeError" (clsAt mg "CodeError")
  y_NoRoom : ExcC K (clsAt mg "NoRoom")
  s_NoRoom_CodeError : PySem.W.subIn K (.ref (clsAt mg "NoRoom")) (.ref (clsAt mg "CodeError")) = some true
  s_NoRoom_NoRoom : PySem.W.subIn K (.ref (clsAt mg "NoRoom")) (.ref (clsAt mg "NoRoom")) = some true
  s_NoRoom_InvalidRequest : PySem.W.subIn K (.ref (clsAt mg "NoRoom")) (.ref (clsAt mg "InvalidRequest")) = some false
  k_Codebook : ClsT K mg "Codebook" (clsAt mg "Codebook")
  t_Codebook : TypT K (clsAt mg "Codebook")
  e_Codebook : NeT K (clsAt mg "Codebook")
  a_Codebook_radix : NoAttr K (clsAt mg "Codebook") "radix"
  a_Codebook_depth : NoAttr K (clsAt mg "Codebook") "depth"
  a_Codebook__words : NoAttr K (clsAt mg "Codebook") "_words"
  a_Codebook__reserved : NoAttr K (clsAt mg "Codebook") "_reserved"
  i_Codebook : IniD K (clsAt mg "Codebook") "Codebook.__init__" s_Codebook__init ["self", "radix", "depth", "words", "reserved"]
  m_Codebook_words : MetT K (clsAt mg "Codebook") "words" "Codebook.words" s_Codebook_words ["self"]
  m_Codebook_reserved : MetT K (clsAt mg "Codebook") "reserved" "Codebook.reserved" s_Codebook_reserved ["self"]
  m_Codebook_codeword : MetT K (clsAt mg "Codebook") "codeword" "Codebook.codeword" s_Codebook_codeword ["self", "name"]
  m_Codebook__len : MetT K (clsAt mg "Codebook") "__len__" "Codebook.__len__" s_Codebook__len ["self"]
  m_Codebook__eq : MetT K (clsAt mg "Codebook") "__eq__" "Codebook.__eq__" s_Codebook__eq ["self", "other"]
section
variable {P : Program} {w : World} {K : PySem.W.Frag} {mg : Str → Option Value} {base : Heap}
theorem fn_NoRoom {C f cc cda : Addr} {dV kV doc pm ct : Value} {an : Option Addr} (SF : SupF P K C f cc cda "NoRoom.__init__" (supD "NoRoom.__init__" (defArgs s_NoRoom) (defBody s_NoRoom) (defScope s_NoRoom) dV kV doc pm an cda ct cc)) (T : OexC K C) (no : PySem.W.findIn K (.ref C) "level" = some none) :
    FnOk P w K mg base CX0 1 f (supD "NoRoom.__init__" (defArgs s_NoRoom) (defBody s_NoRoom) (defScope s_NoRoom) dV kV doc pm an cda ct cc) (sargs "level") (sp_sup C "level") := by
  refine sup_fn (k := 0) (N := ["self", "level", "__class__"]) SF T rfl rfl rfl (NdefX.nscope_by (by decide +kernel)) (by decide) (by decide +kernel) (fun vs H Q E h => by obtain ⟨_, _, rfl, _⟩ := h; rfl) (fun A outer s H vs Q E hr hsp => ?_)
  obtain ⟨a, i, rfl, i0, i1, ha, k⟩ := hsp
  refine ⟨⟨_, rfl⟩, _, _, a, .int i, rfl, ha, pa_cons (pe_joinedJ (PJ.cons pe_str (PJ.cons (pe_fmt (pv 1)) (PJ.cons pe_str PJ.nil)))) pa_nil, rfl, pss_one (ps_ost (pv 0) (pv 1)), ?_⟩
  refine ⟨_, rfl, sz_rfl rfl, _, rfl, .inr ⟨i, rfl, log_num i0 i1, ?_⟩⟩
  have hn := toString_length_le (k := 10) i0 (by decide) (show i < 10 ^ 10 by omega)
  refine ⟨_, rfl, ?_, _, rfl, ?_, ?_⟩
  · rw [len_app]
    exact sz_le (Nat.add_le_add_left hn _) (by decide +kernel)
  · rw [len_app, len_app]
    exact sz_le (Nat.add_le_add_right (Nat.add_le_add_left hn _) _) (by decide +kernel)
  exact ⟨Nat.le_of_ble_eq_true rfl, ha, _, rfl, _, rfl, a, C, rfl, T, no, .inl ⟨ha, fun d hd hne => k d hd hne⟩⟩
/-! ### the law's pen -/
theorem cut_60 (ns : List Int) : cutV (ns.map V.int) none (some 60) = (ns.take 60).map V.int := by
  unfold cutV
  rw [HT.sIx_none, show (60 : Int) = ((60 : Nat) : Int) from rfl, HT.sIx_nat, List.length_map, List.drop_zero, Nat.sub_zero, ← List.map_take]
  congr 1
  rw [List.take_eq_take_iff]
  omega
/-- _law_pen(script): a new pen -/
def sp_l_pen (K : PySem.W.Frag) : Sp := fun vs H Q _ => ∃ (a : Addr) (ns : List Int), vs = [.ref a] ∧ SqL K H a (ns.map V.int) ∧
  ∀ (H' : Hp) (p : Addr), PenG H H' p 0 → Q (.ref p) H'
theorem cal_l_pen (T : Txt K mg) : CalG P w K mg base CX0 1 "_law_pen" (sp_l_pen K) [] := by
  refine T.d_l_pen.cal .nil sc_l_pen (fun vs H Q E h => by obtain ⟨_, _, rfl, _⟩ := h; rfl) (fun f cdv A outer s H vs Q E hr h => ?_)
  obtain ⟨a, ns, rfl, hS, k⟩ := h
  refine ⟨_, (pss_one (ps_ret (pe_lst (pa_cons (pe_callTy (r := rListQ K) call_list_of (by rfl) T.n_list (by decide +kernel) (pa_cons (pe_slice (r := rSlL K) sl_list (pv 0) po_none (po_some pe_int)) pa_nil)) (pa_cons pe_int (pa_cons pe_int pa_nil)))))), ?_⟩
  refine ⟨_, rfl, 60, rfl, a, _, rfl, hS, fun l hl => ?_⟩
  refine ⟨l, _, rfl, .inl (SqL.of upd_same), fun q hq => ?_⟩
  refine ⟨by show 3 ≤ sizeLine; decide, fun p hp => ?_⟩
  rw [cut_60] at *
  have ql : q ≠ l := fun e => by rw [e, upd_same] at hq; cases hq
  have pq : p ≠ q := fun e => by rw [e, upd_same] at hp; cases hp
  have hq0 : H q = none := by rw [upd_ne ql] at hq; exact hq
  have pl : p ≠ l := fun e => by rw [e, upd_ne (Ne.symm ql), upd_same] at hp; cases hp
  have hp0 : H p = none := by rw [upd_ne pq, upd_ne pl] at hp; exact hp
  refine k _ p ⟨same_new (same_new (same_new (Same.refl H) hl) hq0) hp0, hp0, q, ns.take 60, 0, 0, upd_same, ?_, hq0, Ne.symm pq, ?_, Int.le_refl _, Int.le_refl _, Int.le_refl _⟩
  · rw [upd_ne (Ne.symm pq), upd_same]
  rw [List.length_take]
  exact Nat.min_le_left _ _
/-- _law_next(pen): the next number, not below 0 -/
def sp_l_next (K : PySem.W.Frag) : Sp := fun vs H Q _ => ∃ (p : Addr) (G : Hp) (n : Nat), vs = [.ref p] ∧ PenG G H p n ∧ n + 1 ≤ 1000000000 ∧
  ∀ (H' : Hp) (z : Int), PenG G H' p (n + 1) → 0 ≤ z → Q (.int z) H'
theorem mul_r {i j : Int} (h : -(2 ^ 64) < j ∧ j < 2 ^ 64) : CMul i j := .inr h
theorem mul_l {i j : Int} (h : -(2 ^ 64) < i ∧ i < 2 ^ 64) : CMul i j := .inl h
abbrev posDummy : Unit := ()
theorem mod_b {x m : Int} (h : 0 < m) (h2 : m < 2 ^ 63) : -(2 ^ 64) < x % m ∧ x % m < 2 ^ 64 := by
  have a := Int.emod_nonneg x (show m ≠ 0 by omega)
  have b := Int.emod_lt_of_pos x h
  constructor <;> omega
theorem cal_l_next (T : Txt K mg) : CalG P w K mg base CX0 1 "_law_next" (sp_l_next K) [] := by
  refine T.d_l_next.cal .nil sc_l_next (fun vs H Q E h => by obtain ⟨_, _, _, rfl, _⟩ := h; rfl) (fun f cdv A outer s H vs Q E hr h => ?_)
  obtain ⟨p, G, n, rfl, hP, hn, k⟩ := h
  obtain ⟨sub, free, q, ns, i, v, hp, hq, hg, hqp, hl, h0, hi, hv⟩ := id hP
  refine ⟨_, (pss_cons (ps_set (i := 1) sc_l_next.nd rfl (Or.inl rfl) (pe_ix (r := rIxL K) ix_list (pv 0) pe_int (fun _ _ => rfl)))
      (pss_cons (ps_asg (pe_op op_add (pv 1) pe_int) (pg_sub (pv 0) pe_int set_list))
      (pss_cons (ps_set (i := 2) sc_l_next.nd rfl (Or.inl rfl) (pe_op op_add (pe_op op_mul (pv 1) pe_int) pe_int))
      (C8.pss_cut (ps_if (pt_cmpR (r := rNeD K) (op_neD hr.toRoom.units) (pe_ix (r := rIxL K) ix_list (pv 0) pe_int (fun _ _ => rfl)) (pe_lst pa_nil) (nomark _))
      (pss_one (ps_set (i := 2) sc_l_next.nd rfl (Or.inl rfl) (pe_ix (r := rIxL K) ix_list (pe_ix (r := rIxL K) ix_list (pv 0) pe_int (fun _ _ => rfl)) (pe_op op_modN (pv 1) (pe_callB (r := rLenQ K) call_len_seq (by rfl) T.n_len (by decide +kernel) (pa_cons (pe_ix (r := rIxL K) ix_list (pv 0) pe_int (fun _ _ => rfl)) pa_nil))) (fun _ _ => rfl))))
      pss_nil)
      (C8.pss_cut (ps_if (PW.pt (pw_and (pt_cmpR op_lt (pv 1) (pe_callB (r := rLenQ K) call_len_seq (by rfl) T.n_len (by decide +kernel) (pa_cons (pe_ix (r := rIxL K) ix_list (pv 0) pe_int (fun _ _ => rfl)) pa_nil)) (nomark _)) (pw_and1 (pt_cmpR op_ge (pv 2) (pe_op op_pow pe_int pe_int) (nomark _)))))
      (pss_one (ps_ret (pv 2)))
      pss_nil)
      (pss_cons (ps_set (i := 3) sc_l_next.nd rfl (Or.inl rfl) (pe_op op_mod (pe_op op_add (pe_op op_add (pe_op op_mod (pv 2) pe_int) (pe_op op_mul (pv 1) pe_int)) pe_int) pe_int))
      (pss_cons (ps_set (i := 4) sc_l_next.nd rfl (Or.inl rfl) (pe_op op_mod (pe_op op_add (pe_op op_add (pe_op op_mul (pv 3) (pv 3)) (pe_op op_mul (pv 1) pe_int)) pe_int) pe_int))
      (pss_cons (ps_set (i := 5) sc_l_next.nd rfl (Or.inl rfl) (pe_op op_mod (pe_op op_add (pe_op op_add (pe_op op_mul (pv 4) (pv 4)) (pv 3)) (pe_op op_mul (pe_op op_mul (pv 1) (pv 1)) pe_int)) pe_int))
      (pss_one (ps_ret (pe_op op_add (pe_op op_mul (pe_op op_add (pe_op op_mul (pv 5) pe_int) (pv 4)) pe_int) (pv 3)))))))))))), ?_⟩
  -- index = pen[1]
  refine ⟨_, rfl, p, _, 1, _, rfl, rfl, SqL.of hp, rfl, ?_⟩
  -- pen[1] = index + 1
  refine ⟨_, rfl, _, _, rfl, rfl, ?_⟩
  refine ⟨_, rfl, p, _, 1, 1, rfl, rfl, hp, rfl, ?_⟩
  have hp1 : upd H p (.lst [.ref q, .int (i + 1), .int v]) p = some (.lst [.ref q, .int (i + 1), .int v]) := upd_same
  have hP1 : PenG G (upd H p (.lst [.ref q, .int (i + 1), .int v])) p (n + 1) :=
    ⟨same_new sub free, free, q, ns, i + 1, v, hp1, by rw [upd_ne hqp]; exact hq, hg, hqp, hl, by omega, by omega, hv⟩
  -- cell = index * 1019 + 11
  refine ⟨_, rfl, _, _, rfl, rfl, mul_r (by decide), _, _, rfl, rfl, ?_⟩
  -- if pen[0] != []: cell = pen[0][index % len(pen[0])]
  refine ⟨fun σ' H' => ∃ c : Int, σ' = [some (.ref p), some (.int i), some (.int c), none, none, none] ∧ PenG G H' p (n + 1), ?_, ?_⟩
  · refine ⟨_, rfl, p, _, 0, _, rfl, rfl, SqL.of hp1, rfl, Nat.zero_le _, fun l hl1 => ?_⟩
    have hP2 := hP1.drop (o := .lst []) hl1
    have hlp := hP1.ne_new hl1
    have hql : q ≠ l := fun e => by rw [← e, upd_ne hqp, hq] at hl1; cases hl1
    have hq2 : upd (upd H p (.lst [.ref q, .int (i + 1), .int v])) l (.lst []) q = some (.lst (ns.map V.int)) := by rw [upd_ne hql, upd_ne hqp]; exact hq
    refine ⟨.list (ns.map PyData.int), .list [], .lst (SqL.of hq2) (dpAll_ints ns), .lst (SqL.of upd_same) .nil, shaped_ints ns, rfl, _, rfl, ?_⟩
    refine if_b (fun hne => ?_) (fun _ => ⟨_, rfl, hP2⟩)
    have hp2 : upd (upd H p (.lst [.ref q, .int (i + 1), .int v])) l (.lst []) p = some (.lst [.ref q, .int (i + 1), .int v]) := by rw [upd_ne (Ne.symm hlp)]; exact hp1
    have hpos : 0 < ns.length := by
      cases ns with
      | nil => exact absurd hne (by decide)
      | cons a r => exact Nat.succ_pos _
    have hm : i % (ns.length : Int) = ((i % (ns.length : Int)).toNat : Int) := (Int.toNat_of_nonneg (Int.emod_nonneg _ (by omega))).symm
    have hlt : (i % (ns.length : Int)).toNat < ns.length := by
      have := Int.emod_lt_of_pos i (show (0 : Int) < ns.length by omega)
      omega
    refine ⟨_, rfl, p, _, 0, _, rfl, rfl, SqL.of hp2, rfl, _, rfl, _, rfl, p, _, 0, _, rfl, rfl, SqL.of hp2, rfl, q, _, rfl, .inl (SqL.of hq2), _, _, rfl, rfl, by rw [List.length_map]; omega, ?_⟩
    refine ⟨q, _, _, _, rfl, rfl, SqL.of hq2, by rw [List.length_map, Int.fmod_eq_emod_of_nonneg _ (by omega), hm]; exact at_int hlt, ?_⟩
    exact ⟨_, rfl, hP2⟩
  · rintro σ' H' ⟨c, rfl, hP2⟩
    obtain ⟨sub2, free2, q2, ns2, i2, v2, hp2, hq2, hg2, hqp2, hl2, h02, hi2, hv2⟩ := id hP2
    -- if index < len(pen[0]) and cell >= 10 ** 18: return cell
    refine ⟨fun σ' H'' => σ' = [some (.ref p), some (.int i), some (.int c), none, none, none] ∧ H'' = H', ?_, ?_⟩
    · refine ⟨_, rfl, _, rfl, p, _, 0, _, rfl, rfl, SqL.of hp2, rfl, q2, _, rfl, .inl (SqL.of hq2), _, _, rfl, rfl, _, rfl, ?_⟩
      refine if_b (fun _ => ?_) (fun _ => iteF ⟨rfl, rfl⟩)
      refine ⟨_, rfl, _, _, rfl, rfl, ⟨by decide, by decide, by decide⟩, _, _, rfl, rfl, _, rfl, ?_⟩
      refine if_b (fun hc => ?_) (fun _ => ⟨rfl, rfl⟩)
      refine ⟨_, rfl, k _ _ hP2 ?_⟩
      have := of_decide_eq_true hc
      have e : ((10 : Int) ^ (18 : Int).toNat) = 1000000000000000000 := by decide
      rw [e] at this
      omega
    · rintro σ' H'' ⟨rfl, rfl⟩
      have fin : ∀ low mid top : Int, 0 ≤ low → 0 ≤ mid → 0 ≤ top → Q (.int ((top * 2147483629 + mid) * 2147483587 + low)) H'' := fun low mid top a b c => k _ _ hP2 (by omega)
      have b1 : -(2 ^ 64) < i ∧ i < 2 ^ 64 := by constructor <;> omega
      refine ⟨_, rfl, _, _, rfl, rfl, (by show (0 : Int) < _; decide), _, rfl, _, _, rfl, rfl, mul_r (by decide), _, _, rfl, rfl, _, _, rfl, rfl, _, _, rfl, rfl, (by show (0 : Int) < _; decide), ?_⟩
      refine ⟨_, rfl, _, rfl, _, _, rfl, rfl, mul_l (mod_b (by decide) (by decide)), _, rfl, _, _, rfl, rfl, mul_r (by decide), _, _, rfl, rfl, _, _, rfl, rfl, _, _, rfl, rfl, (by show (0 : Int) < _; decide), ?_⟩
      refine ⟨_, rfl, _, rfl, _, _, rfl, rfl, mul_l (mod_b (by decide) (by decide)), _, rfl, _, _, rfl, rfl, _, rfl, _, rfl, _, _, rfl, rfl, mul_l b1, _, _, rfl, rfl, mul_r (by decide), _, _, rfl, rfl, _, _, rfl, rfl, (by show (0 : Int) < _; decide), ?_⟩
      refine ⟨_, rfl, _, _, rfl, rfl, mul_r (by decide), _, rfl, _, _, rfl, rfl, _, _, rfl, rfl, mul_r (by decide), _, rfl, _, _, rfl, rfl, ?_⟩
      exact fin _ _ _ (Int.emod_nonneg _ (by decide)) (Int.emod_nonneg _ (by decide)) (Int.emod_nonneg _ (by decide))
/-- _law_draw(pen, below): a number from 0 to below - 1 -/
def sp_l_draw (K : PySem.W.Frag) : Sp := fun vs H Q _ => ∃ (p : Addr) (G : Hp) (n : Nat) (b : Int), vs = [.ref p, .int b] ∧ PenG G H p n ∧ n + 1 ≤ 1000000000 ∧ 0 < b ∧ b < 1073741824 ∧
  ∀ (H' : Hp) (d : Int), PenG G H' p (n + 1) → 0 ≤ d → d < b → Q (.int d) H'
theorem cal_l_draw (T : Txt K mg) : CalG P w K mg base CX0 2 "_law_draw" (sp_l_draw K) [] := by
  refine T.d_l_draw.cal .nil sc_l_draw (fun vs H Q E h => by obtain ⟨_, _, _, _, rfl, _⟩ := h; rfl) (fun f cdv A outer s H vs Q E hr h => ?_)
  obtain ⟨p, G, n, b, rfl, hP, hn, hb, hb2, k⟩ := h
  refine ⟨_, (C8.pss_cut (ps_if (pt_cmpR op_lt (pe_ix (r := rIxL K) ix_list (pv 0) pe_int (fun _ _ => rfl)) (pv 1) (nomark _))
      (pss_one (ps_asg (pe_g (cal_l_next T) hr (by first | decide | (simp only [Nat.add_eq]; omega)) rfl (pa_cons (pv 0) pa_nil)) (pg_sub (pv 0) pe_int set_list)))
      pss_nil)
      (pss_cons (ps_set (i := 2) sc_l_draw.nd rfl (Or.inl rfl) (pe_op op_modN (pe_ix (r := rIxL K) ix_list (pv 0) pe_int (fun _ _ => rfl)) (pv 1)))
      (pss_cons (ps_asg (pe_op op_fdivN (pe_ix (r := rIxL K) ix_list (pv 0) pe_int (fun _ _ => rfl)) (pv 1)) (pg_sub (pv 0) pe_int set_list))
      (pss_one (ps_ret (pv 2)))))), ?_⟩
  obtain ⟨sub, free, q, ns, i, v, hp, hq, hg, hqp, hl, h0, hi, hv⟩ := id hP
  refine ⟨fun σ' H' => σ' = [some (.ref p), some (.int b), none] ∧ PenG G H' p (n + 1), ?_, ?_⟩
  · refine ⟨_, rfl, p, _, 2, _, rfl, rfl, SqL.of hp, rfl, _, rfl, _, _, rfl, rfl, _, rfl, ?_⟩
    refine if_b (fun _ => ?_) (fun _ => ⟨rfl, hP.mono (by omega)⟩)
    refine ⟨_, rfl, p, G, n, rfl, hP, hn, fun H' z hP' hz => ?_⟩
    obtain ⟨sub', free', q', ns', i', v', hp', hq', hg', hqp', hl', h0', hi', hv'⟩ := id hP'
    refine ⟨_, rfl, p, _, 2, 2, rfl, rfl, hp', rfl, rfl, ?_⟩
    exact ⟨same_new sub' free, free, q', ns', i', z, upd_same, by rw [upd_ne hqp']; exact hq', hg', hqp', hl', h0', hi', hz⟩
  · rintro σ' H' ⟨rfl, hP'⟩
    obtain ⟨sub', free', q', ns', i', v', hp', hq', hg', hqp', hl', h0', hi', hv'⟩ := id hP'
    refine ⟨_, rfl, p, _, 2, _, rfl, rfl, SqL.of hp', rfl, _, rfl, _, _, rfl, rfl, by omega, ?_⟩
    refine ⟨_, rfl, p, _, 2, _, rfl, rfl, SqL.of hp', rfl, _, rfl, _, _, rfl, rfl, ⟨by omega, by omega⟩, ?_⟩
    refine ⟨_, rfl, p, _, 2, 2, rfl, rfl, hp', rfl, ?_⟩
    refine ⟨_, rfl, ?_⟩
    show Q (.int (v'.fmod b)) _
    have em : v'.fmod b = v' % b := Int.fmod_eq_emod_of_nonneg _ (by omega)
    have ed : v'.fdiv b = v' / b := Int.fdiv_eq_ediv_of_nonneg _ (by omega)
    rw [em]
    refine k _ _ ⟨same_new sub' free, free, q', ns', i', v' / b, ?_, by rw [upd_ne hqp']; exact hq', hg', hqp', hl', h0', hi', Int.ediv_nonneg hv' (by omega)⟩ (Int.emod_nonneg _ (by omega)) (Int.emod_lt_of_pos _ hb)
    rw [upd_same, ← ed]
    rfl
/-! ### is_name -/
/-- the signs of a name -/
def nameB (x : Str) : Bool := decide (1 ≤ x.length) && decide (x.length ≤ 8) && x.cps.toList.all fun c => decide (97 ≤ c ∧ c ≤ 122)
theorem name_len {x : Str} (h : nameB x = true) : 1 ≤ x.length ∧ x.length ≤ 8 := by
  unfold nameB at h
  rw [Bool.and_eq_true, Bool.and_eq_true] at h
  exact ⟨of_decide_eq_true h.1.1, of_decide_eq_true h.1.2⟩
def sp_isname (K : PySem.W.Frag) : Sp := fun vs H Q _ => ∃ v : V, vs = [v] ∧ ((∃ x : Str, v = .str x ∧ x.length ≤ 1000000 ∧ ∀ H', Same H H' → Q (.bl (nameB x)) H') ∨ (NotStr K H v ∧ ∀ H', Same H H' → Q (.bl false) H'))
theorem letters_in (c : Nat) : decide (c ∈ ("abcdefghijklmnopqrstuvwxyz" : Str).cps.toList) = decide (97 ≤ c ∧ c ≤ 122) := by
  have e : ("abcdefghijklmnopqrstuvwxyz" : Str).cps.toList = [97, 98, 99, 100, 101, 102, 103, 104, 105, 106, 107, 108, 109, 110, 111, 112, 113, 114, 115, 116, 117, 118, 119, 120, 121, 122] := by decide +kernel
  rw [e]
  simp only [List.mem_cons, List.not_mem_nil, or_false, decide_eq_decide]
  omega
theorem all_bl (l : List Nat) (f : Nat → Bool) : (l.map f).all id = l.all f := by rw [List.all_map]; rfl
theorem cal_is_name (T : Txt K mg) : CalG P w K mg base CX0 1 "is_name" (sp_isname K) [] := by
  refine T.d_is_name.cal .nil sc_is_name (fun vs H Q E h => by obtain ⟨_, rfl, _⟩ := h; rfl) (fun f cdv A outer s H vs Q E hr h => ?_)
  obtain ⟨v, rfl, h⟩ := h
  refine ⟨_, (C8.pss_cut (ps_if (PW.pt (pw_or (pt_not (pt_val (pe_callB (r := rIsi K) call_isi (by rfl) T.n_isinstance (by decide +kernel) (pa_cons (pv 0) (pa_cons (pe_bltn (v := .ty "str") (u := .type "str") (by rfl) T.n_str (by decide +kernel) rfl) pa_nil))))) (pw_or1 (pt_not (pt_chain op_le op_le pe_int (pe_callB call_len_str (by rfl) T.n_len (by decide +kernel) (pa_cons (pv 0) pa_nil)) (C8.pe_gc rfl T.c_LONGEST_NAME))))))
      (pss_one (ps_ret pe_bl))
      pss_nil)
      (pss_one (ps_ret (pe_callB (r := rAll K) (cr_all rfl) (by rfl) T.n_all (by decide +kernel) (pa_cons (pe_lc (own := [("letter", 1)]) (g := gName 1) (by rfl) sc_is_name.nd (pi_str (pv 0)) (blkOk_by (own := [("letter", 1)]) (N := ["thing", "letter"]) (sc := (defScope s_is_name)) (by decide +kernel)) (fun _ _ _ _ _ => (pg_name (i := 1) sc_is_name.nd rfl (Or.inl rfl))) (fun _ _ _ _ _ => pts_nil) (fun _ _ _ _ _ => (pe_cmpR op_in_sign (pv 1) (C8.pe_gc rfl T.c_LETTERS) (by rfl)))) pa_nil))))), ?_⟩
  rcases h with ⟨x, rfl, hx, k⟩ | ⟨⟨nt, hnt, knt⟩, k⟩
  · refine ⟨fun σ' H' => σ' = [some (.str x), none] ∧ H' = H ∧ 1 ≤ x.length ∧ x.length ≤ 8, ?_, ?_⟩
    · refine ⟨_, rfl, _, _, .type "str", .type "str", true, rfl, .ty "str", .base (.str _), kit_ty (by decide +kernel), _, rfl, ?_⟩
      refine iteF ?_
      refine ⟨_, rfl, _, rfl, sz_le hx rfl, _, _, rfl, rfl, _, rfl, ?_⟩
      refine if_b (fun h1 => ?_) (fun h1 => ?_)
      · refine ⟨_, _, rfl, rfl, _, rfl, ?_⟩
        have h1' := of_decide_eq_true h1
        by_cases h2 : x.length ≤ 8
        · have e2 : decide ((x.length : Int) ≤ 8) = true := decide_eq_true (by omega)
          show if (!decide ((x.length : Int) ≤ 8)) = true then _ else _
          rw [e2]
          exact iteF ⟨rfl, rfl, by omega, h2⟩
        · have e2 : decide ((x.length : Int) ≤ 8) = false := decide_eq_false (by omega)
          show if (!decide ((x.length : Int) ≤ 8)) = true then _ else _
          rw [e2]
          refine iteT ?_
          have e3 : nameB x = false := by unfold nameB; rw [decide_eq_false h2, Bool.and_false, Bool.false_and]
          have := k _ (Same.refl _)
          rw [e3] at this
          exact this
      · have h1' := of_decide_eq_false h1
        refine ⟨_, rfl, ?_⟩
        have e3 : nameB x = false := by unfold nameB; rw [decide_eq_false (show ¬ 1 ≤ x.length by omega), Bool.false_and, Bool.false_and]
        have := k _ (Same.refl _)
        rw [e3] at this
        exact this
    · rintro σ' H' ⟨rfl, rfl, h1, h2⟩
      refine ⟨_, rfl, _, rfl, fun D hD => lc_strB (fun c => decide (97 ≤ c ∧ c ≤ 122)) ?_ ?_ ?_⟩
      · exact Nat.lt_of_le_of_lt hx (by decide)
      · intro c H'' Q' hc q
        refine ⟨_, rfl, _, _, rfl, rfl, ?_⟩
        rw [letters_in]
        exact q
      · refine ⟨D, _, rfl, SqL.of upd_same, ?_⟩
        rw [all_bl]
        have e3 : nameB x = x.cps.toList.all fun c => decide (97 ≤ c ∧ c ≤ 122) := by unfold nameB; rw [decide_eq_true h1, decide_eq_true h2, Bool.true_and, Bool.true_and]
        rw [← e3]
        exact k _ (same_new (Same.refl _) hD)
  · refine ⟨fun _ _ => False, ?_, fun _ _ h => h.elim⟩
    refine ⟨_, rfl, _, _, .type nt, .type "str", false, rfl, .ty "str", hnt, kit_ty knt, _, rfl, ?_⟩
    exact iteT (k _ (Same.refl _))
/-! ### is_codeword -/
def wordB (r h : Int) (x : Str) : Bool := decide (1 ≤ x.length) && decide ((x.length : Int) ≤ h) && x.cps.toList.all fun c => decide (48 ≤ c ∧ (c : Int) < 48 + r)
def sp_iscw (K : PySem.W.Frag) : Sp := fun vs H Q _ => ∃ (r h : Int) (v : V), vs = [.int r, .int h, v] ∧ 2 ≤ r ∧ r ≤ 4 ∧
  ((∃ x : Str, v = .str x ∧ x.length ≤ 1000000 ∧ ∀ H', Same H H' → Q (.bl (wordB r h x)) H') ∨ (NotStr K H v ∧ ∀ H', Same H H' → Q (.bl false) H'))
theorem digits_in {r : Int} (h2 : 2 ≤ r) (h4 : r ≤ 4) (c : Nat) : decide (c ∈ (cutS ("0123456789" : Str) none (some r)).cps.toList) = decide (48 ≤ c ∧ (c : Int) < 48 + r) := by
  have hr : r = 2 ∨ r = 3 ∨ r = 4 := by omega
  rcases hr with rfl | rfl | rfl
  · have e : (cutS ("0123456789" : Str) none (some 2)).cps.toList = [48, 49] := by decide +kernel
    rw [e]
    simp only [List.mem_cons, List.not_mem_nil, or_false, decide_eq_decide]
    omega
  · have e : (cutS ("0123456789" : Str) none (some 3)).cps.toList = [48, 49, 50] := by decide +kernel
    rw [e]
    simp only [List.mem_cons, List.not_mem_nil, or_false, decide_eq_decide]
    omega
  · have e : (cutS ("0123456789" : Str) none (some 4)).cps.toList = [48, 49, 50, 51] := by decide +kernel
    rw [e]
    simp only [List.mem_cons, List.not_mem_nil, or_false, decide_eq_decide]
    omega
theorem cal_is_codeword (T : Txt K mg) : CalG P w K mg base CX0 1 "is_codeword" (sp_iscw K) [] := by
  refine T.d_is_codeword.cal .nil sc_is_codeword (fun vs H Q E h => by obtain ⟨_, _, _, rfl, _⟩ := h; rfl) (fun f cdv A outer s H vs Q E hr h => ?_)
  obtain ⟨r, hh, v, rfl, r2, r4, h⟩ := h
  refine ⟨_, (C8.pss_cut (ps_if (PW.pt (pw_or (pt_not (pt_val (pe_callB (r := rIsi K) call_isi (by rfl) T.n_isinstance (by decide +kernel) (pa_cons (pv 2) (pa_cons (pe_bltn (v := .ty "str") (u := .type "str") (by rfl) T.n_str (by decide +kernel) rfl) pa_nil))))) (pw_or1 (pt_not (pt_chain op_le op_le pe_int (pe_callB call_len_str (by rfl) T.n_len (by decide +kernel) (pa_cons (pv 2) pa_nil)) (pv 1))))))
      (pss_one (ps_ret pe_bl))
      pss_nil)
      (pss_one (ps_ret (pe_callB (r := rAll K) (cr_all rfl) (by rfl) T.n_all (by decide +kernel) (pa_cons (pe_lc (own := [("digit", 3)]) (g := gName 3) (by rfl) sc_is_codeword.nd (pi_str (pv 2)) (blkOk_by (own := [("digit", 3)]) (N := ["radix", "depth", "thing", "digit"]) (sc := (defScope s_is_codeword)) (by decide +kernel)) (fun _ _ _ _ _ => (pg_name (i := 3) sc_is_codeword.nd rfl (Or.inl rfl))) (fun _ _ _ _ _ => pts_nil) (fun _ _ _ _ _ => (pe_cmpR op_in_sign (pv 3) (pe_slice sl_str (C8.pe_gc rfl T.c_DIGITS) po_none (po_some (pv 0))) (by rfl)))) pa_nil))))), ?_⟩
  rcases h with ⟨x, rfl, hx, k⟩ | ⟨⟨nt, hnt, knt⟩, k⟩
  · refine ⟨fun σ' H' => σ' = [some (.int r), some (.int hh), some (.str x), none] ∧ H' = H ∧ 1 ≤ x.length ∧ (x.length : Int) ≤ hh, ?_, ?_⟩
    · refine ⟨_, rfl, _, _, .type "str", .type "str", true, rfl, .ty "str", .base (.str _), kit_ty (by decide +kernel), _, rfl, ?_⟩
      refine iteF ?_
      refine ⟨_, rfl, _, rfl, sz_le hx rfl, _, _, rfl, rfl, _, rfl, ?_⟩
      refine if_b (fun h1 => ?_) (fun h1 => ?_)
      · refine ⟨_, rfl, _, _, rfl, rfl, _, rfl, ?_⟩
        have h1' := of_decide_eq_true h1
        by_cases h2 : (x.length : Int) ≤ hh
        · have e2 : decide ((x.length : Int) ≤ hh) = true := decide_eq_true h2
          show if (!decide ((x.length : Int) ≤ hh)) = true then _ else _
          rw [e2]
          exact iteF ⟨rfl, rfl, by omega, h2⟩
        · have e2 : decide ((x.length : Int) ≤ hh) = false := decide_eq_false h2
          show if (!decide ((x.length : Int) ≤ hh)) = true then _ else _
          rw [e2]
          refine iteT ?_
          have e3 : wordB r hh x = false := by unfold wordB; rw [e2, Bool.and_false, Bool.false_and]
          have := k _ (Same.refl _)
          rw [e3] at this
          exact this
      · have h1' := of_decide_eq_false h1
        refine ⟨_, rfl, ?_⟩
        have e3 : wordB r hh x = false := by unfold wordB; rw [decide_eq_false (show ¬ 1 ≤ x.length by omega), Bool.false_and, Bool.false_and]
        have := k _ (Same.refl _)
        rw [e3] at this
        exact this
    · rintro σ' H' ⟨rfl, rfl, h1, h2⟩
      refine ⟨_, rfl, _, rfl, fun D hD => lc_strB (fun c => decide (48 ≤ c ∧ (c : Int) < 48 + r)) ?_ ?_ ?_⟩
      · exact Nat.lt_of_le_of_lt hx (by decide)
      · intro c H'' Q' hc q
        refine ⟨_, rfl, _, rfl, _, rfl, _, rfl, sz_rfl rfl, _, _, rfl, rfl, ?_⟩
        rw [digits_in r2 r4]
        exact q
      · refine ⟨D, _, rfl, SqL.of upd_same, ?_⟩
        rw [all_bl]
        have e3 : wordB r hh x = x.cps.toList.all fun c => decide (48 ≤ c ∧ (c : Int) < 48 + r) := by unfold wordB; rw [decide_eq_true h1, decide_eq_true h2, Bool.true_and, Bool.true_and]
        rw [← e3]
        exact k _ (same_new (Same.refl _) hD)
  · refine ⟨fun _ _ => False, ?_, fun _ _ h => h.elim⟩
    refine ⟨_, rfl, _, _, .type nt, .type "str", false, rfl, .ty "str", hnt, kit_ty knt, _, rfl, ?_⟩
    exact iteT (k _ (Same.refl _))
/-! ### is_whole, ancestors, first_clash -/
def intB : V → Bool
  | .int _ => true
  | _ => false
def sp_iswhole (K : PySem.W.Frag) : Sp := fun vs H Q _ => ∃ v : V, vs = [v] ∧ Known K H v ∧ Q (.bl (intB v)) H
theorem cal_is_whole (T : Txt K mg) : CalG P w K mg base CX0 1 "is_whole" (sp_iswhole K) [] := by
  refine T.d_is_whole.cal .nil sc_is_whole (fun vs H Q E h => by obtain ⟨_, rfl, _⟩ := h; rfl) (fun f cdv A outer s H vs Q E hr h => ?_)
  obtain ⟨v, rfl, hv, k⟩ := h
  refine ⟨_, (pss_one (ps_ret (pe_and (pe_callB (r := rIsi K) call_isi (by rfl) T.n_isinstance (by decide +kernel) (pa_cons (pv 0) (pa_cons (pe_bltn (v := .ty "int") (u := .type "int") (by rfl) T.n_int (by decide +kernel) rfl) pa_nil))) (pe_one (pe_not (pe_callB (r := rIsi K) call_isi (by rfl) T.n_isinstance (by decide +kernel) (pa_cons (pv 0) (pa_cons (pe_bltn (v := .ty "bool") (u := .type "bool") (by rfl) T.n_bool (by decide +kernel) rfl) pa_nil)))))))), ?_⟩
  rcases hv with rfl | ⟨b, rfl⟩ | ⟨i, rfl⟩ | ⟨x, rfl⟩ | ⟨a, t, rfl, ht, h3⟩
  · exact ⟨_, rfl, _, _, .type "NoneType", .type "int", false, rfl, .ty "int", .base .non, kit_ty (by decide +kernel), false, rfl, k⟩
  · exact ⟨_, rfl, _, _, .type "bool", .type "int", true, rfl, .ty "int", .base (.bl _), kit_ty (by decide +kernel), true, rfl, _, rfl, _, _, .type "bool", .type "bool", true, rfl, .ty "bool", .base (.bl _), kit_ty (by decide +kernel), true, rfl, k⟩
  · exact ⟨_, rfl, _, _, .type "int", .type "int", true, rfl, .ty "int", .base (.int _), kit_ty (by decide +kernel), true, rfl, _, rfl, _, _, .type "int", .type "bool", false, rfl, .ty "bool", .base (.int _), kit_ty (by decide +kernel), false, rfl, k⟩
  · exact ⟨_, rfl, _, _, .type "str", .type "int", false, rfl, .ty "int", .base (.str _), kit_ty (by decide +kernel), false, rfl, k⟩
  · refine ⟨_, rfl, _, _, .type t, .type "int", false, rfl, .ty "int", ht, kit_ty ?_, false, rfl, k⟩
    rcases h3 with rfl | rfl | rfl <;> decide +kernel
def sp_ancestors : Sp := fun vs H Q _ => ∃ x : Str, vs = [.str x] ∧ x.length ≤ 1000000 ∧ ∀ (H' : Hp) (p : Addr), Same H H' → H p = none → H' p = some (.lst ((anc x).map V.str)) → Q (.ref p) H'
theorem cal_ancestors (T : Txt K mg) : CalG P w K mg base CX0 1 "ancestors" sp_ancestors [] := by
  refine T.d_ancestors.cal .nil sc_ancestors (fun vs H Q E h => by obtain ⟨_, rfl, _⟩ := h; rfl) (fun f cdv A outer s H vs Q E hr h => ?_)
  obtain ⟨x, rfl, hx, k⟩ := h
  refine ⟨_, (pss_one (ps_ret (pe_lc (own := [("end", 1)]) (g := gName 1) (by rfl) sc_ancestors.nd (pi_range1 rfl T.n_range (pa_cons (pe_callB call_len_str (by rfl) T.n_len (by decide +kernel) (pa_cons (pv 0) pa_nil)) pa_nil)) (blkOk_by (own := [("end", 1)]) (N := ["node", "end"]) (sc := (defScope s_ancestors)) (by decide +kernel)) (fun _ _ _ _ _ => (pg_name (i := 1) sc_ancestors.nd rfl (Or.inl rfl))) (fun _ _ _ _ _ => pts_nil) (fun _ _ _ _ _ => (pe_slice sl_str (pv 0) po_none (po_some (pv 1))))))), ?_⟩
  refine ⟨_, rfl, x, rfl, sz_le hx rfl, _, rfl, by omega, by omega, fun D hD => lc_rangeF (fun i => .str (cutS x none (some (i : Int)))) hD (by omega) ?_ ?_⟩
  · intro i hi H' Q' s' q
    have e : (0 : Int) + (i : Nat) = (i : Nat) := by omega
    refine ⟨_, rfl, _, rfl, _, rfl, x, rfl, sz_le hx rfl, ?_⟩
    rw [e]
    exact q
  · refine k _ D (same_new (Same.refl _) hD) hD ?_
    rw [upd_same]
    unfold anc
    rw [List.map_map, show (((x.length : Nat) : Int).toNat) = x.length from Int.toNat_natCast _]
    rfl
def sp_first_clash (K : PySem.W.Frag) : Sp := fun vs H Q _ => ∃ (a : Addr) (ns : List Str), vs = [.ref a] ∧ SqL K H a (ns.map V.str) ∧ (∀ x ∈ ns, x.length ≤ 100) ∧ ns.length ≤ 1000 ∧ ∀ H', Same H H' → Q (clashV ns) H'
/-- what the two dicts hold behind the nodes pre -/
structure Seen (H0 H : Hp) (e b : Addr) (pre : List Str) : Prop where
  same : Same H0 H
  e0 : H0 e = none
  b0 : H0 b = none
  ne : e ≠ b
  ex : ∃ kE kA : List (Key × V), H e = some (.dK kE) ∧ H b = some (.dK kA) ∧ kE.length ≤ pre.length ∧ kA.length ≤ pre.length * 100 ∧
    (∀ x : Str, (valV kE (.inr x)).isSome = decide (x ∈ pre)) ∧ (∀ x : Str, (valV kA (.inr x)).isSome = decide (∃ y ∈ pre, x ∈ anc y))
theorem Seen.same' {H0 H H' : Hp} {e b : Addr} {pre : List Str} (h : Seen H0 H e b pre) (s : Same H H') : Seen H0 H' e b pre := by
  obtain ⟨s0, e0, b0, ne, kE, kA, h1, h2, hr⟩ := h
  exact ⟨Same.trans s0 s, e0, b0, ne, kE, kA, s _ _ h1, s _ _ h2, hr⟩
theorem seen_test {pre : List Str} {x : Str} : (decide (x ∈ pre) || (decide (∃ y ∈ pre, x ∈ anc y) || (anc x).any fun z => decide (z ∈ pre))) = pre.any (cmpS x) := by
  rw [Bool.eq_iff_iff, Bool.or_eq_true, Bool.or_eq_true, decide_eq_true_eq, decide_eq_true_eq, List.any_eq_true, List.any_eq_true]
  constructor
  · rintro (h | ⟨y, hy, h⟩ | ⟨z, hz, h⟩)
    · exact ⟨x, h, cmpS_split.mpr (.inl rfl)⟩
    · exact ⟨y, hy, cmpS_split.mpr (.inr (.inl h))⟩
    · exact ⟨z, of_decide_eq_true h, cmpS_split.mpr (.inr (.inr hz))⟩
  · rintro ⟨y, hy, h⟩
    rcases cmpS_split.mp h with rfl | h | h
    · exact .inl hy
    · exact .inr (.inl ⟨y, hy, h⟩)
    · exact .inr (.inr ⟨y, h, decide_eq_true hy⟩)
theorem cal_first_clash (T : Txt K mg) : CalG P w K mg base CX0 2 "first_clash" (sp_first_clash K) [] := by
  refine T.d_first_clash.cal .nil sc_first_clash (fun vs H Q E h => by obtain ⟨_, _, rfl, _⟩ := h; rfl) (fun f cdv A outer s H vs Q E hr h => ?_)
  obtain ⟨a, ns, rfl, hS, hlen, hn, k⟩ := h
  refine ⟨_, (pss_cons (ps_set (i := 1) sc_first_clash.nd rfl (Or.inr rfl) pe_dnewK)
      (pss_cons (ps_set (i := 2) sc_first_clash.nd rfl (Or.inl rfl) pe_dnewK)
      (pss_cons (ps_for PassesOwn.never rfl (pi_enum rfl T.n_enumerate (pa_cons (pv 0) pa_nil)) (pg_tup (by rfl) (pgs_cons (pg_name (i := 3) sc_first_clash.nd rfl (Or.inl rfl)) (pgs_cons (pg_name (i := 4) sc_first_clash.nd rfl (Or.inl rfl)) pgs_nil)))
      (pss_cons (ps_set (i := 5) sc_first_clash.nd rfl (Or.inl rfl) (pe_g (cal_ancestors T) hr (by first | decide | (simp only [Nat.add_eq]; omega)) rfl (pa_cons (pv 4) pa_nil)))
      (C8.pss_cut (ps_if (PW.pt (pw_or (pt_cmp (pc_din (hu_of hr.toRoom) (pv 4) (pv 1))) (pw_or (pt_cmp (pc_din (hu_of hr.toRoom) (pv 4) (pv 2))) (pw_or1 (pt_val (pe_callB (r := rAny K) (cr_any rfl) (by rfl) T.n_any (by decide +kernel) (pa_cons (pe_lc (own := [("prefix", 6)]) (g := gName 6) (by rfl) sc_first_clash.nd (pi_listK (K := K) (pv 5)) (blkOk_by (own := [("prefix", 6)]) (N := ["nodes", "earlier", "above_earlier", "at", "node", "above", "prefix"]) (sc := (defScope s_first_clash)) (by decide +kernel)) (fun _ _ _ _ _ => (pg_name (i := 6) sc_first_clash.nd rfl (Or.inl rfl))) (fun _ _ _ _ _ => pts_nil) (fun _ _ _ _ _ => (pe_cmp (pc_din (hu_of hr.toRoom) (pv 6) (pv 1)) rfl))) pa_nil)))))))
      (pss_one (ps_ret (pv 3)))
      pss_nil)
      (pss_cons (ps_dput (hu_of hr.toRoom) (pv 1) (pv 4) pe_bl rfl)
      (pss_one (ps_for PassesOwn.never rfl (pi_listK (K := K) (pv 5)) (pg_name (i := 6) sc_first_clash.nd rfl (Or.inl rfl))
      (pss_one (ps_dput (hu_of hr.toRoom) (pv 2) (pv 6) pe_bl rfl))))))))
      (pss_one (ps_ret pe_non))))), ?_⟩
  intro e he b hb
  have hbe : b ≠ e := fun q => by rw [q, upd_same] at hb; cases hb
  have hb0 : H b = none := by rw [upd_ne hbe] at hb; exact hb
  have hSeen0 : Seen H (upd (upd H e (.dK [])) b (.dK [])) e b [] := ⟨same_new (same_new (Same.refl _) he) hb0, he, hb0, Ne.symm hbe, [], [], by rw [upd_ne (Ne.symm hbe), upd_same], upd_same, Nat.le_refl _, Nat.le_refl _, fun x => by simp [valV_nil], fun x => by simp [valV_nil]⟩
  refine ⟨_, rfl, a, ns.map V.str, rfl, Same.seq hSeen0.same hS, for_it (walk_enum (xs := ns.map V.str)) (fun i σ H' => ∃ o3 o4 o5 o6 : Option V, σ = [some (.ref a), some (.ref e), some (.ref b), o3, o4, o5, o6] ∧ Seen H H' e b (ns.take i) ∧ clashAt ns = clashGo (ns.take i) (ns.drop i) i)
    ⟨none, none, none, none, rfl, hSeen0, rfl⟩ (fun i σ H' _ ⟨_, _, _, _, _, h, _⟩ => Same.seq h.same hS) ?_ ?_⟩
  · rintro i v σ H1 H2 hi ⟨o3, o4, o5, o6, rfl, hSe, hcl⟩ ⟨T0, x, y, rfl, hT, rfl, e1, e2⟩
    obtain ⟨nd, hnd, rfl⟩ := getMap e2
    obtain rfl : x = .int (i : Nat) := (Option.some.inj e1).symm
    have hmem : nd ∈ ns := List.mem_of_getElem? hnd
    have hl100 := hlen nd hmem
    refine ⟨T0, _, rfl, SqT.of upd_same, rfl, _, _, rfl, _, _, rfl, rfl, ?_⟩
    have hSe2 := hSe.same' (same_new (o := .tup [.int (i : Nat), .str nd]) (Same.refl _) hT)
    -- above = ancestors(node)
    refine ⟨_, rfl, nd, rfl, by omega, fun H3 p s3 hp0 hp => ?_⟩
    have hSe3 := hSe2.same' s3
    obtain ⟨s0, e0, b0, ne, kE, kA, h1, h2, l1, l2, q1, q2⟩ := id hSe3
    -- the test
    have htest := seen_test (pre := ns.take i) (x := nd)
    refine ⟨fun σ' H' => σ' = [some (.ref a), some (.ref e), some (.ref b), some (.int (i : Nat)), some (.str nd), some (.ref p), o6] ∧ Same H3 H' ∧ (ns.take i).any (cmpS nd) = false, ?_, ?_⟩
    · have hret : (ns.take i).any (cmpS nd) = true → ∀ H', Same H3 H' → Q (.int (i : Nat)) H' := by
        intro hc H' s'
        have := k H' (Same.trans s0 s')
        unfold clashV at this
        rw [hcl, drop_at hnd, clashGo_hit hc] at this
        exact this
      refine ⟨_, rfl, _, rfl, e, _, rfl, DGet.k (k := Sum.inr nd) h1, _, rfl, ?_⟩
      rw [q1 nd]
      refine if_b (fun c1 => ⟨_, rfl, hret (by rw [← htest, c1, Bool.true_or]) _ (Same.refl _)⟩) (fun c1 => ?_)
      refine ⟨_, rfl, _, rfl, b, _, rfl, DGet.k (k := Sum.inr nd) h2, _, rfl, ?_⟩
      rw [q2 nd]
      refine if_b (fun c2 => ⟨_, rfl, hret (by rw [← htest, c2, Bool.true_or, Bool.or_true]) _ (Same.refl _)⟩) (fun c2 => ?_)
      refine ⟨_, rfl, p, rfl, ⟨_, SqL.of hp⟩, fun D hD => lc_listF (f := fun v => match v with | .str z => .bl (decide (z ∈ ns.take i)) | _ => .non) (SqL.of hp) hD (by rw [List.length_map, anc_len]; omega) ?_ ?_⟩
      · intro v hv H' Q' s' q
        obtain ⟨z, hz, rfl⟩ := List.mem_map.mp hv
        refine ⟨_, rfl, _, rfl, e, _, rfl, DGet.k (k := Sum.inr z) (s' _ _ h1), ?_⟩
        rw [q1 z]
        exact q
      · have em : ((anc nd).map V.str).map (fun v => match v with | .str z => V.bl (decide (z ∈ ns.take i)) | _ => .non) = ((anc nd).map fun z => decide (z ∈ ns.take i)).map V.bl := by
          rw [List.map_map, List.map_map]
          rfl
        refine ⟨D, (anc nd).map fun z => decide (z ∈ ns.take i), rfl, SqL.of (by rw [upd_same, em]), _, rfl, ?_⟩
        have ea : ((anc nd).map fun z => decide (z ∈ ns.take i)).any id = (anc nd).any fun z => decide (z ∈ ns.take i) := by rw [List.any_map]; rfl
        rw [ea]
        refine if_b (fun c3 => ⟨_, rfl, hret (by rw [← htest, c3, Bool.or_true, Bool.or_true]) _ (same_new (Same.refl _) hD)⟩) (fun c3 => ⟨rfl, same_new (Same.refl _) hD, ?_⟩)
        rw [← htest, c1, c2, c3]
        rfl
    · rintro σ4 H4 ⟨rfl, s4, hno⟩
      have h1' := s4 _ _ h1
      have h2' := s4 _ _ h2
      -- earlier[node] = True
      refine ⟨_, rfl, _, rfl, e, _, rfl, DPut.k (k := Sum.inr nd) h1' (sz_lt (m := 1000) (by rw [List.length_take] at l1; omega) rfl), ?_⟩
      have s5 : Same H (upd H4 e (.dK (putK kE (.inr nd) (.bl true)))) := same_mut (Same.trans s0 s4) e0
      -- for prefix in above: above_earlier[prefix] = True
      have hp4 : (upd H4 e (.dK (putK kE (.inr nd) (.bl true)))) p = some (.lst ((anc nd).map V.str)) := by
        rw [upd_ne (fun q => by rw [q] at hp0; have := hSe2.ex; obtain ⟨kE', kA', g1, _⟩ := this; rw [g1] at hp0; cases hp0)]
        exact s4 _ _ hp
      have hpb : p ≠ b := fun q => by
        rw [q] at hp0
        obtain ⟨kE', kA', g1, g2, _⟩ := hSe2.ex
        rw [g2] at hp0
        cases hp0
      refine ⟨_, rfl, p, rfl, ⟨_, SqL.of hp4⟩, for_list (K := K) (a := p) (xs := (anc nd).map V.str) (fun j σ H' => ∃ o6, σ = [some (.ref a), some (.ref e), some (.ref b), some (.int (i : Nat)), some (.str nd), some (.ref p), o6] ∧ Same H H' ∧ H' p = some (.lst ((anc nd).map V.str)) ∧
          H' e = some (.dK (putK kE (.inr nd) (.bl true))) ∧ ∃ kA' : List (Key × V), H' b = some (.dK kA') ∧ kA'.length ≤ kA.length + j ∧ ∀ x : Str, (valV kA' (.inr x)).isSome = (decide (∃ y ∈ ns.take i, x ∈ anc y) || decide (x ∈ (anc nd).take j)))
        ⟨o6, rfl, s5, hp4, upd_same, kA, by rw [upd_ne (Ne.symm ne)]; exact h2', Nat.le_refl _, fun x => by rw [q2 x]; simp⟩ (fun j σ H' _ ⟨_, _, _, h, _⟩ => SqL.of h) ?_ ?_⟩
      · rintro j v σ H5 hj ⟨o6', rfl, t5, hp5, he5, kA', hb5, l5, q5⟩
        obtain ⟨z, hz, rfl⟩ := getMap hj
        have hjl : j < nd.length := by
          have := (List.getElem?_eq_some_iff.mp hz).1
          rw [anc_len] at this
          exact this
        refine ⟨_, rfl, _, rfl, b, _, rfl, DPut.k (k := Sum.inr z) hb5 (sz_lt (m := 200000) (by rw [List.length_take] at l2; omega) rfl), ?_⟩
        refine ⟨_, rfl, same_mut t5 b0, by rw [upd_ne hpb]; exact hp5, by rw [upd_ne ne]; exact he5, _, upd_same, ?_, fun x => ?_⟩
        · have := put_len kA' (.inr z) (.bl true)
          omega
        · rw [valV_put, take_snoc hz]
          by_cases hx : (Sum.inr x : Key) = Sum.inr z
          · have hx' : x = z := Sum.inr.inj hx
            subst hx'
            rw [if_pos rfl]
            simp
          · have hx' : x ≠ z := fun q => hx (by rw [q])
            rw [if_neg hx, q5 x]
            simp [List.mem_append, hx']
      · rintro σ H5 ⟨o6', rfl, t5, hp5, he5, kA', hb5, l5, q5⟩
        refine ⟨_, _, _, _, rfl, ⟨t5, e0, b0, ne, _, kA', he5, hb5, ?_, ?_, fun x => ?_, fun x => ?_⟩, ?_⟩
        · have := put_len kE (.inr nd) (.bl true)
          have h9 := (List.getElem?_eq_some_iff.mp hnd).1
          rw [List.length_take] at l1 ⊢
          omega
        · have h9 := (List.getElem?_eq_some_iff.mp hnd).1
          rw [List.length_map, anc_len] at l5
          rw [List.length_take] at l2 ⊢
          omega
        · rw [valV_put, take_snoc hnd]
          by_cases hx : (Sum.inr x : Key) = Sum.inr nd
          · have hx' : x = nd := Sum.inr.inj hx
            subst hx'
            rw [if_pos rfl]
            simp
          · have hx' : x ≠ nd := fun q => hx (by rw [q])
            rw [if_neg hx, q1 x]
            simp [List.mem_append, hx']
        · rw [q5 x, List.length_map, List.take_length, take_snoc hnd, Bool.eq_iff_iff, Bool.or_eq_true, decide_eq_true_eq, decide_eq_true_eq, decide_eq_true_eq]
          constructor
          · rintro (⟨y, hy, h⟩ | h)
            · exact ⟨y, List.mem_append_left _ hy, h⟩
            · exact ⟨nd, List.mem_append_right _ (List.mem_singleton.mpr rfl), h⟩
          · rintro ⟨y, hy, h⟩
            rcases List.mem_append.mp hy with hy | hy
            · exact .inl ⟨y, hy, h⟩
            · rw [List.mem_singleton] at hy
              subst hy
              exact .inr h
        · rw [hcl, drop_at hnd, take_snoc hnd]
          exact clashGo_step hno
  · rintro σ H' ⟨o3, o4, o5, o6, rfl, hSe, hcl⟩
    have := k H' hSe.same
    unfold clashV at this
    rw [hcl, List.length_map, List.drop_length] at this
    exact this
/-! ### is_word_table, is_codeword_list, forms_codebook -/
def keyNameB : Key → Bool
  | .inr x => nameB x
  | .inl _ => false
def valWordB (r h : Int) : V → Bool
  | .str x => wordB r h x
  | _ => false
def tableB (r h : Int) (kvs : List (Key × V)) : Bool := kvs.all fun q => keyNameB q.1 && valWordB r h q.2
/-- texts are not too long -/
def SmallV (v : V) : Prop := ∀ x : Str, v = .str x → x.length ≤ 1000000
/-- w is a dict, or no dict -/
def DicV (K : PySem.W.Frag) (H : Hp) (w : V) : Option (List (Key × V)) → Prop
  | some kvs => ∃ a, w = .ref a ∧ H a = some (.dK kvs) ∧ kvs.length ≤ 500 ∧ ∀ q ∈ kvs, Known K H q.2 ∧ SmallV q.2 ∧ SmallV (kV q.1)
  | none => ∃ t : String, TyX K H w (.type t) ∧ kitB t "dict" = some false
/-- it is a list or a tuple, or neither -/
def SeqV (K : PySem.W.Frag) (H : Hp) (w : V) : Option (List V) → Prop
  | some xs => ∃ a, w = .ref a ∧ ((SqL K H a xs ∧ TyX K H w (.type "list")) ∨ (SqT K H a xs ∧ TyX K H w (.type "tuple"))) ∧ xs.length ≤ 500 ∧ ∀ x ∈ xs, Known K H x ∧ SmallV x
  | none => ∃ t : String, TyX K H w (.type t) ∧ kitB t "list" = some false ∧ kitB t "tuple" = some false
theorem DicV.same {K : PySem.W.Frag} {H H' : Hp} {w : V} {W : Option (List (Key × V))} (s : Same H H') (h : DicV K H w W) : DicV K H' w W := by
  cases W with
  | none => obtain ⟨t, h1, h2⟩ := h; exact ⟨t, TyX.same s h1, h2⟩
  | some kvs => obtain ⟨a, e, ha, hl, hq⟩ := h; exact ⟨a, e, s _ _ ha, hl, fun q m => ⟨(hq q m).1.same s, (hq q m).2⟩⟩
theorem SeqV.same {K : PySem.W.Frag} {H H' : Hp} {w : V} {R : Option (List V)} (s : Same H H') (h : SeqV K H w R) : SeqV K H' w R := by
  cases R with
  | none => obtain ⟨t, h1, h2⟩ := h; exact ⟨t, TyX.same s h1, h2⟩
  | some xs =>
    obtain ⟨a, e, ha, hl, hq⟩ := h
    refine ⟨a, e, ?_, hl, fun q m => ⟨(hq q m).1.same s, (hq q m).2⟩⟩
    rcases ha with ⟨h1, h2⟩ | ⟨h1, h2⟩
    · exact .inl ⟨Same.seq s h1, TyX.same s h2⟩
    · exact .inr ⟨same_seqT s h1, TyX.same s h2⟩
/-- a dict that is locked is a dict -/
theorem TyX.lock {K : PySem.W.Frag} {H : Hp} {v : V} {t : String} {d : Addr} {kvs : List (Key × V)} {od : Obj} (hd : H d = some (.dK kvs)) (h : TyX K H v (.type t)) : TyX K (upd H d (.frz od (.dK kvs))) v (.type t) := by
  have ne : ∀ {a : Addr} {o : HO}, H a = some o → (∀ k, o ≠ .dK k) → upd H d (.frz od (.dK kvs)) a = some o := fun {a o} e n => by
    rw [upd_ne (fun q => by rw [q, hd] at e; cases e; exact n _ rfl)]
    exact e
  cases h with
  | base h =>
    cases h with
    | non => exact .base .non
    | bl x => exact .base (.bl x)
    | int i => exact .base (.int i)
    | str x => exact .base (.str x)
    | flt x => exact .base (.flt x)
    | lst e => exact .base (.lst (ne e (by intro k z; cases z)))
    | frz e => exact .base (.frz (ne e (by intro k z; cases z)))
    | tup e => exact .base (.tup (ne e (by intro k z; cases z)))
    | @dK a k e =>
      by_cases hb : a = d
      · subst hb
        rw [hd] at e
        cases e
        exact .fDict upd_same
      · exact .base (.dK (by rw [upd_ne hb]; exact e))
    | dT e => exact .base (.dT (ne e (by intro k z; cases z)))
  | byt b => exact .byt b
  | set e => exact .set (ne e (by intro k z; cases z))
  | kList e c => exact .kList e c
  | kTuple e c => exact .kTuple e c
  | kDict e c => exact .kDict e c
  | fTuple e => exact .fTuple (ne e (by intro k z; cases z))
  | fDict e => exact .fDict (ne e (by intro k z; cases z))
theorem Known.lock {K : PySem.W.Frag} {H : Hp} {v : V} {d : Addr} {kvs : List (Key × V)} {od : Obj} (hd : H d = some (.dK kvs)) (h : Known K H v) : Known K (upd H d (.frz od (.dK kvs))) v := by
  rcases h with h | h | h | h | ⟨a, t, e, ht, h3⟩
  · exact .inl h
  · exact .inr (.inl h)
  · exact .inr (.inr (.inl h))
  · exact .inr (.inr (.inr (.inl h)))
  · exact .inr (.inr (.inr (.inr ⟨a, t, e, TyX.lock hd ht, h3⟩)))
def sp_word_table (K : PySem.W.Frag) : Sp := fun vs H Q _ => ∃ (r h : Int) (w : V) (W : Option (List (Key × V))), vs = [.int r, .int h, w] ∧ 2 ≤ r ∧ r ≤ 4 ∧ DicV K H w W ∧
  ∀ H', Same H H' → Q (.bl (match W with | some kvs => tableB r h kvs | none => false)) H'
theorem same_unlock {H H' : Hp} {d : Addr} {o : Obj} {u : HO} (hd : H d = some u) (s : Same (upd H d (.frz o u)) H') : Same H (upd H' d u) := fun b v e => by
  by_cases hb : b = d
  · subst hb
    rw [upd_same]
    rw [hd] at e
    exact e
  · rw [upd_ne hb]
    exact s b v (by rw [upd_ne hb]; exact e)
theorem key_known {K : PySem.W.Frag} {H : Hp} (k : Key) : (∃ x : Str, k = .inr x) ∨ (∃ i : Int, k = .inl i) := by
  cases k with
  | inl i => exact .inr ⟨i, rfl⟩
  | inr x => exact .inl ⟨x, rfl⟩
theorem cal_is_word_table (T : Txt K mg) : CalG P w K mg base CX0 2 "is_word_table" (sp_word_table K) [] := by
  refine T.d_is_word_table.cal .nil sc_is_word_table (fun vs H Q E h => by obtain ⟨_, _, _, _, rfl, _⟩ := h; rfl) (fun f cdv A outer s H vs Q E hr h => ?_)
  obtain ⟨r, hh, w, W, rfl, r2, r4, hW, k⟩ := h
  refine ⟨_, (pss_cons (ps_if (pt_not (pt_val (pe_callB (r := rIsi K) call_isi (by rfl) T.n_isinstance (by decide +kernel) (pa_cons (pv 2) (pa_cons (pe_bltn (v := .ty "dict") (u := .type "dict") (by rfl) T.n_dict (by decide +kernel) rfl) pa_nil)))))
      (pss_one (ps_ret pe_bl))
      pss_nil)
      (pss_one (ps_ret (pe_callB (r := rAll K) (cr_all rfl) (by rfl) T.n_all (by decide +kernel) (pa_cons (pe_lock (pe_lc (own := [("name", 3), ("word", 4)]) (g := gTup K 2 (gCons (gName 3) (gCons (gName 4) gNil))) (by rfl) sc_is_word_table.nd (pi_items (pv 2)) (blkOk_by (own := [("name", 3), ("word", 4)]) (N := ["radix", "depth", "thing", "name", "word"]) (sc := (defScope s_is_word_table)) (by decide +kernel)) (fun _ _ _ _ _ => (pg_tup (by rfl) (pgs_cons (pg_name (i := 3) sc_is_word_table.nd rfl (Or.inl rfl)) (pgs_cons (pg_name (i := 4) sc_is_word_table.nd rfl (Or.inl rfl)) pgs_nil)))) (fun _ _ _ _ _ => pts_nil) (fun _ _ _ _ _ => (pe_and (pe_g (cal_is_name T) hr (by first | decide | (simp only [Nat.add_eq]; omega)) rfl (pa_cons (pv 3) pa_nil)) (pe_one (pe_g (cal_is_codeword T) hr (by first | decide | (simp only [Nat.add_eq]; omega)) rfl (pa_cons (pv 0) (pa_cons (pv 1) (pa_cons (pv 4) pa_nil))))))))) pa_nil))))), ?_⟩
  cases W with
  | none =>
    obtain ⟨nt, hnt, knt⟩ := hW
    exact ⟨_, rfl, _, _, .type nt, .type "dict", false, rfl, .ty "dict", hnt, kit_ty knt, _, rfl, k _ (Same.refl _)⟩
  | some kvs =>
    obtain ⟨d, rfl, hd, hl, hq⟩ := hW
    refine ⟨_, rfl, _, _, .type "dict", .type "dict", true, rfl, .ty "dict", .base (.dK hd), kit_ty (by decide +kernel), _, rfl, ?_⟩
    refine ⟨d, .dK kvs, hd, trivial, fun od => ?_⟩
    refine ⟨_, rfl, d, od, kvs, rfl, upd_same, fun D hD => lc_itemsB (fun q => keyNameB q.1 && valWordB r hh q.2) (by decide) upd_same hD (by omega) ?_ ?_⟩
    · intro q hm H' Q' s' kk
      obtain ⟨hk1, hk2, hk3⟩ := hq q hm
      have hk1' : Known K H' q.2 := (hk1.lock hd).same s'
      rcases key_known (K := K) (H := H') q.1 with ⟨x, e⟩ | ⟨i, e⟩
      · have en : keyNameB q.1 = nameB x := by rw [e]; rfl
        have ek : kV q.1 = .str x := by rw [e]; rfl
        rw [ek]
        refine ⟨_, rfl, _, rfl, .inl ⟨x, rfl, hk3 x ek, fun H2 s2 => ⟨_, rfl, ?_⟩⟩⟩
        refine if_b (fun hb => ?_) (fun hb => ?_)
        · rcases (hk1'.same s2).kind with ⟨y, ey⟩ | ⟨hne, hns⟩
          · refine ⟨_, rfl, _, rfl, _, rfl, _, _, _, rfl, r2, r4, .inl ⟨y, ey, hk2 y ey, fun H3 s3 => ?_⟩⟩
            have := kk H3 (Same.trans s2 s3)
            rw [en, hb, Bool.true_and, ey] at this
            exact this
          · refine ⟨_, rfl, _, rfl, _, rfl, _, _, _, rfl, r2, r4, .inr ⟨hns, fun H3 s3 => ?_⟩⟩
            have := kk H3 (Same.trans s2 s3)
            have ef : valWordB r hh q.2 = false := by
              cases hv : q.2 with
              | str z => exact absurd hv (hne z)
              | _ => rfl
            rw [en, hb, Bool.true_and, ef] at this
            exact this
        · have := kk H2 s2
          rw [en, hb, Bool.false_and] at this
          exact this
      · have en : keyNameB q.1 = false := by rw [e]; rfl
        have ek : kV q.1 = .int i := by rw [e]; rfl
        rw [ek]
        refine ⟨_, rfl, _, rfl, .inr ⟨⟨"int", .base (.int i), by decide +kernel⟩, fun H2 s2 => ⟨_, rfl, ?_⟩⟩⟩
        have := kk H2 s2
        rw [en, Bool.false_and] at this
        exact this
    · intro H' s' hD'
      refine ⟨s' _ _ upd_same, ?_⟩
      have hDd : D ≠ d := fun e => by rw [e, upd_same] at hD; cases hD
      refine ⟨D, kvs.map fun q => keyNameB q.1 && valWordB r hh q.2, rfl, SqL.of (by rw [upd_ne hDd]; exact hD'), ?_⟩
      have e : (kvs.map fun q => keyNameB q.1 && valWordB r hh q.2).all id = tableB r hh kvs := by
        unfold tableB
        rw [List.all_map]
        rfl
      rw [e]
      exact k _ (same_unlock hd s')
def sp_cw_list (K : PySem.W.Frag) : Sp := fun vs H Q _ => ∃ (r h : Int) (w : V) (R : Option (List V)), vs = [.int r, .int h, w] ∧ 2 ≤ r ∧ r ≤ 4 ∧ SeqV K H w R ∧
  ∀ H', Same H H' → Q (.bl (match R with | some xs => xs.all (valWordB r h) | none => false)) H'
theorem cal_is_codeword_list (T : Txt K mg) : CalG P w K mg base CX0 2 "is_codeword_list" (sp_cw_list K) [] := by
  refine T.d_is_codeword_list.cal .nil sc_is_codeword_list (fun vs H Q E h => by obtain ⟨_, _, _, _, rfl, _⟩ := h; rfl) (fun f cdv A outer s H vs Q E hr h => ?_)
  obtain ⟨r, hh, w, R, rfl, r2, r4, hR, k⟩ := h
  have cls2 : ∀ tp : Addr, Paired ClsV [.ty "list", .ty "tuple"] [.type "list", .type "tuple"] := fun _ => .cons (.ty _) (.cons (.ty _) .nil)
  cases R with
  | none =>
    obtain ⟨nt, hnt, k1, k2⟩ := hR
    refine ⟨_, (pss_one (ps_ret (pe_and (pe_callB (r := rIsiT K) call_isiT (by rfl) T.n_isinstance (by decide +kernel) (pa_cons (pv 2) (pa_cons (pe_tup (pa_cons (pe_bltn (v := .ty "list") (u := .type "list") (by rfl) T.n_list (by decide +kernel) rfl) (pa_cons (pe_bltn (v := .ty "tuple") (u := .type "tuple") (by rfl) T.n_tuple (by decide +kernel) rfl) pa_nil))) pa_nil))) (pe_one (pe_callB (r := rAll K) (cr_all rfl) (by rfl) T.n_all (by decide +kernel) (pa_cons (pe_lc (own := [("node", 3)]) (g := gName 3) (by rfl) sc_is_codeword_list.nd (pi_listK (K := K) (pv 2)) (blkOk_by (own := [("node", 3)]) (N := ["radix", "depth", "thing", "node"]) (sc := (defScope s_is_codeword_list)) (by decide +kernel)) (fun _ _ _ _ _ => (pg_name (i := 3) sc_is_codeword_list.nd rfl (Or.inl rfl))) (fun _ _ _ _ _ => pts_nil) (fun _ _ _ _ _ => (pe_g (cal_is_codeword T) hr (by first | decide | (simp only [Nat.add_eq]; omega)) rfl (pa_cons (pv 0) (pa_cons (pv 1) (pa_cons (pv 3) pa_nil)))))) pa_nil)))))), ?_⟩
    refine ⟨_, rfl, (sz_rfl rfl), fun tp htp => ?_⟩
    refine ⟨_, tp, _, .type nt, _, false, rfl, upd_same, cls2 tp, TyX.same (same_new (Same.refl _) htp) hnt, kitAny_cons (kit_ty k1) (fun _ => kitAny_cons (kit_ty k2) (fun _ => rfl) (fun z => by cases z)) (fun z => by cases z), false, rfl, ?_⟩
    exact k _ (same_new (Same.refl _) htp)
  | some xs =>
    obtain ⟨a, rfl, hS, hl, hx⟩ := hR
    rcases hS with ⟨hS, hT⟩ | ⟨hS, hT⟩
    · refine ⟨_, (pss_one (ps_ret (pe_and (pe_callB (r := rIsiT K) call_isiT (by rfl) T.n_isinstance (by decide +kernel) (pa_cons (pv 2) (pa_cons (pe_tup (pa_cons (pe_bltn (v := .ty "list") (u := .type "list") (by rfl) T.n_list (by decide +kernel) rfl) (pa_cons (pe_bltn (v := .ty "tuple") (u := .type "tuple") (by rfl) T.n_tuple (by decide +kernel) rfl) pa_nil))) pa_nil))) (pe_one (pe_callB (r := rAll K) (cr_all rfl) (by rfl) T.n_all (by decide +kernel) (pa_cons (pe_lc (own := [("node", 3)]) (g := gName 3) (by rfl) sc_is_codeword_list.nd (pi_listK (K := K) (pv 2)) (blkOk_by (own := [("node", 3)]) (N := ["radix", "depth", "thing", "node"]) (sc := (defScope s_is_codeword_list)) (by decide +kernel)) (fun _ _ _ _ _ => (pg_name (i := 3) sc_is_codeword_list.nd rfl (Or.inl rfl))) (fun _ _ _ _ _ => pts_nil) (fun _ _ _ _ _ => (pe_g (cal_is_codeword T) hr (by first | decide | (simp only [Nat.add_eq]; omega)) rfl (pa_cons (pv 0) (pa_cons (pv 1) (pa_cons (pv 3) pa_nil)))))) pa_nil)))))), ?_⟩
      refine ⟨_, rfl, (sz_rfl rfl), fun tp htp => ?_⟩
      have s1 := same_new (o := .tup [V.ty "list", V.ty "tuple"]) (Same.refl H) htp
      refine ⟨_, tp, _, .type "list", _, true, rfl, upd_same, cls2 tp, TyX.same s1 hT, kitAny_cons (b := true) (kit_ty (by decide +kernel)) (fun z => by cases z) (fun _ => rfl), true, rfl, ?_⟩
      refine iteT ?_
      have S1 : SqL K (upd H tp (.tup [V.ty "list", V.ty "tuple"])) a xs := Same.seq s1 hS
      refine ⟨_, rfl, a, rfl, ⟨_, S1⟩, fun D hD => lc_listB (fun x => valWordB r hh x) S1 hD (by omega) ?_ ?_⟩
      · intro x hm H' Q' s' kk
        rcases ((hx x hm).1.same (Same.trans s1 s')).kind with ⟨z, e⟩ | ⟨hne, hns⟩
        · subst e
          exact ⟨_, rfl, _, rfl, _, rfl, _, _, _, rfl, r2, r4, .inl ⟨z, rfl, (hx _ hm).2 z rfl, kk⟩⟩
        · have ef : valWordB r hh x = false := by
            cases hv : x with
            | str z => exact absurd hv (hne z)
            | _ => rfl
          rw [ef] at kk
          exact ⟨_, rfl, _, rfl, _, rfl, _, _, _, rfl, r2, r4, .inr ⟨hns, kk⟩⟩
      · intro H' s' hD'
        refine ⟨D, xs.map (valWordB r hh), rfl, SqL.of hD', ?_⟩
        rw [List.all_map]
        exact k _ (Same.trans s1 s')
    · refine ⟨_, (pss_one (ps_ret (pe_and (pe_callB (r := rIsiT K) call_isiT (by rfl) T.n_isinstance (by decide +kernel) (pa_cons (pv 2) (pa_cons (pe_tup (pa_cons (pe_bltn (v := .ty "list") (u := .type "list") (by rfl) T.n_list (by decide +kernel) rfl) (pa_cons (pe_bltn (v := .ty "tuple") (u := .type "tuple") (by rfl) T.n_tuple (by decide +kernel) rfl) pa_nil))) pa_nil))) (pe_one (pe_callB (r := rAll K) (cr_all rfl) (by rfl) T.n_all (by decide +kernel) (pa_cons (pe_lc (own := [("node", 3)]) (g := gName 3) (by rfl) sc_is_codeword_list.nd (pi_tupK (K := K) (pv 2)) (blkOk_by (own := [("node", 3)]) (N := ["radix", "depth", "thing", "node"]) (sc := (defScope s_is_codeword_list)) (by decide +kernel)) (fun _ _ _ _ _ => (pg_name (i := 3) sc_is_codeword_list.nd rfl (Or.inl rfl))) (fun _ _ _ _ _ => pts_nil) (fun _ _ _ _ _ => (pe_g (cal_is_codeword T) hr (by first | decide | (simp only [Nat.add_eq]; omega)) rfl (pa_cons (pv 0) (pa_cons (pv 1) (pa_cons (pv 3) pa_nil)))))) pa_nil)))))), ?_⟩
      refine ⟨_, rfl, (sz_rfl rfl), fun tp htp => ?_⟩
      have s1 := same_new (o := .tup [V.ty "list", V.ty "tuple"]) (Same.refl H) htp
      refine ⟨_, tp, _, .type "tuple", _, true, rfl, upd_same, cls2 tp, TyX.same s1 hT, kitAny_cons (b := false) (kit_ty (by decide +kernel)) (fun _ => kitAny_cons (b := true) (kit_ty (by decide +kernel)) (fun z => by cases z) (fun _ => rfl)) (fun z => by cases z), true, rfl, ?_⟩
      refine iteT ?_
      have S1 : SqT K (upd H tp (.tup [V.ty "list", V.ty "tuple"])) a xs := same_seqT s1 hS
      refine ⟨_, rfl, a, rfl, ⟨_, S1⟩, fun D hD => lc_tupB (fun x => valWordB r hh x) S1 hD (by omega) ?_ ?_⟩
      · intro x hm H' Q' s' kk
        rcases ((hx x hm).1.same (Same.trans s1 s')).kind with ⟨z, e⟩ | ⟨hne, hns⟩
        · subst e
          exact ⟨_, rfl, _, rfl, _, rfl, _, _, _, rfl, r2, r4, .inl ⟨z, rfl, (hx _ hm).2 z rfl, kk⟩⟩
        · have ef : valWordB r hh x = false := by
            cases hv : x with
            | str z => exact absurd hv (hne z)
            | _ => rfl
          rw [ef] at kk
          exact ⟨_, rfl, _, rfl, _, rfl, _, _, _, rfl, r2, r4, .inr ⟨hns, kk⟩⟩
      · intro H' s' hD'
        refine ⟨D, xs.map (valWordB r hh), rfl, SqL.of hD', ?_⟩
        rw [List.all_map]
        exact k _ (Same.trans s1 s')
def strsOf (vs : List V) : List Str := vs.filterMap fun v => match v with
  | .str x => some x
  | _ => none
def formsB (vr vh : V) (W : Option (List (Key × V))) (R : Option (List V)) : Bool := match vr, vh, W, R with
  | .int r, .int h, some kvs, some xs => decide (2 ≤ r ∧ r ≤ 4) && decide (1 ≤ h ∧ h ≤ 6) && tableB r h kvs && xs.all (valWordB r h) && (clashAt (strsOf (kvs.map (·.2) ++ xs))).isNone
  | _, _, _, _ => false
theorem formsB_eq (r h : Int) (kvs : List (Key × V)) (xs : List V) : formsB (.int r) (.int h) (some kvs) (some xs) = (decide (2 ≤ r ∧ r ≤ 4) && decide (1 ≤ h ∧ h ≤ 6) && tableB r h kvs && xs.all (valWordB r h) && (clashAt (strsOf (kvs.map (·.2) ++ xs))).isNone) := rfl
theorem intB_is {v : V} (h : intB v = true) : ∃ i, v = .int i := by
  cases v with
  | int i => exact ⟨i, rfl⟩
  | _ => cases h
theorem strs_all {r h : Int} : ∀ {vs : List V}, vs.all (valWordB r h) = true → vs = (strsOf vs).map V.str ∧ ∀ x ∈ strsOf vs, wordB r h x = true
  | [], _ => ⟨rfl, by simp [strsOf]⟩
  | v :: r', hv => by
    rw [List.all_cons, Bool.and_eq_true] at hv
    obtain ⟨h1, h2⟩ := hv
    obtain ⟨e, hx⟩ := strs_all h2
    cases v with
    | str x =>
      refine ⟨?_, ?_⟩
      · show V.str x :: r' = V.str x :: (strsOf r').map V.str
        rw [← e]
      · intro z hz
        rcases List.mem_cons.mp (show z ∈ x :: strsOf r' from hz) with rfl | hz
        · exact h1
        · exact hx z hz
    | _ => cases h1
theorem table_vals {r h : Int} {kvs : List (Key × V)} (ht : tableB r h kvs = true) : (kvs.map (·.2)).all (valWordB r h) = true := by
  unfold tableB at ht
  rw [List.all_eq_true] at ht ⊢
  intro v hv
  obtain ⟨q, hq, rfl⟩ := List.mem_map.mp hv
  have := ht q hq
  rw [Bool.and_eq_true] at this
  exact this.2
theorem word_len {r h : Int} {x : Str} (hx : wordB r h x = true) : 1 ≤ x.length ∧ (x.length : Int) ≤ h := by
  unfold wordB at hx
  rw [Bool.and_eq_true, Bool.and_eq_true] at hx
  exact ⟨of_decide_eq_true hx.1.1, of_decide_eq_true hx.1.2⟩
theorem in_rad (r : Int) : inV (.int r) [.int 2, .int 3, .int 4] = decide (2 ≤ r ∧ r ≤ 4) := by
  show (((2 : Int) == r) || (((3 : Int) == r) || (((4 : Int) == r) || false))) = _
  rw [Bool.eq_iff_iff]
  simp only [Bool.or_eq_true, beq_iff_eq, decide_eq_true_eq, Bool.false_eq_true, or_false]
  omega
theorem in_dep (r : Int) : inV (.int r) [.int 1, .int 2, .int 3, .int 4, .int 5, .int 6] = decide (1 ≤ r ∧ r ≤ 6) := by
  show (((1 : Int) == r) || (((2 : Int) == r) || (((3 : Int) == r) || (((4 : Int) == r) || (((5 : Int) == r) || (((6 : Int) == r) || false)))))) = _
  rw [Bool.eq_iff_iff]
  simp only [Bool.or_eq_true, beq_iff_eq, decide_eq_true_eq, Bool.false_eq_true, or_false]
  omega
theorem clashV_non (ns : List Str) : decide (clashV ns = .non) = (clashAt ns).isNone := by
  unfold clashV
  cases clashAt ns <;> rfl
def shapeB (vr vh : V) : Bool := match vr, vh with
  | .int r, .int h => decide (2 ≤ r ∧ r ≤ 4) && decide (1 ≤ h ∧ h ≤ 6)
  | _, _ => false
theorem shapeB_is {vr vh : V} (e : shapeB vr vh = true) : ∃ r h : Int, vr = .int r ∧ vh = .int h ∧ 2 ≤ r ∧ r ≤ 4 ∧ 1 ≤ h ∧ h ≤ 6 := by
  cases vr with
  | int r =>
    cases vh with
    | int h =>
      have e' : (decide (2 ≤ r ∧ r ≤ 4) && decide (1 ≤ h ∧ h ≤ 6)) = true := e
      rw [Bool.and_eq_true] at e'
      have e1 := of_decide_eq_true e'.1
      have e2 := of_decide_eq_true e'.2
      exact ⟨r, h, rfl, rfl, e1.1, e1.2, e2.1, e2.2⟩
    | _ => cases e
  | _ => cases e
theorem shapeB_forms {vr vh : V} {W : Option (List (Key × V))} {R : Option (List V)} (e : shapeB vr vh = false) : formsB vr vh W R = false := by
  cases vr with
  | int r =>
    cases vh with
    | int h =>
      have e' : (decide (2 ≤ r ∧ r ≤ 4) && decide (1 ≤ h ∧ h ≤ 6)) = false := e
      cases W with
      | none => rfl
      | some kvs =>
        cases R with
        | none => rfl
        | some xs => rw [formsB_eq, e', Bool.false_and, Bool.false_and, Bool.false_and]
    | _ => rfl
  | _ => rfl
def sp_is_shape (K : PySem.W.Frag) : Sp := fun vs H Q _ => ∃ vr vh : V, vs = [vr, vh] ∧ Known K H vr ∧ Known K H vh ∧ Q (.bl (shapeB vr vh)) H
theorem cal_is_shape (T : Txt K mg) : CalG P w K mg base CX0 2 "is_shape" (sp_is_shape K) [] := by
  obtain ⟨p_RADIXES, h_RADIXES, s_RADIXES⟩ := T.c_RADIXES
  obtain ⟨p_DEPTHS, h_DEPTHS, s_DEPTHS⟩ := T.c_DEPTHS
  refine T.d_is_shape.cal .nil sc_is_shape (fun vs H Q E h => by obtain ⟨_, _, rfl, _⟩ := h; rfl) (fun f cdv A outer s H vs Q E hr h => ?_)
  obtain ⟨vr, vh, rfl, kr, kh, k⟩ := h
  refine ⟨_, (pss_one (ps_ret (pe_and (pe_g (cal_is_whole T) hr (by first | decide | (simp only [Nat.add_eq]; omega)) rfl (pa_cons (pv 0) pa_nil)) (pe_and (pe_cmpR (r := rIn K false) op_in_seq (pv 0) (C8.pe_gc (v := .ref p_RADIXES) rfl ⟨_, h_RADIXES, rfl⟩) (by rfl)) (pe_and (pe_g (cal_is_whole T) hr (by first | decide | (simp only [Nat.add_eq]; omega)) rfl (pa_cons (pv 1) pa_nil)) (pe_one (pe_cmpR (r := rIn K false) op_in_seq (pv 1) (C8.pe_gc (v := .ref p_DEPTHS) rfl ⟨_, h_DEPTHS, rfl⟩) (by rfl)))))))), ?_⟩
  refine ⟨_, rfl, _, rfl, kr, _, rfl, ?_⟩
  cases hi : intB vr with
  | false =>
    have e : shapeB vr vh = false := by
      cases vr with
      | int i => cases hi
      | _ => rfl
    rw [e] at k
    exact k
  | true =>
    obtain ⟨r, rfl⟩ := intB_is hi
    refine iteT ?_
    refine ⟨_, rfl, p_RADIXES, _, rfl, .inr (s_RADIXES H), rfl, rfl, _, rfl, ?_⟩
    rw [in_rad]
    refine if_b (fun (e1 : decide (2 ≤ r ∧ r ≤ 4) = true) => ?_) (fun (e1 : decide (2 ≤ r ∧ r ≤ 4) = false) => ?_)
    · refine ⟨_, rfl, _, rfl, kh, _, rfl, ?_⟩
      cases hj : intB vh with
      | false =>
        have e : shapeB (.int r) vh = false := by
          cases vh with
          | int i => cases hj
          | _ => rfl
        rw [e] at k
        exact k
      | true =>
        obtain ⟨h, rfl⟩ := intB_is hj
        refine iteT ?_
        refine ⟨_, rfl, p_DEPTHS, _, rfl, .inr (s_DEPTHS H), rfl, rfl, ?_⟩
        rw [in_dep]
        have e : shapeB (.int r) (.int h) = decide (1 ≤ h ∧ h ≤ 6) := by
          show (decide (2 ≤ r ∧ r ≤ 4) && decide (1 ≤ h ∧ h ≤ 6)) = _
          rw [e1, Bool.true_and]
        rw [e] at k
        exact k
    · have e : shapeB (.int r) vh = false := by
        cases vh with
        | int h =>
          show (decide (2 ≤ r ∧ r ≤ 4) && decide (1 ≤ h ∧ h ≤ 6)) = _
          rw [e1, Bool.false_and]
        | _ => rfl
      rw [e] at k
      exact k
def sp_forms (K : PySem.W.Frag) : Sp := fun vs H Q _ => ∃ (vr vh w rs : V) (W : Option (List (Key × V))) (R : Option (List V)), vs = [vr, vh, w, rs] ∧ Known K H vr ∧ Known K H vh ∧ DicV K H w W ∧ SeqV K H rs R ∧
  ∀ H', Same H H' → Q (.bl (formsB vr vh W R)) H'
theorem cal_forms_codebook (T : Txt K mg) : CalG P w K mg base CX0 3 "forms_codebook" (sp_forms K) [] := by
  refine T.d_forms_codebook.cal .nil sc_forms_codebook (fun vs H Q E h => by obtain ⟨_, _, _, _, _, _, rfl, _⟩ := h; rfl) (fun f cdv A outer s H vs Q E hr h => ?_)
  obtain ⟨vr, vh, w, rs, W, R, rfl, kr, kh, hW, hR, k⟩ := h
  refine ⟨_, (C8.pss_cut (ps_if (PW.pt (pw_or (pt_not (pt_val (pe_g (cal_is_shape T) hr (by first | decide | (simp only [Nat.add_eq]; omega)) rfl (pa_cons (pv 0) (pa_cons (pv 1) pa_nil))))) (pw_or1 (pt_not (pt_val (pe_g (cal_is_word_table T) hr (by first | decide | (simp only [Nat.add_eq]; omega)) rfl (pa_cons (pv 0) (pa_cons (pv 1) (pa_cons (pv 2) pa_nil)))))))))
      (pss_one (ps_ret pe_bl))
      pss_nil)
      (pss_cons (ps_if (pt_not (pt_val (pe_g (cal_is_codeword_list T) hr (by first | decide | (simp only [Nat.add_eq]; omega)) rfl (pa_cons (pv 0) (pa_cons (pv 1) (pa_cons (pv 3) pa_nil))))))
      (pss_one (ps_ret pe_bl))
      pss_nil)
      (pss_one (ps_ret (pe_cmpR op_isN (pe_g (cal_first_clash T) hr (by first | decide | (simp only [Nat.add_eq]; omega)) rfl (pa_cons (pe_op op_cat (pe_listVals rfl (pv 2) (by rfl) T.n_list (by decide +kernel)) (pe_callTy (r := rListQ K) call_list_of (by rfl) T.n_list (by decide +kernel) (pa_cons (pv 3) pa_nil))) pa_nil)) pe_non (nomark _)))))), ?_⟩
  refine ⟨fun σ' H2 => σ' = [some vr, some vh, some w, some rs] ∧ Same H H2 ∧ ∃ (r h : Int) (kvs : List (Key × V)), vr = .int r ∧ vh = .int h ∧ 2 ≤ r ∧ r ≤ 4 ∧ 1 ≤ h ∧ h ≤ 6 ∧ W = some kvs ∧ tableB r h kvs = true, ?_, ?_⟩
  · have no : ∀ H2, Same H H2 → formsB vr vh W R = false → Q (.bl false) H2 := fun H2 s e => by have := k H2 s; rw [e] at this; exact this
    refine ⟨_, rfl, _, rfl, _, _, rfl, kr, kh, _, rfl, ?_⟩
    cases hs : shapeB vr vh with
    | false => exact iteT (no H (Same.refl _) (shapeB_forms hs))
    | true =>
      obtain ⟨r, h, rfl, rfl, r2, r4, h1, h6⟩ := shapeB_is hs
      refine iteF ?_
      refine ⟨_, rfl, _, rfl, _, rfl, _, _, _, W, rfl, r2, r4, hW, fun H2 s2 => ⟨_, rfl, ?_⟩⟩
      cases W with
      | none => exact iteT (no H2 s2 rfl)
      | some kvs =>
        cases ht : tableB r h kvs with
        | false =>
          show if (!tableB r h kvs) = true then _ else _
          rw [ht]
          refine iteT (no H2 s2 ?_)
          cases R with
          | none => rfl
          | some xs =>
            rw [formsB_eq, ht, Bool.and_false, Bool.false_and, Bool.false_and]
        | true =>
          show if (!tableB r h kvs) = true then _ else _
          rw [ht]
          exact iteF ⟨rfl, s2, r, h, kvs, rfl, rfl, r2, r4, h1, h6, rfl, ht⟩
  · rintro σ' H2 ⟨rfl, s2, r, h, kvs, rfl, rfl, r2, r4, h1, h6, rfl, ht⟩
    have hr' : decide (2 ≤ r ∧ r ≤ 4) = true := decide_eq_true ⟨r2, r4⟩
    have hh' : decide (1 ≤ h ∧ h ≤ 6) = true := decide_eq_true ⟨h1, h6⟩
    have no : ∀ H2, Same H H2 → formsB (.int r) (.int h) (some kvs) R = false → Q (.bl false) H2 := fun H2 s e => by have := k H2 s; rw [e] at this; exact this
    refine ⟨_, rfl, _, rfl, _, rfl, _, _, _, R, rfl, r2, r4, hR.same s2, fun H3 s23 => ⟨_, rfl, ?_⟩⟩
    have s3 := Same.trans s2 s23
    cases R with
    | none => exact iteT (no H3 s3 rfl)
    | some xs =>
      cases hx : xs.all (valWordB r h) with
      | false =>
        show if (!xs.all (valWordB r h)) = true then _ else _
        rw [hx]
        refine iteT (no H3 s3 ?_)
        rw [formsB_eq, hx, Bool.and_false, Bool.false_and]
      | true =>
      show if (!xs.all (valWordB r h)) = true then _ else _
      rw [hx]
      refine iteF ?_
      obtain ⟨d, rfl, hd, hdl, _⟩ := hW
      obtain ⟨a, rfl, hS, hxl, _⟩ := hR
      have hall : (kvs.map (·.2) ++ xs).all (valWordB r h) = true := by rw [List.all_append, table_vals ht, hx]; rfl
      obtain ⟨es, hws⟩ := strs_all hall
      refine ⟨_, rfl, d, kvs, rfl, .inl (s3 _ _ hd), fun l1 hl1 => ?_⟩
      have t1 : Same H (upd H3 l1 (.lst (kvs.map (·.2)))) := same_new s3 (s3.free hl1)
      have hS1 : SqL K (upd H3 l1 (.lst (kvs.map (·.2)))) a xs ∨ SqT K (upd H3 l1 (.lst (kvs.map (·.2)))) a xs := by
        rcases hS with ⟨h1, _⟩ | ⟨h1, _⟩
        · exact .inl (Same.seq t1 h1)
        · exact .inr (same_seqT t1 h1)
      refine ⟨_, rfl, a, xs, rfl, hS1, fun l2 hl2 => ?_⟩
      have n12 : l1 ≠ l2 := fun e => by rw [← e, upd_same] at hl2; cases hl2
      have t2 := same_new (o := .lst xs) t1 (t1.free hl2)
      refine ⟨l1, l2, _, _, rfl, rfl, by rw [upd_ne n12, upd_same], upd_same, sz_le (m := 2000) (by rw [List.length_map]; omega) rfl, fun p hp => ?_⟩
      have t3 := same_new (o := .lst (kvs.map (·.2) ++ xs)) t2 (t2.free hp)
      have hlen : (strsOf (kvs.map (·.2) ++ xs)).length = kvs.length + xs.length := by
        have := congrArg List.length es
        rw [List.length_append, List.length_map, List.length_map] at this
        exact this.symm
      have es2 : upd (upd (upd H3 l1 (.lst (kvs.map (·.2)))) l2 (.lst xs)) p (.lst (kvs.map (·.2) ++ xs)) p = some (.lst ((strsOf (kvs.map (·.2) ++ xs)).map V.str)) := by rw [upd_same, ← es]
      refine ⟨p, _, rfl, SqL.of es2, fun x m => ?_, ?_, fun H4 s4 => ?_⟩
      · have := word_len (hws x m)
        omega
      · rw [hlen]
        omega
      · refine ⟨rfl, ?_⟩
        have := k H4 (Same.trans t3 s4)
        have ef : formsB (.int r) (.int h) (some kvs) (some xs) = (clashAt (strsOf (kvs.map (·.2) ++ xs))).isNone := by
          rw [formsB_eq, hr', hh', ht, hx, Bool.true_and, Bool.true_and, Bool.true_and, Bool.true_and]
        rw [ef, ← clashV_non] at this
        exact this
/-! ### Codebook -/
abbrev CBk (mg : Str → Option Value) : Addr := clsAt mg "Codebook"
abbrev XIc (mg : Str → Option Value) : Value := .ref (clsAt mg "InvalidCodebook")
def sp_init (K : PySem.W.Frag) (mg : Str → Option Value) : Sp := fun vs H Q E => ∃ (H0 : Hp) (b dx : Addr) (vr vh w rs : V) (W : Option (List (Key × V))) (R : Option (List V)), vs = [.ref b, vr, vh, w, rs] ∧ Same H0 H ∧ H0 b = none ∧ H b = some (.ins (CBk mg) dx []) ∧
  Known K H0 vr ∧ Known K H0 vh ∧ DicV K H0 w W ∧ SeqV K H0 rs R ∧ (∀ kvs, W = some kvs → (kvs.map (·.1)).Nodup ∧ kvs.length < 64) ∧ (∀ xs, R = some xs → xs.length < 64) ∧
  (formsB vr vh W R = false → ∀ H', Same H0 H' → E (XIc mg) none H') ∧
  (∀ (r h : Int) (ws : List (Str × Str)) (xs : List Str), vr = .int r → vh = .int h → W = some (kvsOf ws) → R = some (xs.map V.str) → formsB vr vh W R = true → ∀ H', Same H0 H' → BookNew (CBk mg) H0 H' b (mkBook r h ws xs) → Q .non H')
theorem table_ws {r h : Int} : ∀ {kvs : List (Key × V)}, tableB r h kvs = true → ∃ ws, kvs = kvsOf ws
  | [], _ => ⟨[], rfl⟩
  | (k, v) :: t, hb => by
    unfold tableB at hb
    rw [List.all_cons, Bool.and_eq_true, Bool.and_eq_true] at hb
    obtain ⟨⟨h1, h2⟩, h3⟩ := hb
    obtain ⟨ws, rfl⟩ := table_ws (r := r) (h := h) (kvs := t) h3
    cases k with
    | inl i => cases h1
    | inr x =>
      cases v with
      | str y => exact ⟨(x, y) :: ws, rfl⟩
      | _ => cases h2
theorem forms_true {vr vh : V} {W : Option (List (Key × V))} {R : Option (List V)} (hf : formsB vr vh W R = true) : ∃ (r h : Int) (ws : List (Str × Str)) (xs : List Str), vr = .int r ∧ vh = .int h ∧ W = some (kvsOf ws) ∧ R = some (xs.map V.str) := by
  cases vr with
  | int r =>
    cases vh with
    | int h =>
      cases W with
      | none => cases hf
      | some kvs =>
        cases R with
        | none => cases hf
        | some xs =>
          rw [formsB_eq, Bool.and_eq_true, Bool.and_eq_true, Bool.and_eq_true] at hf
          obtain ⟨⟨⟨_, h2⟩, h3⟩, _⟩ := hf
          obtain ⟨ws, rfl⟩ := table_ws h2
          exact ⟨r, h, ws, strsOf xs, rfl, rfl, rfl, by rw [← (strs_all h3).1]⟩
    | _ => cases hf
  | _ => cases hf
theorem mak_Codebook (T : Txt K mg) : MakG P w K mg base (L2.CX P w) 4 "Codebook" (CBk mg) (sp_init K mg) [] ∧ ∃ a0, Tup0 K a0 ∧ MakG P w K mg base (L2.CX P w) 4 "Codebook" (CBk mg) (sp_init K mg) [.ref a0] := by
  refine T.i_Codebook.mak T.k_Codebook sc_Codebook__init (fun vs H Q E h => by obtain ⟨_, _, _, _, _, _, _, _, _, rfl, _⟩ := h; rfl) (fun f cdv A outer s H vs Q E hr h => ?_)
  obtain ⟨H0, b, dx, vr, vh, wv, rs, W, R, rfl, s0, b0, hb, kr, kh, hW, hR, hWn, hRn, kno, kyes⟩ := h
  refine ⟨_, (pss_cons (ps_if (pt_not (pt_val (pe_g (cal_forms_codebook T) hr (by first | decide | (simp only [Nat.add_eq]; omega)) rfl (pa_cons (pv 1) (pa_cons (pv 2) (pa_cons (pv 3) (pa_cons (pv 4) pa_nil)))))))
      (pss_one (ps_raise rfl (takes_of rfl rfl rfl rfl) (pmk_own PySem.F.excBase_ValueError T.x_InvalidCodebook.ex T.x_InvalidCodebook.gl T.x_InvalidCodebook.kp (raises_own T.x_InvalidCodebook.bp T.x_InvalidCodebook.tp) rfl)))
      pss_nil)
      (pss_cons (ps_fld (pv 0) (pv 1) rfl)
      (pss_cons (ps_fld (pv 0) (pv 2) rfl)
      (pss_cons (ps_fld (pv 0) (pe_dc (own := [("name", 5)]) (g := gName 5) (by rfl) sc_Codebook__init.nd (pi_listK (K := K) (pe_callB (call_sortedD rfl) (by rfl) T.n_sorted (by decide +kernel) (pa_cons (pv 3) pa_nil))) (blkOk_by (own := [("name", 5)]) (N := ["self", "radix", "depth", "words", "reserved", "name"]) (sc := (defScope s_Codebook__init)) (by decide +kernel)) (fun _ _ _ _ _ => (pg_name (i := 5) sc_Codebook__init.nd rfl (Or.inl rfl))) (fun _ _ _ _ _ => pts_nil) (fun _ _ _ _ _ => (pv 5)) (fun _ _ _ _ _ => (pe_dget (hu_of hr.toRoom) (pv 3) (pv 5) (fun _ _ => rfl)))) rfl)
      (pss_one (ps_fld (pv 0) (pe_callB (r := rSortedQ K) cr_sortedQ (by rfl) T.n_sorted (by decide +kernel) (pa_cons (pv 4) pa_nil)) rfl)))))), ?_⟩
  refine ⟨_, rfl, _, rfl, _, rfl, _, rfl, _, _, _, _, W, R, rfl, kr.same s0, kh.same s0, hW.same s0, hR.same s0, fun H1 s1 => ⟨_, rfl, ?_⟩⟩
  cases hf : formsB vr vh W R with
  | false =>
    show if (!false) = true then _ else _
    refine iteT ?_
    exact kno hf _ (Same.trans s0 s1)
  | true =>
    show if (!true) = true then _ else _
    refine iteF ?_
    obtain ⟨r, h, ws, xs, rfl, rfl, rfl, rfl⟩ := forms_true hf
    obtain ⟨d, rfl, hd, hdl, _⟩ := hW
    obtain ⟨a, rfl, hS, hxl, _⟩ := hR
    obtain ⟨hnd, hw64⟩ := hWn _ rfl
    have hx64 := hRn _ rfl
    have t1 : Same H0 H1 := Same.trans s0 s1
    have hb1 := s1 _ _ hb
    -- self.radix = radix; self.depth = depth
    refine ⟨_, rfl, _, rfl, b, _, dx, [], rfl, hb1, T.k_Codebook.cl, T.a_Codebook_radix, (by decide), ?_⟩
    refine ⟨_, rfl, _, rfl, b, _, dx, _, rfl, upd_same, T.k_Codebook.cl, T.a_Codebook_depth, (by show (1 : Nat) < 1000; decide), ?_⟩
    rw [upd_upd]
    have t2 : Same H0 (upd H1 b (.ins (CBk mg) dx (putF "depth" (.int h) (putF "radix" (.int r) [])))) := same_mut t1 b0
    have hd2 := t2 _ _ hd
    -- self._words = {name: words[name] for name in sorted(words)}
    refine ⟨_, rfl, d, kvsOf ws, ws.map (·.1), rfl, .inl hd2, kvsOf_keys ws, by rw [kvsOf_len] at hw64; rw [List.length_map]; exact hw64, fun ys l1 hp hs hl1 => ?_⟩
    have hl1b : b ≠ l1 := fun e => by rw [← e, upd_same] at hl1; cases hl1
    have l10 : H0 l1 = none := t2.free hl1
    have t3 := same_new (o := .lst (ys.map V.str)) t2 l10
    have ey : ys = srt (ws.map (·.1)) := srt_of hp hs
    refine ⟨l1, rfl, ⟨_, SqL.of upd_same⟩, fun D hD => dc_listF (fun x => match x with | .str z => .inr z | _ => .inl 0) (fun x => match x with | .str z => .str ((wordAt ws z).getD "") | _ => .non) (SqL.of upd_same) hD ?_ ?_ ?_ ?_⟩
    · rw [List.length_map, hp.length_eq, List.length_map]; rw [kvsOf_len] at hw64; omega
    · intro x hx H' Q' s' q
      obtain ⟨z, hz, rfl⟩ := List.mem_map.mp hx
      exact ⟨_, rfl, q⟩
    · intro x hx H' Q' s' q
      obtain ⟨z, hz, rfl⟩ := List.mem_map.mp hx
      obtain ⟨y, hy, _⟩ := wordAt_mem (hp.mem_iff.mp hz)
      have hd3 := s' _ _ (same_new (o := .lst (ys.map V.str)) (Same.refl _) hl1 _ _ hd2)
      have g := DGet.k (k := Sum.inr z) hd3
      rw [valV_kvs, hy] at g
      refine ⟨_, rfl, _, rfl, d, .str y, rfl, g, ?_⟩
      have q' : Q' (.str ((wordAt ws z).getD "")) H' := q
      rw [hy] at q'
      exact q'
    · have em : mergeK [] ((ys.map V.str).map fun x => ((match x with | .str z => Sum.inr z | _ => Sum.inl 0 : Key), (match x with | .str z => V.str ((wordAt ws z).getD "") | _ => V.non))) = kvsOf (mkBook r h ws xs).ws := by
        have e1 : ((ys.map V.str).map fun x => ((match x with | .str z => Sum.inr z | _ => Sum.inl 0 : Key), (match x with | .str z => V.str ((wordAt ws z).getD "") | _ => V.non))) = kvsOf (mkBook r h ws xs).ws := by
          unfold kvsOf mkBook
          rw [← ey, List.map_map, List.map_map]
          rfl
        rw [e1, merge_nodup]
        · rfl
        · rw [List.nil_append]
          refine kvsOf_nodup ?_
          unfold mkBook
          rw [List.map_map]
          show ((srt (ws.map (·.1))).map fun n => n).Nodup
          rw [List.map_id']
          refine (srt_perm _).nodup_iff.mpr ?_
          rw [kvsOf_keys] at hnd
          exact List.Pairwise.of_map Sum.inr (fun a b hab e => hab (by rw [e])) hnd
      rw [em]
      have hDb : b ≠ D := fun e => by rw [← e, upd_ne hl1b, upd_same] at hD; cases hD
      have t4 := same_new (o := .dK (kvsOf (mkBook r h ws xs).ws)) t3 (t3.free hD)
      refine ⟨_, rfl, b, _, dx, _, rfl, by rw [upd_ne hDb, upd_ne hl1b, upd_same], T.k_Codebook.cl, T.a_Codebook__words, (by show (2 : Nat) < 1000; decide), ?_⟩
      -- self._reserved = sorted(reserved)
      have t5 := same_mut (o := .ins (CBk mg) dx (putF "_words" (.ref D) (putF "depth" (.int h) (putF "radix" (.int r) [])))) t4 b0
      refine ⟨_, rfl, a, xs, rfl, (hS.elim (fun z => .inl (Same.seq t5 z.1)) fun z => .inr (same_seqT t5 z.1)), by rw [List.length_map] at hx64; exact hx64, fun ys2 l2 hp2 hs2 hl2 => ?_⟩
      have ey2 : ys2 = srt xs := srt_of hp2 hs2
      have hl2b : b ≠ l2 := fun e => by rw [← e, upd_same] at hl2; cases hl2
      have hl2D : D ≠ l2 := fun e => by rw [← e, upd_ne (Ne.symm hDb), upd_same] at hl2; cases hl2
      refine ⟨_, rfl, b, _, dx, _, rfl, by rw [upd_ne hl2b, upd_same], T.k_Codebook.cl, T.a_Codebook__reserved, (by show (3 : Nat) < 1000; decide), ?_⟩
      have l20 : H0 l2 = none := t5.free hl2
      refine kyes r h ws xs rfl rfl rfl rfl hf _ (same_mut (same_new t5 l20) b0) ⟨dx, D, l2, b0, t3.free hD, l20, ?_, ?_, ?_⟩
      · rw [upd_same, bookF_put]
        rfl
      · rw [upd_ne (Ne.symm hDb), upd_ne hl2D, upd_ne (Ne.symm hDb), upd_same]
      · rw [upd_ne (Ne.symm hl2b), upd_same, ey2]
        rfl
abbrev XUn (mg : Str → Option Value) : Value := .ref (clsAt mg "UnknownName")
def sp_words (mg : Str → Option Value) : Sp := fun vs H Q _ => ∃ (b : Addr) (D : BD), vs = [.ref b] ∧ BookAt (CBk mg) H b D ∧ ∀ p, H p = none → Q (.ref p) (upd H p (.dK (kvsOf D.ws)))
theorem met_words (T : Txt K mg) : MetG P w K mg base CX0 1 (CBk mg) "words" (sp_words mg) [] := by
  refine T.m_Codebook_words.met T.k_Codebook.cl sc_Codebook_words (fun vs H Q E h => by obtain ⟨_, _, rfl, _⟩ := h; rfl) (fun f cdv A outer s H vs Q E hr h => ?_)
  obtain ⟨b, D, rfl, B, k⟩ := h
  obtain ⟨dx, d, l, h1, h2, h3⟩ := B.ex
  refine ⟨_, (pss_one (ps_ret (pe_callTy call_dictD (by rfl) T.n_dict (by decide +kernel) (pa_cons (pe_fldK (K := K) (pv 0) rfl) pa_nil)))), ?_⟩
  exact ⟨_, rfl, b, _, dx, _, _, rfl, h1, T.k_Codebook.cl, T.a_Codebook__words, bookF_words _ _ _ _, d, _, rfl, .inl h2, k⟩
def sp_reserved (mg : Str → Option Value) : Sp := fun vs H Q _ => ∃ (b : Addr) (D : BD), vs = [.ref b] ∧ BookAt (CBk mg) H b D ∧ ∀ p, H p = none → Q (.ref p) (upd H p (.tup (D.rs.map V.str)))
theorem met_reserved (T : Txt K mg) : MetG P w K mg base CX0 1 (CBk mg) "reserved" (sp_reserved mg) [] := by
  refine T.m_Codebook_reserved.met T.k_Codebook.cl sc_Codebook_reserved (fun vs H Q E h => by obtain ⟨_, _, rfl, _⟩ := h; rfl) (fun f cdv A outer s H vs Q E hr h => ?_)
  obtain ⟨b, D, rfl, B, k⟩ := h
  obtain ⟨dx, d, l, h1, h2, h3⟩ := B.ex
  refine ⟨_, (pss_one (ps_ret (pe_callTy (r := rTupQ K) call_tuple_of (by rfl) T.n_tuple (by decide +kernel) (pa_cons (pe_fldK (K := K) (pv 0) rfl) pa_nil)))), ?_⟩
  exact ⟨_, rfl, b, _, dx, _, _, rfl, h1, T.k_Codebook.cl, T.a_Codebook__reserved, bookF_reserved _ _ _ _, l, _, rfl, .inl ⟨SqL.of h3, k⟩⟩
def sp_len (mg : Str → Option Value) : Sp := fun vs H Q _ => ∃ (b : Addr) (D : BD), vs = [.ref b] ∧ BookAt (CBk mg) H b D ∧ Q (.int (D.ws.length : Nat)) H
theorem met_len (T : Txt K mg) : MetG P w K mg base CX0 1 (CBk mg) "__len__" (sp_len mg) [] := by
  refine T.m_Codebook__len.met T.k_Codebook.cl sc_Codebook__len (fun vs H Q E h => by obtain ⟨_, _, rfl, _⟩ := h; rfl) (fun f cdv A outer s H vs Q E hr h => ?_)
  obtain ⟨b, D, rfl, B, k⟩ := h
  obtain ⟨dx, d, l, h1, h2, h3⟩ := B.ex
  refine ⟨_, (pss_one (ps_ret (pe_callB call_lenD (by rfl) T.n_len (by decide +kernel) (pa_cons (pe_fldK (K := K) (pv 0) rfl) pa_nil)))), ?_⟩
  refine ⟨_, rfl, b, _, dx, _, _, rfl, h1, T.k_Codebook.cl, T.a_Codebook__words, bookF_words _ _ _ _, d, _, rfl, h2, ?_⟩
  rw [kvsOf_len]
  exact k
/-- the codeword of what may be a name -/
def sp_codeword (K : PySem.W.Frag) (mg : Str → Option Value) : Sp := fun vs H Q E => ∃ (b : Addr) (D : BD) (n : V), vs = [.ref b, n] ∧ BookAt (CBk mg) H b D ∧ (∀ p ∈ D.ws, nameB p.1 = true) ∧
  ((∃ z : Str, n = .str z ∧ z.length ≤ 1000000 ∧ (∀ x, wordAt D.ws z = some x → ∀ H', Same H H' → Q (.str x) H') ∧ (wordAt D.ws z = none → ∀ H', Same H H' → E (XUn mg) none H')) ∨
   (NotStr K H n ∧ ∀ H', Same H H' → E (XUn mg) none H'))
theorem met_codeword (T : Txt K mg) : MetG P w K mg base (L2.CX P w) 2 (CBk mg) "codeword" (sp_codeword K mg) [] := by
  refine T.m_Codebook_codeword.metX T.k_Codebook.cl sc_Codebook_codeword (fun vs H Q E h => by obtain ⟨_, _, _, rfl, _⟩ := h; rfl) (fun f cdv A outer s H vs Q E hr h => ?_)
  obtain ⟨b, D, n, rfl, B, hnm, h⟩ := h
  obtain ⟨dx, d, l, h1, h2, h3⟩ := B.ex
  refine ⟨_, (C8.pss_cut (ps_if (PW.pt (pw_or (pt_not (pt_val (pe_g (cal_is_name T) hr (by first | decide | (simp only [Nat.add_eq]; omega)) rfl (pa_cons (pv 1) pa_nil)))) (pw_or1 (pt_cmp (pc_dnotin (hu_of hr.toRoom) (pv 1) (pe_fldK (K := K) (pv 0) rfl))))))
      (pss_one (ps_raise rfl (takes_of rfl rfl rfl rfl) (pmk_own PySem.F.excBase_ValueError T.x_UnknownName.ex T.x_UnknownName.gl T.x_UnknownName.kp (raises_own T.x_UnknownName.bp T.x_UnknownName.tp) rfl)))
      pss_nil)
      (pss_one (ps_ret (pe_dget (hu_of hr.toRoom) (pe_fldK (K := K) (pv 0) rfl) (pv 1) (fun _ _ => rfl))))), ?_⟩
  refine ⟨fun σ' H' => σ' = [some (.ref b), some n] ∧ Same H H' ∧ ∃ z x : Str, n = .str z ∧ wordAt D.ws z = some x ∧ ∀ H', Same H H' → Q (.str x) H', ?_, ?_⟩
  · rcases h with ⟨z, rfl, hz, ky, kn⟩ | ⟨hns, kn⟩
    · refine ⟨_, rfl, _, rfl, .inl ⟨z, rfl, hz, fun H1 s1 => ⟨_, rfl, ?_⟩⟩⟩
      cases hb : nameB z with
      | false =>
        refine iteT ?_
        have : wordAt D.ws z = none := by
          cases e : wordAt D.ws z with
          | none => rfl
          | some x =>
            have := hnm _ (wordAt_some e)
            rw [show nameB z = true from this] at hb
            cases hb
        exact kn this _ s1
      | true =>
        refine iteF ?_
        refine ⟨_, rfl, _, rfl, b, _, dx, _, _, rfl, s1 _ _ h1, T.k_Codebook.cl, T.a_Codebook__words, bookF_words _ _ _ _, d, _, rfl, DGet.k (k := Sum.inr z) (s1 _ _ h2), _, rfl, ?_⟩
        rw [valV_kvs]
        cases e : wordAt D.ws z with
        | none => exact iteT (kn e _ s1)
        | some x => exact iteF ⟨rfl, s1, z, x, rfl, e, ky x e⟩
    · refine ⟨_, rfl, _, rfl, .inr ⟨hns, fun H1 s1 => ⟨_, rfl, ?_⟩⟩⟩
      exact iteT (kn _ s1)
  · rintro σ' H1 ⟨rfl, s1, z, x, rfl, e, ky⟩
    refine ⟨_, rfl, b, _, dx, _, _, rfl, s1 _ _ h1, T.k_Codebook.cl, T.a_Codebook__words, bookF_words _ _ _ _, _, rfl, d, .str x, rfl, ?_, ky _ s1⟩
    have g := DGet.k (k := Sum.inr z) (s1 _ _ h2)
    rw [valV_kvs, e] at g
    exact g
theorem decV (a b : Int) : decide (V.int a = V.int b) = (a == b) := by
  rw [Bool.eq_iff_iff, decide_eq_true_eq, beq_iff_eq, V.int.injEq]
/-- == of a codebook -/
def sp_eq (K : PySem.W.Frag) (mg : Str → Option Value) : Sp := fun vs H Q _ => ∃ (b : Addr) (D : BD) (y : V), vs = [.ref b, y] ∧ BookAt (CBk mg) H b D ∧ (∀ x ∈ D.rs, PyData.strOk x = true) ∧
  ((∃ (c : Addr) (D2 : BD), y = .ref c ∧ BookAt (CBk mg) H c D2 ∧ (∀ x ∈ D2.rs, PyData.strOk x = true) ∧ Q (.bl (eqBook D D2)) H) ∨ (∃ t : String, TyX K H y (.type t) ∧ noRef t = true ∧ Q (.bl false) H))
theorem met_eq (T : Txt K mg) : MetG P w K mg base CX0 1 (CBk mg) "__eq__" (sp_eq K mg) [] := by
  refine T.m_Codebook__eq.met T.k_Codebook.cl sc_Codebook__eq (fun vs H Q E h => by obtain ⟨_, _, _, rfl, _⟩ := h; rfl) (fun f cdv A outer s H vs Q E hr h => ?_)
  obtain ⟨b, D, y, rfl, B, o1, h⟩ := h
  obtain ⟨dx, d, l, h1, h2, h3⟩ := B.ex
  refine ⟨_, (pss_one (ps_ret (pe_and (pe_callB (r := rIsi K) call_isi (by rfl) T.n_isinstance (by decide +kernel) (pa_cons (pv 1) (pa_cons (C8.pe_gc (v := .ref (clsAt mg "Codebook")) rfl ⟨_, T.k_Codebook.gl, rfl⟩) pa_nil))) (pe_and (pe_cmpR op_eq (pe_fldK (K := K) (pv 0) rfl) (pe_fldK (K := K) (pv 1) rfl) (nomark _)) (pe_and (pe_cmpR op_eq (pe_fldK (K := K) (pv 0) rfl) (pe_fldK (K := K) (pv 1) rfl) (nomark _)) (pe_and (pe_cmpR (r := rEqDict false) (op_eqDict hr) (pe_fldK (K := K) (pv 0) rfl) (pe_fldK (K := K) (pv 1) rfl) (nomark _)) (pe_one (pe_cmpR (r := rEqD K) (op_eqD hr.toRoom.units) (pe_fldK (K := K) (pv 0) rfl) (pe_fldK (K := K) (pv 1) rfl) (nomark _))))))))), ?_⟩
  rcases h with ⟨c, D2, rfl, B2, o2, k⟩ | ⟨t, ht, hnr, k⟩
  · obtain ⟨dx2, d2, l2, g1, g2, g3⟩ := B2.ex
    unfold eqBook at k
    refine ⟨_, rfl, _, _, .ref (CBk mg), .ref (CBk mg), true, rfl, .own _, T.t_Codebook.ins T.k_Codebook.cl g1, kit_self, true, rfl, ?_⟩
    refine iteT ?_
    refine ⟨_, rfl, b, _, dx, _, _, rfl, h1, T.k_Codebook.cl, T.a_Codebook_radix, bookF_radix _ _ _ _, _, rfl, c, _, dx2, _, _, rfl, g1, T.k_Codebook.cl, T.a_Codebook_radix, bookF_radix _ _ _ _, rfl, _, rfl, ?_⟩
    rw [decV]
    refine if_b (fun e1 => ?_) (fun e1 => ?_)
    · refine ⟨_, rfl, b, _, dx, _, _, rfl, h1, T.k_Codebook.cl, T.a_Codebook_depth, bookF_depth _ _ _ _, _, rfl, c, _, dx2, _, _, rfl, g1, T.k_Codebook.cl, T.a_Codebook_depth, bookF_depth _ _ _ _, rfl, _, rfl, ?_⟩
      rw [decV]
      rw [e1, Bool.true_and] at k
      refine if_b (fun e2 => ?_) (fun e2 => ?_)
      · rw [e2, Bool.true_and] at k
        refine ⟨_, rfl, b, _, dx, _, _, rfl, h1, T.k_Codebook.cl, T.a_Codebook__words, bookF_words _ _ _ _, _, rfl, c, _, dx2, _, _, rfl, g1, T.k_Codebook.cl, T.a_Codebook__words, bookF_words _ _ _ _, d, d2, _, _, rfl, rfl, .inl h2, .inl g2, kvs_flat, kvs_flat, eqDictB (kvsOf D.ws) (kvsOf D2.ws), rfl, ?_⟩
        refine if_b (fun e3 => ?_) (fun e3 => ?_)
        · rw [e3, Bool.true_and] at k
          refine ⟨_, rfl, b, _, dx, _, _, rfl, h1, T.k_Codebook.cl, T.a_Codebook__reserved, bookF_reserved _ _ _ _, _, rfl, c, _, dx2, _, _, rfl, g1, T.k_Codebook.cl, T.a_Codebook__reserved, bookF_reserved _ _ _ _, .list (D.rs.map PyData.str), .list (D2.rs.map PyData.str), .lst (SqL.of h3) (dpAll_strs _), .lst (SqL.of g3) (dpAll_strs _), shaped_strs o1, shaped_strs o2, ?_⟩
          rw [eqv_strs]
          exact k
        · rw [e3, Bool.false_and] at k
          exact k
      · rw [e2, Bool.false_and] at k
        exact k
    · rw [e1, Bool.false_and] at k
      exact k

  · refine ⟨_, rfl, _, _, .type t, .ref (CBk mg), false, rfl, .own _, ht, T.t_Codebook.kitNo hnr, false, rfl, ?_⟩
    exact iteF k
/-! ### _law_names -/
def POOL : List Str := ["a", "b", "c", "d", "e", "f", "g", "ab", "aa", "zz", "abcdefgh", "m"]
theorem pool_nodup : POOL.Nodup := by decide +kernel
def sp_l_names (K : PySem.W.Frag) : Sp := fun vs H Q _ => ∃ (p : Addr) (G : Hp) (n : Nat) (t : Nat), vs = [.ref p, .int (t : Nat)] ∧ PenG G H p n ∧ n + 12 ≤ 1000000000 ∧ t ≤ 12 ∧
  ∀ (H' : Hp) (a : Addr) (ns : List Str), G a = none → PenG (upd G a (.lst (ns.map V.str))) H' p (n + 12) → ns.length = t → ns.Nodup → (∀ x ∈ ns, x ∈ POOL) → Q (.ref a) H'
theorem cal_l_names (T : Txt K mg) : CalG P w K mg base CX0 3 "_law_names" (sp_l_names K) [] := by
  refine T.d_l_names.cal .nil sc_l_names (fun vs H Q E h => by obtain ⟨_, _, _, _, rfl, _⟩ := h; rfl) (fun f cdv A outer s H vs Q E hr h => ?_)
  obtain ⟨p, G, n, t, rfl, hP, hn, ht, k⟩ := h
  refine ⟨_, (pss_cons (ps_set (i := 2) sc_l_names.nd rfl (Or.inr rfl) (pe_lst (pa_cons pe_str (pa_cons pe_str (pa_cons pe_str (pa_cons pe_str (pa_cons pe_str (pa_cons pe_str (pa_cons pe_str (pa_cons pe_str (pa_cons pe_str (pa_cons pe_str (pa_cons pe_str (pa_cons pe_str pa_nil))))))))))))))
      (pss_one (ps_ret (pe_lc (own := [("turn", 3)]) (g := gName 3) (by rfl) sc_l_names.nd (pi_range1 rfl T.n_range (pa_cons (pv 1) pa_nil)) (blkOk_by (own := [("turn", 3)]) (N := ["pen", "tally", "pool", "turn"]) (sc := (defScope s_l_names)) (by decide +kernel)) (fun _ _ _ _ _ => (pg_name (i := 3) sc_l_names.nd rfl (Or.inl rfl))) (fun _ _ _ _ _ => pts_nil) (fun _ _ _ _ _ => (pe_bmK (K := K) (r := rPopAt) PySem.F.plainAttrs_list PySem.F.slot_list_pop PySem.F.type_list_pop mt_popAt (pv 2) (pa_cons (pe_g (cal_l_draw T) hr (by first | decide | (simp only [Nat.add_eq]; omega)) rfl (pa_cons (pv 0) (pa_cons (pe_callB (r := rLenQ K) call_len_seq (by rfl) T.n_len (by decide +kernel) (pa_cons (pv 2) pa_nil)) pa_nil))) pa_nil))))))), ?_⟩
  refine ⟨(sz_rfl rfl), fun q hq => ?_⟩
  have P1 := hP.new (o := .lst (POOL.map V.str)) hq
  have gq : G q = none := hP.sub.free hq
  refine ⟨_, rfl, _, rfl, by omega, by omega, fun D hD => ?_⟩
  have hDq : q ≠ D := fun e => by rw [← e, upd_same] at hD; cases hD
  have gD : G D = none := by have := P1.sub.free hD; rw [upd_ne (Ne.symm hDq)] at this; exact this
  rw [show (((t : Nat) : Int).toNat) = t from Int.toNat_natCast _]
  refine lc_rangeI (fun i acc H' => ∃ got rest : List Str, acc = got.map V.str ∧ got.length = i ∧ (got ++ rest).Perm POOL ∧ PenG (upd (upd G q (.lst (rest.map V.str))) D (.lst acc)) H' p (n + i)) ⟨[], POOL, rfl, rfl, .refl _, P1.new hD⟩ (by omega) ?_ ?_
  · rintro i acc H1 Q' hi hl hDa ⟨got, rest, rfl, hgl, hperm, hP1⟩ kk
    have hlen : got.length + rest.length = 12 := by have := hperm.length_eq; rw [List.length_append] at this; exact this
    have hq1 : H1 q = some (.lst (rest.map V.str)) := hP1.sub _ _ (by rw [upd_ne hDq, upd_same])
    refine ⟨_, rfl, .inl ⟨rfl, _, SqL.of hq1⟩, _, rfl, _, rfl, q, _, rfl, .inl (SqL.of hq1), p, _, _, _, rfl, hP1, by omega, by rw [List.length_map]; omega, by rw [List.length_map]; omega, fun H2 d hP2 h0 hlt => ?_⟩
    rw [List.length_map] at hlt
    have hdl : d.toNat < rest.length := by omega
    have ed : ((d.toNat : Nat) : Int) = d := Int.toNat_of_nonneg h0
    have hq2 : H2 q = some (.lst (rest.map V.str)) := hP2.sub _ _ (by rw [upd_ne hDq, upd_same])
    have hget : rest[d.toNat]? = some rest[d.toNat] := List.getElem?_eq_getElem hdl
    refine ⟨q, _, d, d.toNat, .str rest[d.toNat], rfl, rfl, hq2, by omega, by omega, ?_, by rw [List.getElem?_map, hget]; rfl, ?_⟩
    · have := seqIndex_nat (n := (rest.map V.str).length) (k := d.toNat) (by rw [List.length_map]; exact hdl)
      rw [ed] at this
      exact this
    have hDne : D ≠ q := Ne.symm hDq
    rw [upd_comm hDq] at hP2
    have hP3 := hP2.put (o' := .lst ((rest.map V.str).eraseIdx d.toNat))
    rw [← upd_comm hDq] at hP3
    refine kk _ _ (hP3.sub _ _ upd_same) ⟨got ++ [rest[d.toNat]], rest.eraseIdx d.toNat, by rw [List.map_append]; rfl, by rw [List.length_append, hgl]; rfl, ?_, ?_⟩
    · rw [List.append_assoc]
      refine List.Perm.trans ?_ hperm
      exact List.Perm.append_left _ (eraseIdx_perm hget).symm
    · have := hP3.put (o' := .lst (got.map V.str ++ [V.str rest[d.toNat]]))
      rw [map_eraseIdx] at this ⊢
      rw [show n + (i + 1) = n + i + 1 by omega]
      exact this
  · rintro acc H1 hl hDa ⟨got, rest, rfl, hgl, hperm, hP1⟩
    have hnd : (got ++ rest).Nodup := hperm.nodup_iff.mpr pool_nodup
    rw [upd_comm hDq] at hP1
    refine k H1 D got gD ((hP1.forget (by rw [upd_ne hDq]; exact gq)).mono (by omega)) hgl (List.nodup_append.mp hnd).1 fun x hx => hperm.mem_iff.mp (List.mem_append_left _ hx)
/-! ### strings of digits -/
theorem word_snoc {r h : Int} {x : Str} {d : Int} (d0 : 0 ≤ d) (dr : d < r) (r4 : r ≤ 10) (hx : ∀ c ∈ TL.tl x, 48 ≤ c ∧ (c : Int) < 48 + r) : ∀ c ∈ TL.tl (x ++ Str.ofString (toString d)), 48 ≤ c ∧ (c : Int) < 48 + r := by
  rw [TL.tl_append, digit_str d0 (by omega)]
  intro c hc
  rcases List.mem_append.mp hc with hc | hc
  · exact hx c hc
  · rw [List.mem_singleton] at hc
    subst hc
    omega
theorem word_of {r h : Int} {x : Str} (h1 : 1 ≤ x.length) (h2 : (x.length : Int) ≤ h) (hx : ∀ c ∈ TL.tl x, 48 ≤ c ∧ (c : Int) < 48 + r) : wordB r h x = true := by
  unfold wordB
  rw [decide_eq_true h1, decide_eq_true h2, Bool.true_and, Bool.true_and, List.all_eq_true]
  exact fun c hc => decide_eq_true (hx c hc)
theorem word_signs {r h : Int} {x : Str} (hx : wordB r h x = true) : ∀ c ∈ TL.tl x, 48 ≤ c ∧ (c : Int) < 48 + r := by
  unfold wordB at hx
  rw [Bool.and_eq_true, List.all_eq_true] at hx
  exact fun c hc => of_decide_eq_true (hx.2 c hc)
theorem word_ok {r h : Int} {x : Str} (hx : wordB r h x = true) (r4 : r ≤ 10) : PyData.strOk x = true := strOk_small fun c hc => by
  have := word_signs hx c hc
  omega
theorem filter_none {fs : List Str} {x : Str} : decide ((fs.filter fun y => cmpS y x) = []) = !(fs.any (cmpS x)) := by
  rw [Bool.eq_iff_iff, decide_eq_true_eq, Bool.not_eq_true', List.filter_eq_nil_iff, ← Bool.not_eq_true, List.any_eq_true]
  constructor
  · rintro h ⟨y, hy, hc⟩
    exact h y hy (by rw [cmpS_symm]; exact hc)
  · rintro h y hy hc
    exact h ⟨y, hy, by rw [cmpS_symm]; exact hc⟩
theorem pf_snoc {fs : List Str} {x : Str} (h : PF fs) (hx : fs.any (cmpS x) = false) : PF (fs ++ [x]) := by
  refine List.pairwise_append.mpr ⟨h, List.pairwise_singleton .., fun y hy z hz => ?_⟩
  rw [List.mem_singleton] at hz
  subst hz
  rw [cmpS_symm]
  cases q : cmpS z y with
  | false => rfl
  | true => rw [List.any_eq_true.mpr ⟨y, hy, q⟩] at hx; cases hx
def sp_l_strings (K : PySem.W.Frag) : Sp := fun vs H Q _ => ∃ (p : Addr) (G : Hp) (n : Nat) (r h : Int) (t : Nat), vs = [.ref p, .int r, .int h, .int (t : Nat)] ∧ PenG G H p n ∧ n + 7 * t ≤ 1000000000 ∧ t ≤ 100 ∧ 1 ≤ r ∧ r ≤ 10 ∧ 1 ≤ h ∧ h ≤ 6 ∧
  ∀ (H' : Hp) (a : Addr) (fs : List Str), G a = none → PenG (upd G a (.lst (fs.map V.str))) H' p (n + 7 * t) → fs.length ≤ t → (∀ x ∈ fs, wordB r h x = true) → PF fs → (1 ≤ t → 1 ≤ fs.length) → Q (.ref a) H'
/-! ### _law_strings -/
/-! ### valid arguments -/
structure BookOk (r h : Int) (ws : List (Str × Str)) (rs : List Str) : Prop where
  r2 : 2 ≤ r
  r4 : r ≤ 4
  h1 : 1 ≤ h
  h6 : h ≤ 6
  nm : ∀ p ∈ ws, nameB p.1 = true
  wd : ∀ p ∈ ws, wordB r h p.2 = true
  rv : ∀ x ∈ rs, wordB r h x = true
  pf : PF (ws.map (·.2) ++ rs)
  nd : (ws.map (·.1)).Nodup
  lw : ws.length < 64
  lr : rs.length < 64
theorem strsOf_map (xs : List Str) : strsOf (xs.map V.str) = xs := by
  induction xs with
  | nil => rfl
  | cons x r ih => rw [List.map_cons]; show x :: strsOf (r.map V.str) = _; rw [ih]
theorem BookOk.forms {r h : Int} {ws : List (Str × Str)} {rs : List Str} (k : BookOk r h ws rs) : formsB (.int r) (.int h) (some (kvsOf ws)) (some (rs.map V.str)) = true := by
  rw [formsB_eq, decide_eq_true ⟨k.r2, k.r4⟩, decide_eq_true ⟨k.h1, k.h6⟩, Bool.true_and, Bool.true_and, Bool.and_eq_true, Bool.and_eq_true]
  refine ⟨⟨?_, ?_⟩, ?_⟩
  · unfold tableB
    rw [List.all_eq_true]
    intro q hq
    obtain ⟨p, hp, rfl⟩ := List.mem_map.mp hq
    rw [Bool.and_eq_true]
    exact ⟨k.nm p hp, k.wd p hp⟩
  · rw [List.all_eq_true]
    intro v hv
    obtain ⟨x, hx, rfl⟩ := List.mem_map.mp hv
    exact k.rv x hx
  · rw [kvsOf_vals, ← List.map_append, strsOf_map, (clashAt_none _).mpr k.pf]
    rfl
def pick (ws : List (Str × Str)) (ns : List Str) : List (Str × Str) := ns.map fun n => (n, (wordAt ws n).getD "")
theorem pick_names (ws : List (Str × Str)) (ns : List Str) : (pick ws ns).map (·.1) = ns := by
  unfold pick
  rw [List.map_map]
  exact List.map_id' ns
theorem pick_self {ws : List (Str × Str)} (h : (ws.map (·.1)).Nodup) : pick ws (ws.map (·.1)) = ws := by
  unfold pick
  rw [List.map_map]
  refine (List.map_congr_left fun p hp => ?_).trans (List.map_id' ws)
  show (p.1, (wordAt ws p.1).getD "") = p
  rw [wordAt_nodup h hp]
  rfl
theorem pick_perm {ws : List (Str × Str)} {ns : List Str} (h : (ws.map (·.1)).Nodup) (p : ns.Perm (ws.map (·.1))) : (pick ws ns).Perm ws := by
  have := p.map fun n => (n, (wordAt ws n).getD "")
  have e := pick_self h
  unfold pick at e
  rw [e] at this
  exact this
theorem wordAt_perm {ws ws' : List (Str × Str)} (h : (ws.map (·.1)).Nodup) (p : ws'.Perm ws) (n : Str) : wordAt ws' n = wordAt ws n := by
  have h' : (ws'.map (·.1)).Nodup := (p.map (·.1)).nodup_iff.mpr h
  cases e : wordAt ws n with
  | some x => exact wordAt_nodup h' (p := (n, x)) (p.mem_iff.mpr (wordAt_some e))
  | none =>
    cases e' : wordAt ws' n with
    | none => rfl
    | some x =>
      have := wordAt_nodup h (p := (n, x)) (p.mem_iff.mp (wordAt_some e'))
      rw [e] at this
      cases this
theorem mkBook_perm {r h : Int} {ws ws' : List (Str × Str)} {rs : List Str} (hn : (ws.map (·.1)).Nodup) (p : ws'.Perm ws) : mkBook r h ws' rs = mkBook r h ws rs := by
  unfold mkBook
  rw [srt_congr (p.map (·.1))]
  congr 1
  exact List.map_congr_left fun n _ => by rw [wordAt_perm hn p]
theorem mkBook_ws (r h : Int) (ws : List (Str × Str)) (rs : List Str) : (mkBook r h ws rs).ws = pick ws (srt (ws.map (·.1))) := rfl
theorem BookOk.perm {r h : Int} {ws ws' : List (Str × Str)} {rs rs' : List Str} (k : BookOk r h ws rs) (p : ws'.Perm ws) (q : rs'.Perm rs) : BookOk r h ws' rs' :=
  ⟨k.r2, k.r4, k.h1, k.h6, fun z hz => k.nm z (p.mem_iff.mp hz), fun z hz => k.wd z (p.mem_iff.mp hz), fun z hz => k.rv z (q.mem_iff.mp hz),
    List.Perm.pairwise ((p.map (·.2)).append q).symm k.pf (fun h => by rw [cmpS_symm]; exact h), (p.map (·.1)).nodup_iff.mpr k.nd, by rw [p.length_eq]; exact k.lw, by rw [q.length_eq]; exact k.lr⟩
theorem name_small {x : Str} (h : nameB x = true) : Small x := by
  refine ⟨by have := name_len h; omega, fun c hc => ?_⟩
  unfold nameB at h
  rw [Bool.and_eq_true, List.all_eq_true] at h
  have := of_decide_eq_true (h.2 c hc)
  omega
theorem word_small {r h : Int} {x : Str} (hx : wordB r h x = true) (r4 : r ≤ 4) (h6 : h ≤ 6) : Small x := by
  refine ⟨by have := word_len hx; omega, fun c hc => ?_⟩
  have := word_signs hx c hc
  omega
theorem Known.txt {K : PySem.W.Frag} {H : Hp} (x : Str) : Known K H (.str x) := .inr (.inr (.inr (.inl ⟨x, rfl⟩)))
theorem Known.num {K : PySem.W.Frag} {H : Hp} (i : Int) : Known K H (.int i) := .inr (.inr (.inl ⟨i, rfl⟩))
theorem dicV_kvs {K : PySem.W.Frag} {H : Hp} {d : Addr} {r h : Int} {ws : List (Str × Str)} {rs : List Str} (k : BookOk r h ws rs) (hd : H d = some (.dK (kvsOf ws))) : DicV K H (.ref d) (some (kvsOf ws)) := by
  refine ⟨d, rfl, hd, by rw [kvsOf_len]; have := k.lw; omega, fun q hq => ?_⟩
  obtain ⟨p, hp, rfl⟩ := List.mem_map.mp hq
  refine ⟨.txt _, fun x e => ?_, fun x e => ?_⟩
  · cases e
    have := word_len (k.wd p hp)
    have := k.h6
    omega
  · cases e
    have := name_len (k.nm p hp)
    omega
theorem seqV_of {K : PySem.W.Frag} {H : Hp} {a : Addr} {xs : List Str} (hx : ∀ x ∈ xs, x.length ≤ 1000) (hl : xs.length < 64) (h : (SqL K H a (xs.map V.str) ∧ TyX K H (.ref a) (.type "list")) ∨ (SqT K H a (xs.map V.str) ∧ TyX K H (.ref a) (.type "tuple"))) : SeqV K H (.ref a) (some (xs.map V.str)) := by
  refine ⟨a, rfl, h, by rw [List.length_map]; omega, fun v hv => ?_⟩
  obtain ⟨x, hx', rfl⟩ := List.mem_map.mp hv
  refine ⟨.txt _, fun y e => ?_⟩
  cases e
  have := hx x hx'
  omega
theorem BookOk.rl {r h : Int} {ws : List (Str × Str)} {rs : List Str} (k : BookOk r h ws rs) : ∀ x ∈ rs, x.length ≤ 1000 := fun x hx => by
  have := word_len (k.rv x hx)
  have := k.h6
  omega
theorem seqV_lst {K : PySem.W.Frag} {H : Hp} {a : Addr} {r h : Int} {ws : List (Str × Str)} {rs : List Str} (k : BookOk r h ws rs) (e : H a = some (.lst (rs.map V.str))) : SeqV K H (.ref a) (some (rs.map V.str)) :=
  seqV_of k.rl k.lr (.inl ⟨SqL.of e, .base (.lst e)⟩)
theorem seqV_tup {K : PySem.W.Frag} {H : Hp} {a : Addr} {r h : Int} {ws : List (Str × Str)} {rs : List Str} (k : BookOk r h ws rs) (e : H a = some (.tup (rs.map V.str))) : SeqV K H (.ref a) (some (rs.map V.str)) :=
  seqV_of k.rl k.lr (.inr ⟨SqT.of e, .base (.tup e)⟩)
theorem kvsOf_inj {a b : List (Str × Str)} (h : kvsOf a = kvsOf b) : a = b := by
  have h1 : a.map (·.1) = b.map (·.1) := by
    have := congrArg (fun l => l.map (·.1)) h
    simp only [kvsOf_keys] at this
    exact List.map_inj_right (fun _ _ e => Sum.inr.inj e) |>.mp this
  have h2 : a.map (·.2) = b.map (·.2) := by
    have := congrArg (fun l => l.map (·.2)) h
    simp only [kvsOf_vals] at this
    exact List.map_inj_right (fun _ _ e => V.str.inj e) |>.mp this
  have hl : a.length = b.length := by have := congrArg List.length h1; rw [List.length_map, List.length_map] at this; exact this
  refine List.ext_getElem hl fun i k1 k2 => ?_
  have e1 := congrArg (fun l => l[i]?) h1
  have e2 := congrArg (fun l => l[i]?) h2
  simp only [List.getElem?_map, List.getElem?_eq_getElem k1, List.getElem?_eq_getElem k2, Option.map_some, Option.some.injEq] at e1 e2
  exact Prod.ext e1 e2
theorem strs_inj {a b : List Str} (h : a.map V.str = b.map V.str) : a = b := List.map_inj_right (fun _ _ e => V.str.inj e) |>.mp h
theorem init_use {H0 H : Hp} {b dx d : Addr} {r h : Int} {ws : List (Str × Str)} {rs : List Str} {v : V} {Q : VK} {E : XK} (ok : BookOk r h ws rs) (s0 : Same H0 H) (b0 : H0 b = none) (hb : H b = some (.ins (CBk mg) dx [])) (hd : H0 d = some (.dK (kvsOf ws))) (hv : SeqV K H0 v (some (rs.map V.str)))
    (k : ∀ H', Same H0 H' → BookNew (CBk mg) H0 H' b (mkBook r h ws rs) → Q .non H') : sp_init K mg [.ref b, .int r, .int h, .ref d, v] H Q E := by
  refine ⟨H0, b, dx, _, _, _, _, some (kvsOf ws), some (rs.map V.str), rfl, s0, b0, hb, .num _, .num _, dicV_kvs ok hd, hv, fun kvs e => ?_, fun xs e => ?_, fun hf => ?_, fun r' h' ws' xs' e1 e2 e3 e4 hf H' s' B => ?_⟩
  · cases e
    exact ⟨kvsOf_nodup ok.nd, by rw [kvsOf_len]; exact ok.lw⟩
  · cases e
    rw [List.length_map]
    exact ok.lr
  · rw [ok.forms] at hf
    cases hf
  · cases e1
    cases e2
    have := kvsOf_inj (Option.some.inj e3)
    subst this
    have := strs_inj (Option.some.inj e4)
    subst this
    exact k H' s' B
theorem kvsOf_kV (ws : List (Str × Str)) : (kvsOf ws).map (fun kv => kV kv.1) = (ws.map (·.1)).map V.str := by
  unfold kvsOf
  rw [List.map_map, List.map_map]
  rfl
theorem eqDict_perm {ws ws' : List (Str × Str)} (h : (ws.map (·.1)).Nodup) (p : ws'.Perm ws) : eqDictB (kvsOf ws') (kvsOf ws) = true := by
  unfold eqDictB
  rw [Bool.and_eq_true, eqKV_iff, beq_iff_eq, kvsOf_len, kvsOf_len]
  exact ⟨p.length_eq, fun q hq => wordAt_nodup h (p.mem_iff.mp hq)⟩
theorem BookOk.nameOk {r h : Int} {ws : List (Str × Str)} {rs : List Str} (k : BookOk r h ws rs) : ∀ x ∈ ws.map (·.1), PyData.strOk x = true := fun x hx => by
  obtain ⟨p, hp, rfl⟩ := List.mem_map.mp hx
  exact strOk_small (name_small (k.nm p hp)).2
theorem BookOk.rsOk {r h : Int} {ws : List (Str × Str)} {rs : List Str} (k : BookOk r h ws rs) : ∀ x ∈ rs, PyData.strOk x = true := fun x hx => strOk_small (word_small (k.rv x hx) k.r4 k.h6).2
theorem BookOk.wdOk {r h : Int} {ws : List (Str × Str)} {rs : List Str} (k : BookOk r h ws rs) : ∀ x ∈ ws.map (·.2), PyData.strOk x = true := fun x hx => by
  obtain ⟨p, hp, rfl⟩ := List.mem_map.mp hx
  exact strOk_small (word_small (k.wd p hp) k.r4 k.h6).2
/-! ### requests, names that are not requested, selections -/
def lenB (d : Int) : V → Bool
  | .int k => decide (1 ≤ k) && decide (k ≤ d)
  | _ => false
def reqB (h : Int) (kvs : List (Key × V)) : Bool := kvs.all fun q => keyNameB q.1 && lenB h q.2
theorem lenB_int {d : Int} {v : V} (h : lenB d v = true) : ∃ n : Nat, v = .int (n : Nat) ∧ 1 ≤ n ∧ (n : Int) ≤ d := by
  cases v with
  | int k =>
    have h : (decide (1 ≤ k) && decide (k ≤ d)) = true := h
    rw [Bool.and_eq_true, decide_eq_true_eq, decide_eq_true_eq] at h
    obtain ⟨n, rfl⟩ := Int.eq_ofNat_of_zero_le (show 0 ≤ k by omega)
    exact ⟨n, rfl, by omega, h.2⟩
  | _ => cases h
def sp_is_length (K : PySem.W.Frag) : Sp := fun vs H Q _ => ∃ (d : Int) (v : V), vs = [.int d, v] ∧ Known K H v ∧ Q (.bl (lenB d v)) H
theorem cal_is_length (T : Txt K mg) : CalG P w K mg base CX0 2 "is_length" (sp_is_length K) [] := by
  refine T.d_is_length.cal .nil sc_is_length (fun vs H Q E h => by obtain ⟨_, _, rfl, _⟩ := h; rfl) (fun f cdv A outer s H vs Q E hr h => ?_)
  obtain ⟨d, v, rfl, hv, k⟩ := h
  refine ⟨_, (pss_one (ps_ret (pe_and (pe_g (cal_is_whole T) hr (by first | decide | (simp only [Nat.add_eq]; omega)) rfl (pa_cons (pv 1) pa_nil)) (pe_one (pe_chain op_le op_le pe_int (pv 1) (pv 0)))))), ?_⟩
  refine ⟨_, rfl, v, rfl, hv, _, rfl, ?_⟩
  refine if_b (fun c => ?_) (fun c => ?_)
  · obtain ⟨n, rfl⟩ := intB_is c
    have k : Q (.bl (decide (1 ≤ n) && decide (n ≤ d))) H := k
    refine ⟨_, rfl, _, _, rfl, rfl, _, rfl, ?_⟩
    refine if_b (fun c => ?_) (fun c => ?_)
    · rw [c, Bool.true_and] at k
      exact ⟨_, rfl, _, _, rfl, rfl, k⟩
    · rw [c, Bool.false_and] at k
      exact k
  · have e : lenB d v = false := by
      cases v with
      | int k => cases c
      | _ => rfl
    rw [e] at k
    exact k
def sp_is_request (K : PySem.W.Frag) : Sp := fun vs H Q _ => ∃ (h : Int) (w : V) (W : Option (List (Key × V))), vs = [.int h, w] ∧ DicV K H w W ∧
  ∀ H', Same H H' → Q (.bl (match W with | some kvs => reqB h kvs | none => false)) H'
theorem cal_is_request (T : Txt K mg) : CalG P w K mg base CX0 3 "is_request" (sp_is_request K) [] := by
  refine T.d_is_request.cal .nil sc_is_request (fun vs H Q E h => by obtain ⟨_, _, _, rfl, _⟩ := h; rfl) (fun f cdv A outer s H vs Q E hr h => ?_)
  obtain ⟨hh, w, W, rfl, hW, k⟩ := h
  refine ⟨_, (pss_cons (ps_if (pt_not (pt_val (pe_callB (r := rIsi K) call_isi (by rfl) T.n_isinstance (by decide +kernel) (pa_cons (pv 1) (pa_cons (pe_bltn (v := .ty "dict") (u := .type "dict") (by rfl) T.n_dict (by decide +kernel) rfl) pa_nil)))))
      (pss_one (ps_ret pe_bl))
      pss_nil)
      (pss_one (ps_ret (pe_callB (r := rAll K) (cr_all rfl) (by rfl) T.n_all (by decide +kernel) (pa_cons (pe_lock (pe_lc (own := [("name", 2), ("length", 3)]) (g := gTup K 2 (gCons (gName 2) (gCons (gName 3) gNil))) (by rfl) sc_is_request.nd (pi_items (pv 1)) (blkOk_by (own := [("name", 2), ("length", 3)]) (N := ["depth", "thing", "name", "length"]) (sc := (defScope s_is_request)) (by decide +kernel)) (fun _ _ _ _ _ => (pg_tup (by rfl) (pgs_cons (pg_name (i := 2) sc_is_request.nd rfl (Or.inl rfl)) (pgs_cons (pg_name (i := 3) sc_is_request.nd rfl (Or.inl rfl)) pgs_nil)))) (fun _ _ _ _ _ => pts_nil) (fun _ _ _ _ _ => (pe_and (pe_g (cal_is_name T) hr (by first | decide | (simp only [Nat.add_eq]; omega)) rfl (pa_cons (pv 2) pa_nil)) (pe_one (pe_g (cal_is_length T) hr (by first | decide | (simp only [Nat.add_eq]; omega)) rfl (pa_cons (pv 0) (pa_cons (pv 3) pa_nil)))))))) pa_nil))))), ?_⟩
  cases W with
  | none =>
    obtain ⟨nt, hnt, knt⟩ := hW
    exact ⟨_, rfl, _, _, .type nt, .type "dict", false, rfl, .ty "dict", hnt, kit_ty knt, _, rfl, k _ (Same.refl _)⟩
  | some kvs =>
    obtain ⟨d, rfl, hd, hl, hq⟩ := hW
    refine ⟨_, rfl, _, _, .type "dict", .type "dict", true, rfl, .ty "dict", .base (.dK hd), kit_ty (by decide +kernel), _, rfl, ?_⟩
    refine ⟨d, .dK kvs, hd, trivial, fun od => ?_⟩
    refine ⟨_, rfl, d, od, kvs, rfl, upd_same, fun D hD => lc_itemsB (fun q => keyNameB q.1 && lenB hh q.2) (by decide) upd_same hD (by omega) ?_ ?_⟩
    · intro q hm H' Q' s' kk
      obtain ⟨hk1, hk2, hk3⟩ := hq q hm
      have hk1' : Known K H' q.2 := (hk1.lock hd).same s'
      rcases key_known (K := K) (H := H') q.1 with ⟨x, e⟩ | ⟨i, e⟩
      · have en : keyNameB q.1 = nameB x := by rw [e]; rfl
        have ek : kV q.1 = .str x := by rw [e]; rfl
        rw [ek]
        refine ⟨_, rfl, _, rfl, .inl ⟨x, rfl, hk3 x ek, fun H2 s2 => ⟨_, rfl, ?_⟩⟩⟩
        refine if_b (fun hb => ?_) (fun hb => ?_)
        · have := kk H2 s2
          rw [en, hb, Bool.true_and] at this
          exact ⟨_, rfl, _, rfl, hh, q.2, rfl, hk1'.same s2, this⟩
        · have := kk H2 s2
          rw [en, hb, Bool.false_and] at this
          exact this
      · have en : keyNameB q.1 = false := by rw [e]; rfl
        have ek : kV q.1 = .int i := by rw [e]; rfl
        rw [ek]
        refine ⟨_, rfl, _, rfl, .inr ⟨⟨"int", .base (.int i), by decide +kernel⟩, fun H2 s2 => ⟨_, rfl, ?_⟩⟩⟩
        have := kk H2 s2
        rw [en, Bool.false_and] at this
        exact this
    · intro H' s' hD'
      refine ⟨s' _ _ upd_same, ?_⟩
      have hDd : D ≠ d := fun e => by rw [e, upd_same] at hD; cases hD
      refine ⟨D, kvs.map fun q => keyNameB q.1 && lenB hh q.2, rfl, SqL.of (by rw [upd_ne hDd]; exact hD'), ?_⟩
      have e : (kvs.map fun q => keyNameB q.1 && lenB hh q.2).all id = reqB hh kvs := by
        unfold reqB
        rw [List.all_map]
        rfl
      rw [e]
      exact k _ (same_unlock hd s')
abbrev XIr (mg : Str → Option Value) : Value := .ref (clsAt mg "InvalidRequest")
def sp_check_request (K : PySem.W.Frag) (mg : Str → Option Value) : Sp := fun vs H Q E => ∃ (b : Addr) (D : BD) (w : V) (W : Option (List (Key × V))), vs = [.ref b, w] ∧ BookAt (CBk mg) H b D ∧ DicV K H w W ∧
  ((match W with | some kvs => reqB D.h kvs | none => false) = true → ∀ H', Same H H' → Q .non H') ∧ ((match W with | some kvs => reqB D.h kvs | none => false) = false → ∀ H', Same H H' → E (XIr mg) none H')
theorem cal_check_request (T : Txt K mg) : CalG P w K mg base (L2.CX P w) 4 "check_request" (sp_check_request K mg) [] := by
  refine T.d_check_request.calX .nil sc_check_request (fun vs H Q E h => by obtain ⟨_, _, _, _, rfl, _⟩ := h; rfl) (fun f cdv A outer s H vs Q E hr h => ?_)
  obtain ⟨b, D, w, W, rfl, B, hW, ky, kn⟩ := h
  obtain ⟨dx, d, l, h1, h2, h3⟩ := id B.ex
  refine ⟨_, (pss_one (ps_if (pt_not (pt_val (pe_g (cal_is_request T) hr (by first | decide | (simp only [Nat.add_eq]; omega)) rfl (pa_cons (pe_fldK (K := K) (pv 0) rfl) (pa_cons (pv 1) pa_nil)))))
      (pss_one (ps_raise rfl (takes_of rfl rfl rfl rfl) (pmk_own PySem.F.excBase_ValueError T.x_InvalidRequest.ex T.x_InvalidRequest.gl T.x_InvalidRequest.kp (raises_own T.x_InvalidRequest.bp T.x_InvalidRequest.tp) rfl)))
      pss_nil)), ?_⟩
  refine ⟨_, rfl, b, _, dx, _, _, rfl, h1, T.k_Codebook.cl, T.a_Codebook_depth, bookF_depth _ _ _ _, _, rfl, D.h, w, W, rfl, hW, fun H1 s1 => ?_⟩
  cases hx : (match W with | some kvs => reqB D.h kvs | none => false) with
  | false => exact ⟨_, rfl, iteT (kn hx H1 s1)⟩
  | true => exact ⟨_, rfl, iteF (ky hx H1 s1)⟩
/-- the names of ws that are not keys -/
def remW (ws : List (Str × Str)) (kvs : List (Key × V)) : List (Str × Str) := ws.filter fun p => (valV kvs (.inr p.1)).isNone
theorem remW_sub (ws : List (Str × Str)) (kvs : List (Key × V)) : (remW ws kvs).Sublist ws := List.filter_sublist
theorem kvsOf_filter (ws : List (Str × Str)) (f : Str × Str → Bool) (g : Key × V → Bool) (h : ∀ p ∈ ws, g (.inr p.1, .str p.2) = f p) : (kvsOf ws).filter g = kvsOf (ws.filter f) := by
  unfold kvsOf
  rw [List.filter_map]
  congr 1
  exact List.filter_congr fun p hp => h p hp
def sp_unrequested (mg : Str → Option Value) : Sp := fun vs H Q _ => ∃ (b d : Addr) (D : BD) (kvs : List (Key × V)), vs = [.ref b, .ref d] ∧ BookAt (CBk mg) H b D ∧ (D.ws.map (·.1)).Nodup ∧ D.ws.length < 64 ∧ H d = some (.dK kvs) ∧
  ∀ H' p, Same H H' → H p = none → H' p = some (.dK (kvsOf (remW D.ws kvs))) → Q (.ref p) H'
theorem cal_unrequested_words (T : Txt K mg) : CalG P w K mg base CX0 2 "unrequested_words" (sp_unrequested mg) [] := by
  refine T.d_unrequested_words.cal .nil sc_unrequested_words (fun vs H Q E h => by obtain ⟨_, _, _, _, rfl, _⟩ := h; rfl) (fun f cdv A outer s H vs Q E hr h => ?_)
  obtain ⟨b, d, D, kvs, rfl, B, nd, lw, hd, k⟩ := h
  obtain ⟨dx, dw, l, h1, h2, h3⟩ := id B.ex
  refine ⟨_, (pss_cons (ps_set (i := 2) sc_unrequested_words.nd rfl (Or.inr rfl) (pe_mE0 (met_words T) hr (by first | decide | (simp only [Nat.add_eq]; omega)) pass00 (pv 0)))
      (pss_one (ps_ret (pe_lock (pe_dc (own := [("name", 3)]) (g := gName 3) (by rfl) sc_unrequested_words.nd (pi_keys (pv 2)) (blkOk_by (own := [("name", 3)]) (N := ["book", "request", "words", "name"]) (sc := (defScope s_unrequested_words)) (by decide +kernel)) (fun _ _ _ _ _ => (pg_name (i := 3) sc_unrequested_words.nd rfl (Or.inl rfl))) (fun _ _ _ _ _ => (pts_one (pt_cmp (pc_dnotin (hu_of hr.toRoom) (pv 3) (pv 1))))) (fun _ _ _ _ _ => (pv 3)) (fun _ _ _ _ _ => (pe_dget (hu_of hr.toRoom) (pv 2) (pv 3) (fun _ _ => rfl)))))))), ?_⟩
  refine ⟨_, rfl, b, dx, _, rfl, h1, rfl, b, _, rfl, B, fun wd hwd => ?_⟩
  have t1 := newS (o := .dK (kvsOf D.ws)) hwd
  have hdw : d ≠ wd := fun e => by rw [e, hwd] at hd; cases hd
  refine ⟨wd, .dK (kvsOf D.ws), upd_same, trivial, fun od => ?_⟩
  rw [upd_upd]
  have t2 := newS (o := .frz od (.dK (kvsOf D.ws))) hwd
  have s12 : Same H (upd H wd (.frz od (.dK (kvsOf D.ws)))) := t2
  refine ⟨_, rfl, wd, od, rfl, .inl ⟨kvsOf D.ws, upd_same, fun DD hDD => dc_keysN (fun q => (valV kvs q.1).isNone) (·.1) (·.2) upd_same hDD (by rw [kvsOf_len]; omega) ?_ ?_ ?_ ?_⟩⟩
  · intro q hq H' Q' s' kk
    obtain ⟨p, hp, rfl⟩ := List.mem_map.mp hq
    have hd' := s' _ _ (t2 _ _ hd)
    refine ⟨_, rfl, _, rfl, d, _, rfl, DGet.k (k := Sum.inr p.1) hd', ?_⟩
    have := kk H' (Same.refl _)
    rw [← Option.not_isSome] at this
    exact ⟨_, rfl, this⟩
  · intro q hq _ H' Q' s' kk
    obtain ⟨p, hp, rfl⟩ := List.mem_map.mp hq
    exact ⟨_, rfl, kk H' (Same.refl _)⟩
  · intro q hq _ H' Q' s' kk
    obtain ⟨p, hp, rfl⟩ := List.mem_map.mp hq
    have hw' := s' _ _ (upd_same (H := H) (a := wd) (o := .frz od (.dK (kvsOf D.ws))))
    refine ⟨_, rfl, _, rfl, wd, _, rfl, .inl ⟨_, Sum.inr p.1, .inr ⟨od, hw'⟩, rfl, ?_⟩, kk H' (Same.refl _)⟩
    rw [valV_kvs, wordAt_nodup nd hp]
    rfl
  · intro H' s' hD'
    have hwd' := s' _ _ (upd_same (H := H) (a := wd) (o := .frz od (.dK (kvsOf D.ws))))
    refine ⟨hwd', ?_⟩
    have hne : DD ≠ wd := fun e => by rw [e, upd_same] at hDD; cases hDD
    have e2 : ((kvsOf D.ws).filter fun q => (valV kvs q.1).isNone).map (fun a => (a.1, a.2)) = kvsOf (remW D.ws kvs) := by
      rw [List.map_id', kvsOf_filter D.ws (fun p => (valV kvs (.inr p.1)).isNone) _ fun p _ => rfl]
      rfl
    rw [e2, merge_nodup (kvs := []) (by rw [List.nil_append]; exact kvsOf_nodup (nd.sublist ((remW_sub _ _).map _))), List.nil_append] at hD'
    have hdD : H DD = none := by
      rw [upd_ne hne] at hDD
      exact hDD
    refine k _ DD ?_ hdD ((upd_ne hne).trans hD')
    exact Same.trans t1 (same_unlock (u := .dK (kvsOf D.ws)) upd_same (by rw [upd_upd]; exact s'))
/-! ### is_selection -/
def selE (ws : List (Str × Str)) : V → Bool
  | .str x => nameB x && (wordAt ws x).isSome
  | _ => false
def selB (ws : List (Str × Str)) : Option (List V) → Bool
  | some xs => xs.all (selE ws) && decide ((uniqS (strsOf xs)).length = xs.length)
  | none => false
theorem sel_strs {ws : List (Str × Str)} : ∀ {xs : List V}, xs.all (selE ws) = true → xs = (strsOf xs).map V.str
  | [], _ => rfl
  | v :: l, h => by
    rw [List.all_cons, Bool.and_eq_true] at h
    have ih := sel_strs h.2
    cases v with
    | str x =>
      show V.str x :: l = V.str x :: (strsOf l).map V.str
      rw [← ih]
    | _ => cases h.1
def sp_is_selection (K : PySem.W.Frag) : Sp := fun vs H Q _ => ∃ (d : Addr) (ws : List (Str × Str)) (w : V) (R : Option (List V)), vs = [.ref d, w] ∧ H d = some (.dK (kvsOf ws)) ∧ SeqV K H w R ∧ ∀ H', Same H H' → Q (.bl (selB ws R)) H'
theorem cal_is_selection (T : Txt K mg) : CalG P w K mg base CX0 2 "is_selection" (sp_is_selection K) [] := by
  refine T.d_is_selection.cal .nil sc_is_selection (fun vs H Q E h => by obtain ⟨_, _, _, _, rfl, _⟩ := h; rfl) (fun f cdv A outer s H vs Q E hr h => ?_)
  obtain ⟨d, ws, wv, R, rfl, hd, hR, k⟩ := h
  have cls2 : ∀ tp : Addr, Paired ClsV [.ty "list", .ty "tuple"] [.type "list", .type "tuple"] := fun _ => .cons (.ty _) (.cons (.ty _) .nil)
  cases R with
  | none =>
    obtain ⟨nt, hnt, k1, k2⟩ := hR
    refine ⟨_, (pss_cons (ps_if (pt_not (pt_val (pe_callB (r := rIsiT K) call_isiT (by rfl) T.n_isinstance (by decide +kernel) (pa_cons (pv 1) (pa_cons (pe_tup (pa_cons (pe_bltn (v := .ty "list") (u := .type "list") (by rfl) T.n_list (by decide +kernel) rfl) (pa_cons (pe_bltn (v := .ty "tuple") (u := .type "tuple") (by rfl) T.n_tuple (by decide +kernel) rfl) pa_nil))) pa_nil)))))
      (pss_one (ps_ret pe_bl))
      pss_nil)
      (pss_cons (ps_if (pt_not (pt_val (pe_callB (r := rAll K) (cr_all rfl) (by rfl) T.n_all (by decide +kernel) (pa_cons (pe_lc (own := [("name", 2)]) (g := gName 2) (by rfl) sc_is_selection.nd (pi_listK (K := K) (pv 1)) (blkOk_by (own := [("name", 2)]) (N := ["words", "thing", "name"]) (sc := (defScope s_is_selection)) (by decide +kernel)) (fun _ _ _ _ _ => (pg_name (i := 2) sc_is_selection.nd rfl (Or.inl rfl))) (fun _ _ _ _ _ => pts_nil) (fun _ _ _ _ _ => (pe_and (pe_g (cal_is_name T) hr (by first | decide | (simp only [Nat.add_eq]; omega)) rfl (pa_cons (pv 2) pa_nil)) (pe_one (pe_cmp (pc_din (hu_of hr.toRoom) (pv 2) (pv 0)) rfl))))) pa_nil))))
      (pss_one (ps_ret pe_bl))
      pss_nil)
      (pss_one (ps_ret (pe_cmpR op_eq (pe_callB (r := rLenSS P w) call_lenSS (by rfl) T.n_len (by decide +kernel) (pa_cons (pe_callTy (r := rSetS P w K) (call_setS rfl) (by rfl) T.n_set (by decide +kernel) (pa_cons (pv 1) pa_nil)) pa_nil)) (pe_callB (r := rLenQ K) call_len_seq (by rfl) T.n_len (by decide +kernel) (pa_cons (pv 1) pa_nil)) (nomark _)))))), ?_⟩
    refine ⟨_, rfl, (sz_rfl rfl), fun tp htp => ?_⟩
    refine ⟨_, tp, _, .type nt, _, false, rfl, upd_same, cls2 tp, TyX.same (same_new (Same.refl _) htp) hnt, kitAny_cons (kit_ty k1) (fun _ => kitAny_cons (kit_ty k2) (fun _ => rfl) (fun z => by cases z)) (fun z => by cases z), false, rfl, ?_⟩
    exact k _ (same_new (Same.refl _) htp)
  | some xs =>
    obtain ⟨a, rfl, hS, hl, hx⟩ := hR
    rcases hS with ⟨hS, hT⟩ | ⟨hS, hT⟩
    · refine ⟨_, (pss_cons (ps_if (pt_not (pt_val (pe_callB (r := rIsiT K) call_isiT (by rfl) T.n_isinstance (by decide +kernel) (pa_cons (pv 1) (pa_cons (pe_tup (pa_cons (pe_bltn (v := .ty "list") (u := .type "list") (by rfl) T.n_list (by decide +kernel) rfl) (pa_cons (pe_bltn (v := .ty "tuple") (u := .type "tuple") (by rfl) T.n_tuple (by decide +kernel) rfl) pa_nil))) pa_nil)))))
      (pss_one (ps_ret pe_bl))
      pss_nil)
      (pss_cons (ps_if (pt_not (pt_val (pe_callB (r := rAll K) (cr_all rfl) (by rfl) T.n_all (by decide +kernel) (pa_cons (pe_lc (own := [("name", 2)]) (g := gName 2) (by rfl) sc_is_selection.nd (pi_listK (K := K) (pv 1)) (blkOk_by (own := [("name", 2)]) (N := ["words", "thing", "name"]) (sc := (defScope s_is_selection)) (by decide +kernel)) (fun _ _ _ _ _ => (pg_name (i := 2) sc_is_selection.nd rfl (Or.inl rfl))) (fun _ _ _ _ _ => pts_nil) (fun _ _ _ _ _ => (pe_and (pe_g (cal_is_name T) hr (by first | decide | (simp only [Nat.add_eq]; omega)) rfl (pa_cons (pv 2) pa_nil)) (pe_one (pe_cmp (pc_din (hu_of hr.toRoom) (pv 2) (pv 0)) rfl))))) pa_nil))))
      (pss_one (ps_ret pe_bl))
      pss_nil)
      (pss_one (ps_ret (pe_cmpR op_eq (pe_callB (r := rLenSS P w) call_lenSS (by rfl) T.n_len (by decide +kernel) (pa_cons (pe_callTy (r := rSetS P w K) (call_setS rfl) (by rfl) T.n_set (by decide +kernel) (pa_cons (pv 1) pa_nil)) pa_nil)) (pe_callB (r := rLenQ K) call_len_seq (by rfl) T.n_len (by decide +kernel) (pa_cons (pv 1) pa_nil)) (nomark _)))))), ?_⟩
      refine ⟨_, rfl, (sz_rfl rfl), fun tp htp => ?_⟩
      have s1 := same_new (o := .tup [V.ty "list", V.ty "tuple"]) (Same.refl H) htp
      refine ⟨_, tp, _, .type "list", _, true, rfl, upd_same, cls2 tp, TyX.same s1 hT, kitAny_cons (b := true) (kit_ty (by decide +kernel)) (fun z => by cases z) (fun _ => rfl), true, rfl, ?_⟩
      have S1 : SqL K (upd H tp (.tup [V.ty "list", V.ty "tuple"])) a xs := Same.seq s1 hS
      refine ⟨_, rfl, a, rfl, ⟨_, S1⟩, fun D hD => lc_listB (selE ws) S1 hD (by omega) ?_ ?_⟩
      · intro x hm H' Q' s' kk
        have hd' := s' _ _ (s1 _ _ hd)
        rcases ((hx x hm).1.same (Same.trans s1 s')).kind with ⟨z, e⟩ | ⟨hne, hns⟩
        · subst e
          refine ⟨_, rfl, .str z, rfl, .inl ⟨z, rfl, (hx _ hm).2 z rfl, fun H2 s2 => ⟨_, rfl, ?_⟩⟩⟩
          have kk : Q' (.bl (nameB z && (wordAt ws z).isSome)) H2 := kk H2 s2
          refine if_b (fun c => ?_) (fun c => ?_)
          · rw [c, Bool.true_and] at kk
            refine ⟨_, rfl, _, rfl, d, _, rfl, DGet.k (k := Sum.inr z) (s2 _ _ hd'), ?_⟩
            rw [valV_kvs, Option.isSome_map]
            exact kk
          · rw [c, Bool.false_and] at kk
            exact kk
        · have ef : selE ws x = false := by
            cases hv : x with
            | str z => exact absurd hv (hne z)
            | _ => rfl
          rw [ef] at kk
          exact ⟨_, rfl, x, rfl, .inr ⟨hns, fun H2 s2 => ⟨_, rfl, kk H2 s2⟩⟩⟩
      · intro H' s' hD'
        have s2 := Same.trans s1 s'
        refine ⟨D, xs.map (selE ws), rfl, SqL.of hD', ?_⟩
        rw [show (xs.map (selE ws)).all id = xs.all (selE ws) by rw [List.all_map]; rfl]
        cases c : xs.all (selE ws) with
        | true =>
          refine ⟨_, rfl, iteF ?_⟩
          have ex := sel_strs (ws := ws) c
          have S2 := Same.seq s' S1
          rw [ex] at S2
          have hlen : (strsOf xs).length = xs.length := by
            have := congrArg List.length ex
            rw [List.length_map] at this
            exact this.symm
          refine ⟨_, rfl, a, strsOf xs, rfl, .inl S2, by rw [hlen]; unfold scanBound; omega, fun S hS2 => ?_⟩
          refine ⟨S, strsOf xs, rfl, upd_same, _, rfl, a, _, rfl, .inl (Same.seq (newS hS2) S2), rfl, ?_⟩
          have this : Q (.bl (xs.all (selE ws) && decide ((uniqS (strsOf xs)).length = xs.length))) _ := k _ (Same.trans s2 (newS (o := SSetO P w S (strsOf xs)) hS2))
          rw [c, Bool.true_and] at this
          rw [List.length_map, hlen, decV, show ((((uniqS (strsOf xs)).length : Nat) : Int) == ((xs.length : Nat) : Int)) = decide ((uniqS (strsOf xs)).length = xs.length) by rw [Bool.eq_iff_iff, beq_iff_eq, decide_eq_true_eq]; omega]
          exact this
        | false =>
          refine ⟨_, rfl, iteT ?_⟩
          have this : Q (.bl (xs.all (selE ws) && decide ((uniqS (strsOf xs)).length = xs.length))) _ := k _ s2
          rw [c, Bool.false_and] at this
          exact this
    · refine ⟨_, (pss_cons (ps_if (pt_not (pt_val (pe_callB (r := rIsiT K) call_isiT (by rfl) T.n_isinstance (by decide +kernel) (pa_cons (pv 1) (pa_cons (pe_tup (pa_cons (pe_bltn (v := .ty "list") (u := .type "list") (by rfl) T.n_list (by decide +kernel) rfl) (pa_cons (pe_bltn (v := .ty "tuple") (u := .type "tuple") (by rfl) T.n_tuple (by decide +kernel) rfl) pa_nil))) pa_nil)))))
      (pss_one (ps_ret pe_bl))
      pss_nil)
      (pss_cons (ps_if (pt_not (pt_val (pe_callB (r := rAll K) (cr_all rfl) (by rfl) T.n_all (by decide +kernel) (pa_cons (pe_lc (own := [("name", 2)]) (g := gName 2) (by rfl) sc_is_selection.nd (pi_tupK (K := K) (pv 1)) (blkOk_by (own := [("name", 2)]) (N := ["words", "thing", "name"]) (sc := (defScope s_is_selection)) (by decide +kernel)) (fun _ _ _ _ _ => (pg_name (i := 2) sc_is_selection.nd rfl (Or.inl rfl))) (fun _ _ _ _ _ => pts_nil) (fun _ _ _ _ _ => (pe_and (pe_g (cal_is_name T) hr (by first | decide | (simp only [Nat.add_eq]; omega)) rfl (pa_cons (pv 2) pa_nil)) (pe_one (pe_cmp (pc_din (hu_of hr.toRoom) (pv 2) (pv 0)) rfl))))) pa_nil))))
      (pss_one (ps_ret pe_bl))
      pss_nil)
      (pss_one (ps_ret (pe_cmpR op_eq (pe_callB (r := rLenSS P w) call_lenSS (by rfl) T.n_len (by decide +kernel) (pa_cons (pe_callTy (r := rSetS P w K) (call_setS rfl) (by rfl) T.n_set (by decide +kernel) (pa_cons (pv 1) pa_nil)) pa_nil)) (pe_callB (r := rLenQ K) call_len_seq (by rfl) T.n_len (by decide +kernel) (pa_cons (pv 1) pa_nil)) (nomark _)))))), ?_⟩
      refine ⟨_, rfl, (sz_rfl rfl), fun tp htp => ?_⟩
      have s1 := same_new (o := .tup [V.ty "list", V.ty "tuple"]) (Same.refl H) htp
      refine ⟨_, tp, _, .type "tuple", _, true, rfl, upd_same, cls2 tp, TyX.same s1 hT, kitAny_cons (b := false) (kit_ty (by decide +kernel)) (fun _ => kitAny_cons (b := true) (kit_ty (by decide +kernel)) (fun z => by cases z) (fun _ => rfl)) (fun z => by cases z), true, rfl, ?_⟩
      have S1 : SqT K (upd H tp (.tup [V.ty "list", V.ty "tuple"])) a xs := same_seqT s1 hS
      refine ⟨_, rfl, a, rfl, ⟨_, S1⟩, fun D hD => lc_tupB (selE ws) S1 hD (by omega) ?_ ?_⟩
      · intro x hm H' Q' s' kk
        have hd' := s' _ _ (s1 _ _ hd)
        rcases ((hx x hm).1.same (Same.trans s1 s')).kind with ⟨z, e⟩ | ⟨hne, hns⟩
        · subst e
          refine ⟨_, rfl, .str z, rfl, .inl ⟨z, rfl, (hx _ hm).2 z rfl, fun H2 s2 => ⟨_, rfl, ?_⟩⟩⟩
          have kk : Q' (.bl (nameB z && (wordAt ws z).isSome)) H2 := kk H2 s2
          refine if_b (fun c => ?_) (fun c => ?_)
          · rw [c, Bool.true_and] at kk
            refine ⟨_, rfl, _, rfl, d, _, rfl, DGet.k (k := Sum.inr z) (s2 _ _ hd'), ?_⟩
            rw [valV_kvs, Option.isSome_map]
            exact kk
          · rw [c, Bool.false_and] at kk
            exact kk
        · have ef : selE ws x = false := by
            cases hv : x with
            | str z => exact absurd hv (hne z)
            | _ => rfl
          rw [ef] at kk
          exact ⟨_, rfl, x, rfl, .inr ⟨hns, fun H2 s2 => ⟨_, rfl, kk H2 s2⟩⟩⟩
      · intro H' s' hD'
        have s2 := Same.trans s1 s'
        refine ⟨D, xs.map (selE ws), rfl, SqL.of hD', ?_⟩
        rw [show (xs.map (selE ws)).all id = xs.all (selE ws) by rw [List.all_map]; rfl]
        cases c : xs.all (selE ws) with
        | true =>
          refine ⟨_, rfl, iteF ?_⟩
          have ex := sel_strs (ws := ws) c
          have S2 := same_seqT s' S1
          rw [ex] at S2
          have hlen : (strsOf xs).length = xs.length := by
            have := congrArg List.length ex
            rw [List.length_map] at this
            exact this.symm
          refine ⟨_, rfl, a, strsOf xs, rfl, .inr S2, by rw [hlen]; unfold scanBound; omega, fun S hS2 => ?_⟩
          refine ⟨S, strsOf xs, rfl, upd_same, _, rfl, a, _, rfl, .inr (same_seqT (newS hS2) S2), rfl, ?_⟩
          have this : Q (.bl (xs.all (selE ws) && decide ((uniqS (strsOf xs)).length = xs.length))) _ := k _ (Same.trans s2 (newS (o := SSetO P w S (strsOf xs)) hS2))
          rw [c, Bool.true_and] at this
          rw [List.length_map, hlen, decV, show ((((uniqS (strsOf xs)).length : Nat) : Int) == ((xs.length : Nat) : Int)) = decide ((uniqS (strsOf xs)).length = xs.length) by rw [Bool.eq_iff_iff, beq_iff_eq, decide_eq_true_eq]; omega]
          exact this
        | false =>
          refine ⟨_, rfl, iteT ?_⟩
          have this : Q (.bl (xs.all (selE ws) && decide ((uniqS (strsOf xs)).length = xs.length))) _ := k _ s2
          rw [c, Bool.false_and] at this
          exact this
/-! ### touched_above -/
def sp_touched_above : Sp := fun vs H Q _ => ∃ (a : Addr) (ts : List Str) (n : Nat), vs = [.ref a, .int (n : Nat)] ∧ H a = some (.lst (ts.map V.str)) ∧ ts.length < 128 ∧ (∀ t ∈ ts, t.length ≤ 100) ∧
  ∀ H' p (xs : List Str), Same H H' → H p = none → (∀ x, x ∈ xs ↔ ∃ t ∈ ts, n < t.length ∧ x = cutS t none (some (n : Int))) → xs.Nodup → H' p = some (.lst ((srt xs).map V.str)) → Q (.ref p) H'
theorem cal_touched_above (T : Txt K mg) : CalG P w K mg base CX0 2 "touched_above" sp_touched_above [] := by
  refine T.d_touched_above.cal .nil sc_touched_above (fun vs H Q E h => by obtain ⟨_, _, _, rfl, _⟩ := h; rfl) (fun f cdv A outer s H vs Q E hr h => ?_)
  obtain ⟨a, ts, n, rfl, ha, hl, hw, k⟩ := h
  refine ⟨_, (pss_one (ps_ret (pe_callB (r := rSortedTS P w) (cr_sortedTS rfl) (by rfl) T.n_sorted (by decide +kernel) (pa_cons (pe_scT (own := [("node", 2)]) (g := gName 2) (by rfl) sc_touched_above.nd (pi_listK (K := K) (pv 0)) (blkOk_by (own := [("node", 2)]) (N := ["taken", "level", "node"]) (sc := (defScope s_touched_above)) (by decide +kernel)) (fun _ _ _ _ _ => (pg_name (i := 2) sc_touched_above.nd rfl (Or.inl rfl))) (fun _ _ _ _ _ => (pts_one (pt_cmpR op_gt (pe_callB call_len_str (by rfl) T.n_len (by decide +kernel) (pa_cons (pv 2) pa_nil)) (pv 1) (nomark _)))) (fun _ _ _ _ _ => (pe_slice sl_str (pv 2) po_none (po_some (pv 1))))) pa_nil)))), ?_⟩
  refine ⟨_, rfl, a, rfl, ⟨_, SqL.of ha⟩, fun D hD => sct_list (f := fun t => decide (n < t.length)) (g := fun t => cutS t none (some (n : Int))) (SqL.of ha) hD (Nat.lt_of_le_of_lt (show ts.length + 1 ≤ 128 by omega) (by decide)) ?_ ?_ ?_⟩
  · intro t ht H' Q' s' kk
    have e : decide (n < t.length) = decide (((t.length : Nat) : Int) > ((n : Nat) : Int)) := decide_eq_decide.mpr (by omega)
    have kk : Q' (decide (n < t.length)) H' := kk
    rw [e] at kk
    exact ⟨_, rfl, _, rfl, sz_le (m := 100) (hw t ht) rfl, _, rfl, _, _, rfl, rfl, _, rfl, kk⟩
  · intro t ht _ H' Q' s' kk
    exact ⟨_, rfl, _, rfl, _, rfl, _, rfl, sz_le (m := 100) (hw t ht) rfl, kk⟩
  · intro ys nd hm
    have s1 := newS (o := TSetO P w D ys) hD
    refine ⟨D, ys, rfl, upd_same, fun p hp => k _ p ys (Same.trans s1 (newS hp)) (s1.free hp) (fun x => ?_) nd upd_same⟩
    rw [hm x]
    constructor
    · rintro ⟨t, h1, h2, h3⟩
      exact ⟨t, h1, of_decide_eq_true h2, h3⟩
    · rintro ⟨t, h1, h2, h3⟩
      exact ⟨t, h1, decide_eq_true h2, h3⟩
/-! ### level_size, filled_nodes -/
def sp_level_size : Sp := fun vs H Q _ => ∃ (r : Int) (n : Nat), vs = [.int r, .int (n : Nat)] ∧ 2 ≤ r ∧ r ≤ 4 ∧ n ≤ 6 ∧ Q (.int (r ^ n)) H
theorem cal_level_size (T : Txt K mg) : CalG P w K mg base CX0 1 "level_size" sp_level_size [] := by
  refine T.d_level_size.cal .nil sc_level_size (fun vs H Q E h => by obtain ⟨_, _, rfl, _⟩ := h; rfl) (fun f cdv A outer s H vs Q E hr h => ?_)
  obtain ⟨r, n, rfl, r2, r4, n6, k⟩ := h
  refine ⟨_, (pss_cons (ps_set (i := 2) sc_level_size.nd rfl (Or.inl rfl) pe_int)
      (pss_cons (ps_for PassesOwn.never rfl (pi_range1 rfl T.n_range (pa_cons (pv 1) pa_nil)) (pg_name (i := 3) sc_level_size.nd rfl (Or.inl rfl))
      (pss_one (ps_set (i := 2) sc_level_size.nd rfl (Or.inl rfl) (pe_op op_mul (pv 2) (pv 0)))))
      (pss_one (ps_ret (pv 2))))), ?_⟩
  refine ⟨_, rfl, _, rfl, by omega, by omega, ?_⟩
  rw [show (((n : Nat) : Int).toNat) = n from Int.toNat_natCast _]
  refine for_range (lo := 0) (n := n) (fun i σ H' => ∃ (o3 : Option V), σ = [some (.int r), some (.int (n : Nat)), some (.int (r ^ i)), o3] ∧ H' = H) ⟨none, by rw [Int.pow_zero]; rfl, rfl⟩ ?_ ?_
  · rintro i σ H1 hi ⟨o3, rfl, rfl⟩
    refine ⟨_, rfl, _, rfl, _, _, rfl, rfl, .inr ⟨by omega, by omega⟩, ?_⟩
    exact ⟨_, by rw [Int.pow_succ]; rfl, rfl⟩
  · rintro σ H1 ⟨o3, rfl, rfl⟩
    exact ⟨_, rfl, k⟩
def sp_filled (K : PySem.W.Frag) : Sp := fun vs H Q _ => ∃ (r : Int) (a : Addr) (ls : List Nat) (n : Nat), vs = [.int r, .ref a, .int (n : Nat)] ∧ 2 ≤ r ∧ r ≤ 4 ∧ n ≤ 6 ∧ SqL K H a (ls.map fun l : Nat => V.int l) ∧ ls.length ≤ 1000 ∧
  ∀ H', Same H H' → Q (.int (fillL r ls n)) H'
def leV (n : Nat) : V → Bool
  | .int l => decide (l ≤ ((n : Nat) : Int))
  | _ => false
def powV (r : Int) (n : Nat) : V → V
  | .int l => .int (r ^ (n - l.toNat))
  | v => v
theorem filter_len {ls : List Nat} {n : Nat} : (ls.map fun l : Nat => V.int l).filter (leV n) = (ls.filter fun l => decide (l ≤ n)).map fun l : Nat => V.int l := by
  rw [List.filter_map]
  congr 1
  exact List.filter_congr fun l _ => decide_eq_decide.mpr (by simp)
theorem cal_filled_nodes (T : Txt K mg) : CalG P w K mg base CX0 2 "filled_nodes" (sp_filled K) [] := by
  refine T.d_filled_nodes.cal .nil sc_filled_nodes (fun vs H Q E h => by obtain ⟨_, _, _, _, rfl, _⟩ := h; rfl) (fun f cdv A outer s H vs Q E hr h => ?_)
  obtain ⟨r, a, ls, n, rfl, r2, r4, n6, ha, hl, k⟩ := h
  refine ⟨_, (pss_one (ps_ret (pe_callB (r := rSum K) (cr_sum rfl) (by rfl) T.n_sum (by decide +kernel) (pa_cons (pe_lc (own := [("length", 3)]) (g := gName 3) (by rfl) sc_filled_nodes.nd (pi_listK (K := K) (pv 1)) (blkOk_by (own := [("length", 3)]) (N := ["radix", "lengths", "level", "length"]) (sc := (defScope s_filled_nodes)) (by decide +kernel)) (fun _ _ _ _ _ => (pg_name (i := 3) sc_filled_nodes.nd rfl (Or.inl rfl))) (fun _ _ _ _ _ => (pts_one (pt_cmpR op_le (pv 3) (pv 2) (nomark _)))) (fun _ _ _ _ _ => (pe_g (cal_level_size T) hr (by first | decide | (simp only [Nat.add_eq]; omega)) rfl (pa_cons (pv 0) (pa_cons (pe_op op_sub (pv 2) (pv 3)) pa_nil))))) pa_nil)))), ?_⟩
  refine ⟨_, rfl, a, rfl, ⟨_, ha⟩, fun D hD => lc_listPN (leV n) (powV r n) ha hD (by rw [List.length_map]; omega) ?_ ?_ ?_⟩
  · intro v hv H' Q' s' kk
    obtain ⟨l, _, rfl⟩ := List.mem_map.mp hv
    exact ⟨_, rfl, _, rfl, _, _, rfl, rfl, _, rfl, kk H' (Same.refl _)⟩
  · intro v hv hp H' Q' s' kk
    obtain ⟨l, _, rfl⟩ := List.mem_map.mp hv
    have hp : decide (((l : Nat) : Int) ≤ ((n : Nat) : Int)) = true := hp
    have hp := of_decide_eq_true hp
    have kk : Q' (.int (r ^ (n - l))) H' := kk H' (Same.refl _)
    refine ⟨_, rfl, _, rfl, _, rfl, _, _, rfl, rfl, r, n - l, ?_, r2, r4, by omega, kk⟩
    show [V.int r, V.int (((n : Nat) : Int) - ((l : Nat) : Int))] = _
    rw [show ((n : Nat) : Int) - ((l : Nat) : Int) = ((n - l : Nat) : Int) by omega]
  · intro H' s' hD'
    refine ⟨D, (ls.filter fun l => decide (l ≤ n)).map fun l => r ^ (n - l), rfl, SqL.of ?_, k _ s'⟩
    rw [hD', filter_len, List.map_map, List.map_map]
    rfl
/-! ### loads -/
theorem strsOf_strs : ∀ ks : List Str, strsOf (ks.map V.str) = ks
  | [] => rfl
  | k :: r => congrArg (List.cons k) (strsOf_strs r)
theorem selB_ks {ws : List (Str × Str)} {ks : List Str} (h : selB ws (some (ks.map V.str)) = true) : ks.Nodup ∧ (∀ z ∈ ks, (wordAt ws z).isSome = true) ∧ ks.length ≤ ws.length := by
  have h : ((ks.map V.str).all (selE ws) && decide ((uniqS (strsOf (ks.map V.str))).length = (ks.map V.str).length)) = true := h
  rw [Bool.and_eq_true, decide_eq_true_eq, strsOf_strs, List.length_map] at h
  have nd := uniq_nodup h.2
  have mem : ∀ z ∈ ks, (wordAt ws z).isSome = true := fun z hz => by
    have := List.all_eq_true.mp h.1 (V.str z) (List.mem_map_of_mem hz)
    have this : (nameB z && (wordAt ws z).isSome) = true := this
    rw [Bool.and_eq_true] at this
    exact this.2
  refine ⟨nd, mem, ?_⟩
  have := length_le_of_nodup_of_subset ks (ws.map (·.1)) nd fun z hz => by
    obtain ⟨y, hy⟩ := Option.isSome_iff_exists.mp (mem z hz)
    exact List.mem_map.mpr ⟨(z, y), wordAt_some hy, rfl⟩
  rw [List.length_map] at this
  exact this
/-- all that occupies nodes: words, reserved strings, requested lengths -/
def lensOf (ws : List (Str × Str)) (rs : List Str) (rq : List (Str × Nat)) : List Nat := (ws.map (·.2) ++ rs).map (·.length) ++ rq.map (·.2)
theorem lens_map (xs : List Str) (rq : List (Str × Nat)) : ((xs.map V.str).map (fun v => match v with | .str z => V.int (z.length : Nat) | v => v)) ++ ((rq.map (·.2)).map fun n : Nat => V.int n) = (xs.map (·.length) ++ rq.map (·.2)).map fun n : Nat => V.int n := by
  rw [List.map_append]
  congr 1
  rw [List.map_map, List.map_map]
  rfl
def wordsAt (ws : List (Str × Str)) (ks : List Str) : List Str := ks.map fun n => (wordAt ws n).getD ""
abbrev XIk (mg : Str → Option Value) : Value := .ref (clsAt mg "InvalidKept")
theorem reqB_kvs {h : Int} : ∀ {kvs : List (Key × V)}, reqB h kvs = true → ∃ rq : List (Str × Nat), kvs = kvsI rq ∧ ∀ p ∈ rq, nameB p.1 = true ∧ 1 ≤ p.2 ∧ ((p.2 : Nat) : Int) ≤ h
  | [], _ => ⟨[], rfl, fun _ h => nomatch h⟩
  | (k, v) :: l, hx => by
    unfold reqB at hx
    rw [List.all_cons, Bool.and_eq_true, Bool.and_eq_true] at hx
    obtain ⟨⟨h1, h2⟩, h3⟩ := hx
    obtain ⟨rq, rfl, ok⟩ := reqB_kvs h3
    obtain ⟨n, rfl, n1, n2⟩ := lenB_int h2
    cases k with
    | inl i => cases h1
    | inr x =>
      refine ⟨(x, n) :: rq, rfl, fun p hp => ?_⟩
      rcases List.mem_cons.mp hp with rfl | hp
      · exact ⟨h1, n1, n2⟩
      · exact ok p hp
def sp_loads (K : PySem.W.Frag) (mg : Str → Option Value) : Sp := fun vs H Q E => ∃ (b : Addr) (D : BD) (w v : V) (W : Option (List (Key × V))) (R : Option (List V)), vs = [.ref b, w, v] ∧ BookAt (CBk mg) H b D ∧ BookOk D.r D.h D.ws D.rs ∧ DicV K H w W ∧ SeqV K H v R ∧
  (∀ (rq : List (Str × Nat)) (ks : List Str), W = some (kvsI rq) → R = some (ks.map V.str) → reqB D.h (kvsI rq) = true → selB (remW D.ws (kvsI rq)) (some (ks.map V.str)) = true →
    ∀ H' p (ps : List Addr), Same H H' → H p = none → H' p = some (.lst (ps.map V.ref)) → Paired (fun q i => H q = none ∧ H' q = some (.tup (loadAt D.r (wordsAt (remW D.ws (kvsI rq)) ks ++ D.rs) (lensOf (remW D.ws (kvsI rq)) D.rs rq) i))) ps (List.range D.h.toNat) → Q (.ref p) H') ∧
  ((match W with | some kvs => reqB D.h kvs | none => false) = false → ∀ H', Same H H' → E (XIr mg) none H') ∧
  ((match W with | some kvs => reqB D.h kvs | none => false) = true → selB (remW D.ws (match W with | some kvs => kvs | none => [])) R = false → ∀ H', Same H H' → E (XIk mg) none H')
theorem cal_loads (T : Txt K mg) : CalG P w K mg base (L2.CX P w) 5 "loads" (sp_loads K mg) [] := by
  refine T.d_loads.calX .nil sc_loads (fun vs H Q E h => by obtain ⟨_, _, _, _, _, _, rfl, _⟩ := h; rfl) (fun f cdv A outer s H vs Q E hr h => ?_)
  obtain ⟨b, D, wv, v, W, R, rfl, B, ok, hW, hR, ky, kq, kn⟩ := h
  cases R with
  | none =>
      refine ⟨_, (pss_cons (ps_expr (pe_gE (cal_check_request T) hr (by first | decide | (simp only [Nat.add_eq]; omega)) rfl (fun σ => passAt (takes_of rfl rfl rfl rfl) σ) (pa_cons (pv 0) (pa_cons (pv 1) pa_nil))))
      (pss_cons (ps_set (i := 3) sc_loads.nd rfl (Or.inr rfl) (pe_g (cal_unrequested_words T) hr (by first | decide | (simp only [Nat.add_eq]; omega)) rfl (pa_cons (pv 0) (pa_cons (pv 1) pa_nil))))
      (pss_cons (ps_if (pt_not (pt_val (pe_g (cal_is_selection T) hr (by first | decide | (simp only [Nat.add_eq]; omega)) rfl (pa_cons (pv 3) (pa_cons (pv 2) pa_nil)))))
      (pss_one (ps_raise rfl (takes_of rfl rfl rfl rfl) (pmk_own PySem.F.excBase_ValueError T.x_InvalidKept.ex T.x_InvalidKept.gl T.x_InvalidKept.kp (raises_own T.x_InvalidKept.bp T.x_InvalidKept.tp) rfl)))
      pss_nil)
      (pss_cons (ps_set (i := 4) sc_loads.nd rfl (Or.inl rfl) (pe_mE0 (met_reserved T) hr (by first | decide | (simp only [Nat.add_eq]; omega)) pass00 (pv 0)))
      (pss_cons (ps_set (i := 5) sc_loads.nd rfl (Or.inr rfl) (pe_op op_cat (pe_lc (own := [("name", 7)]) (g := gName 7) (by rfl) sc_loads.nd (pi_listK (K := K) (pv 2)) (blkOk_by (own := [("name", 7)]) (N := ["book", "request", "kept", "words", "reserved", "fixed", "lengths", "name", "node", "level"]) (sc := (defScope s_loads)) (by decide +kernel)) (fun _ _ _ _ _ => (pg_name (i := 7) sc_loads.nd rfl (Or.inl rfl))) (fun _ _ _ _ _ => pts_nil) (fun _ _ _ _ _ => (pe_dget (hu_of hr.toRoom) (pv 3) (pv 7) (fun _ _ => rfl)))) (pe_callTy (r := rListQ K) call_list_of (by rfl) T.n_list (by decide +kernel) (pa_cons (pv 4) pa_nil))))
      (pss_cons (ps_set (i := 6) sc_loads.nd rfl (Or.inr rfl) (pe_op op_cat (pe_lc (own := [("node", 8)]) (g := gName 8) (by rfl) sc_loads.nd (pi_listK (K := K) (pe_op op_cat (pe_listVals rfl (pv 3) (by rfl) T.n_list (by decide +kernel)) (pe_callTy (r := rListQ K) call_list_of (by rfl) T.n_list (by decide +kernel) (pa_cons (pv 4) pa_nil)))) (blkOk_by (own := [("node", 8)]) (N := ["book", "request", "kept", "words", "reserved", "fixed", "lengths", "name", "node", "level"]) (sc := (defScope s_loads)) (by decide +kernel)) (fun _ _ _ _ _ => (pg_name (i := 8) sc_loads.nd rfl (Or.inl rfl))) (fun _ _ _ _ _ => pts_nil) (fun _ _ _ _ _ => (pe_callB call_len_str (by rfl) T.n_len (by decide +kernel) (pa_cons (pv 8) pa_nil)))) (pe_listVals rfl (pv 1) (by rfl) T.n_list (by decide +kernel))))
      (pss_one (ps_ret (pe_lc (own := [("level", 9)]) (g := gName 9) (by rfl) sc_loads.nd (pi_range2 rfl T.n_range (pa_cons pe_int (pa_cons (pe_op op_add (pe_fldK (K := K) (pv 0) rfl) pe_int) pa_nil))) (blkOk_by (own := [("level", 9)]) (N := ["book", "request", "kept", "words", "reserved", "fixed", "lengths", "name", "node", "level"]) (sc := (defScope s_loads)) (by decide +kernel)) (fun _ _ _ _ _ => (pg_name (i := 9) sc_loads.nd rfl (Or.inl rfl))) (fun _ _ _ _ _ => pts_nil) (fun _ _ _ _ _ => (pe_tup (pa_cons (pe_callB (r := rLenQ K) call_len_seq (by rfl) T.n_len (by decide +kernel) (pa_cons (pe_g (cal_touched_above T) hr (by first | decide | (simp only [Nat.add_eq]; omega)) rfl (pa_cons (pv 5) (pa_cons (pv 9) pa_nil))) pa_nil)) (pa_cons (pe_g (cal_filled_nodes T) hr (by first | decide | (simp only [Nat.add_eq]; omega)) rfl (pa_cons (pe_fldK (K := K) (pv 0) rfl) (pa_cons (pv 6) (pa_cons (pv 9) pa_nil)))) pa_nil))))))))))))), ?_⟩
      refine ⟨_, rfl, _, rfl, b, D, wv, W, rfl, B, hW, fun hy H1 s1 => ?_, fun hf H1 s1 => kq hf H1 s1⟩
      cases W with
      | none => cases hy
      | some kvs =>
        obtain ⟨rq, rfl, hrq⟩ := reqB_kvs hy
        obtain ⟨d, rfl, hd, hl, hq⟩ := hW
        refine ⟨_, rfl, _, rfl, b, d, D, kvsI rq, rfl, B.same s1, ok.nd, ok.lw, s1 _ _ hd, fun H2 wd s2 n2 hwd => ?_⟩
        have s02 := Same.trans s1 s2
        refine ⟨_, rfl, _, rfl, wd, remW D.ws (kvsI rq), _, _, rfl, hwd, hR.same s02, fun H3 s3 => ?_⟩
        have s03 := Same.trans s02 s3
        cases hx : selB (remW D.ws (kvsI rq)) none with
        | false => exact ⟨_, rfl, iteT (kn hy hx H3 s03)⟩
        | true =>
          refine ⟨_, rfl, iteF ?_⟩
          cases hx
  | some xs =>
    have hR0 := hR
    obtain ⟨a, rfl, hS, hl2, hx2⟩ := hR0
    rcases hS with ⟨hS, hT⟩ | ⟨hS, hT⟩
    · refine ⟨_, (pss_cons (ps_expr (pe_gE (cal_check_request T) hr (by first | decide | (simp only [Nat.add_eq]; omega)) rfl (fun σ => passAt (takes_of rfl rfl rfl rfl) σ) (pa_cons (pv 0) (pa_cons (pv 1) pa_nil))))
      (pss_cons (ps_set (i := 3) sc_loads.nd rfl (Or.inr rfl) (pe_g (cal_unrequested_words T) hr (by first | decide | (simp only [Nat.add_eq]; omega)) rfl (pa_cons (pv 0) (pa_cons (pv 1) pa_nil))))
      (pss_cons (ps_if (pt_not (pt_val (pe_g (cal_is_selection T) hr (by first | decide | (simp only [Nat.add_eq]; omega)) rfl (pa_cons (pv 3) (pa_cons (pv 2) pa_nil)))))
      (pss_one (ps_raise rfl (takes_of rfl rfl rfl rfl) (pmk_own PySem.F.excBase_ValueError T.x_InvalidKept.ex T.x_InvalidKept.gl T.x_InvalidKept.kp (raises_own T.x_InvalidKept.bp T.x_InvalidKept.tp) rfl)))
      pss_nil)
      (pss_cons (ps_set (i := 4) sc_loads.nd rfl (Or.inl rfl) (pe_mE0 (met_reserved T) hr (by first | decide | (simp only [Nat.add_eq]; omega)) pass00 (pv 0)))
      (pss_cons (ps_set (i := 5) sc_loads.nd rfl (Or.inr rfl) (pe_op op_cat (pe_lc (own := [("name", 7)]) (g := gName 7) (by rfl) sc_loads.nd (pi_listK (K := K) (pv 2)) (blkOk_by (own := [("name", 7)]) (N := ["book", "request", "kept", "words", "reserved", "fixed", "lengths", "name", "node", "level"]) (sc := (defScope s_loads)) (by decide +kernel)) (fun _ _ _ _ _ => (pg_name (i := 7) sc_loads.nd rfl (Or.inl rfl))) (fun _ _ _ _ _ => pts_nil) (fun _ _ _ _ _ => (pe_dget (hu_of hr.toRoom) (pv 3) (pv 7) (fun _ _ => rfl)))) (pe_callTy (r := rListQ K) call_list_of (by rfl) T.n_list (by decide +kernel) (pa_cons (pv 4) pa_nil))))
      (pss_cons (ps_set (i := 6) sc_loads.nd rfl (Or.inr rfl) (pe_op op_cat (pe_lc (own := [("node", 8)]) (g := gName 8) (by rfl) sc_loads.nd (pi_listK (K := K) (pe_op op_cat (pe_listVals rfl (pv 3) (by rfl) T.n_list (by decide +kernel)) (pe_callTy (r := rListQ K) call_list_of (by rfl) T.n_list (by decide +kernel) (pa_cons (pv 4) pa_nil)))) (blkOk_by (own := [("node", 8)]) (N := ["book", "request", "kept", "words", "reserved", "fixed", "lengths", "name", "node", "level"]) (sc := (defScope s_loads)) (by decide +kernel)) (fun _ _ _ _ _ => (pg_name (i := 8) sc_loads.nd rfl (Or.inl rfl))) (fun _ _ _ _ _ => pts_nil) (fun _ _ _ _ _ => (pe_callB call_len_str (by rfl) T.n_len (by decide +kernel) (pa_cons (pv 8) pa_nil)))) (pe_listVals rfl (pv 1) (by rfl) T.n_list (by decide +kernel))))
      (pss_one (ps_ret (pe_lc (own := [("level", 9)]) (g := gName 9) (by rfl) sc_loads.nd (pi_range2 rfl T.n_range (pa_cons pe_int (pa_cons (pe_op op_add (pe_fldK (K := K) (pv 0) rfl) pe_int) pa_nil))) (blkOk_by (own := [("level", 9)]) (N := ["book", "request", "kept", "words", "reserved", "fixed", "lengths", "name", "node", "level"]) (sc := (defScope s_loads)) (by decide +kernel)) (fun _ _ _ _ _ => (pg_name (i := 9) sc_loads.nd rfl (Or.inl rfl))) (fun _ _ _ _ _ => pts_nil) (fun _ _ _ _ _ => (pe_tup (pa_cons (pe_callB (r := rLenQ K) call_len_seq (by rfl) T.n_len (by decide +kernel) (pa_cons (pe_g (cal_touched_above T) hr (by first | decide | (simp only [Nat.add_eq]; omega)) rfl (pa_cons (pv 5) (pa_cons (pv 9) pa_nil))) pa_nil)) (pa_cons (pe_g (cal_filled_nodes T) hr (by first | decide | (simp only [Nat.add_eq]; omega)) rfl (pa_cons (pe_fldK (K := K) (pv 0) rfl) (pa_cons (pv 6) (pa_cons (pv 9) pa_nil)))) pa_nil))))))))))))), ?_⟩
      refine ⟨_, rfl, _, rfl, b, D, wv, W, rfl, B, hW, fun hy H1 s1 => ?_, fun hf H1 s1 => kq hf H1 s1⟩
      cases W with
      | none => cases hy
      | some kvs =>
        obtain ⟨rq, rfl, hrq⟩ := reqB_kvs hy
        obtain ⟨d, rfl, hd, hl, hq⟩ := hW
        refine ⟨_, rfl, _, rfl, b, d, D, kvsI rq, rfl, B.same s1, ok.nd, ok.lw, s1 _ _ hd, fun H2 wd s2 n2 hwd => ?_⟩
        have s02 := Same.trans s1 s2
        refine ⟨_, rfl, _, rfl, wd, remW D.ws (kvsI rq), _, _, rfl, hwd, hR.same s02, fun H3 s3 => ?_⟩
        have s03 := Same.trans s02 s3
        cases hx : selB (remW D.ws (kvsI rq)) (some xs) with
        | false => exact ⟨_, rfl, iteT (kn hy hx H3 s03)⟩
        | true =>
          refine ⟨_, rfl, iteF ?_⟩
          have sub := remW_sub D.ws (kvsI rq)
          have hsx := hx
          unfold selB at hsx
          rw [Bool.and_eq_true] at hsx
          have ex := sel_strs hsx.1
          obtain ⟨ks, rfl⟩ : ∃ ks : List Str, xs = ks.map V.str := ⟨_, ex⟩
          rw [List.length_map] at hl2
          obtain ⟨_, hks, hkl⟩ := selB_ks hx
          have ky := ky rq ks rfl rfl hy hx
          have B3 := B.same s03
          obtain ⟨dx, dw, l0, h1, h2, h3⟩ := id B3.ex
          have lw := ok.lw; have lr := ok.lr; have r2 := ok.r2; have r4 := ok.r4; have h6 := ok.h6; have hh1 := ok.h1
          have lrem := sub.length_le
          have hwd3 := s3 _ _ hwd
          refine ⟨_, rfl, b, dx, _, rfl, h1, rfl, b, _, rfl, B3, fun ra hra => ?_⟩
          have t4 := newS (o := .tup (D.rs.map V.str)) hra
          have s04 := Same.trans s03 t4
          have S4 := Same.seq s04 hS
          have hwd4 := t4 _ _ hwd3
          have hra4 : upd H3 ra (.tup (D.rs.map V.str)) ra = some (.tup (D.rs.map V.str)) := upd_same
          generalize upd H3 ra (.tup (D.rs.map V.str)) = H4 at t4 s04 S4 hwd4 hra4
          -- fixed
          refine ⟨_, rfl, a, rfl, ⟨_, S4⟩, fun L1 hL1 => lc_listPN (fun _ => true) (fun v => match v with | .str z => .str ((wordAt (remW D.ws (kvsI rq)) z).getD "") | v => v) S4 hL1 (by rw [List.length_map]; omega) (fun _ _ H' Q' _ kk => kk H' (Same.refl _)) ?_ ?_⟩
          · intro u hu _ H' Q' s' kk
            obtain ⟨z, hz, rfl⟩ := List.mem_map.mp hu
            obtain ⟨y, hy'⟩ := Option.isSome_iff_exists.mp (hks z hz)
            have kk := kk H' (Same.refl _)
            dsimp only at kk
            rw [hy'] at kk
            refine ⟨_, rfl, _, rfl, wd, _, rfl, .inl ⟨_, Sum.inr z, .inl (s' _ _ hwd4), rfl, ?_⟩, kk⟩
            rw [valV_kvs, hy']
            rfl
          · intro H5 s5 hL5
            have e5 : ((ks.map V.str).filter (fun _ => true)).map (fun v => match v with | .str z => V.str ((wordAt (remW D.ws (kvsI rq)) z).getD "") | v => v) = (wordsAt (remW D.ws (kvsI rq)) ks).map V.str := by
              rw [fil_all, List.map_map]
              unfold wordsAt
              rw [List.map_map]
              rfl
            rw [e5] at hL5
            have s05 := Same.trans s04 s5
            refine ⟨_, rfl, ra, _, rfl, .inr (SqT.of (s5 _ _ hra4)), fun l2 hl2' => ?_⟩
            have t6 := newS (o := .lst (D.rs.map V.str)) hl2'
            refine ⟨L1, l2, _, _, rfl, rfl, t6 _ _ hL5, upd_same, sz_le (m := 2000) (by rw [List.length_map, List.length_map]; unfold wordsAt; rw [List.length_map]; omega) rfl, fun F hF => ?_⟩
            rw [← List.map_append]
            have s06 := Same.trans s05 (Same.trans t6 (newS (o := .lst ((wordsAt (remW D.ws (kvsI rq)) ks ++ D.rs).map V.str)) hF))
            have hwd6 := Same.trans t6 (newS (o := .lst ((wordsAt (remW D.ws (kvsI rq)) ks ++ D.rs).map V.str)) hF) _ _ (s5 _ _ hwd4)
            have hra6 := Same.trans t6 (newS (o := .lst ((wordsAt (remW D.ws (kvsI rq)) ks ++ D.rs).map V.str)) hF) _ _ (s5 _ _ hra4)
            have hF6 : upd (upd H5 l2 (.lst (D.rs.map V.str))) F (.lst ((wordsAt (remW D.ws (kvsI rq)) ks ++ D.rs).map V.str)) F = some (.lst ((wordsAt (remW D.ws (kvsI rq)) ks ++ D.rs).map V.str)) := upd_same
            generalize upd (upd H5 l2 (.lst (D.rs.map V.str))) F (.lst ((wordsAt (remW D.ws (kvsI rq)) ks ++ D.rs).map V.str)) = H6 at s06 hwd6 hra6 hF6
            -- lengths
            refine ⟨_, rfl, wd, _, rfl, .inl hwd6, fun l3 hl3 => ?_⟩
            rw [kvsOf_vals]
            have t7 := newS (o := .lst (((remW D.ws (kvsI rq)).map (·.2)).map V.str)) hl3
            refine ⟨_, rfl, ra, _, rfl, .inr (SqT.of (t7 _ _ hra6)), fun l4 hl4 => ?_⟩
            have t8 := newS (o := .lst (D.rs.map V.str)) hl4
            refine ⟨l3, l4, _, _, rfl, rfl, t8 _ _ upd_same, upd_same, sz_le (m := 2000) (by rw [List.length_map, List.length_map, List.length_map]; omega) rfl, fun l5 hl5 => ?_⟩
            rw [← List.map_append]
            have t68 := Same.trans t7 (Same.trans t8 (newS (o := .lst (((remW D.ws (kvsI rq)).map (·.2) ++ D.rs).map V.str)) hl5))
            have hl5' : upd (upd (upd H6 l3 (.lst (((remW D.ws (kvsI rq)).map (·.2)).map V.str))) l4 (.lst (D.rs.map V.str))) l5 (.lst (((remW D.ws (kvsI rq)).map (·.2) ++ D.rs).map V.str)) l5 = some (.lst (((remW D.ws (kvsI rq)).map (·.2) ++ D.rs).map V.str)) := upd_same
            generalize upd (upd (upd H6 l3 (.lst (((remW D.ws (kvsI rq)).map (·.2)).map V.str))) l4 (.lst (D.rs.map V.str))) l5 (.lst (((remW D.ws (kvsI rq)).map (·.2) ++ D.rs).map V.str)) = H8 at t68 hl5'
            have small : ∀ z ∈ (remW D.ws (kvsI rq)).map (·.2) ++ D.rs, z.length ≤ 100 := fun z hz => by
              rcases List.mem_append.mp hz with hz | hz
              · obtain ⟨p, hp, rfl⟩ := List.mem_map.mp hz
                have := word_len (ok.wd p (sub.subset hp))
                omega
              · have := word_len (ok.rv z hz)
                omega
            refine ⟨l5, rfl, ⟨_, SqL.of hl5'⟩, fun L2' hL2 => lc_listPN (fun _ => true) (fun v => match v with | .str z => .int (z.length : Nat) | v => v) (SqL.of hl5') hL2 (by rw [List.length_map, List.length_append, List.length_map]; omega) (fun _ _ H' Q' _ kk => kk H' (Same.refl _)) ?_ ?_⟩
            · intro u hu _ H' Q' s' kk
              obtain ⟨z, hz, rfl⟩ := List.mem_map.mp hu
              exact ⟨_, rfl, _, rfl, sz_le (m := 100) (small z hz) rfl, kk H' (Same.refl _)⟩
            · intro H9 s9 hL9
              have s69 := Same.trans t68 s9
              have s09 := Same.trans s06 s69
              refine ⟨_, rfl, d, _, rfl, .inl (s09 _ _ hd), fun l6 hl6 => ?_⟩
              rw [kvsI_vals]
              have t9 := newS (o := .lst ((rq.map (·.2)).map fun n : Nat => V.int n)) hl6
              rw [kvsI_len] at hl
              refine ⟨L2', l6, _, _, rfl, rfl, t9 _ _ hL9, upd_same, sz_le (m := 2000) (by rw [fil_all, List.length_map, List.length_map, List.length_map, List.length_map, List.length_append, List.length_map]; omega) rfl, fun L3 hL3 => ?_⟩
              have e9 : ((((remW D.ws (kvsI rq)).map (·.2) ++ D.rs).map V.str).filter (fun _ => true)).map (fun v => match v with | .str z => V.int (z.length : Nat) | v => v) ++ ((rq.map (·.2)).map fun n : Nat => V.int n) = (lensOf (remW D.ws (kvsI rq)) D.rs rq).map fun n : Nat => V.int n := by
                unfold lensOf
                rw [fil_all]
                exact lens_map _ _
              rw [e9]
              have t910 := Same.trans t9 (newS (o := .lst ((lensOf (remW D.ws (kvsI rq)) D.rs rq).map fun n : Nat => V.int n)) hL3)
              have s010 := Same.trans s09 t910
              have hF10 := t910 _ _ (s69 _ _ hF6)
              have hL10 : upd (upd H9 l6 (.lst ((rq.map (·.2)).map fun n : Nat => V.int n))) L3 (.lst ((lensOf (remW D.ws (kvsI rq)) D.rs rq).map fun n : Nat => V.int n)) L3 = some (.lst ((lensOf (remW D.ws (kvsI rq)) D.rs rq).map fun n : Nat => V.int n)) := upd_same
              have B10 := B.same s010
              generalize upd (upd H9 l6 (.lst ((rq.map (·.2)).map fun n : Nat => V.int n))) L3 (.lst ((lensOf (remW D.ws (kvsI rq)) D.rs rq).map fun n : Nat => V.int n)) = H10 at s010 hF10 hL10 B10
              obtain ⟨ex1, ed1, el1, g1, g2, g3⟩ := id B10.ex
              refine ⟨_, rfl, b, _, ex1, _, _, rfl, g1, T.k_Codebook.cl, T.a_Codebook_depth, bookF_depth _ _ _ _, _, _, rfl, rfl, 1, D.h + 1, rfl, ⟨by omega, by omega, by omega, by omega⟩, ?_⟩
              rw [show (D.h + 1 - 1).toNat = D.h.toNat by omega]
              refine fun L hL => lc_rangeTup (loadAt D.r (wordsAt (remW D.ws (kvsI rq)) ks ++ D.rs) (lensOf (remW D.ws (kvsI rq)) D.rs rq)) hL (by omega) ?_ ?_
              · intro i hi H' Q' s' kk
                rw [show (1 : Int) + (i : Nat) = ((i + 1 : Nat) : Int) by omega]
                refine ⟨_, rfl, _, rfl, F, _, i + 1, rfl, s' _ _ hF10, ?_, ?_, fun H11 p xs s11 n11 hm nd hp => ?_⟩
                · rw [List.length_append]
                  unfold wordsAt
                  rw [List.length_map]
                  omega
                · intro z hz
                  rcases List.mem_append.mp hz with hz | hz
                  · obtain ⟨y, hy', rfl⟩ := List.mem_map.mp hz
                    obtain ⟨u, hu⟩ := Option.isSome_iff_exists.mp (hks y hy')
                    rw [hu]
                    have : 1 ≤ u.length ∧ ((u.length : Nat) : Int) ≤ D.h := word_len (ok.wd _ (sub.subset (wordAt_some hu)))
                    show u.length ≤ 100
                    omega
                  · have := word_len (ok.rv z hz)
                    omega
                · have g11 := s11 _ _ (s' _ _ g1)
                  refine ⟨_, _, rfl, .inl (SqL.of hp), _, rfl, b, _, ex1, _, _, rfl, g11, T.k_Codebook.cl, T.a_Codebook_radix, bookF_radix _ _ _ _, _, rfl, _, rfl, D.r, L3, _, i + 1, rfl, r2, r4, by omega, SqL.of (s11 _ _ (s' _ _ hL10)), ?_, fun H12 s12 => ⟨(sz_rfl rfl), fun U hU => ?_⟩⟩
                  · unfold lensOf
                    rw [List.length_append, List.length_map, List.length_append, List.length_map, List.length_map]
                    omega
                  · have := kk _ U (Same.trans s11 (Same.trans s12 (newS (o := .tup (loadAt D.r (wordsAt (remW D.ws (kvsI rq)) ks ++ D.rs) (lensOf (remW D.ws (kvsI rq)) D.rs rq) i)) hU))) (Same.free (Same.trans s11 s12) hU)
                    rw [List.length_map, srt_len, touchN_of hm nd]
                    exact this upd_same
              · intro H13 ps s13 hL13 hps
                exact ky H13 L ps (Same.trans s010 s13) (s010.free hL) hL13 (Paired.imp (fun q i z => ⟨s010.free z.1, z.2.2⟩) hps)

    · refine ⟨_, (pss_cons (ps_expr (pe_gE (cal_check_request T) hr (by first | decide | (simp only [Nat.add_eq]; omega)) rfl (fun σ => passAt (takes_of rfl rfl rfl rfl) σ) (pa_cons (pv 0) (pa_cons (pv 1) pa_nil))))
      (pss_cons (ps_set (i := 3) sc_loads.nd rfl (Or.inr rfl) (pe_g (cal_unrequested_words T) hr (by first | decide | (simp only [Nat.add_eq]; omega)) rfl (pa_cons (pv 0) (pa_cons (pv 1) pa_nil))))
      (pss_cons (ps_if (pt_not (pt_val (pe_g (cal_is_selection T) hr (by first | decide | (simp only [Nat.add_eq]; omega)) rfl (pa_cons (pv 3) (pa_cons (pv 2) pa_nil)))))
      (pss_one (ps_raise rfl (takes_of rfl rfl rfl rfl) (pmk_own PySem.F.excBase_ValueError T.x_InvalidKept.ex T.x_InvalidKept.gl T.x_InvalidKept.kp (raises_own T.x_InvalidKept.bp T.x_InvalidKept.tp) rfl)))
      pss_nil)
      (pss_cons (ps_set (i := 4) sc_loads.nd rfl (Or.inl rfl) (pe_mE0 (met_reserved T) hr (by first | decide | (simp only [Nat.add_eq]; omega)) pass00 (pv 0)))
      (pss_cons (ps_set (i := 5) sc_loads.nd rfl (Or.inr rfl) (pe_op op_cat (pe_lc (own := [("name", 7)]) (g := gName 7) (by rfl) sc_loads.nd (pi_tupK (K := K) (pv 2)) (blkOk_by (own := [("name", 7)]) (N := ["book", "request", "kept", "words", "reserved", "fixed", "lengths", "name", "node", "level"]) (sc := (defScope s_loads)) (by decide +kernel)) (fun _ _ _ _ _ => (pg_name (i := 7) sc_loads.nd rfl (Or.inl rfl))) (fun _ _ _ _ _ => pts_nil) (fun _ _ _ _ _ => (pe_dget (hu_of hr.toRoom) (pv 3) (pv 7) (fun _ _ => rfl)))) (pe_callTy (r := rListQ K) call_list_of (by rfl) T.n_list (by decide +kernel) (pa_cons (pv 4) pa_nil))))
      (pss_cons (ps_set (i := 6) sc_loads.nd rfl (Or.inr rfl) (pe_op op_cat (pe_lc (own := [("node", 8)]) (g := gName 8) (by rfl) sc_loads.nd (pi_listK (K := K) (pe_op op_cat (pe_listVals rfl (pv 3) (by rfl) T.n_list (by decide +kernel)) (pe_callTy (r := rListQ K) call_list_of (by rfl) T.n_list (by decide +kernel) (pa_cons (pv 4) pa_nil)))) (blkOk_by (own := [("node", 8)]) (N := ["book", "request", "kept", "words", "reserved", "fixed", "lengths", "name", "node", "level"]) (sc := (defScope s_loads)) (by decide +kernel)) (fun _ _ _ _ _ => (pg_name (i := 8) sc_loads.nd rfl (Or.inl rfl))) (fun _ _ _ _ _ => pts_nil) (fun _ _ _ _ _ => (pe_callB call_len_str (by rfl) T.n_len (by decide +kernel) (pa_cons (pv 8) pa_nil)))) (pe_listVals rfl (pv 1) (by rfl) T.n_list (by decide +kernel))))
      (pss_one (ps_ret (pe_lc (own := [("level", 9)]) (g := gName 9) (by rfl) sc_loads.nd (pi_range2 rfl T.n_range (pa_cons pe_int (pa_cons (pe_op op_add (pe_fldK (K := K) (pv 0) rfl) pe_int) pa_nil))) (blkOk_by (own := [("level", 9)]) (N := ["book", "request", "kept", "words", "reserved", "fixed", "lengths", "name", "node", "level"]) (sc := (defScope s_loads)) (by decide +kernel)) (fun _ _ _ _ _ => (pg_name (i := 9) sc_loads.nd rfl (Or.inl rfl))) (fun _ _ _ _ _ => pts_nil) (fun _ _ _ _ _ => (pe_tup (pa_cons (pe_callB (r := rLenQ K) call_len_seq (by rfl) T.n_len (by decide +kernel) (pa_cons (pe_g (cal_touched_above T) hr (by first | decide | (simp only [Nat.add_eq]; omega)) rfl (pa_cons (pv 5) (pa_cons (pv 9) pa_nil))) pa_nil)) (pa_cons (pe_g (cal_filled_nodes T) hr (by first | decide | (simp only [Nat.add_eq]; omega)) rfl (pa_cons (pe_fldK (K := K) (pv 0) rfl) (pa_cons (pv 6) (pa_cons (pv 9) pa_nil)))) pa_nil))))))))))))), ?_⟩
      refine ⟨_, rfl, _, rfl, b, D, wv, W, rfl, B, hW, fun hy H1 s1 => ?_, fun hf H1 s1 => kq hf H1 s1⟩
      cases W with
      | none => cases hy
      | some kvs =>
        obtain ⟨rq, rfl, hrq⟩ := reqB_kvs hy
        obtain ⟨d, rfl, hd, hl, hq⟩ := hW
        refine ⟨_, rfl, _, rfl, b, d, D, kvsI rq, rfl, B.same s1, ok.nd, ok.lw, s1 _ _ hd, fun H2 wd s2 n2 hwd => ?_⟩
        have s02 := Same.trans s1 s2
        refine ⟨_, rfl, _, rfl, wd, remW D.ws (kvsI rq), _, _, rfl, hwd, hR.same s02, fun H3 s3 => ?_⟩
        have s03 := Same.trans s02 s3
        cases hx : selB (remW D.ws (kvsI rq)) (some xs) with
        | false => exact ⟨_, rfl, iteT (kn hy hx H3 s03)⟩
        | true =>
          refine ⟨_, rfl, iteF ?_⟩
          have sub := remW_sub D.ws (kvsI rq)
          have hsx := hx
          unfold selB at hsx
          rw [Bool.and_eq_true] at hsx
          have ex := sel_strs hsx.1
          obtain ⟨ks, rfl⟩ : ∃ ks : List Str, xs = ks.map V.str := ⟨_, ex⟩
          rw [List.length_map] at hl2
          obtain ⟨_, hks, hkl⟩ := selB_ks hx
          have ky := ky rq ks rfl rfl hy hx
          have B3 := B.same s03
          obtain ⟨dx, dw, l0, h1, h2, h3⟩ := id B3.ex
          have lw := ok.lw; have lr := ok.lr; have r2 := ok.r2; have r4 := ok.r4; have h6 := ok.h6; have hh1 := ok.h1
          have lrem := sub.length_le
          have hwd3 := s3 _ _ hwd
          refine ⟨_, rfl, b, dx, _, rfl, h1, rfl, b, _, rfl, B3, fun ra hra => ?_⟩
          have t4 := newS (o := .tup (D.rs.map V.str)) hra
          have s04 := Same.trans s03 t4
          have S4 := same_seqT s04 hS
          have hwd4 := t4 _ _ hwd3
          have hra4 : upd H3 ra (.tup (D.rs.map V.str)) ra = some (.tup (D.rs.map V.str)) := upd_same
          generalize upd H3 ra (.tup (D.rs.map V.str)) = H4 at t4 s04 S4 hwd4 hra4
          -- fixed
          refine ⟨_, rfl, a, rfl, ⟨_, S4⟩, fun L1 hL1 => lc_tupPN (fun _ => true) (fun v => match v with | .str z => .str ((wordAt (remW D.ws (kvsI rq)) z).getD "") | v => v) S4 hL1 (by rw [List.length_map]; omega) (fun _ _ H' Q' _ kk => kk H' (Same.refl _)) ?_ ?_⟩
          · intro u hu _ H' Q' s' kk
            obtain ⟨z, hz, rfl⟩ := List.mem_map.mp hu
            obtain ⟨y, hy'⟩ := Option.isSome_iff_exists.mp (hks z hz)
            have kk := kk H' (Same.refl _)
            dsimp only at kk
            rw [hy'] at kk
            refine ⟨_, rfl, _, rfl, wd, _, rfl, .inl ⟨_, Sum.inr z, .inl (s' _ _ hwd4), rfl, ?_⟩, kk⟩
            rw [valV_kvs, hy']
            rfl
          · intro H5 s5 hL5
            have e5 : ((ks.map V.str).filter (fun _ => true)).map (fun v => match v with | .str z => V.str ((wordAt (remW D.ws (kvsI rq)) z).getD "") | v => v) = (wordsAt (remW D.ws (kvsI rq)) ks).map V.str := by
              rw [fil_all, List.map_map]
              unfold wordsAt
              rw [List.map_map]
              rfl
            rw [e5] at hL5
            have s05 := Same.trans s04 s5
            refine ⟨_, rfl, ra, _, rfl, .inr (SqT.of (s5 _ _ hra4)), fun l2 hl2' => ?_⟩
            have t6 := newS (o := .lst (D.rs.map V.str)) hl2'
            refine ⟨L1, l2, _, _, rfl, rfl, t6 _ _ hL5, upd_same, sz_le (m := 2000) (by rw [List.length_map, List.length_map]; unfold wordsAt; rw [List.length_map]; omega) rfl, fun F hF => ?_⟩
            rw [← List.map_append]
            have s06 := Same.trans s05 (Same.trans t6 (newS (o := .lst ((wordsAt (remW D.ws (kvsI rq)) ks ++ D.rs).map V.str)) hF))
            have hwd6 := Same.trans t6 (newS (o := .lst ((wordsAt (remW D.ws (kvsI rq)) ks ++ D.rs).map V.str)) hF) _ _ (s5 _ _ hwd4)
            have hra6 := Same.trans t6 (newS (o := .lst ((wordsAt (remW D.ws (kvsI rq)) ks ++ D.rs).map V.str)) hF) _ _ (s5 _ _ hra4)
            have hF6 : upd (upd H5 l2 (.lst (D.rs.map V.str))) F (.lst ((wordsAt (remW D.ws (kvsI rq)) ks ++ D.rs).map V.str)) F = some (.lst ((wordsAt (remW D.ws (kvsI rq)) ks ++ D.rs).map V.str)) := upd_same
            generalize upd (upd H5 l2 (.lst (D.rs.map V.str))) F (.lst ((wordsAt (remW D.ws (kvsI rq)) ks ++ D.rs).map V.str)) = H6 at s06 hwd6 hra6 hF6
            -- lengths
            refine ⟨_, rfl, wd, _, rfl, .inl hwd6, fun l3 hl3 => ?_⟩
            rw [kvsOf_vals]
            have t7 := newS (o := .lst (((remW D.ws (kvsI rq)).map (·.2)).map V.str)) hl3
            refine ⟨_, rfl, ra, _, rfl, .inr (SqT.of (t7 _ _ hra6)), fun l4 hl4 => ?_⟩
            have t8 := newS (o := .lst (D.rs.map V.str)) hl4
            refine ⟨l3, l4, _, _, rfl, rfl, t8 _ _ upd_same, upd_same, sz_le (m := 2000) (by rw [List.length_map, List.length_map, List.length_map]; omega) rfl, fun l5 hl5 => ?_⟩
            rw [← List.map_append]
            have t68 := Same.trans t7 (Same.trans t8 (newS (o := .lst (((remW D.ws (kvsI rq)).map (·.2) ++ D.rs).map V.str)) hl5))
            have hl5' : upd (upd (upd H6 l3 (.lst (((remW D.ws (kvsI rq)).map (·.2)).map V.str))) l4 (.lst (D.rs.map V.str))) l5 (.lst (((remW D.ws (kvsI rq)).map (·.2) ++ D.rs).map V.str)) l5 = some (.lst (((remW D.ws (kvsI rq)).map (·.2) ++ D.rs).map V.str)) := upd_same
            generalize upd (upd (upd H6 l3 (.lst (((remW D.ws (kvsI rq)).map (·.2)).map V.str))) l4 (.lst (D.rs.map V.str))) l5 (.lst (((remW D.ws (kvsI rq)).map (·.2) ++ D.rs).map V.str)) = H8 at t68 hl5'
            have small : ∀ z ∈ (remW D.ws (kvsI rq)).map (·.2) ++ D.rs, z.length ≤ 100 := fun z hz => by
              rcases List.mem_append.mp hz with hz | hz
              · obtain ⟨p, hp, rfl⟩ := List.mem_map.mp hz
                have := word_len (ok.wd p (sub.subset hp))
                omega
              · have := word_len (ok.rv z hz)
                omega
            refine ⟨l5, rfl, ⟨_, SqL.of hl5'⟩, fun L2' hL2 => lc_listPN (fun _ => true) (fun v => match v with | .str z => .int (z.length : Nat) | v => v) (SqL.of hl5') hL2 (by rw [List.length_map, List.length_append, List.length_map]; omega) (fun _ _ H' Q' _ kk => kk H' (Same.refl _)) ?_ ?_⟩
            · intro u hu _ H' Q' s' kk
              obtain ⟨z, hz, rfl⟩ := List.mem_map.mp hu
              exact ⟨_, rfl, _, rfl, sz_le (m := 100) (small z hz) rfl, kk H' (Same.refl _)⟩
            · intro H9 s9 hL9
              have s69 := Same.trans t68 s9
              have s09 := Same.trans s06 s69
              refine ⟨_, rfl, d, _, rfl, .inl (s09 _ _ hd), fun l6 hl6 => ?_⟩
              rw [kvsI_vals]
              have t9 := newS (o := .lst ((rq.map (·.2)).map fun n : Nat => V.int n)) hl6
              rw [kvsI_len] at hl
              refine ⟨L2', l6, _, _, rfl, rfl, t9 _ _ hL9, upd_same, sz_le (m := 2000) (by rw [fil_all, List.length_map, List.length_map, List.length_map, List.length_map, List.length_append, List.length_map]; omega) rfl, fun L3 hL3 => ?_⟩
              have e9 : ((((remW D.ws (kvsI rq)).map (·.2) ++ D.rs).map V.str).filter (fun _ => true)).map (fun v => match v with | .str z => V.int (z.length : Nat) | v => v) ++ ((rq.map (·.2)).map fun n : Nat => V.int n) = (lensOf (remW D.ws (kvsI rq)) D.rs rq).map fun n : Nat => V.int n := by
                unfold lensOf
                rw [fil_all]
                exact lens_map _ _
              rw [e9]
              have t910 := Same.trans t9 (newS (o := .lst ((lensOf (remW D.ws (kvsI rq)) D.rs rq).map fun n : Nat => V.int n)) hL3)
              have s010 := Same.trans s09 t910
              have hF10 := t910 _ _ (s69 _ _ hF6)
              have hL10 : upd (upd H9 l6 (.lst ((rq.map (·.2)).map fun n : Nat => V.int n))) L3 (.lst ((lensOf (remW D.ws (kvsI rq)) D.rs rq).map fun n : Nat => V.int n)) L3 = some (.lst ((lensOf (remW D.ws (kvsI rq)) D.rs rq).map fun n : Nat => V.int n)) := upd_same
              have B10 := B.same s010
              generalize upd (upd H9 l6 (.lst ((rq.map (·.2)).map fun n : Nat => V.int n))) L3 (.lst ((lensOf (remW D.ws (kvsI rq)) D.rs rq).map fun n : Nat => V.int n)) = H10 at s010 hF10 hL10 B10
              obtain ⟨ex1, ed1, el1, g1, g2, g3⟩ := id B10.ex
              refine ⟨_, rfl, b, _, ex1, _, _, rfl, g1, T.k_Codebook.cl, T.a_Codebook_depth, bookF_depth _ _ _ _, _, _, rfl, rfl, 1, D.h + 1, rfl, ⟨by omega, by omega, by omega, by omega⟩, ?_⟩
              rw [show (D.h + 1 - 1).toNat = D.h.toNat by omega]
              refine fun L hL => lc_rangeTup (loadAt D.r (wordsAt (remW D.ws (kvsI rq)) ks ++ D.rs) (lensOf (remW D.ws (kvsI rq)) D.rs rq)) hL (by omega) ?_ ?_
              · intro i hi H' Q' s' kk
                rw [show (1 : Int) + (i : Nat) = ((i + 1 : Nat) : Int) by omega]
                refine ⟨_, rfl, _, rfl, F, _, i + 1, rfl, s' _ _ hF10, ?_, ?_, fun H11 p xs s11 n11 hm nd hp => ?_⟩
                · rw [List.length_append]
                  unfold wordsAt
                  rw [List.length_map]
                  omega
                · intro z hz
                  rcases List.mem_append.mp hz with hz | hz
                  · obtain ⟨y, hy', rfl⟩ := List.mem_map.mp hz
                    obtain ⟨u, hu⟩ := Option.isSome_iff_exists.mp (hks y hy')
                    rw [hu]
                    have : 1 ≤ u.length ∧ ((u.length : Nat) : Int) ≤ D.h := word_len (ok.wd _ (sub.subset (wordAt_some hu)))
                    show u.length ≤ 100
                    omega
                  · have := word_len (ok.rv z hz)
                    omega
                · have g11 := s11 _ _ (s' _ _ g1)
                  refine ⟨_, _, rfl, .inl (SqL.of hp), _, rfl, b, _, ex1, _, _, rfl, g11, T.k_Codebook.cl, T.a_Codebook_radix, bookF_radix _ _ _ _, _, rfl, _, rfl, D.r, L3, _, i + 1, rfl, r2, r4, by omega, SqL.of (s11 _ _ (s' _ _ hL10)), ?_, fun H12 s12 => ⟨(sz_rfl rfl), fun U hU => ?_⟩⟩
                  · unfold lensOf
                    rw [List.length_append, List.length_map, List.length_append, List.length_map, List.length_map]
                    omega
                  · have := kk _ U (Same.trans s11 (Same.trans s12 (newS (o := .tup (loadAt D.r (wordsAt (remW D.ws (kvsI rq)) ks ++ D.rs) (lensOf (remW D.ws (kvsI rq)) D.rs rq) i)) hU))) (Same.free (Same.trans s11 s12) hU)
                    rw [List.length_map, srt_len, touchN_of hm nd]
                    exact this upd_same
              · intro H13 ps s13 hL13 hps
                exact ky H13 L ps (Same.trans s010 s13) (s010.free hL) hL13 (Paired.imp (fun q i z => ⟨s010.free z.1, z.2.2⟩) hps)

/-! ### failing_level -/
def sp_failing (K : PySem.W.Frag) (mg : Str → Option Value) : Sp := fun vs H Q E => ∃ (b : Addr) (D : BD) (w v : V) (W : Option (List (Key × V))) (R : Option (List V)), vs = [.ref b, w, v] ∧ BookAt (CBk mg) H b D ∧ BookOk D.r D.h D.ws D.rs ∧ DicV K H w W ∧ SeqV K H v R ∧
  (∀ (rq : List (Str × Nat)) (ks : List Str), W = some (kvsI rq) → R = some (ks.map V.str) → reqB D.h (kvsI rq) = true → selB (remW D.ws (kvsI rq)) (some (ks.map V.str)) = true →
    ∀ H', Same H H' → Q (failV (failFrom D.r (wordsAt (remW D.ws (kvsI rq)) ks ++ D.rs) (lensOf (remW D.ws (kvsI rq)) D.rs rq) 0 D.h.toNat)) H') ∧
  ((match W with | some kvs => reqB D.h kvs | none => false) = false → ∀ H', Same H H' → E (XIr mg) none H') ∧
  ((match W with | some kvs => reqB D.h kvs | none => false) = true → selB (remW D.ws (match W with | some kvs => kvs | none => [])) R = false → ∀ H', Same H H' → E (XIk mg) none H')
theorem cal_failing_level (T : Txt K mg) : CalG P w K mg base (L2.CX P w) 6 "failing_level" (sp_failing K mg) [] := by
  refine T.d_failing_level.calX .nil sc_failing_level (fun vs H Q E h => by obtain ⟨_, _, _, _, _, _, rfl, _⟩ := h; rfl) (fun f cdv A outer s H vs Q E hr h => ?_)
  obtain ⟨b, D, wv, v, W, R, rfl, B, ok, hW, hR, ky, kq, kn⟩ := h
  refine ⟨_, (pss_cons (ps_for (passes_of rfl) rfl (pi_enum1 (K := K) rfl T.n_enumerate (pa_cons (pe_gE (cal_loads T) hr (by first | decide | (simp only [Nat.add_eq]; omega)) rfl (fun σ => passAt (takes_of rfl rfl rfl rfl) σ) (pa_cons (pv 0) (pa_cons (pv 1) (pa_cons (pv 2) pa_nil)))) pa_nil) (pk_cons pe_int pk_nil)) (pg_tup (by rfl) (pgs_cons (pg_name (i := 3) sc_failing_level.nd rfl (Or.inl rfl)) (pgs_cons (pg_tup (by rfl) (pgs_cons (pg_name (i := 4) sc_failing_level.nd rfl (Or.inl rfl)) (pgs_cons (pg_name (i := 5) sc_failing_level.nd rfl (Or.inl rfl)) pgs_nil))) pgs_nil)))
      (pss_one (ps_if (pt_cmpR op_gt (pe_op op_add (pv 4) (pv 5)) (pe_g (cal_level_size T) hr (by first | decide | (simp only [Nat.add_eq]; omega)) rfl (pa_cons (pe_fldK (K := K) (pv 0) rfl) (pa_cons (pv 3) pa_nil))) (nomark _))
      (pss_one (ps_ret (pv 3)))
      pss_nil)))
      (pss_one (ps_ret pe_non))), ?_⟩
  refine ⟨_, rfl, _, rfl, _, rfl, b, D, wv, v, W, R, rfl, B, ok, hW, hR, fun rq ks e1 e2 hy hx H1 p ps s1 n1 hp hps => ?_, kq, kn⟩
  have ky := ky rq ks e1 e2 hy hx
  generalize wordsAt (remW D.ws (kvsI rq)) ks ++ D.rs = fx at hps ky
  generalize lensOf (remW D.ws (kvsI rq)) D.rs rq = ls at hps ky
  have h6 := ok.h6; have hh1 := ok.h1; have r2 := ok.r2; have r4 := ok.r4
  obtain ⟨hh, eh⟩ := Int.eq_ofNat_of_zero_le (show 0 ≤ D.h by omega)
  rw [eh, Int.toNat_natCast] at hps ky
  have hlen : ps.length = hh := by rw [hps.length, List.length_range]
  refine ⟨p, ps.map V.ref, 1, rfl, rfl, SqL.of hp, by decide, by decide, ?_⟩
  refine for_enum1 (fun i σ H' => ∃ o3 o4 o5 : Option V, σ = [some (.ref b), some wv, some v, o3, o4, o5] ∧ Same H1 H' ∧ failFrom D.r fx ls 0 hh = failFrom D.r fx ls i (hh - i)) ⟨none, none, none, rfl, Same.refl _, rfl⟩ (fun i σ H' h => by obtain ⟨_, _, _, _, s', _⟩ := h; exact SqL.of (s' _ _ hp)) ?_ ?_
  · rintro i x U σ H2 hx ⟨o3, o4, o5, rfl, s2, ef⟩ hU
    obtain ⟨q, hq, rfl⟩ := getMap hx
    obtain ⟨j, hj, h1, h2⟩ := Paired.at hps hq
    have hi : i < hh := by rw [← hlen]; exact (List.getElem?_eq_some_iff.mp hq).1
    obtain rfl : j = i := by
      rw [List.getElem?_range hi] at hj
      exact (Option.some.inj hj).symm
    have tU := newS (o := .tup [.int (1 + (j : Nat)), .ref q]) hU
    have h2' := tU _ _ (s2 _ _ h2)
    refine ⟨U, _, rfl, SqT.of upd_same, rfl, _, _, rfl, _, _, rfl, q, _, rfl, SqT.of h2', rfl, _, _, rfl, _, _, rfl, rfl, rfl, ?_⟩
    have B2 := ((B.same s1).same s2).same tU
    obtain ⟨dx, dw, l0, g1, g2, g3⟩ := id B2.ex
    refine ⟨_, rfl, _, rfl, _, _, rfl, rfl, _, rfl, b, _, dx, _, _, rfl, g1, T.k_Codebook.cl, T.a_Codebook_radix, bookF_radix _ _ _ _, _, rfl, D.r, j + 1, ?_, r2, r4, by omega, ?_⟩
    · show [V.int D.r, V.int (1 + (j : Nat))] = _
      rw [show (1 : Int) + (j : Nat) = ((j + 1 : Nat) : Int) by omega]
    refine ⟨_, _, rfl, rfl, _, rfl, ?_⟩
    obtain ⟨m, hm⟩ : ∃ m, hh - j = m + 1 := ⟨hh - j - 1, by omega⟩
    rw [hm] at ef
    refine if_b (fun c => ?_) (fun c => ?_)
    · have e2 : failFrom D.r fx ls j (m + 1) = some (j + 1) := if_pos c
      rw [ef, e2] at ky
      refine ⟨_, rfl, ?_⟩
      have this := ky _ (Same.trans s1 (Same.trans s2 tU))
      have ee : failV (some (j + 1)) = V.int (1 + (j : Nat)) := by
        show V.int _ = _
        congr 1
        omega
      rw [ee] at this
      exact this
    · have e2 : failFrom D.r fx ls j (m + 1) = failFrom D.r fx ls (j + 1) m := if_neg (by rw [show failAt D.r fx ls j = false from c]; exact Bool.false_ne_true)
      exact ⟨_, _, _, rfl, Same.trans s2 tU, by rw [ef, e2]; congr 1; omega⟩
  · rintro σ H2 ⟨o3, o4, o5, rfl, s2, ef⟩
    rw [List.length_map, hlen, Nat.sub_self] at ef
    rw [ef] at ky
    exact ky _ (Same.trans s1 s2)
/-! ### a book's arguments in another order -/
theorem small_book {r h : Int} {ws : List (Str × Str)} {rs : List Str} (ok : BookOk r h ws rs) : (∀ p ∈ ws, Small p.1 ∧ Small p.2) ∧ (∀ p ∈ rs, Small p) ∧ ws.length ≤ 100 ∧ rs.length ≤ 100 := by
  have lw := ok.lw
  have lr := ok.lr
  exact ⟨fun p hp => ⟨name_small (ok.nm p hp), word_small (ok.wd p hp) ok.r4 ok.h6⟩, fun p hp => word_small (ok.rv p hp) ok.r4 ok.h6, by omega, by omega⟩
theorem mkBook_okD {r h : Int} {ws : List (Str × Str)} {rs : List Str} (ok : BookOk r h ws rs) : BookOk r h (mkBook r h ws rs).ws (mkBook r h ws rs).rs :=
  ok.perm (by rw [mkBook_ws]; exact pick_perm ok.nd (srt_perm _)) (srt_perm rs)
theorem mkBook_nd {r h : Int} {ws : List (Str × Str)} {rs : List Str} (ok : BookOk r h ws rs) : ((mkBook r h ws rs).ws.map (·.1)).Nodup := by
  rw [mkBook_ws, pick_names]
  exact (srt_perm _).nodup_iff.mpr ok.nd
theorem mk_perm2 {r h : Int} {ws ws' : List (Str × Str)} {rs rs' : List Str} (hn : (ws.map (·.1)).Nodup) (p : ws'.Perm ws) (q : rs'.Perm rs) : mkBook r h ws' rs' = mkBook r h ws rs := by
  rw [mkBook_perm hn p]
  unfold mkBook
  rw [show srt rs' = srt rs from srt_eq ((srt_perm rs).trans q.symm) (srt_asc rs)]
/-! ### loads and failing_level, asked as the law asks them -/
structure CaseOk (h : Int) (ws : List (Str × Str)) (rq : List (Str × Nat)) (ks : List Str) : Prop where
  qn : (rq.map (·.1)).Nodup
  qo : ∀ q ∈ rq, nameB q.1 = true ∧ 1 ≤ q.2 ∧ ((q.2 : Nat) : Int) ≤ h
  ql : rq.length ≤ 30
  kn : ks.Nodup
  km : ∀ z ∈ ks, z ∈ (remW ws (kvsI rq)).map (·.1)
theorem rem_perm {ws ws' : List (Str × Str)} (p : ws'.Perm ws) (kvs : List (Key × V)) : (remW ws' kvs).Perm (remW ws kvs) := p.filter _
theorem rem_at {ws : List (Str × Str)} (nd : (ws.map (·.1)).Nodup) {kvs : List (Key × V)} {z : Str} (h : z ∈ (remW ws kvs).map (·.1)) : wordAt (remW ws kvs) z = wordAt ws z ∧ (wordAt ws z).isSome = true := by
  obtain ⟨p, hp, rfl⟩ := List.mem_map.mp h
  have s := remW_sub ws kvs
  rw [wordAt_nodup (nd.sublist (s.map _)) hp, wordAt_nodup nd (s.subset hp)]
  exact ⟨rfl, rfl⟩
theorem perm_nodup {ws ws' : List (Str × Str)} (p : ws'.Perm ws) (nd : (ws.map (·.1)).Nodup) : (ws'.map (·.1)).Nodup := (p.map (·.1)).nodup_iff.mpr nd
theorem case_words {h : Int} {ws ws' : List (Str × Str)} {rq : List (Str × Nat)} {ks ks' : List Str} (c : CaseOk h ws rq ks) (nd : (ws.map (·.1)).Nodup) (p : ws'.Perm ws) (kp : ks'.Perm ks) : (wordsAt (remW ws' (kvsI rq)) ks').Perm (wordsAt ws ks) := by
  have e : wordsAt (remW ws' (kvsI rq)) ks' = wordsAt ws ks' := by
    unfold wordsAt
    refine List.map_congr_left fun z hz => ?_
    have hm : z ∈ (remW ws' (kvsI rq)).map (·.1) := ((rem_perm p _).map (·.1)).mem_iff.mpr (c.km z (kp.mem_iff.mp hz))
    rw [(rem_at (perm_nodup p nd) hm).1, wordAt_perm nd p]
  rw [e]
  exact kp.map _
theorem case_lens {ws ws' : List (Str × Str)} {rs rs' : List Str} {rq : List (Str × Nat)} (p : ws'.Perm ws) (q : rs'.Perm rs) : (lensOf (remW ws' (kvsI rq)) rs' rq).Perm (lensOf (remW ws (kvsI rq)) rs rq) := by
  unfold lensOf
  exact ((((rem_perm p _).map _).append q).map _).append_right _
theorem loadAt_perm {r : Int} {fx fx' : List Str} {ls ls' : List Nat} (p : fx'.Perm fx) (q : ls'.Perm ls) (i : Nat) : loadAt r fx' ls' i = loadAt r fx ls i := by
  unfold loadAt
  rw [touchN_perm p, fillL_perm q]
theorem failFrom_perm {r : Int} {fx fx' : List Str} {ls ls' : List Nat} (p : fx'.Perm fx) (q : ls'.Perm ls) : ∀ m i : Nat, failFrom r fx' ls' i m = failFrom r fx ls i m
  | 0, _ => rfl
  | m + 1, i => by
    have e : failAt r fx' ls' i = failAt r fx ls i := by
      unfold failAt
      rw [touchN_perm p, fillL_perm q]
    unfold failFrom
    rw [e, failFrom_perm p q m (i + 1)]
theorem nodup_uniq {xs : List Str} (h : xs.Nodup) : (uniqS xs).length = xs.length := len_eq_of_mem (uniqS_all xs).1 h (uniqS_all xs).2.1
theorem case_sel {h r : Int} {ws ws' : List (Str × Str)} {rs : List Str} {rq : List (Str × Nat)} {ks ks' : List Str} (c : CaseOk h ws rq ks) (ok : BookOk r h ws rs) (p : ws'.Perm ws) (kp : ks'.Perm ks) : selB (remW ws' (kvsI rq)) (some (ks'.map V.str)) = true := by
  show ((ks'.map V.str).all (selE (remW ws' (kvsI rq))) && decide ((uniqS (strsOf (ks'.map V.str))).length = (ks'.map V.str).length)) = true
  rw [Bool.and_eq_true, decide_eq_true_eq, strsOf_strs, List.length_map]
  refine ⟨List.all_eq_true.mpr fun v hv => ?_, nodup_uniq (kp.nodup_iff.mpr c.kn)⟩
  obtain ⟨z, hz, rfl⟩ := List.mem_map.mp hv
  have hm : z ∈ (remW ws' (kvsI rq)).map (·.1) := ((rem_perm p _).map (·.1)).mem_iff.mpr (c.km z (kp.mem_iff.mp hz))
  obtain ⟨e1, e2⟩ := rem_at (perm_nodup p ok.nd) hm
  show (nameB z && (wordAt (remW ws' (kvsI rq)) z).isSome) = true
  rw [e1, e2, Bool.and_true]
  obtain ⟨q, hq, rfl⟩ := List.mem_map.mp hm
  exact ok.nm q (p.mem_iff.mp ((remW_sub _ _).subset hq))
theorem case_req {h : Int} {ws : List (Str × Str)} {rq : List (Str × Nat)} {ks : List Str} (c : CaseOk h ws rq ks) : reqB h (kvsI rq) = true := by
  unfold reqB
  refine List.all_eq_true.mpr fun q hq => ?_
  obtain ⟨p, hp, rfl⟩ := List.mem_map.mp hq
  obtain ⟨h1, h2, h3⟩ := c.qo p hp
  show (nameB p.1 && (decide ((1 : Int) ≤ (p.2 : Nat)) && decide (((p.2 : Nat) : Int) ≤ h))) = true
  rw [h1, decide_eq_true (show (1 : Int) ≤ (p.2 : Nat) by omega), decide_eq_true h3]
  rfl
theorem dicV_I {K : PySem.W.Frag} {H : Hp} {a : Addr} {h : Int} {ws : List (Str × Str)} {rq : List (Str × Nat)} {ks : List Str} (c : CaseOk h ws rq ks) (ha : H a = some (.dK (kvsI rq))) : DicV K H (.ref a) (some (kvsI rq)) := by
  refine ⟨a, rfl, ha, by rw [kvsI_len]; have := c.ql; omega, fun q hq => ?_⟩
  obtain ⟨p, hp, rfl⟩ := List.mem_map.mp hq
  refine ⟨.num _, (fun x e => by cases e), fun x e => ?_⟩
  cases e
  have := name_len (c.qo p hp).1
  omega
theorem kvsI_inj {a b : List (Str × Nat)} (h : kvsI a = kvsI b) : a = b := by
  unfold kvsI at h
  refine (List.map_inj_right (fun p q e => ?_)).mp h
  obtain ⟨a1, a2⟩ := p
  obtain ⟨b1, b2⟩ := q
  have e1 : a1 = b1 := Sum.inr.inj (Prod.mk.inj e).1
  have e2 : ((a2 : Nat) : Int) = (b2 : Nat) := V.int.inj (Prod.mk.inj e).2
  rw [e1, show a2 = b2 by omega]
theorem use_loads {H : Hp} {b d : Addr} {r h : Int} {ws : List (Str × Str)} {rs : List Str} {rq : List (Str × Nat)} {ks ks' : List Str} {v : V} {Q : VK} {E : XK} (ok : BookOk r h ws rs) (c : CaseOk h ws rq ks) (kp : ks'.Perm ks) (B : BookAt (CBk mg) H b (mkBook r h ws rs)) (hd : H d = some (.dK (kvsI rq))) (hv : SeqV K H v (some (ks'.map V.str)))
    (k : ∀ H' p (ps : List Addr), Same H H' → H p = none → H' p = some (.lst (ps.map V.ref)) → Paired (fun q i => H q = none ∧ H' q = some (.tup (loadAt r (wordsAt ws ks ++ rs) (lensOf (remW ws (kvsI rq)) rs rq) i))) ps (List.range h.toNat) → Q (.ref p) H') : sp_loads K mg [.ref b, .ref d, v] H Q E := by
  have okD := mkBook_okD ok
  have pw : (mkBook r h ws rs).ws.Perm ws := by rw [mkBook_ws]; exact pick_perm ok.nd (srt_perm _)
  have pr : (mkBook r h ws rs).rs.Perm rs := srt_perm rs
  refine ⟨b, mkBook r h ws rs, .ref d, v, some (kvsI rq), some (ks'.map V.str), rfl, B, okD, dicV_I c hd, hv, fun rq' ks2 e1 e2 _ _ H' p ps s n hp hps => ?_, fun hf => ?_, fun _ hf => ?_⟩
  · have := kvsI_inj (Option.some.inj e1)
    subst this
    have := strs_inj (Option.some.inj e2)
    subst this
    refine k H' p ps s n hp (Paired.imp (fun q i z => ⟨z.1, ?_⟩) hps)
    rw [z.2]
    exact congrArg (fun x => some (HO.tup x)) (loadAt_perm ((case_words c ok.nd pw kp).append pr) (case_lens pw pr) i)
  · have hf : reqB h (kvsI rq) = false := hf
    rw [case_req c] at hf
    cases hf
  · have hf : selB (remW (mkBook r h ws rs).ws (kvsI rq)) (some (ks'.map V.str)) = false := hf
    rw [case_sel c ok pw kp] at hf
    cases hf
theorem use_failing {H : Hp} {b d : Addr} {r h : Int} {ws : List (Str × Str)} {rs : List Str} {rq : List (Str × Nat)} {ks ks' : List Str} {v : V} {Q : VK} {E : XK} (ok : BookOk r h ws rs) (c : CaseOk h ws rq ks) (kp : ks'.Perm ks) (B : BookAt (CBk mg) H b (mkBook r h ws rs)) (hd : H d = some (.dK (kvsI rq))) (hv : SeqV K H v (some (ks'.map V.str)))
    (k : ∀ H', Same H H' → Q (failV (failFrom r (wordsAt ws ks ++ rs) (lensOf (remW ws (kvsI rq)) rs rq) 0 h.toNat)) H') : sp_failing K mg [.ref b, .ref d, v] H Q E := by
  have okD := mkBook_okD ok
  have pw : (mkBook r h ws rs).ws.Perm ws := by rw [mkBook_ws]; exact pick_perm ok.nd (srt_perm _)
  have pr : (mkBook r h ws rs).rs.Perm rs := srt_perm rs
  refine ⟨b, mkBook r h ws rs, .ref d, v, some (kvsI rq), some (ks'.map V.str), rfl, B, okD, dicV_I c hd, hv, fun rq' ks2 e1 e2 _ _ H' s => ?_, fun hf => ?_, fun _ hf => ?_⟩
  · have := kvsI_inj (Option.some.inj e1)
    subst this
    have := strs_inj (Option.some.inj e2)
    subst this
    have := k H' s
    rw [← failFrom_perm ((case_words c ok.nd pw kp).append pr) (case_lens pw pr)] at this
    exact this
  · have hf : reqB h (kvsI rq) = false := hf
    rw [case_req c] at hf
    cases hf
  · have hf : selB (remW (mkBook r h ws rs).ws (kvsI rq)) (some (ks'.map V.str)) = false := hf
    rw [case_sel c ok pw kp] at hf
    cases hf
/-! ### the results as data -/
def dLoad (r : Int) (ts : List Str) (ls : List Nat) (h : Nat) : PyData := .list ((List.range h).map fun i => .tuple [.int (touchN ts (i + 1) : Nat), .int (fillL r ls (i + 1))])
theorem dpN_load {H : Hp} {r : Int} {ts : List Str} {ls : List Nat} {p : Addr} {ps : List Addr} {is : List Nat} (hp : H p = some (.lst (ps.map V.ref))) (pr : Paired (fun q i => H q = some (.tup (loadAt r ts ls i))) ps is) : DpN K H (.ref p) (.list (is.map fun i => .tuple [.int (touchN ts (i + 1) : Nat), .int (fillL r ls (i + 1))])) := by
  refine .lst (.inl hp) ?_
  clear hp
  induction pr with
  | nil => exact .nil
  | cons h _ ih => exact .cons (.tup (SqT.of h) (.cons (.flat (x := .int _) rfl) (.cons (.flat (x := .int _) rfl) .nil))) ih
theorem dp_load {H : Hp} {r : Int} {ts : List Str} {ls : List Nat} {p : Addr} {ps : List Addr} {is : List Nat} (hp : H p = some (.lst (ps.map V.ref))) (pr : Paired (fun q i => H q = some (.tup (loadAt r ts ls i))) ps is) : Dp K H (.ref p) (.list (is.map fun i => .tuple [.int (touchN ts (i + 1) : Nat), .int (fillL r ls (i + 1))])) := by
  refine .lst (SqL.of hp) ?_
  clear hp
  induction pr with
  | nil => exact .nil
  | cons h _ ih => exact .cons (.tup (SqT.of h) (.cons (.int _) (.cons (.int _) .nil))) ih
theorem lay_all : ∀ {ds : List PyData}, (∀ d ∈ ds, d.canLay0 = true) → PyData.canLayAll0 ds = true
  | [], _ => rfl
  | d :: r, h => by
    show (PyData.canLay0 d && PyData.canLayAll0 r) = true
    rw [h d (List.mem_cons_self ..), lay_all fun p hp => h p (List.mem_cons_of_mem _ hp)]
    rfl
theorem lay_load (r : Int) (ts : List Str) (ls : List Nat) (h : Nat) : (dLoad r ts ls h).canLay0 = true := lay_all fun d hd => by
  obtain ⟨i, _, rfl⟩ := List.mem_map.mp hd
  rfl
theorem fillL_bound {r : Int} (r2 : 2 ≤ r) (r4 : r ≤ 4) {n : Nat} (n6 : n ≤ 6) : ∀ ls : List Nat, 0 ≤ fillL r ls n ∧ fillL r ls n ≤ 4096 * (ls.length : Nat)
  | [] => ⟨Int.le_refl 0, Int.le_refl 0⟩
  | l :: t => by
    obtain ⟨h1, h2⟩ := fillL_bound r2 r4 n6 t
    obtain ⟨p1, p2⟩ := pow_bound r2 r4 (n := n - l) (by omega)
    unfold fillL at *
    rw [List.filter_cons, List.length_cons]
    by_cases hl : l ≤ n
    · rw [if_pos (decide_eq_true hl), List.map_cons, List.sum_cons]
      omega
    · rw [if_neg (by simpa using hl)]
      omega
theorem touchN_le (ts : List Str) (n : Nat) : touchN ts n ≤ ts.length := by
  have h1 := (uniqS_all ((ts.filter fun t => decide (n < t.length)).map (cutN n))).2.2
  have h2 := List.length_filter_le (fun t : Str => decide (n < t.length)) ts
  rw [List.length_map] at h1
  unfold touchN
  omega
theorem shd_load {r : Int} (r2 : 2 ≤ r) (r4 : r ≤ 4) {ts : List Str} {ls : List Nat} {h : Nat} (h6 : h ≤ 6) (tl : ts.length ≤ 200) (ll : ls.length ≤ 1000) : Shd (dLoad r ts ls h) 2 15000 := by
  refine (shd_list (k := 1) (n := 2 * (1002 + 2) + 3) (m := 6) (fun d hd => ?_) (by rw [List.length_map, List.length_range]; exact h6)).mono (Nat.le_refl _) (by decide)
  obtain ⟨i, hi, rfl⟩ := List.mem_map.mp hd
  have hi := List.mem_range.mp hi
  have b1 := touchN_le ts (i + 1)
  obtain ⟨b2, b3⟩ := fillL_bound r2 r4 (n := i + 1) (by omega) ls
  refine shd_tup (k := 0) (n := 1002) (m := 2) (fun d hd => ?_) (by simp)
  rcases List.mem_cons.mp hd with rfl | hd
  · exact shd_int (by omega) (by omega)
  · rw [List.mem_singleton.mp hd]
    exact shd_int b2 (by omega)
theorem fail_le {r : Int} {fx : List Str} {ls : List Nat} : ∀ (m i : Nat) {n : Nat}, failFrom r fx ls i m = some n → n ≤ i + m
  | 0, _, _, h => by cases h
  | m + 1, i, n, h => by
    unfold failFrom at h
    by_cases c : failAt r fx ls i = true
    · rw [if_pos c] at h
      cases h
      omega
    · rw [if_neg c] at h
      have := fail_le m (i + 1) h
      omega
theorem shd_fail {r : Int} {fx : List Str} {ls : List Nat} {m : Nat} (hm : m ≤ 6) : flatOk (failV (failFrom r fx ls 0 m)) = true ∧ Shd (flatD (failV (failFrom r fx ls 0 m))) 0 1002 := by
  cases e : failFrom r fx ls 0 m with
  | none => exact ⟨rfl, shd_non⟩
  | some n =>
    have := fail_le m 0 e
    exact ⟨rfl, shd_int (by show (0 : Int) ≤ (n : Nat); omega) (by show ((n : Nat) : Int) < _; omega)⟩
def wV (ws : List (Str × Str)) : V → V
  | .str z => .str ((wordAt ws z).getD "")
  | v => v
theorem map_wV (ws : List (Str × Str)) (ks : List Str) : ((ks.map V.str).filter (fun _ => true)).map (wV ws) = (wordsAt ws ks).map V.str := by
  rw [fil_all, List.map_map]
  unfold wordsAt
  rw [List.map_map]
  rfl
theorem case_some {h : Int} {ws : List (Str × Str)} {rq : List (Str × Nat)} {ks : List Str} (c : CaseOk h ws rq ks) (nd : (ws.map (·.1)).Nodup) {z : Str} (hz : z ∈ ks) : ∃ x, wordAt ws z = some x ∧ (z, x) ∈ ws := by
  obtain ⟨x, hx⟩ := Option.isSome_iff_exists.mp (rem_at nd (c.km z hz)).2
  exact ⟨x, hx, wordAt_some hx⟩
theorem case_small {r h : Int} {ws : List (Str × Str)} {rs : List Str} {rq : List (Str × Nat)} {ks : List Str} (c : CaseOk h ws rq ks) (ok : BookOk r h ws rs) : ∀ t ∈ wordsAt ws ks ++ rs, t.length ≤ 100 := fun t ht => by
  have h6 := ok.h6
  rcases List.mem_append.mp ht with ht | ht
  · obtain ⟨z, hz, rfl⟩ := List.mem_map.mp ht
    obtain ⟨x, hx, hm⟩ := case_some c ok.nd hz
    rw [hx]
    have : 1 ≤ x.length ∧ ((x.length : Nat) : Int) ≤ h := word_len (ok.wd _ hm)
    show x.length ≤ 100
    omega
  · have := word_len (ok.rv t ht)
    omega
def dSeen (rq : List (Str × Nat)) (ks : List Str) : PyData := .tuple [dI rq, .list (ks.map PyData.str)]
theorem dpN_seen {H : Hp} {t q l : Addr} {rq : List (Str × Nat)} {ks : List Str} (ht : H t = some (.tup [.ref q, .ref l])) (hq : H q = some (.dK (kvsI rq))) (hl : H l = some (.lst (ks.map V.str))) : DpN K H (.ref t) (dSeen rq ks) :=
  .tup (SqT.of ht) (.cons (dpN_dI (.inl hq)) (.cons (dpN_strs (.inl hl)) .nil))
theorem shd_seen {r h : Int} {ws : List (Str × Str)} {rs : List Str} {rq : List (Str × Nat)} {ks : List Str} (c : CaseOk h ws rq ks) (ok : BookOk r h ws rs) (hl : ks.length ≤ 50) : Shd (dSeen rq ks) 2 700000 := by
  have h6 := ok.h6
  refine (shd_tup (k := 1) (n := 300000) (m := 2) (fun d hd => ?_) (by simp)).mono (Nat.le_refl _) (by decide)
  rcases List.mem_cons.mp hd with rfl | hd
  · exact shd_dI (fun p hp => ⟨name_small (c.qo p hp).1, by have := (c.qo p hp).2.2; omega⟩) (by have := c.ql; omega)
  · rw [List.mem_singleton.mp hd]
    exact (shd_strs (fun x hx => by
      obtain ⟨y, _, hm⟩ := case_some c ok.nd hx
      exact name_small (ok.nm _ hm)) (by omega)).mono (Nat.le_refl _) (by decide)
theorem seq_small {K : PySem.W.Frag} {H : Hp} {a : Addr} {r h : Int} {ws : List (Str × Str)} {rs : List Str} {rq : List (Str × Nat)} {ks ks' : List Str} (c : CaseOk h ws rq ks) (ok : BookOk r h ws rs) (kp : ks'.Perm ks) (hl : ks.length ≤ 50) (hs : (SqL K H a (ks'.map V.str) ∧ TyX K H (.ref a) (.type "list")) ∨ (SqT K H a (ks'.map V.str) ∧ TyX K H (.ref a) (.type "tuple"))) : SeqV K H (.ref a) (some (ks'.map V.str)) :=
  seqV_of (fun x hx => by
    obtain ⟨y, _, hm⟩ := case_some c ok.nd (kp.mem_iff.mp hx)
    have : nameB x = true := ok.nm _ hm
    have := name_len this
    omega) (by rw [kp.length_eq]; omega) hs
theorem newAt {H : Hp} {a : Addr} {o : HO} (_ : H a = none) : upd H a o a = some o := upd_same
theorem scal_fail (o : Option Nat) : scal (failV o) (failV o) = true := by cases o <;> rfl
theorem word_s {r h : Int} {x : Str} (hx : wordB r h x = true) (h6 : h ≤ 6) : x.length ≤ 100 := by have := word_len hx; omega
/-- the digits of a radix -/
def digs (r : Int) : List Nat := (cutS "0123456789" none (some r)).cps.toList
theorem digs_2 : digs 2 = [48, 49] := by decide +kernel
theorem digs_3 : digs 3 = [48, 49, 50] := by decide +kernel
theorem digs_4 : digs 4 = [48, 49, 50, 51] := by decide +kernel
theorem rad_cases {r : Int} (r2 : 2 ≤ r) (r4 : r ≤ 4) : r = 2 ∨ r = 3 ∨ r = 4 := by omega
theorem digs_len {r : Int} (r2 : 2 ≤ r) (r4 : r ≤ 4) : (digs r).length ≤ 4 := by
  rcases rad_cases r2 r4 with rfl | rfl | rfl
  · rw [digs_2]; decide
  · rw [digs_3]; decide
  · rw [digs_4]; decide
theorem lvl_bound {r : Int} (r2 : 2 ≤ r) (r4 : r ≤ 4) {n : Nat} (h : n ≤ 6) : (lvl (digs r) n).length ≤ 4096 := by
  rw [lvl_len]
  have h1 : (digs r).length ^ n ≤ 4 ^ n := Nat.pow_le_pow_left (digs_len r2 r4) n
  have h2 : 4 ^ n ≤ 4 ^ 6 := Nat.pow_le_pow_right (by decide) h
  have : (4 : Nat) ^ 6 = 4096 := by decide
  omega
theorem digs_asc {r : Int} (r2 : 2 ≤ r) (r4 : r ≤ 4) : (digs r).Pairwise (· < ·) := by
  rcases rad_cases r2 r4 with rfl | rfl | rfl
  · rw [digs_2]; decide
  · rw [digs_3]; decide
  · rw [digs_4]; decide
theorem digs_of {r : Int} (r2 : 2 ≤ r) (r4 : r ≤ 4) {c : Nat} (h1 : 48 ≤ c) (h2 : (c : Int) < 48 + r) : c ∈ digs r := by
  rcases rad_cases r2 r4 with rfl | rfl | rfl
  · rw [digs_2]; simp; omega
  · rw [digs_3]; simp; omega
  · rw [digs_4]; simp; omega
theorem digs_word {r h : Int} (r2 : 2 ≤ r) (r4 : r ≤ 4) {x : Str} (hx : wordB r h x = true) : ∀ c ∈ TL.tl x, c ∈ digs r := fun c hc => by
  obtain ⟨h1, h2⟩ := word_signs hx c hc
  exact digs_of r2 r4 h1 h2
def sp_nodes (K : PySem.W.Frag) : Sp := fun vs H Q _ => ∃ (r : Int) (n : Nat), vs = [.int r, .int (n : Nat)] ∧ 2 ≤ r ∧ r ≤ 4 ∧ n ≤ 6 ∧ ∀ H' p, Same H H' → H p = none → H' p = some (.lst ((lvl (digs r) n).map V.str)) → Q (.ref p) H'
theorem cal_nodes_of_level (T : Txt K mg) : CalG P w K mg base CX0 1 "nodes_of_level" (sp_nodes K) [] := by
  refine T.d_nodes_of_level.cal .nil sc_nodes_of_level (fun vs H Q E h => by obtain ⟨_, _, rfl, _⟩ := h; rfl) (fun f cdv A outer s H vs Q E hr h => ?_)
  obtain ⟨r, n, rfl, r2, r4, n6, k⟩ := h
  refine ⟨_, (pss_cons (ps_set (i := 2) sc_nodes_of_level.nd rfl (Or.inl rfl) (pe_lst (pa_cons pe_str pa_nil)))
      (pss_cons (ps_for PassesOwn.never rfl (pi_range1 rfl T.n_range (pa_cons (pv 1) pa_nil)) (pg_name (i := 3) sc_nodes_of_level.nd rfl (Or.inl rfl))
      (pss_one (ps_setLc2 (i := 2) (own := [("node", 4), ("digit", 5)]) (vs1 := [5]) (g := gName 4) (g1 := gName 5) (by rfl) sc_nodes_of_level.nd rfl rfl (sw_true2 rfl rfl rfl (by decide +kernel)) (pi_listK (K := K) (pv 2)) (blkOk_by (own := [("node", 4), ("digit", 5)]) (N := ["radix", "level", "nodes", "_", "node", "digit"]) (sc := (defScope s_nodes_of_level)) (by decide +kernel)) (by decide) (fun _ _ _ _ _ => (pg_name (i := 4) sc_nodes_of_level.nd rfl (Or.inl rfl))) (fun _ _ _ _ _ => pts_nil) (fun _ _ _ _ _ => (pi_str (pe_slice sl_str (C8.pe_gc rfl T.c_DIGITS) po_none (po_some (pv 0))))) (fun _ _ _ _ _ => (pg_name (i := 5) sc_nodes_of_level.nd rfl (Or.inl rfl))) (fun _ _ _ _ _ => pts_nil) (fun _ _ _ _ _ => (pe_op op_add_str (pv 4) (pv 5))))))
      (pss_one (ps_ret (pv 2))))), ?_⟩
  refine ⟨(sz_rfl rfl), fun q hq => ?_⟩
  refine ⟨_, rfl, _, rfl, by omega, by omega, ?_⟩
  rw [show (((n : Nat) : Int).toNat) = n from Int.toNat_natCast _]
  refine for_range (lo := 0) (n := n) (fun i σ H' => ∃ (q : Addr) (o3 o4 o5 : Option V), σ = [some (.int r), some (.int (n : Nat)), some (.ref q), o3, o4, o5] ∧ Same H H' ∧ H q = none ∧ H' q = some (.lst ((lvl (digs r) i).map V.str)))
    ⟨q, none, none, none, rfl, newS hq, hq, upd_same⟩ ?_ ?_
  · rintro i σ H1 hi ⟨q, o3, o4, o5, rfl, s1, hq0, hq1⟩
    refine ⟨_, rfl, q, rfl, ⟨_, SqL.of hq1⟩, fun D hD => lc2_grow (xs := lvl (digs r) i) (ds := cutS "0123456789" none (some r)) (by decide) (SqL.of hq1) hD ?_ ?_ ?_ ?_⟩
    · have h1 := lvl_bound r2 r4 (n := i) (by omega)
      have h2 := digs_len r2 r4
      have : (lvl (digs r) i).length * (digs r).length ≤ 4096 * 4 := Nat.mul_le_mul h1 h2
      show (lvl (digs r) i).length * (digs r).length < _
      omega
    · intro x hx H' R s' kk
      exact ⟨_, rfl, _, rfl, _, rfl, (by first | exact sz_rfl rfl | exact sz_le (by assumption) rfl | (refine sz_le (m := 1000000) ?_ rfl; omega)), _, rfl, kk⟩
    · intro x hx c hc H' Q' s' kk
      have hl := (lvl_of hx).1
      exact ⟨_, rfl, _, rfl, _, _, rfl, rfl, sz_le (m := 100) (by show x.length + 1 ≤ 100; omega) rfl, kk⟩
    · exact ⟨D, _, _, _, rfl, Same.trans s1 (newS hD), s1.free hD, upd_same⟩
  · rintro σ H1 ⟨q, o3, o4, o5, rfl, s1, hq0, hq1⟩
    exact ⟨_, rfl, k H1 q s1 hq0 hq1⟩
def sp_free_beside (K : PySem.W.Frag) : Sp := fun vs H Q _ => ∃ (r : Int) (n : Nat) (ta : Addr) (ts : List Str), vs = [.int r, .ref ta, .int (n : Nat)] ∧ 2 ≤ r ∧ r ≤ 4 ∧ n ≤ 6 ∧ H ta = some (.lst (ts.map V.str)) ∧ ts.length ≤ 400 ∧ (∀ x ∈ ts, x.length ≤ 100) ∧
  ∀ H' p, Same H H' → H p = none → H' p = some (.lst (((lvl (digs r) n).filter (freeB ts)).map V.str)) → Q (.ref p) H'
theorem lc_listT {K : PySem.W.Frag} {a : Addr} {xs : List V} {j : Nat} {tt : TT} {te : TE} {σ : L2.St} {H1 : Hp} {D : Addr} {Qd : Hp → Prop} (p : V → Bool) (f : V → V) (hS : SqL K H1 a xs) (hD : H1 D = none) (hx : xs.length < 16777216)
    (ht : ∀ x ∈ xs, ∀ (H' : Hp) (Q' : Bool → Hp → Prop), Same H1 H' → (∀ H'', Same H' H'' → Q' (p x) H'') → tt ((wipe σ [j]).set j (some x)) H' Q')
    (he : ∀ x ∈ xs, p x = true → ∀ (H' : Hp) (Q' : VK), Same H1 H' → Q' (f x) H' → te ((wipe σ [j]).set j (some x)) H' Q') (hd : ∀ H', Same H1 H' → H' D = some (.lst ((xs.filter p).map f)) → Qd H') :
    LcG (Itl K a) (gName j) tt te [j] σ H1 D Qd := by
  refine lc_it (walk_list (K := K) (a := a) (xs := xs)) (fun i H => Same H1 H ∧ H D = some (.lst (((xs.take i).filter p).map f))) ⟨same_new (Same.refl _) hD, upd_same⟩ (fun i H _ e => Same.seq e.1 hS) ?_ (fun H e => hd H e.1 (by rw [e.2, List.take_length]))
  rintro i x H H' hi ⟨s, hDi⟩ ⟨rfl, e0⟩
  refine ⟨wipe_set1 _ _ _, ?_⟩
  have hm := List.mem_of_getElem? e0
  have hl : i < xs.length := (List.getElem?_eq_some_iff.mp e0).1
  refine ht x hm _ _ s fun H2 s2 => ?_
  refine if_b (fun hp => ?_) (fun hp => ?_)
  · refine he x hm hp _ _ (Same.trans s s2) ⟨_, s2 _ _ hDi, ?_, same_new (Same.trans s s2) hD, ?_⟩
    · rw [List.length_map]
      have h1 := List.length_filter_le p (xs.take i)
      rw [List.length_take] at h1
      exact Nat.lt_of_lt_of_le (show _ < 16777216 by omega) (by decide)
    · rw [upd_same, take_snoc e0, List.filter_append, List.map_append, List.filter_cons, hp]
      rfl
  · refine ⟨Same.trans s s2, ?_⟩
    rw [s2 _ _ hDi, take_snoc e0, List.filter_append, List.filter_cons, hp]
    simp
theorem cut_keys (n : Nat) (ts : List Str) (x : Str) : (valV (mergeK [] ((ts.map V.str).map fun v => ((match v with | .str z => Sum.inr (cutN n z) | _ => Sum.inl 0 : Key), V.bl true))) (.inr x)).isSome = decide (x ∈ ts.map (cutN n)) := by
  have gen : ∀ (ts : List Str) (kvs : List (Key × V)), (valV (mergeK kvs ((ts.map V.str).map fun v => ((match v with | .str z => Sum.inr (cutN n z) | _ => Sum.inl 0 : Key), V.bl true))) (.inr x)).isSome = ((valV kvs (.inr x)).isSome || decide (x ∈ ts.map (cutN n))) := by
    intro ts
    induction ts with
    | nil => intro kvs; simp [mergeK]
    | cons t r ih =>
      intro kvs
      show (valV (mergeK (putK kvs (.inr (cutN n t)) (.bl true)) _) _).isSome = _
      rw [ih, valV_put]
      by_cases hx : (Sum.inr x : Key) = Sum.inr (cutN n t)
      · have hx' : x = cutN n t := Sum.inr.inj hx
        rw [if_pos hx]
        simp [hx']
      · have hx' : x ≠ cutN n t := fun q => hx (by rw [q])
        rw [if_neg hx]
        simp [hx']
  rw [gen ts []]
  simp [valV_nil]
theorem cal_free_beside (T : Txt K mg) : CalG P w K mg base CX0 2 "free_beside" (sp_free_beside K) [] := by
  refine T.d_free_beside.cal .nil sc_free_beside (fun vs H Q E h => by obtain ⟨_, _, _, _, rfl, _⟩ := h; rfl) (fun f cdv A outer s H vs Q E hr h => ?_)
  obtain ⟨r, n, ta, ts, rfl, r2, r4, n6, hta, htl, htx, k⟩ := h
  refine ⟨_, (pss_cons (ps_set (i := 3) sc_free_beside.nd rfl (Or.inr rfl) (pe_dc (own := [("node", 4)]) (g := gName 4) (by rfl) sc_free_beside.nd (pi_listK (K := K) (pv 1)) (blkOk_by (own := [("node", 4)]) (N := ["radix", "taken", "level", "cut", "node", "above"]) (sc := (defScope s_free_beside)) (by decide +kernel)) (fun _ _ _ _ _ => (pg_name (i := 4) sc_free_beside.nd rfl (Or.inl rfl))) (fun _ _ _ _ _ => pts_nil) (fun _ _ _ _ _ => (pe_slice sl_str (pv 4) po_none (po_some (pv 2)))) (fun _ _ _ _ _ => pe_bl)))
      (pss_one (ps_ret (pe_lc (own := [("node", 4)]) (g := gName 4) (by rfl) sc_free_beside.nd (pi_listK (K := K) (pe_g (cal_nodes_of_level T) hr (by first | decide | (simp only [Nat.add_eq]; omega)) rfl (pa_cons (pv 0) (pa_cons (pv 2) pa_nil)))) (blkOk_by (own := [("node", 4)]) (N := ["radix", "taken", "level", "cut", "node", "above"]) (sc := (defScope s_free_beside)) (by decide +kernel)) (fun _ _ _ _ _ => (pg_name (i := 4) sc_free_beside.nd rfl (Or.inl rfl))) (fun _ _ _ _ _ => (pts_one (PW.pt (pw_and (pt_cmp (pc_dnotin (hu_of hr.toRoom) (pv 4) (pv 3))) (pw_and1 (pt_not (pt_val (pe_callB (r := rAny K) (cr_any rfl) (by rfl) T.n_any (by decide +kernel) (pa_cons (pe_lc (own := [("above", 5)]) (g := gName 5) (by rfl) sc_free_beside.nd (pi_listK (K := K) (pe_g (cal_ancestors T) hr (by first | decide | (simp only [Nat.add_eq]; omega)) rfl (pa_cons (pv 4) pa_nil))) (by refine blkOk_by (own := [("above", 5)]) (N := ["radix", "taken", "level", "cut", "node", "above"]) ?_; kernel_rfl) (fun _ _ _ _ _ => (pg_name (i := 5) sc_free_beside.nd rfl (Or.inl rfl))) (fun _ _ _ _ _ => pts_nil) (fun _ _ _ _ _ => (pe_cmp (pc_din (hu_of hr.toRoom) (pv 5) (pv 3)) rfl))) pa_nil))))))))) (fun _ _ _ _ _ => (pv 4)))))), ?_⟩
  refine ⟨_, rfl, ta, rfl, ⟨_, SqL.of hta⟩, fun D hD => dc_listF (fun v => match v with | .str z => .inr (cutN n z) | _ => .inl 0) (fun _ => .bl true) (SqL.of hta) hD (by rw [List.length_map]; omega) ?_ ?_ ?_⟩
  · intro v hv H' Q' s' kk
    obtain ⟨z, hz, rfl⟩ := List.mem_map.mp hv
    have := htx z hz
    exact ⟨_, rfl, _, rfl, _, rfl, z, rfl, sz_le (m := 100) (by omega) rfl, kk⟩
  · intro v hv H' Q' s' kk
    exact kk
  have hck := cut_keys n ts
  generalize mergeK [] ((ts.map V.str).map fun v => ((match v with | .str z => Sum.inr (cutN n z) | _ => Sum.inl 0 : Key), V.bl true)) = kvs at hck ⊢
  have t1 := newS (o := .dK kvs) hD
  refine ⟨_, rfl, _, rfl, r, n, rfl, r2, r4, n6, fun H2 p s2 hp0 hp => ?_⟩
  have t2 := Same.trans t1 s2
  have hD2 := s2 _ _ (show upd H D (.dK kvs) D = some (.dK kvs) from upd_same)
  refine ⟨p, rfl, ⟨_, SqL.of hp⟩, fun E2 hE2 => lc_listT (fun v => match v with | .str z => freeB ts z | _ => false) (fun v => v) (SqL.of hp) hE2 (by rw [List.length_map]; have := lvl_bound r2 r4 n6; omega) ?_ ?_ ?_⟩
  · intro v hv H' Q' s' kk
    obtain ⟨x, hx, rfl⟩ := List.mem_map.mp hv
    have hxl := (lvl_of hx).1
    have hfr := freeB_cut (ts := ts) hxl
    refine ⟨_, rfl, _, rfl, D, _, rfl, DGet.k (k := Sum.inr x) (s' _ _ hD2), _, rfl, ?_⟩
    rw [hck x]
    cases c1 : decide (x ∈ ts.map (cutN n)) with
    | true =>
      rw [c1] at hfr
      have e : freeB ts x = false := by rw [← hfr]; rfl
      have := kk H' (Same.refl _)
      rw [show (match V.str x with | .str z => freeB ts z | _ => false) = freeB ts x from rfl, e] at this
      refine if_f rfl ?_
      exact this
    | false =>
      refine if_t rfl ?_
      rw [c1] at hfr
      refine ⟨_, rfl, x, rfl, by omega, fun H3 q s3 hq0 hq => ?_⟩
      refine ⟨q, rfl, ⟨_, SqL.of hq⟩, fun E3 hE3 => lc_listF (f := fun v => match v with | .str z => .bl (decide (z ∈ ts.map (cutN n))) | _ => .non) (SqL.of hq) hE3 (by rw [List.length_map, anc_len]; omega) ?_ ?_⟩
      · intro u hu H4 Q4 s4 q4
        obtain ⟨z, hz, rfl⟩ := List.mem_map.mp hu
        refine ⟨_, rfl, _, rfl, D, _, rfl, DGet.k (k := Sum.inr z) (s4 _ _ (s3 _ _ (s' _ _ hD2))), ?_⟩
        rw [hck z]
        exact q4
      · have em : ((anc x).map V.str).map (fun v => match v with | .str z => V.bl (decide (z ∈ ts.map (cutN n))) | _ => .non) = ((anc x).map fun z => decide (z ∈ ts.map (cutN n))).map V.bl := by
          rw [List.map_map, List.map_map]
          rfl
        refine ⟨E3, (anc x).map fun z => decide (z ∈ ts.map (cutN n)), rfl, SqL.of (by rw [upd_same, em]), _, rfl, ?_⟩
        have ea : ((anc x).map fun z => decide (z ∈ ts.map (cutN n))).any id = (anc x).any fun z => decide (z ∈ ts.map (cutN n)) := by rw [List.any_map]; rfl
        rw [ea]
        have := kk _ (Same.trans s3 (newS (o := .lst (((anc x).map V.str).map fun v => match v with | .str z => V.bl (decide (z ∈ ts.map (cutN n))) | _ => .non)) hE3))
        rw [show (match V.str x with | .str z => freeB ts z | _ => false) = freeB ts x from rfl, ← hfr] at this
        exact this
  · intro v hv hp' H' Q' s' kk
    exact ⟨_, rfl, kk⟩
  · intro H3 s3 hE3
    have ef : (((lvl (digs r) n).map V.str).filter fun v => match v with | .str z => freeB ts z | _ => false).map (fun v => v) = ((lvl (digs r) n).filter (freeB ts)).map V.str := by
      rw [List.map_id', List.filter_map]
      rfl
    rw [ef] at hE3
    exact k H3 E2 (Same.trans t2 s3) (t2.free hE2) hE3
/-! ### kept and moved names -/
theorem perm_ext {α : Type} [DecidableEq α] {l1 l2 : List α} (h1 : l1.Nodup) (h2 : l2.Nodup) (h : ∀ x, x ∈ l1 ↔ x ∈ l2) : l1.Perm l2 := perm_of_sub h1 (fun x hx => (h x).mp hx) (Nat.le_of_eq (len_eq_of_mem h1 h2 h).symm)
theorem words_filter {ws : List (Str × Str)} (nd : (ws.map (·.1)).Nodup) {ks : List Str} (kn : ks.Nodup) (km : ∀ z ∈ ks, z ∈ ws.map (·.1)) : (wordsAt ws ks).Perm ((ws.filter fun p => decide (p.1 ∈ ks)).map (·.2)) := by
  have sub : (ws.filter fun p => decide (p.1 ∈ ks)).Sublist ws := List.filter_sublist
  have p1 : ks.Perm ((ws.filter fun p => decide (p.1 ∈ ks)).map (·.1)) := perm_ext kn (nd.sublist (sub.map _)) fun x => by
    rw [List.mem_map]
    constructor
    · intro hx
      obtain ⟨q, hq, rfl⟩ := List.mem_map.mp (km x hx)
      exact ⟨q, List.mem_filter.mpr ⟨hq, decide_eq_true hx⟩, rfl⟩
    · rintro ⟨q, hq, rfl⟩
      exact of_decide_eq_true (List.mem_filter.mp hq).2
  have p2 := p1.map fun n => (wordAt ws n).getD ""
  have e : ((ws.filter fun p => decide (p.1 ∈ ks)).map (·.1)).map (fun n => (wordAt ws n).getD "") = (ws.filter fun p => decide (p.1 ∈ ks)).map (·.2) := by
    rw [List.map_map]
    refine List.map_congr_left fun q hq => ?_
    show (wordAt ws q.1).getD "" = q.2
    rw [wordAt_nodup nd (sub.subset hq)]
    rfl
  rw [e] at p2
  exact p2
theorem fixed_pf {r h : Int} {ws : List (Str × Str)} {rs : List Str} (ok : BookOk r h ws rs) {ks : List Str} (kn : ks.Nodup) (km : ∀ z ∈ ks, z ∈ ws.map (·.1)) : PF (wordsAt ws ks ++ rs) := by
  have sub : (ws.filter fun p => decide (p.1 ∈ ks)).Sublist ws := List.filter_sublist
  refine List.Perm.pairwise ((words_filter ok.nd kn km).append_right rs).symm (pf_sub ok.pf ((sub.map _).append (List.Sublist.refl _))) fun h => by rw [cmpS_symm]; exact h
/-- the lengths that move -/
def movedL (ws : List (Str × Str)) (rq : List (Str × Nat)) (ks : List Str) : List Nat := rq.map (·.2) ++ ((remW ws (kvsI rq)).filter fun p => !decide (p.1 ∈ ks)).map fun p => p.2.length
theorem lens_split {r h : Int} {ws : List (Str × Str)} {rs : List Str} (ok : BookOk r h ws rs) {rq : List (Str × Nat)} {ks : List Str} (kn : ks.Nodup) (km : ∀ z ∈ ks, z ∈ (remW ws (kvsI rq)).map (·.1)) :
    (lensOf (remW ws (kvsI rq)) rs rq).Perm ((wordsAt ws ks ++ rs).map (·.length) ++ movedL ws rq ks) := by
  have ndr : ((remW ws (kvsI rq)).map (·.1)).Nodup := ok.nd.sublist ((remW_sub _ _).map _)
  have ew : wordsAt (remW ws (kvsI rq)) ks = wordsAt ws ks := by
    unfold wordsAt
    exact List.map_congr_left fun z hz => by rw [(rem_at ok.nd (km z hz)).1]
  have p1 := (words_filter ndr kn km).map (·.length)
  rw [ew, List.map_map] at p1
  have p2 := (List.filter_append_perm (fun p : Str × Str => decide (p.1 ∈ ks)) (remW ws (kvsI rq))).map fun p => p.2.length
  rw [List.map_append] at p2
  unfold lensOf movedL
  rw [List.map_append, List.map_append, List.map_map]
  have q1 : ((remW ws (kvsI rq)).map ((fun x : Str => x.length) ∘ fun p => p.2)).Perm ((wordsAt ws ks).map (·.length) ++ ((remW ws (kvsI rq)).filter fun p => !decide (p.1 ∈ ks)).map fun p => p.2.length) := p2.symm.trans (p1.symm.append_right _)
  refine (q1.append_right _).append_right _ |>.trans ?_
  generalize (wordsAt ws ks).map (·.length) = A
  generalize ((remW ws (kvsI rq)).filter fun p => !decide (p.1 ∈ ks)).map (fun p => p.2.length) = B
  generalize rs.map (·.length) = C
  generalize rq.map (·.2) = D
  rw [List.append_assoc, List.append_assoc, List.append_assoc]
  refine List.Perm.append_left A ?_
  have := List.perm_append_comm (l₁ := B) (l₂ := C ++ D)
  rw [List.append_assoc C D B] at this
  exact this
/-! ### first_free -/
def sp_first_free (K : PySem.W.Frag) : Sp := fun vs H Q _ => ∃ (r : Int) (fa la : Addr) (fixed : List Str) (lens : List (Str × Nat)), vs = [.int r, .ref fa, .ref la] ∧ 2 ≤ r ∧ r ≤ 4 ∧ H fa = some (.lst (fixed.map V.str)) ∧ fixed.length ≤ 100 ∧ (∀ x ∈ fixed, x.length ≤ 100) ∧
  H la = some (.dK (kvsI lens)) ∧ (lens.map (·.1)).Nodup ∧ lens.length ≤ 30 ∧ (∀ p ∈ lens, p.2 ≤ 6) ∧
  ∀ ls : List Nat, ls.Pairwise (· < ·) → (∀ l, l ∈ ls ↔ l ∈ lens.map (·.2)) → ∀ H' p, Same H H' → H p = none →
    H' p = some (.dK (kvsOf (mkBook 0 0 (ls.foldl (packStep (digs r) fixed lens) []) []).ws)) → Q (.ref p) H'
theorem cal_first_free (T : Txt K mg) : CalG P w K mg base CX0 3 "first_free" (sp_first_free K) [] := by
  refine T.d_first_free.cal .nil sc_first_free (fun vs H Q E h => by obtain ⟨_, _, _, _, _, rfl, _⟩ := h; rfl) (fun f cdv A outer s H vs Q E hr h => ?_)
  obtain ⟨r, fa, la, fixed, lens, rfl, r2, r4, hfa, fl, fx, hla, nd, ll, l6, k⟩ := h
  refine ⟨_, (pss_cons (ps_set (i := 3) sc_first_free.nd rfl (Or.inr rfl) pe_dnewK)
      (pss_cons (ps_for PassesOwn.never rfl (pi_listK (K := K) (pe_callB (r := rSortedSet w) (cr_sortedSet rfl) (by rfl) T.n_sorted (by decide +kernel) (pa_cons (pe_callTy (r := rSetI w K) (call_setI rfl) (by rfl) T.n_set (by decide +kernel) (pa_cons (pe_listVals rfl (pv 2) (by rfl) T.n_list (by decide +kernel)) pa_nil)) pa_nil))) (pg_name (i := 4) sc_first_free.nd rfl (Or.inr rfl))
      (pss_cons (ps_setLc (i := 5) (own := [("name", 7)]) (g := gName 7) (by rfl) sc_first_free.nd rfl rfl (sw_true rfl rfl rfl (by decide +kernel)) (pi_listK (K := K) (pe_callB (call_sortedD rfl) (by rfl) T.n_sorted (by decide +kernel) (pa_cons (pv 2) pa_nil))) (blkOk_by (own := [("name", 7)]) (N := ["radix", "fixed", "lengths", "found", "length", "names", "free", "name"]) (sc := (defScope s_first_free)) (by decide +kernel)) (fun _ _ _ _ _ => (pg_name (i := 7) sc_first_free.nd rfl (Or.inl rfl))) (fun _ _ _ _ _ => (pts_one (pt_cmpR op_eq (pe_dget (hu_of hr.toRoom) (pv 2) (pv 7) (fun _ _ => rfl)) (pv 4) (nomark _)))) (fun _ _ _ _ _ => (pv 7)))
      (pss_cons (ps_set (i := 6) sc_first_free.nd rfl (Or.inl rfl) (pe_g (cal_free_beside T) hr (by first | decide | (simp only [Nat.add_eq]; omega)) rfl (pa_cons (pv 0) (pa_cons (pe_op op_cat (pv 1) (pe_listVals rfl (pv 3) (by rfl) T.n_list (by decide +kernel))) (pa_cons (pv 4) pa_nil)))))
      (pss_one (ps_expr (pe_bmK (K := K) (r := rDUpd) PySem.F.plainAttrs_dict PySem.F.slot_dict_update PySem.F.type_dict_update mt_dupd (pv 3) (pa_cons (pe_dictZip (K := K) rfl (pa_cons (pv 5) (pa_cons (pv 6) pa_nil)) (by rfl) T.n_dict (by decide +kernel) (by rfl) T.n_zip) pa_nil)))))))
      (pss_one (ps_ret (pe_dc (own := [("name", 7)]) (g := gName 7) (by rfl) sc_first_free.nd (pi_listK (K := K) (pe_callB (call_sortedD rfl) (by rfl) T.n_sorted (by decide +kernel) (pa_cons (pv 3) pa_nil))) (blkOk_by (own := [("name", 7)]) (N := ["radix", "fixed", "lengths", "found", "length", "names", "free", "name"]) (sc := (defScope s_first_free)) (by decide +kernel)) (fun _ _ _ _ _ => (pg_name (i := 7) sc_first_free.nd rfl (Or.inl rfl))) (fun _ _ _ _ _ => pts_nil) (fun _ _ _ _ _ => (pv 7)) (fun _ _ _ _ _ => (pe_dget (hu_of hr.toRoom) (pv 3) (pv 7) (fun _ _ => rfl)))))))), ?_⟩
  refine fun fo hfo => ?_
  have t0 := newS (o := .dK []) hfo
  refine ⟨_, rfl, la, _, rfl, .inl (t0 _ _ hla), fun lv hlv => ?_⟩
  have t1 := Same.trans t0 (newS (o := .lst ((kvsI lens).map (·.2))) hlv)
  have hsb : lens.length + 1 < scanBound := Nat.lt_of_le_of_lt (show lens.length + 1 ≤ 31 by omega) (by unfold scanBound; omega)
  refine ⟨lv, lens.map fun p => ((p.2 : Nat) : Int), rfl, SqL.of (by rw [upd_same, kvsI_vals, List.map_map, List.map_map]; rfl), by rw [List.length_map]; exact hsb, fun sp c hsp hc => ?_⟩
  rw [List.length_map] at hc
  have t2 := Same.trans t1 (newS (o := SetO w sp (fun j => decide (j ∈ lens.map fun p => ((p.2 : Nat) : Int))) c) hsp)
  refine ⟨sp, _, c, rfl, upd_same, by omega, fun ns lp asc mem hlen hlp => ?_⟩
  have mem : ∀ k : Int, k ∈ ns ↔ k ∈ lens.map fun p => ((p.2 : Nat) : Int) := fun k => by rw [mem k, decide_eq_true_eq]
  obtain ⟨ls, rfl⟩ := nats_of (ns := ns) fun k hk => by
    obtain ⟨p, _, rfl⟩ := List.mem_map.mp ((mem k).mp hk)
    omega
  have asc : ls.Pairwise (· < ·) := (List.pairwise_map.mp asc).imp fun h => Int.ofNat_lt.mp h
  have mem : ∀ l : Nat, l ∈ ls ↔ l ∈ lens.map (·.2) := fun l => by
    have := mem (l : Int)
    constructor
    · intro h
      obtain ⟨p, hp, e⟩ := List.mem_map.mp (this.mp (List.mem_map_of_mem h))
      exact List.mem_map.mpr ⟨p, hp, by omega⟩
    · intro h
      obtain ⟨p, hp, rfl⟩ := List.mem_map.mp h
      obtain ⟨q, hq, e⟩ := List.mem_map.mp (this.mpr (List.mem_map.mpr ⟨p, hp, rfl⟩))
      have : q = p.2 := by omega
      exact this ▸ hq
  have k := k ls asc mem
  have l6 : ∀ l ∈ ls, l ≤ 6 := fun l hl => by
    obtain ⟨p, hp, rfl⟩ := List.mem_map.mp ((mem l).mp hl)
    exact l6 p hp
  have l7 := levels_len asc l6
  have inv := fun i => pack_at (ds := digs r) (fixed := fixed) nd asc i
  have hflp : fo ≠ lp := fun e => by rw [← e] at hlp; exact absurd (Same.trans (newS (o := .lst ((kvsI lens).map (·.2))) hlv) (newS (o := SetO w sp (fun j => decide (j ∈ lens.map fun p => ((p.2 : Nat) : Int))) c) hsp) _ _ upd_same) (by rw [hlp]; exact fun h => nomatch h)
  have hfo2 := Same.trans (newS (o := .lst ((kvsI lens).map (·.2))) hlv) (newS (o := SetO w sp (fun j => decide (j ∈ lens.map fun p => ((p.2 : Nat) : Int))) c) hsp) _ _ upd_same
  generalize upd (upd (upd H fo (.dK [])) lv (.lst ((kvsI lens).map (·.2)))) sp (SetO w sp (fun j => decide (j ∈ lens.map fun p => ((p.2 : Nat) : Int))) c) = G at t2 hlp hfo2 ⊢
  have t3 := Same.trans t2 (newS (o := .lst ((ls.map fun n : Nat => (n : Int)).map V.int)) hlp)
  have hfo3 := newS (o := .lst ((ls.map fun n : Nat => (n : Int)).map V.int)) hlp _ _ hfo2
  have hlp3 : upd G lp (.lst ((ls.map fun n : Nat => (n : Int)).map V.int)) lp = _ := upd_same
  generalize upd G lp (.lst ((ls.map fun n : Nat => (n : Int)).map V.int)) = G3 at t3 hfo3 hlp3 ⊢
  refine ⟨lp, rfl, ⟨_, SqL.of hlp3⟩, for_list (K := K) (a := lp) (xs := (ls.map fun n : Nat => (n : Int)).map V.int) (fun i σ H' => ∃ (o4 o5 o6 : Option V), σ = [some (.int r), some (.ref fa), some (.ref la), some (.ref fo), o4, o5, o6, none] ∧ Same H H' ∧
    H' lp = some (.lst ((ls.map fun n : Nat => (n : Int)).map V.int)) ∧ H' fo = some (.dK (kvsOf ((ls.take i).foldl (packStep (digs r) fixed lens) [])))) ⟨none, none, none, rfl, t3, hlp3, hfo3⟩ ?_ ?_ ?_⟩
  · rintro i σ H1 _ ⟨o4, o5, o6, rfl, s1, h1, h2⟩
    exact SqL.of h1
  · rintro i v σ H1 hm ⟨o4, o5, o6, rfl, s1, h1, h2⟩
    rw [List.map_map] at hm
    obtain ⟨l, hl, rfl⟩ := getMap hm
    have hln := asc_notin asc hl
    have hl6 := l6 l (List.mem_of_getElem? hl)
    have I0 := inv i
    have il : i < ls.length := (List.getElem?_eq_some_iff.mp hl).1
    generalize hfd : (ls.take i).foldl (packStep (digs r) fixed lens) [] = found at h2 I0
    have fnd := pack_fresh (ds := digs r) (fixed := fixed) nd I0 hln
    have fln : found.length ≤ 210 := by
      have h1 := I0.ln
      have h2 : (ls.take i).length ≤ 7 := by rw [List.length_take]; omega
      have h3 : lens.length * (ls.take i).length ≤ 30 * 7 := Nat.mul_le_mul ll h2
      omega
    have hlaf : la ≠ fo := fun e => by rw [e, hfo] at hla; cases hla
    refine ⟨_, rfl, la, kvsI lens, lens.map (·.1), rfl, .inl (s1 _ _ hla), kvsI_keys lens, by rw [List.length_map]; omega, fun ys l1 hp hs hl1 => ?_⟩
    have ey : ys = srt (lens.map (·.1)) := srt_of hp hs
    have s2 := newS (o := .lst (ys.map V.str)) hl1
    refine ⟨l1, rfl, ⟨_, SqL.of upd_same⟩, fun D hD => lc_listPN (fun x => match x with | .str z => decide (lenAt lens z = some l) | _ => false) id (SqL.of upd_same) hD (by rw [List.length_map, hp.length_eq, List.length_map]; omega) ?_ ?_ ?_⟩
    · intro x hx H' Q' s' kk
      obtain ⟨z, hz, rfl⟩ := List.mem_map.mp hx
      have hla' := s' _ _ (s2 _ _ (s1 _ _ hla))
      obtain ⟨q, hq, rfl⟩ := List.mem_map.mp (hp.mem_iff.mp hz)
      have g := DGet.k (k := Sum.inr q.1) hla'
      have eq := lenAt_nodup nd hq
      rw [valV_kvsI, eq] at g
      refine ⟨_, rfl, _, rfl, la, .int (q.2 : Nat), rfl, g, _, rfl, ?_⟩
      have kk := kk H' (Same.refl _)
      refine ⟨rfl, _, rfl, ?_⟩
      have e1 : decide (V.int ((q.2 : Nat) : Int) = V.int ((l : Nat) : Int)) = decide (lenAt lens q.1 = some l) := by
        rw [eq]
        refine decide_eq_decide.mpr ⟨fun h => ?_, fun h => ?_⟩
        · have h := V.int.inj h
          congr 1
          omega
        · rw [Option.some.inj h]
      show Q' (decide (V.int ((q.2 : Nat) : Int) = V.int ((l : Nat) : Int))) H'
      rw [e1]
      exact kk
    · intro x hx _ H' Q' s' kk
      obtain ⟨z, hz, rfl⟩ := List.mem_map.mp hx
      exact ⟨_, rfl, kk H' (Same.refl _)⟩
    · intro H2 s3 hD2
      have s12 := Same.trans s2 s3
      have eN : ((ys.map V.str).filter (fun x => match x with | .str z => decide (lenAt lens z = some l) | _ => false)).map id = (namesAt lens l).map V.str := by
        rw [List.map_id, List.filter_map, ey]
        rfl
      rw [eN] at hD2
      have hfo2 := s12 _ _ h2
      refine ⟨_, rfl, _, rfl, _, rfl, fo, kvsOf found, rfl, .inl hfo2, fun fv hfv => ?_⟩
      rw [kvsOf_vals]
      have t4 := newS (o := .lst ((found.map (·.2)).map V.str)) hfv
      refine ⟨fa, fv, _, _, rfl, rfl, t4 _ _ (s12 _ _ (s1 _ _ hfa)), upd_same, sz_le (m := 2000) (by rw [List.length_map, List.length_map, List.length_map]; omega) rfl, fun cv hcv => ?_⟩
      rw [← List.map_append]
      have t5 := newS (o := .lst ((fixed ++ found.map (·.2)).map V.str)) hcv
      have hw : ∀ x ∈ fixed ++ found.map (·.2), x.length ≤ 100 := fun x hx => by
        rcases List.mem_append.mp hx with hx | hx
        · exact fx x hx
        · obtain ⟨q, hq, rfl⟩ := List.mem_map.mp hx
          obtain ⟨l', h1, _, h3⟩ := I0.lv q hq
          have := l6 l' (List.mem_of_mem_take h1)
          omega
      refine ⟨_, rfl, r, l, cv, _, rfl, r2, r4, hl6, upd_same, by rw [List.length_append, List.length_map]; omega, hw, fun H5 p s5 hp0 hp5 => ?_⟩
      have hp5 : H5 p = some (.lst ((freeN (digs r) (fixed ++ found.map (·.2)) l).map V.str)) := hp5
      have s25 := Same.trans (Same.trans t4 t5) s5
      have hfo5 := s25 _ _ hfo2
      have hD5 := s25 _ _ hD2
      have hNl : (namesAt lens l).length ≤ 30 := by
        have := (namesAt_nd nd l)
        have h2 : (namesAt lens l).length ≤ (srt (lens.map (·.1))).length := List.length_filter_le _ _
        rw [srt_len, List.length_map] at h2
        omega
      refine ⟨_, rfl, .inr (.inr (.inl ⟨rfl, .inl ⟨_, hfo5⟩⟩)), _, rfl, _, rfl, D, p, (namesAt lens l).map Sum.inr, _, rfl, SqL.of (by rw [hD5, List.map_map]; rfl), SqL.of hp5, by rw [List.length_map]; omega, fun z hz => ?_⟩
      have ez : ((namesAt lens l).map Sum.inr).zip ((freeN (digs r) (fixed ++ found.map (·.2)) l).map V.str) = kvsOf ((namesAt lens l).zip (freeN (digs r) (fixed ++ found.map (·.2)) l)) := by
        rw [List.zip_map]
        rfl
      rw [ez]
      have nz : (((namesAt lens l).zip (freeN (digs r) (fixed ++ found.map (·.2)) l)).map (·.1)).Nodup := (namesAt_nd nd l).sublist (zip_fst_sub _ _)
      rw [merge_nodup (kvs := []) (by rw [List.nil_append]; exact kvsOf_nodup nz), List.nil_append]
      have t6 := newS (o := .dK (kvsOf ((namesAt lens l).zip (freeN (digs r) (fixed ++ found.map (·.2)) l)))) hz
      have hzl : ((namesAt lens l).zip (freeN (digs r) (fixed ++ found.map (·.2)) l)).length ≤ 30 := by
        rw [List.length_zip]
        omega
      have nfz : fo ≠ z := fun e => by rw [e] at hfo5; rw [hz] at hfo5; cases hfo5
      refine ⟨fo, z, _, _, rfl, rfl, nfz, t6 _ _ hfo5, upd_same, sz_le (m := 2000) (by rw [kvsOf_len, kvsOf_len]; omega) rfl, ?_⟩
      have em : mergeK (kvsOf found) (kvsOf ((namesAt lens l).zip (freeN (digs r) (fixed ++ found.map (·.2)) l))) = kvsOf (packStep (digs r) fixed lens found l) := by
        rw [merge_nodup]
        · unfold packStep kvsOf
          rw [List.map_append]
        · have := kvsOf_nodup fnd
          unfold packStep kvsOf at this
          rw [List.map_append] at this
          exact this
      rw [em]
      refine ⟨some (.int (l : Nat)), some (.ref D), some (.ref p), rfl, ?_, ?_, ?_⟩
      · exact same_mut (Same.trans (Same.trans s1 s12) (Same.trans s25 t6)) hfo
      · rw [upd_ne (Ne.symm hflp)]
        exact t6 _ _ (s25 _ _ (s12 _ _ h1))
      · rw [upd_same, foldl_snoc hl, hfd]
  · rintro σ H1 ⟨o4, o5, o6, rfl, s1, h1, h2⟩
    rw [List.length_map, List.length_map, List.take_length] at h2
    have I0 := inv ls.length
    rw [List.take_length] at I0
    generalize ls.foldl (packStep (digs r) fixed lens) [] = found at h2 I0 k
    have fln : found.length < 64 ∨ 64 ≤ found.length := Nat.lt_or_ge _ _
    have fl2 : found.length ≤ lens.length := by
      have := length_le_of_nodup_of_subset (found.map (·.1)) (lens.map (·.1)) I0.nd fun n hn => by
        obtain ⟨p, hp, rfl⟩ := List.mem_map.mp hn
        obtain ⟨l, _, h, _⟩ := I0.lv p hp
        exact List.mem_map.mpr ⟨_, lenAt_some h, rfl⟩
      rw [List.length_map, List.length_map] at this
      exact this
    refine ⟨_, rfl, fo, kvsOf found, found.map (·.1), rfl, .inl h2, kvsOf_keys found, by rw [List.length_map]; omega, fun ys l1 hp hs hl1 => ?_⟩
    have ey : ys = srt (found.map (·.1)) := srt_of hp hs
    have s2 := newS (o := .lst (ys.map V.str)) hl1
    refine ⟨l1, rfl, ⟨_, SqL.of upd_same⟩, fun D hD => dc_listF (fun x => match x with | .str z => .inr z | _ => .inl 0) (fun x => match x with | .str z => .str ((wordAt found z).getD "") | _ => .non) (SqL.of upd_same) hD (by rw [List.length_map, hp.length_eq, List.length_map]; omega) ?_ ?_ ?_⟩
    · intro x hx H' Q' s' q
      obtain ⟨z, hz, rfl⟩ := List.mem_map.mp hx
      exact ⟨_, rfl, q⟩
    · intro x hx H' Q' s' q
      obtain ⟨z, hz, rfl⟩ := List.mem_map.mp hx
      obtain ⟨y, hy, _⟩ := wordAt_mem (hp.mem_iff.mp hz)
      have g := DGet.k (k := Sum.inr z) (s' _ _ (s2 _ _ h2))
      rw [valV_kvs, hy] at g
      refine ⟨_, rfl, _, rfl, fo, .str y, rfl, g, ?_⟩
      have q' : Q' (.str ((wordAt found z).getD "")) H' := q
      rw [hy] at q'
      exact q'
    · have e1 : ((ys.map V.str).map fun x => ((match x with | .str z => Sum.inr z | _ => Sum.inl 0 : Key), (match x with | .str z => V.str ((wordAt found z).getD "") | _ => V.non))) = kvsOf (mkBook 0 0 found []).ws := by
        unfold kvsOf mkBook
        rw [← ey, List.map_map, List.map_map]
        rfl
      rw [e1, merge_nodup, List.nil_append]
      · refine k _ D (Same.trans s1 (Same.trans s2 (newS hD))) ?_ upd_same
        exact (Same.trans s1 s2).free hD
      · rw [List.nil_append]
        refine kvsOf_nodup ?_
        unfold mkBook
        rw [List.map_map]
        show ((srt (found.map (·.1))).map fun n => n).Nodup
        rw [List.map_id']
        exact (srt_perm _).nodup_iff.mpr I0.nd
/-! ### pack -/
abbrev XNr (mg : Str → Option Value) : Value := .ref (clsAt mg "NoRoom")
/-- the lengths that pack gives to first_free -/
def lensTo (ws : List (Str × Str)) (rq : List (Str × Nat)) (ks : List Str) : List (Str × Nat) := (((remW ws (kvsI rq)).filter fun p => !decide (p.1 ∈ ks)).map fun p => (p.1, p.2.length)) ++ rq
def sp_pack (mg : Str → Option Value) : Sp := fun vs H Q E => ∃ (b d kd : Addr) (r h : Int) (ws : List (Str × Str)) (rs : List Str) (rq : List (Str × Nat)) (kw : List (Str × Str)), vs = [.ref b, .ref d, .ref kd] ∧ BookOk r h ws rs ∧ CaseOk h ws rq (kw.map (·.1)) ∧
  BookAt (CBk mg) H b (mkBook r h ws rs) ∧ H d = some (.dK (kvsI rq)) ∧ H kd = some (.dK (kvsOf kw)) ∧ ws.length + rs.length ≤ 100 ∧ ws.length + rq.length ≤ 30 ∧
  (failFrom r (wordsAt ws (kw.map (·.1)) ++ rs) (lensOf (remW ws (kvsI rq)) rs rq) 0 h.toNat = none → ∀ H' p, Same H H' → H p = none →
    H' p = some (.dK (kvsOf (mkBook 0 0 (placed (digs r) (wordsAt ws (kw.map (·.1)) ++ rs) (lensTo ws rq (kw.map (·.1)))) []).ws)) → Q (.ref p) H') ∧
  (∀ n, failFrom r (wordsAt ws (kw.map (·.1)) ++ rs) (lensOf (remW ws (kvsI rq)) rs rq) 0 h.toNat = some n → ∀ H' x, Same H H' → H' x = some (.xd [("level", .int (n : Nat))]) → E (XNr mg) (some x) H')
theorem cal_pack (T : Txt K mg) (Z_NoRoom : SupX P w K mg base "NoRoom" (clsAt mg "NoRoom") "level") : CalG P w K mg base (L2.CX P w) 7 "pack" (sp_pack mg) [] := by
  refine T.d_pack.calX .nil sc_pack (fun vs H Q E h => by obtain ⟨_, _, _, _, _, _, _, _, _, rfl, _⟩ := h; rfl) (fun f cdv A outer s H vs Q E hr h => ?_)
  obtain ⟨b, d, kd, r, hh, ws, rs, rq, kw, rfl, ok, c, B, hd, hkd, l1, l2, ky, kn⟩ := h
  refine ⟨_, (pss_cons (ps_set (i := 3) sc_pack.nd rfl (Or.inl rfl) (pe_gE (cal_failing_level T) hr (by first | decide | (simp only [Nat.add_eq]; omega)) rfl (fun σ => passAt (takes_of rfl rfl rfl rfl) σ) (pa_cons (pv 0) (pa_cons (pv 1) (pa_cons (pe_callTy (call_listD rfl) (by rfl) T.n_list (by decide +kernel) (pa_cons (pv 2) pa_nil)) pa_nil)))))
      (pss_cons (ps_if (pt_cmpR op_notN (pv 3) pe_non (nomark _))
      (pss_one (ps_raise rfl (takes_of rfl rfl rfl rfl) (pmk_sup Z_NoRoom (hr.toRoom.mono (by first | decide | (simp only [Nat.add_eq]; omega))) rfl (pv 3))))
      pss_nil)
      (pss_cons (ps_set (i := 4) sc_pack.nd rfl (Or.inr rfl) (pe_g (cal_unrequested_words T) hr (by first | decide | (simp only [Nat.add_eq]; omega)) rfl (pa_cons (pv 0) (pa_cons (pv 1) pa_nil))))
      (pss_cons (ps_lock (ps_setDc (i := 5) (own := [("name", 7)]) (gg := gName 7) (by rfl) sc_pack.nd rfl rfl (sw_trueD rfl rfl rfl (by decide +kernel)) (pi_keys (pv 4)) (blkOk_by (own := [("name", 7)]) (N := ["book", "request", "kept", "level", "words", "lengths", "fixed", "name"]) (sc := (defScope s_pack)) (by decide +kernel)) (fun _ _ _ _ _ => (pg_name (i := 7) sc_pack.nd rfl (Or.inl rfl))) (fun _ _ _ _ _ => (pts_one (pt_cmp (pc_dnotin (hu_of hr.toRoom) (pv 7) (pv 2))))) (fun _ _ _ _ _ => (pv 7)) (fun _ _ _ _ _ => (pe_callB call_len_str (by rfl) T.n_len (by decide +kernel) (pa_cons (pe_dget (hu_of hr.toRoom) (pv 4) (pv 7) (fun _ _ => rfl)) pa_nil)))))
      (pss_cons (ps_expr (pe_bmK (K := K) (r := rDUpd) PySem.F.plainAttrs_dict PySem.F.slot_dict_update PySem.F.type_dict_update mt_dupd (pv 5) (pa_cons (pv 1) pa_nil)))
      (pss_cons (ps_set (i := 6) sc_pack.nd rfl (Or.inl rfl) (pe_op op_cat (pe_lock (pe_lc (own := [("name", 7)]) (g := gName 7) (by rfl) sc_pack.nd (pi_keys (pv 2)) (blkOk_by (own := [("name", 7)]) (N := ["book", "request", "kept", "level", "words", "lengths", "fixed", "name"]) (sc := (defScope s_pack)) (by decide +kernel)) (fun _ _ _ _ _ => (pg_name (i := 7) sc_pack.nd rfl (Or.inl rfl))) (fun _ _ _ _ _ => pts_nil) (fun _ _ _ _ _ => (pe_dget (hu_of hr.toRoom) (pv 4) (pv 7) (fun _ _ => rfl))))) (pe_callTy (r := rListQ K) call_list_of (by rfl) T.n_list (by decide +kernel) (pa_cons (pe_mE0 (met_reserved T) hr (by first | decide | (simp only [Nat.add_eq]; omega)) pass00 (pv 0)) pa_nil))))
      (pss_one (ps_ret (pe_g (cal_first_free T) hr (by first | decide | (simp only [Nat.add_eq]; omega)) rfl (pa_cons (pe_fldK (K := K) (pv 0) rfl) (pa_cons (pv 6) (pa_cons (pv 5) pa_nil)))))))))))), ?_⟩
  refine ⟨_, rfl, _, rfl, _, rfl, kd, kvsOf kw, rfl, .inl hkd, fun kl hkl => ?_⟩
  have ekl : (kvsOf kw).map (fun kv => kV kv.1) = (kw.map (·.1)).map V.str := by
    unfold kvsOf
    rw [List.map_map, List.map_map]
    rfl
  rw [ekl]
  have t1 := newS (o := .lst ((kw.map (·.1)).map V.str)) hkl
  have hkle : kw.length ≤ ws.length := by
    have := length_le_of_nodup_of_subset (kw.map (·.1)) ((remW ws (kvsI rq)).map (·.1)) c.kn c.km
    have h2 := (remW_sub ws (kvsI rq)).length_le
    rw [List.length_map, List.length_map] at this
    omega
  have hk50 : (kw.map (·.1)).length ≤ 50 := by
    rw [List.length_map]
    omega
  have sq : SqL K (upd H kl (.lst ((kw.map (·.1)).map V.str))) kl ((kw.map (·.1)).map V.str) := SqL.of upd_same
  dsimp only [tNil]
  refine use_failing ok c (List.Perm.refl _) (B.same t1) (t1 _ _ hd) (seq_small c ok (List.Perm.refl _) hk50 (.inl ⟨sq, .base (.lst upd_same)⟩)) fun H2 s2 => ?_
  have s02 := Same.trans t1 s2
  cases hf : failFrom r (wordsAt ws (kw.map (·.1)) ++ rs) (lensOf (remW ws (kvsI rq)) rs rq) 0 hh.toNat with
  | some n =>
    refine ⟨_, rfl, rfl, _, rfl, iteT ?_⟩
    have hn := fail_le _ _ hf
    have h6 := ok.h6
    exact ⟨_, rfl, ((n : Nat) : Int), rfl, by omega, by omega, fun x hx => kn n hf _ x (Same.trans s02 (newS hx)) upd_same⟩
  | none =>
    refine ⟨_, rfl, rfl, _, rfl, iteF ?_⟩
    have pw : (mkBook r hh ws rs).ws.Perm ws := by rw [mkBook_ws]; exact pick_perm ok.nd (srt_perm _)
    have okD := mkBook_okD ok
    have ndD := mkBook_nd ok
    have e64 : (mkBook r hh ws rs).ws.length < 64 := by have := pw.length_eq; have := ok.lw; omega
    refine ⟨_, rfl, _, rfl, b, d, mkBook r hh ws rs, kvsI rq, rfl, B.same s02, ndD, e64, s02 _ _ hd, fun H3 wd s3 n3 hwd => ?_⟩
    have s03 := Same.trans s02 s3
    generalize hD : mkBook r hh ws rs = D at *
    generalize hR : remW D.ws (kvsI rq) = R at hwd
    have subR : R.Sublist D.ws := hR ▸ remW_sub _ _
    have ndR : (R.map (·.1)).Nodup := ndD.sublist (subR.map _)
    have lR : R.length < 64 := Nat.lt_of_le_of_lt subR.length_le e64
    have hwn : ∀ p ∈ R, wordAt R p.1 = some p.2 := fun p hp => wordAt_nodup ndR hp
    refine ⟨wd, .dK (kvsOf R), hwd, trivial, fun od => ?_⟩
    have nwk : kd ≠ wd := fun e => by rw [e] at hkd; rw [s02.free n3 |> fun z => z] at hkd; cases hkd
    refine ⟨_, rfl, wd, od, rfl, .inl ⟨kvsOf R, upd_same, fun DD hDD => dc_keysN (fun q => (valV (kvsOf kw) q.1).isNone) (·.1) (fun q => match q.2 with | .str z => .int (z.length : Nat) | v => v) upd_same hDD (by rw [kvsOf_len]; omega) ?_ ?_ ?_ ?_⟩⟩
    · intro q hq H' Q' s' kk
      obtain ⟨p, hp, rfl⟩ := List.mem_map.mp hq
      have hd' := s' _ _ (show upd H3 wd (.frz od (.dK (kvsOf R))) kd = _ from (upd_ne nwk).trans (s03 _ _ hkd))
      refine ⟨_, rfl, _, rfl, kd, _, rfl, DGet.k (k := Sum.inr p.1) hd', ?_⟩
      have := kk H' (Same.refl _)
      rw [← Option.not_isSome] at this
      exact ⟨_, rfl, this⟩
    · intro q hq _ H' Q' s' kk
      obtain ⟨p, hp, rfl⟩ := List.mem_map.mp hq
      exact ⟨_, rfl, kk H' (Same.refl _)⟩
    · intro q hq _ H' Q' s' kk
      obtain ⟨p, hp, rfl⟩ := List.mem_map.mp hq
      have hw' := s' _ _ (upd_same (H := H3) (a := wd) (o := .frz od (.dK (kvsOf R))))
      have g : DGet H' wd (kV (Sum.inr p.1)) (valV (kvsOf R) (Sum.inr p.1)) := DGet.f hw'
      rw [valV_kvs, hwn p hp] at g
      refine ⟨_, rfl, _, rfl, wd, _, rfl, g, ?_⟩
      have hsm := word_s (okD.wd p (subR.subset hp)) okD.h6
      exact ⟨_, rfl, sz_le (m := 100) hsm rfl, kk H' (Same.refl _)⟩
    · intro H4 s4 hDD4
      have hwd4 := s4 _ _ (upd_same (H := H3) (a := wd) (o := .frz od (.dK (kvsOf R))))
      have eL : ((kvsOf R).filter (fun q => (valV (kvsOf kw) q.1).isNone)).map (fun q => (q.1, match q.2 with | .str z => V.int (z.length : Nat) | v => v)) = kvsI ((R.filter fun p => !decide (p.1 ∈ kw.map (·.1))).map fun p => (p.1, p.2.length)) := by
        rw [kvsOf_filter R (fun p => !decide (p.1 ∈ kw.map (·.1))) _ fun p _ => ?_]
        · unfold kvsOf kvsI
          rw [List.map_map, List.map_map]
          rfl
        · show (valV (kvsOf kw) (Sum.inr p.1)).isNone = _
          rw [valV_kvs]
          by_cases hm : p.1 ∈ kw.map (·.1)
          · obtain ⟨x, hx, _⟩ := wordAt_mem hm
            rw [hx, decide_eq_true hm]
            rfl
          · cases hx : wordAt kw p.1 with
            | none =>
              rw [decide_eq_false hm]
              rfl
            | some x => exact absurd (List.mem_map_of_mem (wordAt_some hx)) hm
      generalize hO : (R.filter fun p => !decide (p.1 ∈ kw.map (·.1))).map (fun p => (p.1, p.2.length)) = old at eL
      have ndO : (old.map (·.1)).Nodup := by
        rw [← hO, List.map_map]
        exact ndR.sublist (List.filter_sublist.map _)
      rw [eL, merge_nodup (kvs := []) (by rw [List.nil_append, kvsI_keys]; exact List.Pairwise.map _ (fun a b h e => h (Sum.inr.inj e)) ndO), List.nil_append] at hDD4
      have nDw : DD ≠ wd := fun e => by rw [e, upd_same] at hDD; cases hDD
      have hDD3 : H3 DD = none := by rw [upd_ne nDw] at hDD; exact hDD
      refine ⟨hwd4, ?_⟩
      have s34 : Same H3 (upd H4 wd (.dK (kvsOf R))) := same_unlock (u := .dK (kvsOf R)) hwd s4
      have hDD5 : upd H4 wd (.dK (kvsOf R)) DD = some (.dK (kvsI old)) := (upd_ne nDw).trans hDD4
      have hwd5 : upd H4 wd (.dK (kvsOf R)) wd = some (.dK (kvsOf R)) := upd_same
      generalize upd H4 wd (.dK (kvsOf R)) = H5 at s34 hDD5 hwd5 ⊢
      have s05 := Same.trans s03 s34
      have nDd : DD ≠ d := fun e => by rw [e] at hDD3; rw [s03 _ _ hd] at hDD3; cases hDD3
      refine ⟨_, rfl, .inr (.inr (.inl ⟨rfl, .inl ⟨_, hDD5⟩⟩)), _, rfl, DD, d, _, _, rfl, rfl, nDd, hDD5, s05 _ _ hd, sz_le (m := 200) (by rw [kvsI_len, kvsI_len, ← hO, List.length_map]; have := List.length_filter_le (fun p : Str × Str => !decide (p.1 ∈ kw.map (·.1))) R; omega) rfl, ?_⟩
      have ndL : ((old ++ rq).map (·.1)).Nodup := by
        rw [List.map_append]
        refine List.nodup_append.mpr ⟨ndO, c.qn, fun a ha b' hb e => ?_⟩
        rw [← hO, List.map_map] at ha
        obtain ⟨p, hp, rfl⟩ := List.mem_map.mp ha
        have hp2 := (List.mem_filter.mp hp).1
        rw [← hR] at hp2
        have hp3 : (valV (kvsI rq) (Sum.inr p.1)).isNone = true := (List.mem_filter.mp hp2).2
        obtain ⟨q, hq, e2⟩ := List.mem_map.mp hb
        have e3 : p.1 = q.1 := e.trans e2.symm
        rw [e3, valV_kvsI, lenAt_nodup c.qn hq] at hp3
        cases hp3
      have eA : kvsI (old ++ rq) = kvsI old ++ kvsI rq := List.map_append
      have em : mergeK (kvsI old) (kvsI rq) = kvsI (old ++ rq) := by
        rw [eA, merge_nodup]
        rw [← eA, kvsI_keys]
        exact List.Pairwise.map _ (fun a b h e => h (Sum.inr.inj e)) ndL
      rw [em]
      have s06 : Same H (upd H5 DD (.dK (kvsI (old ++ rq)))) := same_mut s05 (s03.free hDD3)
      have hL6 : upd H5 DD (.dK (kvsI (old ++ rq))) DD = some (.dK (kvsI (old ++ rq))) := upd_same
      have hwd6 : upd H5 DD (.dK (kvsI (old ++ rq))) wd = some (.dK (kvsOf R)) := (upd_ne (Ne.symm nDw)).trans hwd5
      generalize upd H5 DD (.dK (kvsI (old ++ rq))) = H6 at s06 hL6 hwd6 ⊢
      have hkd6 := s06 _ _ hkd
      have nkD : kd ≠ DD := fun e => by
        have z := s03 _ _ hkd
        rw [e, hDD3] at z
        cases z
      refine ⟨kd, .dK (kvsOf kw), hkd6, trivial, fun od2 => ?_⟩
      have hwd6' : upd H6 kd (.frz od2 (.dK (kvsOf kw))) wd = some (.dK (kvsOf R)) := (upd_ne (Ne.symm nwk)).trans hwd6
      refine ⟨_, rfl, kd, od2, rfl, .inl ⟨kvsOf kw, upd_same, fun D2 hD2 => lc_keysN (fun _ => true) (fun q => match q.1 with | .inr z => .str ((wordAt ws z).getD "") | _ => .non) upd_same hD2 (by rw [kvsOf_len]; rw [List.length_map] at hk50; omega) (fun q hq H' Q' s' kk => kk H' (Same.refl _)) ?_ ?_⟩⟩
      · intro q hq _ H' Q' s' kk
        obtain ⟨p, hp, rfl⟩ := List.mem_map.mp hq
        have hw' := s' _ _ hwd6'
        have hm : p.1 ∈ (remW ws (kvsI rq)).map (·.1) := c.km _ (List.mem_map_of_mem hp)
        have hmR : p.1 ∈ R.map (·.1) := by
          rw [← hR]
          exact ((rem_perm pw _).map (·.1)).mem_iff.mpr hm
        obtain ⟨x, hx, _⟩ := wordAt_mem hmR
        have hx2 : wordAt ws p.1 = some x := by
          rw [← (rem_at ok.nd hm).1]
          rw [← hR] at hx
          rw [← hx]
          exact (wordAt_perm (ok.nd.sublist ((remW_sub _ _).map _)) (rem_perm pw _) _).symm
        have g := DGet.k (k := Sum.inr p.1) hw'
        rw [valV_kvs, hx] at g
        have kk := kk H' (Same.refl _)
        refine ⟨_, rfl, _, rfl, wd, _, rfl, g, ?_⟩
        have e : (match ((Sum.inr p.1 : Key), V.str p.2).1 with | .inr z => V.str ((wordAt ws z).getD "") | _ => V.non) = V.str x := by
          show V.str ((wordAt ws p.1).getD "") = _
          rw [hx2]
          rfl
        rw [← e]
        exact kk
      · intro H7 s7 hD27
        have ew : ((kvsOf kw).filter fun _ => true).map (fun q => match q.1 with | .inr z => V.str ((wordAt ws z).getD "") | _ => V.non) = (wordsAt ws (kw.map (·.1))).map V.str := by
          rw [fil_all]
          unfold kvsOf wordsAt
          rw [List.map_map, List.map_map, List.map_map]
          rfl
        rw [ew] at hD27
        have hkd7 := s7 _ _ (upd_same (H := H6) (a := kd) (o := .frz od2 (.dK (kvsOf kw))))
        have n2k : D2 ≠ kd := fun e => by rw [e, upd_same] at hD2; cases hD2
        refine ⟨hkd7, ?_⟩
        have s68 : Same H6 (upd H7 kd (.dK (kvsOf kw))) := same_unlock (u := .dK (kvsOf kw)) hkd6 s7
        have hD28 : upd H7 kd (.dK (kvsOf kw)) D2 = some (.lst ((wordsAt ws (kw.map (·.1))).map V.str)) := (upd_ne n2k).trans hD27
        generalize upd H7 kd (.dK (kvsOf kw)) = H8 at s68 hD28 ⊢
        have s08 := Same.trans s06 s68
        have B8 := B.same s08
        have hL8 := s68 _ _ hL6
        obtain ⟨dx, dw, l0, h1, h2, h3⟩ := id B8.ex
        refine ⟨_, rfl, b, dx, _, rfl, h1, rfl, b, _, rfl, B8, fun ra hra => ?_⟩
        have t9 := newS (o := .tup (D.rs.map V.str)) hra
        refine ⟨ra, _, rfl, .inr (SqT.of upd_same), fun la hla => ?_⟩
        have t10 := newS (o := .lst (D.rs.map V.str)) hla
        have lD : D.rs.length = rs.length := by rw [← hD]; exact (srt_perm rs).length_eq
        have hwl : (wordsAt ws (kw.map (·.1))).length = kw.length := by
          unfold wordsAt
          rw [List.length_map, List.length_map]
        rw [List.length_map] at hk50
        refine ⟨D2, la, _, _, rfl, rfl, t10 _ _ (t9 _ _ hD28), upd_same, sz_le (m := 2000) (by rw [List.length_map, List.length_map, hwl]; omega) rfl, fun fa hfa => ?_⟩
        rw [← List.map_append]
        have t11 := newS (o := .lst ((wordsAt ws (kw.map (·.1)) ++ D.rs).map V.str)) hfa
        have t811 := Same.trans t9 (Same.trans t10 t11)
        have s011 := Same.trans s08 t811
        have B11 := B.same s011
        obtain ⟨dx', dw', l0', h1', _, _⟩ := id B11.ex
        refine ⟨_, rfl, b, _, dx', _, _, rfl, h1', T.k_Codebook.cl, T.a_Codebook_radix, bookF_radix _ _ _ _, _, rfl, _, rfl, ?_⟩
        have eDr : D.r = r := by rw [← hD]; rfl
        have hL11 := t811 _ _ hL8
        have lO : old.length ≤ D.ws.length - 0 := by
          rw [← hO, List.length_map]
          exact Nat.le_trans (List.length_filter_le _ _) subR.length_le
        have lDw : D.ws.length = ws.length := pw.length_eq
        have okr := okD.rv
        have hall : ∀ p ∈ old ++ rq, 1 ≤ p.2 ∧ p.2 ≤ hh.toNat := fun p hp => by
          rcases List.mem_append.mp hp with hp | hp
          · rw [← hO] at hp
            obtain ⟨q, hq, rfl⟩ := List.mem_map.mp hp
            have := word_len (okD.wd q (subR.subset (List.mem_filter.mp hq).1))
            have e : D.h = hh := by rw [← hD]; rfl
            have h1 := ok.h1
            show 1 ≤ q.2.length ∧ q.2.length ≤ hh.toNat
            omega
          · have := c.qo p hp
            have h1 := ok.h1
            omega
        have h6 := ok.h6
        have hfx : ∀ x ∈ wordsAt ws (kw.map (·.1)) ++ D.rs, x ∈ wordsAt ws (kw.map (·.1)) ++ rs := fun x hx => by
          rcases List.mem_append.mp hx with hx | hx
          · exact List.mem_append_left _ hx
          · refine List.mem_append_right _ ?_
            rw [← hD] at hx
            exact (srt_perm rs).mem_iff.mp hx
        refine ⟨D.r, fa, DD, _, old ++ rq, rfl, by rw [eDr]; exact ok.r2, by rw [eDr]; exact ok.r4, upd_same, by rw [List.length_append, hwl, lD]; omega, fun x hx => case_small c ok x (hfx x hx), hL11, ndL, by rw [List.length_append]; omega, fun p hp => by have := hall p hp; omega, fun ls ha hm H12 p s12 np hp => ?_⟩
        have np0 := s011.free np
        refine ky hf H12 p (Same.trans s011 s12) np0 ?_
        rw [eDr] at hp
        have prs : D.rs.Perm rs := by rw [← hD]; exact srt_perm rs
        have pfx : (wordsAt ws (kw.map (·.1)) ++ D.rs).Perm (wordsAt ws (kw.map (·.1)) ++ rs) := prs.append_left _
        have plens : (old ++ rq).Perm (lensTo ws rq (kw.map (·.1))) := by
          unfold lensTo
          rw [← hO, ← hR]
          exact (((rem_perm pw _).filter _).map _).append_right _
        have dnd : (digs r).Nodup := (digs_asc ok.r2 ok.r4).imp fun h => Nat.ne_of_lt h
        have dgl : (digs r).length = r.toNat := by
          rcases rad_cases ok.r2 ok.r4 with rfl | rfl | rfl
          · rw [digs_2]; rfl
          · rw [digs_3]; rfl
          · rw [digs_4]; rfl
        have pf1 : PF (wordsAt ws (kw.map (·.1)) ++ D.rs) := List.Perm.pairwise pfx.symm (fixed_pf ok c.kn fun z hz => by
          obtain ⟨x, _, h⟩ := case_some c ok.nd hz
          exact List.mem_map_of_mem h) fun h => by rw [cmpS_symm]; exact h
        have hc1 : ∀ t ∈ wordsAt ws (kw.map (·.1)) ++ D.rs, ∀ c ∈ TL.tl t, c ∈ digs r := fun t ht => by
          rcases List.mem_append.mp (hfx t ht) with ht | ht
          · obtain ⟨z, hz, rfl⟩ := List.mem_map.mp ht
            obtain ⟨x, e, h⟩ := case_some c ok.nd hz
            rw [e]
            exact digs_word ok.r2 ok.r4 (ok.wd _ h)
          · exact digs_word ok.r2 ok.r4 (ok.rv _ ht)
        have pm : (movedL ws rq (kw.map (·.1))).Perm ((old ++ rq).map (·.2)) := by
          refine List.Perm.trans ?_ (plens.map (·.2)).symm
          unfold movedL lensTo
          rw [List.map_append, List.map_map]
          exact List.perm_append_comm
        have f1 : Fits (digs r).length (wordsAt ws (kw.map (·.1)) ++ D.rs) ((old ++ rq).map (·.2)) 1 hh.toNat := by
          rw [dgl]
          refine (fail_fits (r := r) (by have := ok.r2; omega) (((lens_split ok c.kn c.km).trans ((pfx.symm.map _).append_right _)).trans (pm.append_left _)) hh.toNat).mp ?_
          rw [failFrom_perm pfx (List.Perm.refl _)]
          exact hf
        rw [pack_placed dnd pf1 hc1 ndL f1 hall ha hm, placed_perm (fun x => pfx.mem_iff) plens] at hp
        exact hp
/-! ### assign -/
theorem digs_in {r : Int} (r2 : 2 ≤ r) (r4 : r ≤ 4) {c : Nat} (h : c ∈ digs r) : 48 ≤ c ∧ (c : Int) < 48 + r := by
  rcases rad_cases r2 r4 with rfl | rfl | rfl
  · rw [digs_2] at h; simp at h; omega
  · rw [digs_3] at h; simp at h; omega
  · rw [digs_4] at h; simp at h; omega
theorem digs_nd {r : Int} (r2 : 2 ≤ r) (r4 : r ≤ 4) : (digs r).Nodup := (digs_asc r2 r4).imp fun h => Nat.ne_of_lt h
theorem digs_size {r : Int} (r2 : 2 ≤ r) (r4 : r ≤ 4) : (digs r).length = r.toNat := by
  rcases rad_cases r2 r4 with rfl | rfl | rfl
  · rw [digs_2]; rfl
  · rw [digs_3]; rfl
  · rw [digs_4]; rfl
def failR (r h : Int) (ws : List (Str × Str)) (rs : List Str) (rq : List (Str × Nat)) : Option Nat := failFrom r ((remW ws (kvsI rq)).map (·.2) ++ rs) (lensOf (remW ws (kvsI rq)) rs rq) 0 h.toNat
def assignW (r : Int) (ws : List (Str × Str)) (rs : List Str) (rq : List (Str × Nat)) : List (Str × Str) := remW ws (kvsI rq) ++ placed (digs r) ((remW ws (kvsI rq)).map (·.2) ++ rs) rq
/-- the names that a request names: what it keeps of them -/
structure RqOk (h : Int) (ws : List (Str × Str)) (rs : List Str) (rq : List (Str × Nat)) : Prop where
  qn : (rq.map (·.1)).Nodup
  qo : ∀ q ∈ rq, nameB q.1 = true ∧ 1 ≤ q.2 ∧ ((q.2 : Nat) : Int) ≤ h
  lw : ws.length + rs.length ≤ 100
  lq : ws.length + rq.length ≤ 30
theorem RqOk.case {r h : Int} {ws : List (Str × Str)} {rs : List Str} {rq : List (Str × Nat)} (k : RqOk h ws rs rq) (ok : BookOk r h ws rs) {kw : List (Str × Str)} (p : kw.Perm (remW ws (kvsI rq))) : CaseOk h ws rq (kw.map (·.1)) := by
  have := k.lq
  refine ⟨k.qn, k.qo, by omega, ((p.map (·.1)).nodup_iff).mpr (ok.nd.sublist ((remW_sub _ _).map _)), fun z hz => (p.map (·.1)).mem_iff.mp hz⟩
theorem rem_words {r h : Int} {ws : List (Str × Str)} {rs : List Str} {rq : List (Str × Nat)} (ok : BookOk r h ws rs) {kw : List (Str × Str)} (p : kw.Perm (remW ws (kvsI rq))) : (wordsAt ws (kw.map (·.1))).Perm ((remW ws (kvsI rq)).map (·.2)) := by
  have e : wordsAt ws (kw.map (·.1)) = kw.map (·.2) := by
    unfold wordsAt
    rw [List.map_map]
    refine List.map_congr_left fun q hq => ?_
    show (wordAt ws q.1).getD "" = q.2
    rw [wordAt_nodup ok.nd ((remW_sub _ _).subset (p.mem_iff.mp hq))]
    rfl
  rw [e]
  exact p.map _
theorem rem_not {ws : List (Str × Str)} {rq : List (Str × Nat)} (qn : (rq.map (·.1)).Nodup) {p : Str × Str} (hp : p ∈ remW ws (kvsI rq)) : p.1 ∉ rq.map (·.1) := fun hb => by
  have hp3 : (valV (kvsI rq) (Sum.inr p.1)).isNone = true := (List.mem_filter.mp hp).2
  obtain ⟨q, hq, e2⟩ := List.mem_map.mp hb
  rw [← e2, valV_kvsI, lenAt_nodup qn hq] at hp3
  cases hp3
theorem lens_all {ws : List (Str × Str)} {rq : List (Str × Nat)} {kw : List (Str × Str)} (p : kw.Perm (remW ws (kvsI rq))) : lensTo ws rq (kw.map (·.1)) = rq := by
  unfold lensTo
  have e : (remW ws (kvsI rq)).filter (fun p => !decide (p.1 ∈ kw.map (·.1))) = [] := List.filter_eq_nil_iff.mpr fun q hq h => by
    have : decide (q.1 ∈ kw.map (·.1)) = true := decide_eq_true (List.mem_map_of_mem (p.mem_iff.mpr hq))
    rw [this] at h
    cases h
  rw [e]
  rfl
theorem assign_ok {r h : Int} {ws : List (Str × Str)} {rs : List Str} {rq : List (Str × Nat)} (ok : BookOk r h ws rs) (k : RqOk h ws rs rq) (hf : failR r h ws rs rq = none) :
    BookOk r h (assignW r ws rs rq) rs ∧ ((placed (digs r) ((remW ws (kvsI rq)).map (·.2) ++ rs) rq).map fun p => (p.1, p.2.length)).Perm rq := by
  have sub := remW_sub ws (kvsI rq)
  have pf : PF ((remW ws (kvsI rq)).map (·.2) ++ rs) := pf_sub ok.pf ((sub.map _).append (List.Sublist.refl _))
  have hc : ∀ t ∈ (remW ws (kvsI rq)).map (·.2) ++ rs, ∀ c ∈ TL.tl t, c ∈ digs r := fun t ht => by
    rcases List.mem_append.mp ht with ht | ht
    · obtain ⟨p, hp, rfl⟩ := List.mem_map.mp ht
      exact digs_word ok.r2 ok.r4 (ok.wd _ (sub.subset hp))
    · exact digs_word ok.r2 ok.r4 (ok.rv _ ht)
  have f : Fits (digs r).length ((remW ws (kvsI rq)).map (·.2) ++ rs) (rq.map (·.2)) 1 h.toNat := by
    rw [digs_size ok.r2 ok.r4]
    exact (fail_fits (r := r) (by have := ok.r2; omega) (List.Perm.refl _) h.toNat).mp hf
  have hb : ∀ p ∈ rq, 1 ≤ p.2 ∧ p.2 ≤ h.toNat := fun p hp => by
    have := k.qo p hp
    omega
  obtain ⟨g1, g2, g3⟩ := placed_ok (digs_nd ok.r2 ok.r4) pf hc k.qn f hb
  refine ⟨⟨ok.r2, ok.r4, ok.h1, ok.h6, fun p hp => ?_, fun p hp => ?_, ok.rv, ?_, ?_, ?_, ok.lr⟩, g2⟩
  · rcases List.mem_append.mp hp with hp | hp
    · exact ok.nm p (sub.subset hp)
    · exact (k.qo _ (g2.mem_iff.mp (List.mem_map_of_mem hp))).1
  · rcases List.mem_append.mp hp with hp | hp
    · exact ok.wd p (sub.subset hp)
    · have := k.qo _ (g2.mem_iff.mp (List.mem_map_of_mem hp))
      exact word_of this.2.1 this.2.2 fun c hc => digs_in ok.r2 ok.r4 (g3 p hp c hc)
  · refine List.Perm.pairwise ?_ g1 fun h => by rw [cmpS_symm]; exact h
    unfold assignW
    rw [List.map_append, List.append_assoc, List.append_assoc]
    exact List.perm_append_comm.append_left _
  · unfold assignW
    rw [List.map_append]
    refine List.nodup_append.mpr ⟨ok.nd.sublist (sub.map _), ?_, fun a ha b hb e => ?_⟩
    · have := g2.map (·.1)
      rw [List.map_map] at this
      exact this.nodup_iff.mpr k.qn
    · obtain ⟨p, hp, rfl⟩ := List.mem_map.mp ha
      obtain ⟨q, hq, rfl⟩ := List.mem_map.mp hb
      have := List.mem_map_of_mem (f := (·.1)) (g2.mem_iff.mp (List.mem_map_of_mem (f := fun p : Str × Str => (p.1, p.2.length)) hq))
      exact rem_not k.qn hp (e ▸ this)
  · have l1 := sub.length_le
    have l2 := g2.length_eq
    have l3 := k.lq
    unfold assignW
    rw [List.length_map] at l2
    rw [List.length_append]
    omega
/-! ### assign -/
def sp_assign (K : PySem.W.Frag) (mg : Str → Option Value) : Sp := fun vs H Q E => ∃ (b : Addr) (v : V) (W : Option (List (Key × V))) (r h : Int) (ws : List (Str × Str)) (rs : List Str), vs = [.ref b, v] ∧ BookOk r h ws rs ∧ BookAt (CBk mg) H b (mkBook r h ws rs) ∧ DicV K H v W ∧
  ((match W with | some kvs => reqB h kvs | none => false) = false → ∀ H', Same H H' → E (XIr mg) none H') ∧
  (∀ kvs, W = some kvs → reqB h kvs = true → ∃ (d : Addr) (rq : List (Str × Nat)), v = .ref d ∧ H d = some (.dK (kvsI rq)) ∧ RqOk h ws rs rq ∧
    (failR r h ws rs rq = none → ∀ H' q, Same H H' → BookNew (CBk mg) H H' q (mkBook r h (assignW r ws rs rq) rs) → Q (.ref q) H') ∧
    (∀ n, failR r h ws rs rq = some n → ∀ H' x, Same H H' → H' x = some (.xd [("level", .int (n : Nat))]) → E (XNr mg) (some x) H'))
theorem cal_assign (T : Txt K mg) (Z_NoRoom : SupX P w K mg base "NoRoom" (clsAt mg "NoRoom") "level") : CalG P w K mg base (L2.CX P w) 8 "assign" (sp_assign K mg) [] := by
  refine T.d_assign.calX .nil sc_assign (fun vs H Q E h => by obtain ⟨_, _, _, _, _, _, _, rfl, _⟩ := h; rfl) (fun f cdv A outer s H vs Q E hr h => ?_)
  obtain ⟨b, v, W, r, hh, ws, rs, rfl, ok, B, hW, kq, ky⟩ := h
  refine ⟨_, (pss_cons (ps_expr (pe_gE (cal_check_request T) hr (by first | decide | (simp only [Nat.add_eq]; omega)) rfl (fun σ => passAt (takes_of rfl rfl rfl rfl) σ) (pa_cons (pv 0) (pa_cons (pv 1) pa_nil))))
      (pss_cons (ps_set (i := 2) sc_assign.nd rfl (Or.inl rfl) (pe_g (cal_unrequested_words T) hr (by first | decide | (simp only [Nat.add_eq]; omega)) rfl (pa_cons (pv 0) (pa_cons (pv 1) pa_nil))))
      (pss_cons (ps_set (i := 3) sc_assign.nd rfl (Or.inl rfl) (pe_gE (cal_pack T Z_NoRoom) hr (by first | decide | (simp only [Nat.add_eq]; omega)) rfl (fun σ => passAt (takes_of rfl rfl rfl rfl) σ) (pa_cons (pv 0) (pa_cons (pv 1) (pa_cons (pv 2) pa_nil)))))
      (pss_one (ps_ret (pe_kE (mak_Codebook T).1 hr (by first | decide | (simp only [Nat.add_eq]; omega)) rfl passLL (pa_cons (pe_fldK (K := K) (pv 0) rfl) (pa_cons (pe_fldK (K := K) (pv 0) rfl) (pa_cons (pe_star2 (pv 2) (pv 3)) (pa_cons (pe_mE0 (met_reserved T) hr (by first | decide | (simp only [Nat.add_eq]; omega)) pass00 (pv 0)) pa_nil)))))))))), ?_⟩
  refine ⟨_, rfl, _, rfl, b, mkBook r hh ws rs, v, W, rfl, B, hW, fun hy H1 s1 => ?_, fun hf H1 s1 => kq hf H1 s1⟩
  cases W with
  | none => cases hy
  | some kvs =>
    obtain ⟨d, rq, rfl, hd, k, kf, kn⟩ := ky kvs rfl hy
    have pw : (mkBook r hh ws rs).ws.Perm ws := by rw [mkBook_ws]; exact pick_perm ok.nd (srt_perm _)
    have okD := mkBook_okD ok
    have ndD := mkBook_nd ok
    have e64 : (mkBook r hh ws rs).ws.length < 64 := by have := pw.length_eq; have := ok.lw; omega
    refine ⟨_, rfl, _, rfl, b, d, mkBook r hh ws rs, kvsI rq, rfl, B.same s1, ndD, e64, s1 _ _ hd, fun H2 kd s2 n2 hkd => ?_⟩
    have s02 := Same.trans s1 s2
    have pk : (remW (mkBook r hh ws rs).ws (kvsI rq)).Perm (remW ws (kvsI rq)) := rem_perm pw _
    generalize remW (mkBook r hh ws rs).ws (kvsI rq) = kw at hkd pk
    have efail : failFrom r (wordsAt ws (kw.map (·.1)) ++ rs) (lensOf (remW ws (kvsI rq)) rs rq) 0 hh.toNat = failR r hh ws rs rq := failFrom_perm ((rem_words ok pk).append_right rs) (List.Perm.refl _) _ _
    have eplc : placed (digs r) (wordsAt ws (kw.map (·.1)) ++ rs) (lensTo ws rq (kw.map (·.1))) = placed (digs r) ((remW ws (kvsI rq)).map (·.2) ++ rs) rq := by
      rw [lens_all pk]
      exact placed_perm (fun x => ((rem_words ok pk).append_right rs).mem_iff) (List.Perm.refl _)
    refine ⟨_, rfl, _, rfl, _, rfl, b, d, kd, r, hh, ws, rs, rq, kw, rfl, ok, k.case ok pk, B.same s02, s02 _ _ hd, hkd, k.lw, k.lq, fun hf H3 fd s3 n3 hfd => ?_, fun n hf H3 x s3 hx => kn n (efail ▸ hf) H3 x (Same.trans s02 s3) hx⟩
    rw [efail] at hf
    rw [eplc] at hfd
    obtain ⟨okA, pg⟩ := assign_ok ok k hf
    have s03 := Same.trans s02 s3
    have B3 := B.same s03
    obtain ⟨dx, dw, l0, h1, h2, h3⟩ := id B3.ex
    generalize hP : placed (digs r) ((remW ws (kvsI rq)).map (·.2) ++ rs) rq = plc at hfd pg
    have ndP : (plc.map (·.1)).Nodup := by
      have := pg.map (·.1)
      rw [List.map_map] at this
      exact this.nodup_iff.mpr k.qn
    have pF : (mkBook 0 0 plc []).ws.Perm plc := by
      rw [mkBook_ws]
      exact pick_perm ndP (srt_perm _)
    generalize (mkBook 0 0 plc []).ws = F at hfd pF
    have pA : (kw ++ F).Perm (assignW r ws rs rq) := by
      unfold assignW
      rw [hP]
      exact pk.append pF
    have okK : BookOk r hh (kw ++ F) (mkBook r hh ws rs).rs := okA.perm pA (srt_perm rs)
    have nKF := kvsOf_nodup okK.nd
    have eKF : kvsOf (kw ++ F) = kvsOf kw ++ kvsOf F := List.map_append
    refine ⟨_, rfl, b, _, dx, _, _, rfl, h1, T.k_Codebook.cl, T.a_Codebook_radix, bookF_radix _ _ _ _, ?_⟩
    refine ⟨_, rfl, b, _, dx, _, _, rfl, h1, T.k_Codebook.cl, T.a_Codebook_depth, bookF_depth _ _ _ _, ?_⟩
    refine fun sp hsp => ?_
    have hkd3 := s3 _ _ hkd
    have nk : sp ≠ kd := fun e => by rw [e] at hsp; rw [hkd3] at hsp; cases hsp
    have nf : sp ≠ fd := fun e => by rw [e] at hsp; rw [hfd] at hsp; cases hsp
    have m1 : mergeK [] (kvsOf kw) = kvsOf kw := by
      rw [merge_nodup (kvs := []), List.nil_append]
      rw [eKF, List.map_append] at nKF
      rw [List.nil_append]
      exact (List.nodup_append.mp nKF).1
    refine ⟨_, rfl, kd, kvsOf kw, rfl, nk, .inl ((upd_ne (Ne.symm nk)).trans hkd3), upd_same, ?_⟩
    rw [upd_upd, m1]
    refine ⟨_, rfl, fd, kvsOf F, rfl, nf, .inl ((upd_ne (Ne.symm nf)).trans hfd), upd_same, sz_le (m := 200) (by rw [← List.length_append, ← eKF, kvsOf_len]; have := okK.lw; omega) rfl, ?_⟩
    rw [upd_upd, merge_nodup (by rw [← eKF]; exact nKF), ← eKF]
    have t4 := newS (o := .dK (kvsOf (kw ++ F))) hsp
    have h14 := t4 _ _ h1
    refine ⟨_, rfl, b, dx, _, rfl, h14, rfl, b, _, rfl, B3.same t4, fun ra hra => ?_⟩
    have t5 := newS (o := .tup ((mkBook r hh ws rs).rs.map V.str)) hra
    have hsp5 := t5 _ _ (upd_same (H := H3) (a := sp) (o := .dK (kvsOf (kw ++ F))))
    refine fun nb dy ny ndy nex => init_use (d := sp) okK (same_new (same_new (Same.refl _) ndy) ny) ny upd_same hsp5 (seqV_tup okK upd_same) fun H5 s5 BN => ⟨rfl, ?_⟩
    have s45 := Same.trans t4 t5
    have s05 := Same.trans s03 s45
    have eb : mkBook (mkBook r hh ws rs).r (mkBook r hh ws rs).h (kw ++ F) (mkBook r hh ws rs).rs = mkBook r hh (assignW r ws rs rq) rs := mk_perm2 okA.nd pA (srt_perm rs)
    rw [eb] at BN
    obtain ⟨ex, ed, el, n1, n2, n3, m1, m2, m3⟩ := BN.ex
    exact kf hf H5 nb (Same.trans s05 s5) ⟨ex, ed, el, s05.free n1, s05.free n2, s05.free n3, m1, m2, m3⟩
/-! ### a call of assign that succeeds -/
theorem use_assign {H : Hp} {b d : Addr} {r h : Int} {ws : List (Str × Str)} {rs : List Str} {rq : List (Str × Nat)} {Q : VK} {E : XK} (ok : BookOk r h ws rs) (k : RqOk h ws rs rq) (B : BookAt (CBk mg) H b (mkBook r h ws rs)) (hd : H d = some (.dK (kvsI rq))) (hf : failR r h ws rs rq = none)
    (kk : ∀ H' q, Same H H' → BookNew (CBk mg) H H' q (mkBook r h (assignW r ws rs rq) rs) → Q (.ref q) H') : sp_assign K mg [.ref b, .ref d] H Q E := by
  have c := k.case ok (.refl _)
  refine ⟨b, .ref d, some (kvsI rq), r, h, ws, rs, rfl, ok, B, dicV_I c hd, fun hy => ?_, fun kvs e _ => ?_⟩
  · have hy : reqB h (kvsI rq) = false := hy
    rw [case_req c] at hy
    cases hy
  · exact ⟨d, rq, rfl, hd, k, fun _ => kk, fun n hn => by rw [hf] at hn; cases hn⟩
/-! ### what assign leads to -/
theorem valV_isNone (rq : List (Str × Nat)) (n : Str) : (valV (kvsI rq) (.inr n)).isNone = !decide (n ∈ rq.map (·.1)) := by
  rw [valV_kvsI]
  cases e : lenAt rq n with
  | none => rw [decide_eq_false (lenAt_none.mp e)]; rfl
  | some k => rw [decide_eq_true (List.mem_map_of_mem (f := (·.1)) (lenAt_some e))]; rfl
theorem remW_eq (ws : List (Str × Str)) (rq : List (Str × Nat)) : remW ws (kvsI rq) = ws.filter fun p => !decide (p.1 ∈ rq.map (·.1)) := List.filter_congr fun p _ => valV_isNone rq p.1
theorem remW_names {ws : List (Str × Str)} {rq rq' : List (Str × Nat)} (h : ∀ p ∈ ws, p.1 ∈ rq.map (·.1) ↔ p.1 ∈ rq'.map (·.1)) : remW ws (kvsI rq) = remW ws (kvsI rq') := by
  rw [remW_eq, remW_eq]
  exact List.filter_congr fun p hp => by rw [decide_eq_decide.mpr (h p hp)]
theorem remW_nil (ws : List (Str × Str)) : remW ws (kvsI []) = ws := List.filter_eq_self.mpr fun _ _ => rfl
theorem fixed_chars {r h : Int} {ws : List (Str × Str)} {rs : List Str} (ok : BookOk r h ws rs) (kvs : List (Key × V)) : ∀ t ∈ (remW ws kvs).map (·.2) ++ rs, ∀ c ∈ TL.tl t, c ∈ digs r := fun t ht => by
  rcases List.mem_append.mp ht with ht | ht
  · obtain ⟨p, hp, rfl⟩ := List.mem_map.mp ht
    exact digs_word ok.r2 ok.r4 (ok.wd _ ((remW_sub _ _).subset hp))
  · exact digs_word ok.r2 ok.r4 (ok.rv _ ht)
theorem fixed_rem {r h : Int} {ws : List (Str × Str)} {rs : List Str} (ok : BookOk r h ws rs) (kvs : List (Key × V)) : PF ((remW ws kvs).map (·.2) ++ rs) := pf_sub ok.pf (((remW_sub _ _).map _).append (List.Sublist.refl _))
theorem failR_fits {r h : Int} {ws : List (Str × Str)} {rs : List Str} (ok : BookOk r h ws rs) (rq : List (Str × Nat)) : failR r h ws rs rq = none ↔ Fits (digs r).length ((remW ws (kvsI rq)).map (·.2) ++ rs) (rq.map (·.2)) 1 h.toNat := by
  rw [digs_size ok.r2 ok.r4]
  exact fail_fits (r := r) (by have := ok.r2; omega) (List.Perm.refl _) h.toNat
theorem failR_nil {r h : Int} {ws : List (Str × Str)} {rs : List Str} (ok : BookOk r h ws rs) : failR r h ws rs [] = none :=
  (failR_fits ok []).mpr (placed_fits (digs_nd ok.r2 ok.r4) (placed := []) (by rw [List.append_nil]; exact fixed_rem ok _) (by rw [List.append_nil]; exact fixed_chars ok _))
theorem placed_nil (ds : List Nat) (used : List Str) : placed ds used [] = [] := by
  unfold placed
  rw [List.map_nil, show srtP [] = [] from List.eq_nil_of_length_eq_zero (srtP_perm []).length_eq]
  rfl
theorem assignW_nil (r : Int) (ws : List (Str × Str)) (rs : List Str) : assignW r ws rs [] = ws := by
  unfold assignW
  rw [remW_nil, placed_nil, List.append_nil]
section
variable {r h : Int} {ws : List (Str × Str)} {rs : List Str} {rq : List (Str × Nat)}
theorem plc_names (ok : BookOk r h ws rs) (k : RqOk h ws rs rq) (hf : failR r h ws rs rq = none) : ((placed (digs r) ((remW ws (kvsI rq)).map (·.2) ++ rs) rq).map (·.1)).Perm (rq.map (·.1)) := by
  have := (assign_ok ok k hf).2.map (·.1)
  rw [List.map_map] at this
  exact this
theorem rem_again (ok : BookOk r h ws rs) (k : RqOk h ws rs rq) (hf : failR r h ws rs rq = none) : remW (assignW r ws rs rq) (kvsI rq) = remW ws (kvsI rq) := by
  have hp := plc_names ok k hf
  have e : (assignW r ws rs rq).filter (fun p => !decide (p.1 ∈ rq.map (·.1))) = ws.filter fun p => !decide (p.1 ∈ rq.map (·.1)) := by
    unfold assignW
    rw [List.filter_append, remW_eq, List.filter_filter]
    rw [remW_eq] at hp
    have e2 : (placed (digs r) ((ws.filter fun p => !decide (p.1 ∈ rq.map (·.1))).map (·.2) ++ rs) rq).filter (fun p => !decide (p.1 ∈ rq.map (·.1))) = [] := List.filter_eq_nil_iff.mpr fun p hp' h => by
      have : decide (p.1 ∈ rq.map (·.1)) = true := decide_eq_true (hp.mem_iff.mp (List.mem_map_of_mem (f := (·.1)) hp'))
      rw [this] at h
      cases h
    rw [e2, List.append_nil]
    exact List.filter_congr fun p _ => Bool.and_self _
  rw [remW_eq, e, ← remW_eq]
theorem again_fail (ok : BookOk r h ws rs) (k : RqOk h ws rs rq) (hf : failR r h ws rs rq = none) : failR r h (assignW r ws rs rq) rs rq = none := by
  unfold failR at *
  rw [rem_again ok k hf]
  exact hf
theorem again_asg (ok : BookOk r h ws rs) (k : RqOk h ws rs rq) (hf : failR r h ws rs rq = none) : assignW r (assignW r ws rs rq) rs rq = assignW r ws rs rq := by
  show remW (assignW r ws rs rq) (kvsI rq) ++ placed (digs r) ((remW (assignW r ws rs rq) (kvsI rq)).map (·.2) ++ rs) rq = _
  rw [rem_again ok k hf]
  rfl
theorem assign_perm {rq' : List (Str × Nat)} (p : rq'.Perm rq) : failR r h ws rs rq' = failR r h ws rs rq ∧ assignW r ws rs rq' = assignW r ws rs rq := by
  have e : remW ws (kvsI rq') = remW ws (kvsI rq) := remW_names fun q _ => (p.map _).mem_iff
  constructor
  · unfold failR
    rw [e]
    refine failFrom_perm (List.Perm.refl _) ?_ _ _
    unfold lensOf
    exact (p.map _).append_left _
  · unfold assignW
    rw [e, placed_perm (fun _ => Iff.rfl) p]
end
theorem place_append {ds : List Nat} : ∀ {a b : List (Nat × Str)} {used : List Str}, place ds used (a ++ b) = place ds used a ++ place ds (used ++ (place ds used a).map (·.2)) b
  | [], b, used => by
    show place ds used b = place ds (used ++ []) b
    rw [List.append_nil]
  | (l, n) :: a, b, used => by
    have ih := place_append (ds := ds) (a := a) (b := b) (used := used ++ [(freeN ds used l).headD ""])
    show (n, (freeN ds used l).headD "") :: place ds (used ++ [(freeN ds used l).headD ""]) (a ++ b) = (n, (freeN ds used l).headD "") :: (place ds (used ++ [(freeN ds used l).headD ""]) a ++ place ds (used ++ ((freeN ds used l).headD "" :: (place ds (used ++ [(freeN ds used l).headD ""]) a).map (·.2))) b)
    rw [ih, ← List.append_cons]
/-! ### the order -/
def osOf (lens : List (Str × Nat)) : List (Nat × Str) := (srtP (lens.map fun p => (((p.2 : Nat) : Int), p.1))).map fun q => (q.1.toNat, q.2)
theorem osOf_perm (lens : List (Str × Nat)) : (osOf lens).Perm (lens.map fun p => (p.2, p.1)) := by
  have p := (srtP_perm (lens.map fun p => (((p.2 : Nat) : Int), p.1))).map fun q => (q.1.toNat, q.2)
  rw [List.map_map] at p
  exact p
theorem osOf_cast (lens : List (Str × Nat)) : (osOf lens).map (fun o => (((o.1 : Nat) : Int), o.2)) = srtP (lens.map fun p => (((p.2 : Nat) : Int), p.1)) := by
  unfold osOf
  rw [List.map_map]
  refine (List.map_congr_left fun q hq => ?_).trans (List.map_id _)
  obtain ⟨p, _, rfl⟩ := List.mem_map.mp ((srtP_perm _).mem_iff.mp hq)
  rfl
def swp (os : List (Nat × Str)) : List (Str × Nat) := os.map fun o => (o.2, o.1)
theorem swp_osOf (lens : List (Str × Nat)) : (swp (osOf lens)).Perm lens := by
  have := (osOf_perm lens).map fun o : Nat × Str => (o.2, o.1)
  rw [List.map_map] at this
  rw [show lens.map ((fun o : Nat × Str => (o.2, o.1)) ∘ fun p : Str × Nat => (p.2, p.1)) = lens from List.map_id'' (fun o => rfl) _] at this
  exact this
theorem osOf_sub {lens : List (Str × Nat)} {os : List (Nat × Str)} (s : os.Sublist (osOf lens)) : osOf (swp os) = os := by
  have e : (swp os).map (fun p => (((p.2 : Nat) : Int), p.1)) = os.map fun o => (((o.1 : Nat) : Int), o.2) := by
    unfold swp
    rw [List.map_map]
    rfl
  have a : AscP (os.map fun o => (((o.1 : Nat) : Int), o.2)) := by
    refine List.Pairwise.sublist (s.map _) ?_
    rw [osOf_cast]
    exact srtP_asc _
  unfold osOf
  rw [e, srtP_eq (List.Perm.refl _) a, List.map_map]
  exact List.map_id'' (fun o => rfl) _
theorem fits_less {k lo h : Nat} {fixed : List Str} {m m' : List Nat} (s : m'.Sublist m) (f : Fits k fixed m lo h) : Fits k fixed m' lo h := fun n h1 h2 => by
  refine Nat.le_trans (Nat.add_le_add_left ?_ _) (f n h1 h2)
  rw [fillN_append, fillN_append]
  refine Nat.add_le_add_left ?_ _
  clear f h1 h2
  induction s with
  | slnil => exact Nat.le_refl _
  | cons a s ih => rw [fillN_cons]; exact Nat.le_trans ih (Nat.le_add_left _ _)
  | cons_cons a s ih => rw [fillN_cons, fillN_cons]; exact Nat.add_le_add_left ih _
theorem fits_fixed {k lo h : Nat} {a b : List Str} {m : List Nat} (p : a.Perm b) (f : Fits k b m lo h) : Fits k a m lo h := fun n h1 h2 => by
  rw [touchN_perm p, fillN_perm ((p.map (·.length)).append_right m)]
  exact f n h1 h2
theorem placed_osOf (ds : List Nat) (used : List Str) (lens : List (Str × Nat)) : placed ds used lens = place ds used (osOf lens) := rfl
/-- the last new names, assigned in a second call, lead to the same words -/
theorem assign_split {r h : Int} {ws : List (Str × Str)} {rs : List Str} {rq : List (Str × Nat)} (ok : BookOk r h ws rs) (k : RqOk h ws rs rq) (hf : failR r h ws rs rq = none) (c : Nat) (hn : ∀ o ∈ (osOf rq).drop c, o.2 ∉ ws.map (·.1)) :
    RqOk h ws rs (swp ((osOf rq).take c)) ∧ failR r h ws rs (swp ((osOf rq).take c)) = none ∧ BookOk r h (assignW r ws rs (swp ((osOf rq).take c))) rs ∧ RqOk h (assignW r ws rs (swp ((osOf rq).take c))) rs (swp ((osOf rq).drop c)) ∧
    failR r h (assignW r ws rs (swp ((osOf rq).take c))) rs (swp ((osOf rq).drop c)) = none ∧ assignW r (assignW r ws rs (swp ((osOf rq).take c))) rs (swp ((osOf rq).drop c)) = assignW r ws rs rq := by
  have P := swp_osOf rq
  have sT : ((osOf rq).take c).Sublist (osOf rq) := List.take_sublist _ _
  have sD : ((osOf rq).drop c).Sublist (osOf rq) := List.drop_sublist _ _
  have eO : swp (osOf rq) = swp ((osOf rq).take c) ++ swp ((osOf rq).drop c) := by
    unfold swp
    rw [← List.map_append, List.take_append_drop]
  have eT := osOf_sub sT
  have eD := osOf_sub sD
  have ePl : place (digs r) ((remW ws (kvsI rq)).map (·.2) ++ rs) (osOf rq) = place (digs r) ((remW ws (kvsI rq)).map (·.2) ++ rs) ((osOf rq).take c) ++ place (digs r) (((remW ws (kvsI rq)).map (·.2) ++ rs) ++ (place (digs r) ((remW ws (kvsI rq)).map (·.2) ++ rs) ((osOf rq).take c)).map (·.2)) ((osOf rq).drop c) := by
    rw [← place_append, List.take_append_drop]
  have hn' : ∀ q ∈ swp ((osOf rq).drop c), q.1 ∉ ws.map (·.1) := fun q hq => by
    obtain ⟨o, ho, rfl⟩ := List.mem_map.mp hq
    exact hn o ho
  generalize swp ((osOf rq).take c) = q1 at eO eT ⊢
  generalize swp ((osOf rq).drop c) = q2 at eO eD hn' ⊢
  rw [eO] at P
  have lq := k.lq
  have plen : q1.length + q2.length = rq.length := by rw [← List.length_append]; exact P.length_eq
  have nd12 : ((q1 ++ q2).map (·.1)).Nodup := (P.map _).nodup_iff.mpr k.qn
  rw [List.map_append] at nd12
  obtain ⟨nd1, nd2, dis⟩ := List.nodup_append.mp nd12
  have m1 : ∀ q ∈ q1, q ∈ rq := fun q hq => P.mem_iff.mp (List.mem_append_left _ hq)
  have m2 : ∀ q ∈ q2, q ∈ rq := fun q hq => P.mem_iff.mp (List.mem_append_right _ hq)
  have k1 : RqOk h ws rs q1 := ⟨nd1, fun q hq => k.qo q (m1 q hq), k.lw, by omega⟩
  have e1 : remW ws (kvsI q1) = remW ws (kvsI rq) := remW_names fun p hp => by
    constructor
    · intro h
      obtain ⟨q, hq, e⟩ := List.mem_map.mp h
      exact List.mem_map.mpr ⟨q, m1 q hq, e⟩
    · intro h
      obtain ⟨q, hq, e⟩ := List.mem_map.mp h
      rcases List.mem_append.mp (P.mem_iff.mpr hq) with hq | hq
      · exact List.mem_map.mpr ⟨q, hq, e⟩
      · exact absurd (by rw [e]; exact List.mem_map_of_mem hp) (hn' q hq)
  have f0 := (failR_fits ok rq).mp hf
  have f1 : failR r h ws rs q1 = none := by
    refine (failR_fits ok q1).mpr ?_
    rw [e1]
    refine fits_less (List.sublist_append_left _ (q2.map (·.2))) ?_
    rw [← List.map_append]
    exact fits_perm (P.map _).symm f0
  obtain ⟨ok1, pg1⟩ := assign_ok ok k1 f1
  obtain ⟨okA, pgA⟩ := assign_ok ok k hf
  have eW1 : assignW r ws rs q1 = remW ws (kvsI rq) ++ place (digs r) ((remW ws (kvsI rq)).map (·.2) ++ rs) ((osOf rq).take c) := by
    unfold assignW
    rw [e1, placed_osOf, eT]
  have nm1 := plc_names ok k1 f1
  have lW1 : (assignW r ws rs q1).length ≤ ws.length + q1.length := by
    have l1 := (remW_sub ws (kvsI q1)).length_le
    have l2 := nm1.length_eq
    rw [List.length_map, List.length_map] at l2
    unfold assignW
    rw [List.length_append]
    omega
  have lr := ok.lr
  have k2 : RqOk h (assignW r ws rs q1) rs q2 := ⟨nd2, fun q hq => k.qo q (m2 q hq), by omega, by omega⟩
  have e2 : remW (assignW r ws rs q1) (kvsI q2) = assignW r ws rs q1 := by
    rw [remW_eq]
    refine List.filter_eq_self.mpr fun p hp => ?_
    rw [Bool.not_eq_true', decide_eq_false_iff_not]
    intro hm
    unfold assignW at hp
    rcases List.mem_append.mp hp with hp | hp
    · obtain ⟨q, hq, e⟩ := List.mem_map.mp hm
      exact hn' q hq (by rw [e]; exact List.mem_map_of_mem ((remW_sub _ _).subset hp))
    · exact dis p.1 (nm1.mem_iff.mp (List.mem_map_of_mem (f := (·.1)) hp)) p.1 hm rfl
  have eU : ∀ x, x ∈ (assignW r ws rs q1).map (·.2) ++ rs ↔ x ∈ ((remW ws (kvsI rq)).map (·.2) ++ rs) ++ (place (digs r) ((remW ws (kvsI rq)).map (·.2) ++ rs) ((osOf rq).take c)).map (·.2) := fun x => by
    rw [eW1, List.map_append]
    simp only [List.mem_append]
    constructor
    · rintro ((h | h) | h)
      · exact .inl (.inl h)
      · exact .inr h
      · exact .inl (.inr h)
    · rintro ((h | h) | h)
      · exact .inl (.inl h)
      · exact .inr h
      · exact .inl (.inr h)
  have e3 : placed (digs r) ((assignW r ws rs q1).map (·.2) ++ rs) q2 = place (digs r) (((remW ws (kvsI rq)).map (·.2) ++ rs) ++ (place (digs r) ((remW ws (kvsI rq)).map (·.2) ++ rs) ((osOf rq).take c)).map (·.2)) ((osOf rq).drop c) := by
    rw [placed_osOf, eD]
    exact place_mem eU
  have eA : assignW r (assignW r ws rs q1) rs q2 = assignW r ws rs rq := by
    show remW (assignW r ws rs q1) (kvsI q2) ++ placed (digs r) ((remW (assignW r ws rs q1) (kvsI q2)).map (·.2) ++ rs) q2 = remW ws (kvsI rq) ++ placed (digs r) ((remW ws (kvsI rq)).map (·.2) ++ rs) rq
    rw [e2, e3, placed_osOf, ePl, eW1, List.append_assoc]
  refine ⟨k1, f1, ok1, k2, (failR_fits ok1 q2).mpr ?_, eA⟩
  rw [e2]
  have pfA : PF ((assignW r ws rs rq).map (·.2) ++ rs) := okA.pf
  have cA : ∀ t ∈ (assignW r ws rs rq).map (·.2) ++ rs, ∀ c ∈ TL.tl t, c ∈ digs r := by
    have := fixed_chars okA []
    rw [show remW (assignW r ws rs rq) [] = assignW r ws rs rq from List.filter_eq_self.mpr fun _ _ => rfl] at this
    exact this
  have pp : (((assignW r ws rs q1).map (·.2) ++ rs) ++ (placed (digs r) ((assignW r ws rs q1).map (·.2) ++ rs) q2).map (·.2)).Perm ((assignW r ws rs rq).map (·.2) ++ rs) := by
    have : assignW r ws rs rq = assignW r ws rs q1 ++ placed (digs r) ((assignW r ws rs q1).map (·.2) ++ rs) q2 := by
      rw [← eA]
      show remW (assignW r ws rs q1) (kvsI q2) ++ placed (digs r) ((remW (assignW r ws rs q1) (kvsI q2)).map (·.2) ++ rs) q2 = _
      rw [e2]
    rw [this, List.map_append, List.append_assoc, List.append_assoc]
    exact List.perm_append_comm.append_left _
  have fp := placed_fits (digs_nd ok.r2 ok.r4) (lo := 1) (h := h.toNat) (List.Perm.pairwise pp.symm pfA fun h => by rw [cmpS_symm]; exact h) fun t ht => cA t (pp.mem_iff.mp ht)
  refine fits_perm ?_ fp
  -- the lengths of what is placed
  have pA : ((assignW r (assignW r ws rs q1) rs q2).map fun p => (p.1, p.2.length)).Perm ((assignW r ws rs q1).map (fun p => (p.1, p.2.length)) ++ q2) := by
    rw [eA]
    have g1 : ((assignW r ws rs rq).map fun p => (p.1, p.2.length)).Perm ((remW ws (kvsI rq)).map (fun p => (p.1, p.2.length)) ++ rq) := by
      unfold assignW
      rw [List.map_append]
      exact pgA.append_left _
    have g2 : ((assignW r ws rs q1).map fun p => (p.1, p.2.length)).Perm ((remW ws (kvsI rq)).map (fun p => (p.1, p.2.length)) ++ q1) := by
      unfold assignW
      rw [List.map_append, e1]
      rw [e1] at pg1
      exact pg1.append_left _
    refine g1.trans (List.Perm.trans ?_ (g2.append_right _).symm)
    rw [List.append_assoc]
    exact P.symm.append_left _
  have eS : assignW r (assignW r ws rs q1) rs q2 = assignW r ws rs q1 ++ placed (digs r) ((assignW r ws rs q1).map (·.2) ++ rs) q2 := by
    show remW (assignW r ws rs q1) (kvsI q2) ++ placed (digs r) ((remW (assignW r ws rs q1) (kvsI q2)).map (·.2) ++ rs) q2 = _
    rw [e2]
  rw [eS, List.map_append] at pA
  have pB := ((List.perm_append_left_iff _).mp pA).map (·.2)
  rw [List.map_map] at pB
  rw [List.map_map]
  exact pB
/-! ### the first and the last items -/
theorem cutV_to (xs : List V) (i : Nat) : cutV xs none (some (i : Int)) = xs.take i := by
  have := cutV_nat xs 0 i
  rw [List.drop_zero, Nat.sub_zero] at this
  rw [← this]
  unfold cutV
  rw [show HT.sIx xs.length 0 (some ((0 : Nat) : Int)) = HT.sIx xs.length 0 none by rw [HT.sIx_nat]; simp [HT.sIx]]
theorem cutV_from (xs : List V) (i : Nat) : cutV xs (some (i : Int)) none = xs.drop i := by
  have := cutV_nat xs i xs.length
  rw [List.take_of_length_le (by rw [List.length_drop]; omega)] at this
  rw [← this]
  unfold cutV
  rw [show HT.sIx xs.length xs.length (some ((xs.length : Nat) : Int)) = HT.sIx xs.length xs.length none by rw [HT.sIx_nat]; simp [HT.sIx]]
/-! ### _law_placed: the first free node for each -/
structure PlOk (ds : List Nat) (used : List Str) (os : List (Nat × Str)) : Prop where
  pf : PF used
  ch : ∀ t ∈ used, ∀ c ∈ TL.tl t, c ∈ ds
  ft : ∃ lo h, Fits ds.length used (os.map (·.1)) lo h ∧ ∀ o ∈ os, lo ≤ o.1 ∧ o.1 ≤ h
  as : os.Pairwise (fun a b => a.1 ≤ b.1)
theorem PlOk.step {ds : List Nat} (hd : ds.Nodup) {used : List Str} {l : Nat} {n : Str} {os : List (Nat × Str)} (p : PlOk ds used ((l, n) :: os)) : ∃ x t, freeN ds used l = x :: t ∧ x.length = l ∧ (∀ c ∈ TL.tl x, c ∈ ds) ∧ PlOk ds (used ++ [x]) os := by
  obtain ⟨lo, h, f, hb⟩ := p.ft
  obtain ⟨b1, b2⟩ := hb _ (List.mem_cons_self ..)
  have rm := fits_room hd p.pf p.ch f b1 b2
  have b1 : lo ≤ l := b1
  have b2 : l ≤ h := b2
  have hp : 1 ≤ (freeN ds used l).length := by
    refine Nat.le_trans ?_ rm
    rw [List.map_cons, List.filter_cons, if_pos (decide_eq_true rfl), List.length_cons]
    omega
  obtain ⟨x, t, hf⟩ : ∃ x t, freeN ds used l = x :: t := by
    cases hf : freeN ds used l with
    | nil => rw [hf] at hp; cases hp
    | cons x t => exact ⟨x, t, rfl⟩
  obtain ⟨x1, x2, x3⟩ := freeN_mem (show x ∈ freeN ds used l by rw [hf]; exact List.mem_cons_self ..)
  have pf2 : PF (used ++ [x]) := by
    refine List.pairwise_append.mpr ⟨p.pf, List.pairwise_singleton _ _, fun a ha b hb => ?_⟩
    rw [List.mem_singleton.mp hb, cmpS_symm]
    have : freeB used x = true := x3
    unfold freeB at this
    rw [Bool.not_eq_true', List.any_eq_false] at this
    exact Bool.eq_false_iff.mpr (this a ha)
  have hc2 : ∀ t ∈ used ++ [x], ∀ c ∈ TL.tl t, c ∈ ds := fun t ht => by
    rcases List.mem_append.mp ht with ht | ht
    · exact p.ch t ht
    · rw [List.mem_singleton.mp ht]; exact x2
  have ha2 := List.pairwise_cons.mp p.as
  exact ⟨x, t, hf, x1, x2, pf2, hc2, ⟨l, h, fits_place (fits_mono f b1) x1 (Nat.le_refl _), fun o ho => ⟨ha2.1 o ho, (hb o (List.mem_cons_of_mem _ ho)).2⟩⟩, ha2.2⟩
theorem PlOk.any {ds : List Nat} {used : List Str} {l : Nat} {n : Str} {os : List (Nat × Str)} (p : PlOk ds used ((l, n) :: os)) {x : Str} (hx : x ∈ freeN ds used l) : PlOk ds (used ++ [x]) os := by
  obtain ⟨lo, h, f, hb⟩ := p.ft
  obtain ⟨b1, b2⟩ := hb _ (List.mem_cons_self ..)
  obtain ⟨x1, x2, x3⟩ := freeN_mem hx
  have ha2 := List.pairwise_cons.mp p.as
  refine ⟨?_, fun t ht => ?_, ⟨l, h, fits_place (fits_mono f b1) x1 (Nat.le_refl _), fun o ho => ⟨ha2.1 o ho, (hb o (List.mem_cons_of_mem _ ho)).2⟩⟩, ha2.2⟩
  · refine List.pairwise_append.mpr ⟨p.pf, List.pairwise_singleton _ _, fun a ha b hb => ?_⟩
    rw [List.mem_singleton.mp hb, cmpS_symm]
    have : freeB used x = true := x3
    unfold freeB at this
    rw [Bool.not_eq_true', List.any_eq_false] at this
    exact Bool.eq_false_iff.mpr (this a ha)
  · rcases List.mem_append.mp ht with ht | ht
    · exact p.ch t ht
    · rw [List.mem_singleton.mp ht]; exact x2
theorem osOf_asc (lens : List (Str × Nat)) : (osOf lens).Pairwise (fun a b => a.1 ≤ b.1) := List.pairwise_map.mpr ((srtP_asc _).imp fun {a b} h => by
  show a.1.toNat ≤ b.1.toNat
  rcases leIS_iff.mp h with h | h <;> omega)
theorem plOk_of {ds : List Nat} {used : List Str} {lens : List (Str × Nat)} {h : Nat} (pf : PF used) (hc : ∀ t ∈ used, ∀ c ∈ TL.tl t, c ∈ ds) (f : Fits ds.length used (lens.map (·.2)) 1 h) (hb : ∀ p ∈ lens, 1 ≤ p.2 ∧ p.2 ≤ h) : PlOk ds used (osOf lens) := by
  refine ⟨pf, hc, ⟨1, h, fits_perm ?_ f, fun o ho => ?_⟩, osOf_asc _⟩
  · have := ((osOf_perm lens).map (·.1)).symm
    rw [List.map_map] at this
    exact this
  · obtain ⟨p, hp, rfl⟩ := List.mem_map.mp ((osOf_perm lens).mem_iff.mp ho)
    exact hb p hp
/-! ### canonical codes: the free nodes are the last ones of each level -/
def growK (ds : List Nat) : Nat → List Str → List Str
  | 0, xs => xs
  | k + 1, xs => growS ds (growK ds k xs)
theorem growS_append (ds : List Nat) (xs ys : List Str) : growS ds (xs ++ ys) = growS ds xs ++ growS ds ys := by
  unfold growS
  rw [List.flatMap_append]
theorem growK_append (ds : List Nat) : ∀ (k : Nat) (xs ys : List Str), growK ds k (xs ++ ys) = growK ds k xs ++ growK ds k ys
  | 0, _, _ => rfl
  | k + 1, xs, ys => by
    show growS ds (growK ds k (xs ++ ys)) = growS ds (growK ds k xs) ++ growS ds (growK ds k ys)
    rw [growK_append ds k, growS_append]
theorem growK_len (ds : List Nat) : ∀ (k : Nat) (xs : List Str), (growK ds k xs).length = xs.length * ds.length ^ k
  | 0, xs => by rw [Nat.pow_zero, Nat.mul_one]; rfl
  | k + 1, xs => by
    show (growS ds (growK ds k xs)).length = _
    rw [growS_len, growK_len ds k, Nat.pow_succ, Nat.mul_assoc]
theorem growK_add (ds : List Nat) (k : Nat) (xs : List Str) : ∀ k' : Nat, growK ds (k + k') xs = growK ds k' (growK ds k xs)
  | 0 => rfl
  | k' + 1 => by
    show growS ds (growK ds (k + k') xs) = growS ds (growK ds k' (growK ds k xs))
    rw [growK_add ds k xs k']
theorem lvl_growK (ds : List Nat) (l : Nat) : ∀ k : Nat, lvl ds (l + k) = growK ds k (lvl ds l)
  | 0 => rfl
  | k + 1 => by
    show growS ds (lvl ds (l + k)) = growS ds (growK ds k (lvl ds l))
    rw [lvl_growK ds l k]
theorem growK_drop (ds : List Nat) (k m : Nat) (xs : List Str) : growK ds k (xs.drop m) = (growK ds k xs).drop (m * ds.length ^ k) := by
  by_cases hm : m ≤ xs.length
  · have e : growK ds k xs = growK ds k (xs.take m) ++ growK ds k (xs.drop m) := by rw [← growK_append, List.take_append_drop]
    have l : (growK ds k (xs.take m)).length = m * ds.length ^ k := by rw [growK_len, List.length_take, Nat.min_eq_left hm]
    rw [e, ← l, List.drop_left]
  · have h1 : xs.drop m = [] := List.drop_eq_nil_of_le (by omega)
    have h2 : (growK ds k []).length = 0 := by rw [growK_len]; simp
    rw [h1, List.eq_nil_of_length_eq_zero h2]
    refine (List.drop_eq_nil_of_le ?_).symm
    rw [growK_len]
    exact Nat.mul_le_mul_right _ (by omega)
theorem growK_pre {ds : List Nat} : ∀ {k : Nat} {xs : List Str} {y : Str}, y ∈ growK ds k xs → ∃ x ∈ xs, TL.tl x <+: TL.tl y
  | 0, xs, y, h => ⟨y, h, List.prefix_refl _⟩
  | k + 1, xs, y, h => by
    have h : y ∈ growS ds (growK ds k xs) := h
    unfold growS at h
    obtain ⟨z, hz, hy⟩ := List.mem_flatMap.mp h
    obtain ⟨c, _, rfl⟩ := List.mem_map.mp hy
    obtain ⟨x, hx, p⟩ := growK_pre hz
    exact ⟨x, hx, p.trans (by rw [TL.tl_append]; exact List.prefix_append _ _)⟩
theorem pre_same {x z y : Str} (hl : x.length = z.length) (h1 : TL.tl x <+: TL.tl y) (h2 : TL.tl z <+: TL.tl y) : x = z := by
  rw [TL.len_tl, TL.len_tl] at hl
  refine TL.ext_tl ?_
  rcases List.prefix_or_prefix_of_prefix h1 h2 with h | h
  · exact h.eq_of_length hl
  · exact (h.eq_of_length hl.symm).symm
theorem growK_filter {ds : List Nat} {k l : Nat} {x : Str} {t : List Str} (hx : x.length = l) (ht : ∀ z ∈ t, z.length = l ∧ z ≠ x) : (growK ds k (x :: t)).filter (fun y => !cmpS y x) = growK ds k t := by
  rw [show x :: t = [x] ++ t from rfl, growK_append, List.filter_append]
  have e1 : (growK ds k [x]).filter (fun y => !cmpS y x) = [] := List.filter_eq_nil_iff.mpr fun y hy h => by
    obtain ⟨z, hz, p⟩ := growK_pre hy
    rw [List.mem_singleton.mp hz] at p
    rw [cmpS_iff.mpr (.inr p)] at h
    cases h
  have e2 : (growK ds k t).filter (fun y => !cmpS y x) = growK ds k t := List.filter_eq_self.mpr fun y hy => by
    obtain ⟨z, hz, p⟩ := growK_pre hy
    obtain ⟨hz1, hz2⟩ := ht z hz
    rw [Bool.not_eq_true', ← Bool.not_eq_true, cmpS_iff]
    rintro (q | q)
    · have hzx : TL.tl z <+: TL.tl x := p.trans q
      refine hz2 (TL.ext_tl (hzx.eq_of_length ?_))
      rw [← TL.len_tl, ← TL.len_tl, hz1, hx]
    · exact hz2 (pre_same (hz1.trans hx.symm) p q)
  rw [e1, e2, List.nil_append]
/-- the codewords by their numbers: from the level L on the first M nodes are taken -/
def canL (ds : List Nat) : List (Nat × Str) → Nat → Nat → List (Str × Str)
  | [], _, _ => []
  | (l, n) :: os, L, M => (n, ((lvl ds l)[M * ds.length ^ (l - L)]?).getD "") :: canL ds os l (M * ds.length ^ (l - L) + 1)
theorem freeN_none (ds : List Nat) (k : Nat) : freeN ds [] k = lvl ds k := List.filter_eq_self.mpr fun _ _ => rfl
theorem can_place {ds : List Nat} (hd : ds.Nodup) : ∀ {os : List (Nat × Str)} {used : List Str} {L M : Nat}, (∀ k, freeN ds used (L + k) = growK ds k ((lvl ds L).drop M)) → (∀ o ∈ os, L ≤ o.1) → PlOk ds used os → place ds used os = canL ds os L M
  | [], _, _, _, _, _, _ => rfl
  | (l, n) :: os, used, L, M, h, hL, pk => by
    obtain ⟨x, t, hf, xl, _, pk'⟩ := pk.step hd
    have hLl : L ≤ l := hL _ (List.mem_cons_self ..)
    obtain ⟨k, rfl⟩ : ∃ k, l = L + k := ⟨l - L, by omega⟩
    have e1 : freeN ds used (L + k) = (lvl ds (L + k)).drop (M * ds.length ^ k) := by
      rw [h k, growK_drop, ← lvl_growK]
    have e2 : (lvl ds (L + k)).drop (M * ds.length ^ k) = x :: t := e1.symm.trans hf
    have hx : (lvl ds (L + k))[M * ds.length ^ k]? = some x := by
      have := congrArg (fun l => l[0]?) e2
      rw [List.getElem?_drop, Nat.add_zero] at this
      exact this
    have ht : t = (lvl ds (L + k)).drop (M * ds.length ^ k + 1) := by
      have := congrArg (List.drop 1) e2
      rw [List.drop_drop] at this
      exact this.symm
    have nd : ((lvl ds (L + k)).drop (M * ds.length ^ k)).Nodup := List.Nodup.sublist (List.drop_sublist _ _) (lvl_nodup hd _)
    rw [e2] at nd
    have step : ∀ k', freeN ds (used ++ [x]) ((L + k) + k') = growK ds k' ((lvl ds (L + k)).drop (M * ds.length ^ k + 1)) := fun k' => by
      have f1 : freeN ds (used ++ [x]) ((L + k) + k') = (freeN ds used ((L + k) + k')).filter fun y => !cmpS y x := by
        unfold freeN
        rw [List.filter_filter]
        refine List.filter_congr fun y _ => ?_
        rw [freeB_snoc, Bool.and_comm]
      rw [f1, Nat.add_assoc, h (k + k'), growK_add, ← h k, hf, ← ht]
      refine growK_filter (l := L + k) xl fun z hz => ⟨?_, fun e => (List.nodup_cons.mp nd).1 (e ▸ hz)⟩
      have : z ∈ lvl ds (L + k) := by rw [ht] at hz; exact List.mem_of_mem_drop hz
      exact (lvl_of this).1
    have ih := can_place hd (os := os) (used := used ++ [x]) (L := L + k) (M := M * ds.length ^ k + 1) step (fun o ho => (List.pairwise_cons.mp pk.as).1 o ho) pk'
    show (n, (freeN ds used (L + k)).headD "") :: place ds (used ++ [(freeN ds used (L + k)).headD ""]) os = (n, ((lvl ds (L + k))[M * ds.length ^ (L + k - L)]?).getD "") :: canL ds os (L + k) (M * ds.length ^ (L + k - L) + 1)
    rw [hf, Nat.add_sub_cancel_left, hx]
    show (n, x) :: place ds (used ++ [x]) os = (n, x) :: _
    rw [ih]
/-! ### a node by its number -/
theorem growS_get {ds : List Nat} {c : Nat} (hc : c < ds.length) : ∀ {xs : List Str} {q : Nat} {x : Str}, xs[q]? = some x → (growS ds xs)[q * ds.length + c]? = some (x ++ (⟨#[ds[c]]⟩ : Str))
  | [], q, x, h => by simp at h
  | y :: ys, q, x, h => by
    have e : growS ds (y :: ys) = (ds.map fun c => y ++ (⟨#[c]⟩ : Str)) ++ growS ds ys := by
      unfold growS
      rw [List.flatMap_cons]
    rw [e]
    cases q with
    | zero =>
      have hy : y = x := by simpa using h
      rw [Nat.zero_mul, Nat.zero_add, List.getElem?_append_left (by rw [List.length_map]; exact hc), List.getElem?_map, List.getElem?_eq_getElem hc, hy]
      rfl
    | succ q =>
      have h : ys[q]? = some x := by simpa using h
      rw [List.getElem?_append_right (by rw [List.length_map, Nat.succ_mul]; omega), List.length_map]
      have := growS_get hc h
      rw [show (q + 1) * ds.length + c - ds.length = q * ds.length + c by rw [Nat.succ_mul]; omega]
      exact this
def digN (r : Nat) : Nat → Nat → List Nat
  | 0, _ => []
  | l + 1, M => digN r l (M / r) ++ [48 + M % r]
theorem digs_get {r : Int} (r2 : 2 ≤ r) (r4 : r ≤ 4) {c : Nat} (hc : c < (digs r).length) : (digs r)[c] = 48 + c := by
  rcases rad_cases r2 r4 with rfl | rfl | rfl
  · have e := digs_2
    have hc' : c < 2 := by rw [e] at hc; exact hc
    have : c = 0 ∨ c = 1 := by omega
    rcases this with rfl | rfl <;> simp [e]
  · have e := digs_3
    have hc' : c < 3 := by rw [e] at hc; exact hc
    have : c = 0 ∨ c = 1 ∨ c = 2 := by omega
    rcases this with rfl | rfl | rfl <;> simp [e]
  · have e := digs_4
    have hc' : c < 4 := by rw [e] at hc; exact hc
    have : c = 0 ∨ c = 1 ∨ c = 2 ∨ c = 3 := by omega
    rcases this with rfl | rfl | rfl | rfl <;> simp [e]
theorem lvl_get {r : Int} (r2 : 2 ≤ r) (r4 : r ≤ 4) : ∀ {l M : Nat}, M < (digs r).length ^ l → ∃ x, (lvl (digs r) l)[M]? = some x ∧ TL.tl x = digN r.toNat l M
  | 0, M, h => by
    have : M = 0 := by rw [Nat.pow_zero] at h; omega
    subst this
    exact ⟨"", rfl, tl_empty⟩
  | l + 1, M, h => by
    have e := digs_size r2 r4
    have p : 0 < (digs r).length := by rw [e]; omega
    have hq : M / (digs r).length < (digs r).length ^ l := by
      rw [Nat.pow_succ] at h
      exact Nat.div_lt_of_lt_mul (by rw [Nat.mul_comm]; exact h)
    have hc : M % (digs r).length < (digs r).length := Nat.mod_lt _ p
    obtain ⟨x, hx, tx⟩ := lvl_get r2 r4 hq
    refine ⟨x ++ (⟨#[(digs r)[M % (digs r).length]]⟩ : Str), ?_, ?_⟩
    · have := growS_get hc hx
      rw [Nat.div_add_mod'] at this
      exact this
    · rw [TL.tl_append, tx, digs_get r2 r4 hc]
      show digN r.toNat l (M / (digs r).length) ++ [48 + M % (digs r).length] = digN r.toNat l (M / r.toNat) ++ [48 + M % r.toNat]
      rw [e]
theorem can_step {ds : List Nat} (hd : ds.Nodup) {l : Nat} {n : Str} {os : List (Nat × Str)} {used : List Str} {L M : Nat} (h : ∀ k, freeN ds used (L + k) = growK ds k ((lvl ds L).drop M)) (hLl : L ≤ l) (pk : PlOk ds used ((l, n) :: os)) :
    ∃ x, (lvl ds l)[M * ds.length ^ (l - L)]? = some x ∧ x.length = l ∧ PlOk ds (used ++ [x]) os ∧ ∀ k', freeN ds (used ++ [x]) (l + k') = growK ds k' ((lvl ds l).drop (M * ds.length ^ (l - L) + 1)) := by
  obtain ⟨x, t, hf, xl, _, pk'⟩ := pk.step hd
  obtain ⟨k, rfl⟩ : ∃ k, l = L + k := ⟨l - L, by omega⟩
  rw [Nat.add_sub_cancel_left]
  have e1 : freeN ds used (L + k) = (lvl ds (L + k)).drop (M * ds.length ^ k) := by
    rw [h k, growK_drop, ← lvl_growK]
  have e2 : (lvl ds (L + k)).drop (M * ds.length ^ k) = x :: t := e1.symm.trans hf
  have hx : (lvl ds (L + k))[M * ds.length ^ k]? = some x := by
    have := congrArg (fun l => l[0]?) e2
    rw [List.getElem?_drop, Nat.add_zero] at this
    exact this
  have ht : t = (lvl ds (L + k)).drop (M * ds.length ^ k + 1) := by
    have := congrArg (List.drop 1) e2
    rw [List.drop_drop] at this
    exact this.symm
  have nd : ((lvl ds (L + k)).drop (M * ds.length ^ k)).Nodup := List.Nodup.sublist (List.drop_sublist _ _) (lvl_nodup hd _)
  rw [e2] at nd
  refine ⟨x, hx, xl, pk', fun k' => ?_⟩
  have f1 : freeN ds (used ++ [x]) ((L + k) + k') = (freeN ds used ((L + k) + k')).filter fun y => !cmpS y x := by
    unfold freeN
    rw [List.filter_filter]
    refine List.filter_congr fun y _ => ?_
    rw [freeB_snoc, Bool.and_comm]
  rw [f1, Nat.add_assoc, h (k + k'), growK_add, ← h k, hf, ← ht]
  refine growK_filter (l := L + k) xl fun z hz => ⟨?_, fun e => (List.nodup_cons.mp nd).1 (e ▸ hz)⟩
  have : z ∈ lvl ds (L + k) := by rw [ht] at hz; exact List.mem_of_mem_drop hz
  exact (lvl_of this).1
/-! ### canonical -/
theorem failC (r : Int) (hh : Nat) (rq : List (Str × Nat)) : failR r (hh : Nat) [] [] rq = failFrom r [] (rq.map (·.2)) 0 hh := by
  unfold failR
  rw [Int.toNat_natCast]
  rfl
def sp_canonical (mg : Str → Option Value) : Sp := fun vs H Q E => ∃ (qa : Addr) (r : Int) (hh : Nat) (rq : List (Str × Nat)), vs = [.int r, .int (hh : Nat), .ref qa] ∧ BookOk r (hh : Nat) [] [] ∧ RqOk (hh : Nat) [] [] rq ∧ H qa = some (.dK (kvsI rq)) ∧
  (failR r (hh : Nat) [] [] rq = none → ∀ H' q, Same H H' → BookNew (CBk mg) H H' q (mkBook r (hh : Nat) (assignW r [] [] rq) []) → Q (.ref q) H') ∧
  (∀ n, failR r (hh : Nat) [] [] rq = some n → ∀ H' x, Same H H' → H' x = some (.xd [("level", .int (n : Nat))]) → E (XNr mg) (some x) H')
theorem cal_canonical (T : Txt K mg) (Z_NoRoom : SupX P w K mg base "NoRoom" (clsAt mg "NoRoom") "level") : CalG P w K mg base (L2.CX P w) 9 "canonical" (sp_canonical mg) [] := by
  obtain ⟨a0, hT0, MK0⟩ := (mak_Codebook (P := P) (w := w) (base := base) T).2
  refine T.d_canonical.calX .nil sc_canonical (fun vs H Q E h => by obtain ⟨_, _, _, _, rfl, _⟩ := h; rfl) (fun f cdv A outer s H vs Q E hr h => ?_)
  obtain ⟨qa, r, hh, rq, rfl, ok, rk, hqa, kq, ke⟩ := h
  refine ⟨_, (pss_cons (ps_if (pt_not (pt_val (pe_g (cal_is_shape T) hr (by first | decide | (simp only [Nat.add_eq]; omega)) rfl (pa_cons (pv 0) (pa_cons (pv 1) pa_nil)))))
      (pss_one (ps_raise rfl (takes_of rfl rfl rfl rfl) (pmk_own PySem.F.excBase_ValueError T.x_InvalidRequest.ex T.x_InvalidRequest.gl T.x_InvalidRequest.kp (raises_own T.x_InvalidRequest.bp T.x_InvalidRequest.tp) rfl)))
      pss_nil)
      (pss_one (ps_ret (pe_gE (cal_assign T Z_NoRoom) hr (by first | decide | (simp only [Nat.add_eq]; omega)) rfl (fun σ => passAt (takes_of rfl rfl rfl rfl) σ) (pa_cons (pe_kE MK0 hr (by first | decide | (simp only [Nat.add_eq]; omega)) rfl passLL (pa_cons (pv 0) (pa_cons (pv 1) (pa_cons pe_dnewK pa_nil)))) (pa_cons (pv 2) pa_nil)))))), ?_⟩
  have r2 := ok.r2; have r4 := ok.r4; have h1 := ok.h1; have h6 := ok.h6
  refine ⟨_, rfl, _, rfl, .int r, .int (hh : Nat), rfl, .num _, .num _, ?_⟩
  rw [show shapeB (.int r) (.int (hh : Nat)) = true by
    show (decide (2 ≤ r ∧ r ≤ 4) && decide (1 ≤ ((hh : Nat) : Int) ∧ ((hh : Nat) : Int) ≤ 6)) = true
    rw [decide_eq_true ⟨r2, r4⟩, decide_eq_true ⟨h1, h6⟩]
    rfl]
  refine ⟨_, rfl, iteF ?_⟩
  refine ⟨_, rfl, _, rfl, fun d0 hd0 => fun x dx nx ndx nex => ?_⟩
  have s1 := newS (o := .dK (kvsOf [])) hd0
  refine init_use (d := d0) ok (same_new (same_new (Same.refl _) ndx) nx) nx upd_same upd_same (seqV_of (xs := []) (by simp) (by decide) (.inr ⟨hT0.sq _, hT0.ty _⟩)) fun H2 s2 B => ⟨rfl, ?_⟩
  have s02 := Same.trans s1 s2
  have c := rk.case ok (.refl _)
  refine ⟨_, rfl, x, .ref qa, some (kvsI rq), r, (hh : Nat), [], [], rfl, ok, B.at_, dicV_I c (s02 _ _ hqa), fun hy => ?_, fun kvs e _ => ?_⟩
  · have hy : reqB (hh : Nat) (kvsI rq) = false := hy
    rw [case_req c] at hy
    cases hy
  · refine ⟨qa, rq, rfl, s02 _ _ hqa, rk, fun hf H3 q s3 BN => ?_, fun n hn H3 y s3 hy => ke n hn H3 y (Same.trans s02 s3) hy⟩
    obtain ⟨ex, ed, el, n1, n2, n3, m1, m2, m3⟩ := BN.ex
    exact kq hf H3 q (Same.trans s02 s3) ⟨ex, ed, el, s02.free n1, s02.free n2, s02.free n3, m1, m2, m3⟩
/-! ### _law_digits -/
def sp_l_digits : Sp := fun vs H Q _ => ∃ (r : Int) (M l : Nat) (x : Str), vs = [.int r, .int (M : Nat), .int (l : Nat)] ∧ 2 ≤ r ∧ r ≤ 4 ∧ l ≤ 6 ∧ M < 10000 ∧ TL.tl x = digN r.toNat l M ∧ Q (.str x) H
theorem digN_len (r : Nat) : ∀ l M : Nat, (digN r l M).length = l
  | 0, _ => rfl
  | l + 1, M => by
    show (digN r l (M / r) ++ [48 + M % r]).length = l + 1
    rw [List.length_append, digN_len r l]
    rfl
theorem cal_l_digits (T : Txt K mg) : CalG P w K mg base CX0 1 "_law_digits" sp_l_digits [] := by
  refine T.d_l_digits.cal .nil sc_l_digits (fun vs H Q E h => by obtain ⟨_, _, _, _, rfl, _⟩ := h; rfl) (fun f cdv A outer s H vs Q E hr h => ?_)
  obtain ⟨r, M, l, x, rfl, r2, r4, l6, hM, hx, k⟩ := h
  refine ⟨_, (pss_cons (ps_set (i := 3) sc_l_digits.nd rfl (Or.inl rfl) pe_str)
      (pss_cons (ps_for PassesOwn.never rfl (pi_range1 rfl T.n_range (pa_cons (pv 2) pa_nil)) (pg_name (i := 4) sc_l_digits.nd rfl (Or.inl rfl))
      (pss_cons (ps_set (i := 3) sc_l_digits.nd rfl (Or.inl rfl) (pe_op op_add_str (pe_callTy call_str_int (by rfl) T.n_str (by decide +kernel) (pa_cons (pe_op op_modN (pv 1) (pv 0)) pa_nil)) (pv 3)))
      (pss_one (ps_set (i := 1) sc_l_digits.nd rfl (Or.inl rfl) (pe_op op_fdivN (pv 1) (pv 0))))))
      (pss_one (ps_ret (pv 3))))), ?_⟩
  refine ⟨_, rfl, _, rfl, by omega, by omega, ?_⟩
  rw [show (((l : Nat) : Int).toNat) = l from Int.toNat_natCast _]
  obtain ⟨rn, rfl⟩ := Int.eq_ofNat_of_zero_le (show 0 ≤ r by omega)
  have rp : 0 < rn := by omega
  rw [Int.toNat_natCast] at hx
  refine for_range (lo := 0) (n := l) (fun i σ H' => ∃ (N : Nat) (y : Str) (o4 : Option V), σ = [some (.int (rn : Nat)), some (.int (N : Nat)), some (.int (l : Nat)), some (.str y), o4] ∧ H' = H ∧ N ≤ M ∧ digN rn l M = digN rn (l - i) N ++ TL.tl y ∧ y.length = i)
    ⟨M, "", none, rfl, rfl, Nat.le_refl _, by rw [tl_empty, List.append_nil]; rfl, rfl⟩ ?_ ?_
  · rintro i σ H1 hi ⟨N, y, o4, rfl, rfl, hN, ed, yl⟩
    have e1 : ((N : Nat) : Int).fmod ((rn : Nat) : Int) = ((N % rn : Nat) : Int) := by rw [Int.fmod_eq_emod_of_nonneg _ (by omega)]; exact (Int.natCast_emod N rn).symm
    have e2 : ((N : Nat) : Int).fdiv ((rn : Nat) : Int) = ((N / rn : Nat) : Int) := by rw [Int.fdiv_eq_ediv_of_nonneg _ (by omega)]; exact (Int.natCast_ediv N rn).symm
    have hm : N % rn < rn := Nat.mod_lt _ rp
    refine ⟨_, rfl, _, rfl, _, _, rfl, rfl, by omega, ?_⟩
    dsimp only [tNil]
    refine ⟨_, rfl, ?_, ?_⟩
    · rw [e1]
      have : N % rn = 0 ∨ N % rn = 1 ∨ N % rn = 2 ∨ N % rn = 3 := by omega
      rcases this with e | e | e | e <;> rw [e] <;> decide +kernel
    rw [e1]
    have et : TL.tl (Str.ofString (toString ((N % rn : Nat) : Int))) = [48 + N % rn] := by
      have : N % rn = 0 ∨ N % rn = 1 ∨ N % rn = 2 ∨ N % rn = 3 := by omega
      rcases this with e | e | e | e <;> rw [e] <;> decide +kernel
    have el1 : (Str.ofString (toString ((N % rn : Nat) : Int))).length = 1 := by
      have : N % rn = 0 ∨ N % rn = 1 ∨ N % rn = 2 ∨ N % rn = 3 := by omega
      rcases this with e | e | e | e <;> rw [e] <;> decide +kernel
    refine ⟨_, rfl, _, _, rfl, rfl, ?_, ?_⟩
    · show (Str.ofString (toString ((N % rn : Nat) : Int))).length + y.length ≤ _
      rw [el1, yl]
      exact Nat.le_trans (show 1 + i ≤ 7 by omega) (by decide +kernel)
    refine ⟨_, rfl, _, rfl, _, _, rfl, rfl, ?_, ?_⟩
    · exact ⟨by omega, by omega⟩
    dsimp only
    rw [e2]
    have el : l - i = (l - (i + 1)) + 1 := by omega
    refine ⟨N / rn, Str.ofString (toString ((N % rn : Nat) : Int)) ++ y, _, rfl, rfl, Nat.le_trans (Nat.div_le_self _ _) hN, ?_, ?_⟩
    · rw [ed, el, TL.tl_append, et, ← List.append_assoc]
      rfl
    · rw [show (Str.ofString (toString ((N % rn : Nat) : Int)) ++ y).length = (Str.ofString (toString ((N % rn : Nat) : Int))).length + y.length from Array.size_append .., el1, yl]
      omega
  · rintro σ H1 ⟨N, y, o4, rfl, rfl, hN, ed, yl⟩
    rw [Nat.sub_self] at ed
    have : y = x := TL.ext_tl (by rw [hx, ed]; rfl)
    rw [this]
    exact ⟨_, rfl, k⟩
/-! ### _law_power, _law_due -/
def sp_l_power : Sp := fun vs H Q _ => ∃ (b : Int) (n : Nat), vs = [.int b, .int (n : Nat)] ∧ 0 ≤ b ∧ b ≤ 10 ∧ n ≤ 10 ∧ Q (.int (b ^ n)) H
theorem cal_l_power (T : Txt K mg) : CalG P w K mg base CX0 1 "_law_power" sp_l_power [] := by
  refine T.d_l_power.cal .nil sc_l_power (fun vs H Q E h => by obtain ⟨_, _, rfl, _⟩ := h; rfl) (fun f cdv A outer s H vs Q E hr h => ?_)
  obtain ⟨b, n, rfl, b0, b10, n10, k⟩ := h
  refine ⟨_, (pss_cons (ps_set (i := 2) sc_l_power.nd rfl (Or.inl rfl) pe_int)
      (pss_cons (ps_for PassesOwn.never rfl (pi_range1 rfl T.n_range (pa_cons (pv 1) pa_nil)) (pg_name (i := 3) sc_l_power.nd rfl (Or.inl rfl))
      (pss_one (ps_set (i := 2) sc_l_power.nd rfl (Or.inl rfl) (pe_op op_mul (pv 2) (pv 0)))))
      (pss_one (ps_ret (pv 2))))), ?_⟩
  refine ⟨_, rfl, _, rfl, by omega, by omega, ?_⟩
  rw [show (((n : Nat) : Int).toNat) = n from Int.toNat_natCast _]
  refine for_range (lo := 0) (n := n) (fun i σ H' => ∃ (o3 : Option V), σ = [some (.int b), some (.int (n : Nat)), some (.int (b ^ i)), o3] ∧ H' = H) ⟨none, by rw [Int.pow_zero]; rfl, rfl⟩ ?_ ?_
  · rintro i σ H1 hi ⟨o3, rfl, rfl⟩
    refine ⟨_, rfl, _, rfl, _, _, rfl, rfl, .inr ⟨by omega, by omega⟩, ?_⟩
    refine ⟨some (.int (0 + (i : Nat))), ?_, rfl⟩
    show [some (.int b), some (.int (n : Nat)), some (V.int (b ^ i * b)), some (.int (0 + (i : Nat)))] = _
    rw [← Int.pow_succ]
  · rintro σ H1 ⟨o3, rfl, rfl⟩
    exact ⟨_, rfl, k⟩
def sp_l_due : Sp := fun vs H Q _ => ∃ (r : Int) (hh : Nat) (qa : Addr) (rq : List (Str × Nat)), vs = [.int r, .int (hh : Nat), .ref qa] ∧ BookOk r (hh : Nat) [] [] ∧ RqOk (hh : Nat) [] [] rq ∧ H qa = some (.dK (kvsI rq)) ∧
  (failR r (hh : Nat) [] [] rq = none → ∀ H' da, Same H H' → H da = none → H' da = some (.dK (kvsOf (assignW r [] [] rq))) → Q (.ref da) H') ∧
  (∀ n, failR r (hh : Nat) [] [] rq = some n → ∀ H', Same H H' → Q (.int (n : Nat)) H')
theorem due_val {h : Int} {rq : List (Str × Nat)} (rk : RqOk h [] [] rq) {p : Str × Nat} (hp : p ∈ rq) : some (V.int (p.2 : Nat)) = valV (kvsI rq) (.inr p.1) := by
  rw [valV_kvsI, lenAt_nodup rk.qn hp]
  rfl
theorem cal_l_due (T : Txt K mg) : CalG P w K mg base CX0 2 "_law_due" sp_l_due [] := by
  refine T.d_l_due.cal .nil sc_l_due (fun vs H Q E h => by obtain ⟨_, _, _, _, rfl, _⟩ := h; rfl) (fun f cdv A outer s H vs Q E hr h => ?_)
  obtain ⟨r, hh, qa, rq, rfl, ok, rk, hqa, kq, ke⟩ := h
  refine ⟨_, (pss_cons (ps_for PassesOwn.never rfl (pi_range2 rfl T.n_range (pa_cons pe_int (pa_cons (pe_op op_add (pv 1) pe_int) pa_nil))) (pg_name (i := 3) sc_l_due.nd rfl (Or.inr rfl))
      (pss_cons (ps_set (i := 4) sc_l_due.nd rfl (Or.inl rfl) (pe_callB (r := rSum K) (cr_sum rfl) (by rfl) T.n_sum (by decide +kernel) (pa_cons (pe_lock (pe_lc (own := [("name", 9)]) (g := gName 9) (by rfl) sc_l_due.nd (pi_keys (pv 2)) (blkOk_by (own := [("name", 9)]) (N := ["radix", "depth", "wanted", "level", "load", "found", "number", "last", "length", "name"]) (sc := (defScope s_l_due)) (by decide +kernel)) (fun _ _ _ _ _ => (pg_name (i := 9) sc_l_due.nd rfl (Or.inl rfl))) (fun _ _ _ _ _ => (pts_one (pt_cmpR op_le (pe_dget (hu_of hr.toRoom) (pv 2) (pv 9) (fun _ _ => rfl)) (pv 3) (nomark _)))) (fun _ _ _ _ _ => (pe_g (cal_l_power T) hr (by first | decide | (simp only [Nat.add_eq]; omega)) rfl (pa_cons (pv 0) (pa_cons (pe_op op_sub (pv 3) (pe_dget (hu_of hr.toRoom) (pv 2) (pv 9) (fun _ _ => rfl))) pa_nil)))))) pa_nil)))
      (pss_one (ps_if (pt_cmpR op_gt (pv 4) (pe_g (cal_l_power T) hr (by first | decide | (simp only [Nat.add_eq]; omega)) rfl (pa_cons (pv 0) (pa_cons (pv 3) pa_nil))) (nomark _))
      (pss_one (ps_ret (pv 3)))
      pss_nil))))
      (pss_cons (ps_par3 (i := 5) (j := 6) (l := 7) (by rfl) sc_l_due.nd rfl rfl rfl (by decide) (by decide) (by decide) rfl rfl rfl (pa_cons pe_dnewK (pa_cons (pe_un un_neg pe_int) (pa_cons pe_int pa_nil))) (by rfl))
      (pss_cons (ps_for PassesOwn.never rfl (pi_listK (K := K) (pe_callB (r := rSortedIS K) cr_sortedIS (by rfl) T.n_sorted (by decide +kernel) (pa_cons (pe_lock (pe_lc (own := [("name", 9)]) (g := gName 9) (by rfl) sc_l_due.nd (pi_keys (pv 2)) (blkOk_by (own := [("name", 9)]) (N := ["radix", "depth", "wanted", "level", "load", "found", "number", "last", "length", "name"]) (sc := (defScope s_l_due)) (by decide +kernel)) (fun _ _ _ _ _ => (pg_name (i := 9) sc_l_due.nd rfl (Or.inl rfl))) (fun _ _ _ _ _ => pts_nil) (fun _ _ _ _ _ => (pe_tup (pa_cons (pe_dget (hu_of hr.toRoom) (pv 2) (pv 9) (fun _ _ => rfl)) (pa_cons (pv 9) pa_nil)))))) pa_nil))) (pg_tup (by rfl) (pgs_cons (pg_name (i := 8) sc_l_due.nd rfl (Or.inl rfl)) (pgs_cons (pg_name (i := 9) sc_l_due.nd rfl (Or.inl rfl)) pgs_nil)))
      (pss_cons (ps_set (i := 6) sc_l_due.nd rfl (Or.inl rfl) (pe_op op_mul (pe_op op_add (pv 6) pe_int) (pe_g (cal_l_power T) hr (by first | decide | (simp only [Nat.add_eq]; omega)) rfl (pa_cons (pv 0) (pa_cons (pe_op op_sub (pv 8) (pv 7)) pa_nil)))))
      (pss_cons (ps_set (i := 7) sc_l_due.nd rfl (Or.inl rfl) (pv 8))
      (pss_one (ps_dput (hu_of hr.toRoom) (pv 5) (pv 9) (pe_g (cal_l_digits T) hr (by first | decide | (simp only [Nat.add_eq]; omega)) rfl (pa_cons (pv 0) (pa_cons (pv 6) (pa_cons (pv 8) pa_nil)))) rfl)))))
      (pss_one (ps_ret (pv 5)))))), ?_⟩
  have r2 := ok.r2; have r4 := ok.r4; have h1 := ok.h1; have h6 := ok.h6; have lq := rk.lq
  obtain ⟨L, hL⟩ : ∃ L, L = rq.map (·.2) := ⟨_, rfl⟩
  have lL : L.length = rq.length := by rw [hL, List.length_map]
  have eF : failR r (hh : Nat) [] [] rq = failFrom r [] L 0 hh := by rw [hL]; exact failC r hh rq
  refine ⟨_, rfl, _, _, rfl, rfl, 1, ((hh : Nat) : Int) + 1, rfl, ⟨by omega, by omega, by omega, by omega⟩, ?_⟩
  rw [show (((hh : Nat) : Int) + 1 - 1).toNat = hh by omega]
  refine for_range (lo := 1) (n := hh) (fun i σ H' => ∃ (o3 o4 : Option V), σ = [some (.int r), some (.int (hh : Nat)), some (.ref qa), o3, o4, none, none, none, none, none] ∧ Same H H' ∧ failFrom r [] L 0 hh = failFrom r [] L i (hh - i))
    ⟨none, none, rfl, Same.refl _, rfl⟩ ?_ ?_
  · rintro i σ H1 hi ⟨o3, o4, rfl, s1, ef⟩
    rw [show (1 : Int) + (i : Nat) = ((i + 1 : Nat) : Int) by omega]
    have hq1 := s1 _ _ hqa
    rw [show hh - i = (hh - (i + 1)) + 1 by omega] at ef
    rw [show failFrom r [] L i ((hh - (i + 1)) + 1) = if failAt r [] L i = true then some (i + 1) else failFrom r [] L (i + 1) (hh - (i + 1)) from rfl] at ef
    refine ⟨qa, .dK (kvsI rq), hq1, trivial, fun od => ?_⟩
    refine ⟨_, rfl, qa, od, rfl, .inl ⟨kvsI rq, upd_same, fun D hD => lc_keysN (fun q => leV (i + 1) q.2) (fun q => powV r (i + 1) q.2) upd_same hD (by unfold kvsI; rw [List.length_map]; omega) ?_ ?_ ?_⟩⟩
    · intro q hq H' Q' s' kk
      obtain ⟨p', hp', rfl⟩ := List.mem_map.mp hq
      have hw' := s' _ _ (upd_same (H := H1) (a := qa) (o := .frz od (.dK (kvsI rq))))
      exact ⟨_, rfl, _, rfl, qa, .int (p'.2 : Nat), rfl, .inl ⟨_, Sum.inr p'.1, .inr ⟨od, hw'⟩, rfl, due_val rk hp'⟩, _, rfl, _, _, rfl, rfl, _, rfl, kk H' (Same.refl _)⟩
    · intro q hq hp H' Q' s' kk
      obtain ⟨p', hp', rfl⟩ := List.mem_map.mp hq
      have hw' := s' _ _ (upd_same (H := H1) (a := qa) (o := .frz od (.dK (kvsI rq))))
      have hp : decide (((p'.2 : Nat) : Int) ≤ ((i + 1 : Nat) : Int)) = true := hp
      have hp := of_decide_eq_true hp
      have kk : Q' (.int (r ^ (i + 1 - p'.2))) H' := kk H' (Same.refl _)
      refine ⟨_, rfl, _, rfl, _, rfl, _, rfl, qa, .int (p'.2 : Nat), rfl, .inl ⟨_, Sum.inr p'.1, .inr ⟨od, hw'⟩, rfl, due_val rk hp'⟩, _, _, rfl, rfl, r, i + 1 - p'.2, ?_, by omega, by omega, by omega, kk⟩
      show [V.int r, V.int (((i + 1 : Nat) : Int) - ((p'.2 : Nat) : Int))] = _
      rw [show ((i + 1 : Nat) : Int) - ((p'.2 : Nat) : Int) = ((i + 1 - p'.2 : Nat) : Int) by omega]
    intro H2 s2 hD2
    have hq2 := s2 _ _ (upd_same (H := H1) (a := qa) (o := .frz od (.dK (kvsI rq))))
    refine ⟨hq2, ?_⟩
    have nDq : D ≠ qa := fun e => by rw [e, upd_same] at hD; cases hD
    have t2 : Same H1 (upd H2 qa (.dK (kvsI rq))) := same_unlock hq1 s2
    have hD3 : upd H2 qa (.dK (kvsI rq)) D = some (.lst (((L.filter fun l => decide (l ≤ i + 1)).map fun l => r ^ (i + 1 - l)).map V.int)) := by
      rw [upd_ne nDq, hD2, hL]
      have e : ((kvsI rq).filter fun q => leV (i + 1) q.2).map (fun q => powV r (i + 1) q.2) = (((kvsI rq).map (·.2)).filter (leV (i + 1))).map (powV r (i + 1)) := by
        rw [List.filter_map, List.map_map]
        rfl
      rw [e, kvsI_vals, filter_len, List.map_map, List.map_map]
      rfl
    generalize upd H2 qa (.dK (kvsI rq)) = H3 at t2 hD3 ⊢
    refine ⟨D, (L.filter fun l => decide (l ≤ i + 1)).map fun l => r ^ (i + 1 - l), rfl, SqL.of hD3, ?_⟩
    refine ⟨_, rfl, _, rfl, _, rfl, r, i + 1, rfl, by omega, by omega, by omega, _, _, rfl, rfl, _, rfl, ?_⟩
    have e3 : decide (((L.filter fun l => decide (l ≤ i + 1)).map fun l => r ^ (i + 1 - l)).sum > r ^ (i + 1)) = failAt r [] L i := by
      unfold failAt
      rw [show (((touchN [] (i + 1) : Nat) : Int) + fillL r L (i + 1)) = fillL r L (i + 1) from Int.zero_add _]
      rfl
    rw [e3]
    refine if_b (fun c1 => ?_) (fun c1 => ?_)
    · rw [if_pos c1] at ef
      exact ⟨_, rfl, ke _ (eF.trans ef) _ (Same.trans s1 t2)⟩
    · rw [if_neg (by rw [c1]; exact Bool.false_ne_true)] at ef
      exact ⟨_, _, rfl, Same.trans s1 t2, ef⟩
  · rintro σ H1 ⟨o3, o4, rfl, s1, ef⟩
    rw [Nat.sub_self] at ef
    have kq := kq (eF.trans ef)
    refine fun da hda => ⟨_, rfl, _, _, _, rfl, ?_⟩
    have gda := s1.free hda
    have sd := newS (o := .dK []) hda
    have hd2 : upd H1 da (.dK []) da = some (.dK []) := upd_same
    generalize upd H1 da (.dK []) = H2 at sd hd2 ⊢
    have s2 := Same.trans s1 sd
    have hqa2 := s2 _ _ hqa
    refine ⟨qa, .dK (kvsI rq), hqa2, trivial, fun od => ?_⟩
    refine ⟨_, rfl, qa, od, rfl, .inl ⟨kvsI rq, upd_same, fun D1 hD1 => lc_keysTup (fun _ => true) (fun q => [q.2, kV q.1]) upd_same hD1 (by unfold kvsI; rw [List.length_map]; omega) (fun _ _ H' Q' _ kk => kk H' (Same.refl _)) ?_ ?_⟩⟩
    · intro q hq _ H' Q' s' kk
      obtain ⟨p', hp', rfl⟩ := List.mem_map.mp hq
      have hq' := s' _ _ (upd_same (H := H2) (a := qa) (o := .frz od (.dK (kvsI rq))))
      exact ⟨_, rfl, _, rfl, qa, .int (p'.2 : Nat), rfl, .inl ⟨_, Sum.inr p'.1, .inr ⟨od, hq'⟩, rfl, due_val rk hp'⟩, _, rfl, (sz_rfl rfl), fun T hT => kk _ T (newS hT) hT upd_same⟩
    intro H3 ps s3 hD3 hps
    have hqa3 := s3 _ _ (upd_same (H := H2) (a := qa) (o := .frz od (.dK (kvsI rq))))
    refine ⟨hqa3, ?_⟩
    have hDq : D1 ≠ qa := fun e => by rw [e, upd_same] at hD1; cases hD1
    have t3 : Same H2 (upd H3 qa (.dK (kvsI rq))) := same_unlock hqa2 s3
    have hD4 : upd H3 qa (.dK (kvsI rq)) D1 = some (.lst (ps.map V.ref)) := (upd_ne hDq).trans hD3
    rw [fil_all] at hps
    have hps4 : Paired (fun t (q : Int × Str) => upd H3 qa (.dK (kvsI rq)) t = some (.tup [.int q.1, .str q.2])) ps (rq.map fun p => (((p.2 : Nat) : Int), p.1)) := by
      refine paired_to (f := fun p : Str × Nat => ((Sum.inr p.1 : Key), V.int (p.2 : Nat))) (fun t p z => ?_) hps
      have : t ≠ qa := fun e => by rw [e, upd_same] at z; cases z.1
      exact (upd_ne this).trans z.2.2
    generalize upd H3 qa (.dK (kvsI rq)) = H4 at t3 hD4 hps4 ⊢
    refine ⟨D1, ps, _, rfl, SqL.of hD4, hps4, fun vs p hvs hp => ?_⟩
    have t5 := newS (o := .lst (vs.map V.ref)) hp
    have hvs5 : Paired (fun t (q : Int × Str) => upd H4 p (.lst (vs.map V.ref)) t = some (.tup [.int q.1, .str q.2])) vs (srtP (rq.map fun p => (((p.2 : Nat) : Int), p.1))) := Paired.imp (fun _ _ z => t5 _ _ z) hvs
    have s25 := Same.trans t3 t5
    have hp5 : upd H4 p (.lst (vs.map V.ref)) p = some (.lst (vs.map V.ref)) := upd_same
    have npa : p ≠ da := fun e => by have z := t3 _ _ hd2; rw [← e, hp] at z; cases z
    generalize upd H4 p (.lst (vs.map V.ref)) = H5 at t5 hvs5 s25 hp5 ⊢
    have hd5 := s25 _ _ hd2
    have s05 := Same.trans s2 s25
    obtain ⟨rn, rfl⟩ := Int.eq_ofNat_of_zero_le (show 0 ≤ r by omega)
    have dl : (digs (rn : Nat)).length = rn := by rw [digs_size r2 r4, Int.toNat_natCast]
    have hdn := digs_nd r2 r4
    have e0 : (osOf rq).length = rq.length := (osOf_perm rq).length_eq.trans (List.length_map _)
    have eos : osOf rq = (srtP (rq.map fun p => (((p.2 : Nat) : Int), p.1))).map fun q => (q.1.toNat, q.2) := rfl
    have hpos : ∀ q ∈ srtP (rq.map fun p => (((p.2 : Nat) : Int), p.1)), 0 ≤ q.1 := fun q hq => by
      obtain ⟨p, _, rfl⟩ := List.mem_map.mp ((srtP_perm _).mem_iff.mp hq)
      exact Int.natCast_nonneg _
    have o6 : ∀ o ∈ osOf rq, 1 ≤ o.1 ∧ o.1 ≤ hh := fun o ho => by
      obtain ⟨p, hp, rfl⟩ := List.mem_map.mp ((osOf_perm rq).mem_iff.mp ho)
      have := rk.qo p hp
      exact ⟨this.2.1, by have := this.2.2; omega⟩
    have ond : ((osOf rq).map (·.2)).Nodup := by
      have := (osOf_perm rq).map (·.2)
      rw [List.map_map] at this
      exact this.nodup_iff.mpr rk.qn
    have vl : vs.length = rq.length := by rw [hvs5.length, ← e0, eos, List.length_map]
    have nX : ∀ a o, H5 a = some o → (∀ ks : List (Key × V), o ≠ .dK ks) → a ∉ [da] := fun a o e n2 m => by
      rw [List.mem_singleton.mp m, hd5] at e
      cases e
      exact n2 _ rfl
    have fits : Fits (digs (rn : Nat)).length [] (rq.map (·.2)) 1 hh := by
      have := (failR_fits ok rq).mp (eF.trans ef)
      rw [Int.toNat_natCast] at this
      exact this
    have pk : PlOk (digs (rn : Nat)) [] (osOf rq) := plOk_of List.Pairwise.nil (fun _ h => nomatch h) fits (fun p hp => by have := rk.qo p hp; omega)
    have eW : assignW (rn : Nat) [] [] rq = canL (digs (rn : Nat)) (osOf rq) 0 0 := can_place hdn (used := []) (L := 0) (M := 0) (fun k => by rw [Nat.zero_add, freeN_none]; have := lvl_growK (digs (rn : Nat)) 0 k; rw [Nat.zero_add] at this; exact this) (fun _ _ => Nat.zero_le _) pk
    refine ⟨p, rfl, ⟨_, SqL.of hp5⟩, for_list (K := K) (a := p) (xs := vs.map V.ref) (fun i σ H' => ∃ (used : List Str) (found : List (Str × Str)) (L M : Nat) (o8 o9 : Option V), σ = [some (.int (rn : Nat)), some (.int (hh : Nat)), some (.ref qa), o3, o4, some (.ref da), some (.int ((M : Nat) - 1)), some (.int (L : Nat)), o8, o9] ∧ SameX [da] H5 H' ∧ H' da = some (.dK (kvsOf found)) ∧ found.length = i ∧ L ≤ 6 ∧ M ≤ 4097 ∧ found.map (·.1) = ((osOf rq).take i).map (·.2) ∧ PlOk (digs (rn : Nat)) used ((osOf rq).drop i) ∧ (∀ k, freeN (digs (rn : Nat)) used (L + k) = growK (digs (rn : Nat)) k ((lvl (digs (rn : Nat)) L).drop M)) ∧ (∀ o ∈ (osOf rq).drop i, L ≤ o.1) ∧ canL (digs (rn : Nat)) (osOf rq) 0 0 = found ++ canL (digs (rn : Nat)) ((osOf rq).drop i) L M)
      ⟨[], [], 0, 0, none, none, rfl, .refl, hd5, rfl, by decide, by decide, rfl, pk, fun k => by rw [Nat.zero_add, freeN_none]; have := lvl_growK (digs (rn : Nat)) 0 k; rw [Nat.zero_add] at this; exact this, fun _ _ => Nat.zero_le _, rfl⟩ (fun i σ H' _ ⟨_, _, _, _, _, _, _, h, _⟩ => SqL.of (h _ _ (by simp [npa]) hp5)) ?_ ?_⟩
    · rintro i v σ H6 hv ⟨used, found, L, M, o8, o9, rfl, sx, hd6, fl6, L6, M6, fk6, pk6, fr6, lo6, ep⟩
      obtain ⟨T, hT, rfl⟩ := getMap hv
      have hi : i < vs.length := (List.getElem?_eq_some_iff.mp hT).1
      obtain ⟨⟨z, n⟩, hz, hTz⟩ := Paired.at hvs5 hT
      have hz0 : 0 ≤ z := hpos _ (List.mem_of_getElem? hz)
      obtain ⟨l, rfl⟩ := Int.eq_ofNat_of_zero_le hz0
      have ho : (osOf rq)[i]? = some (l, n) := by
        rw [eos, List.getElem?_map, hz]
        rfl
      have l6 := o6 _ (List.mem_of_getElem? ho)
      have l6 : 1 ≤ l ∧ l ≤ hh := l6
      rw [drop_at ho] at pk6 ep lo6
      have Ll : L ≤ l := lo6 _ (List.mem_cons_self ..)
      obtain ⟨x, hx, xl, pk7, fr7⟩ := can_step hdn fr6 Ll pk6
      rw [dl] at hx fr7
      have hMl : M * rn ^ (l - L) < rn ^ l := by
        have := (List.getElem?_eq_some_iff.mp hx).1
        rw [lvl_len, dl] at this
        exact this
      have hb4 : rn ^ l ≤ 4096 := by
        have a1 : rn ^ l ≤ 4 ^ l := Nat.pow_le_pow_left (by omega) _
        have a2 : 4 ^ l ≤ 4 ^ 6 := Nat.pow_le_pow_right (by decide) (by omega)
        exact Nat.le_trans a1 a2
      obtain ⟨x', hx', tx⟩ := lvl_get r2 r4 (l := l) (M := M * rn ^ (l - L)) (by rw [dl]; exact hMl)
      rw [hx] at hx'
      cases hx'
      have hT6 := sx _ _ (nX _ _ hTz (fun _ h => by cases h)) hTz
      refine ⟨T, _, rfl, SqT.of hT6, rfl, _, _, rfl, _, _, rfl, rfl, ?_⟩
      refine ⟨_, rfl, _, _, rfl, rfl, _, rfl, _, rfl, _, rfl, _, _, rfl, rfl, (rn : Nat), l - L, ?_, by omega, by omega, by omega, ?_⟩
      · show [V.int (rn : Nat), V.int (((l : Nat) : Int) - ((L : Nat) : Int))] = _
        rw [show ((l : Nat) : Int) - ((L : Nat) : Int) = ((l - L : Nat) : Int) by omega]
      have hpw : rn ^ (l - L) ≤ 4096 := Nat.le_trans (Nat.pow_le_pow_right (by omega) (by omega)) hb4
      have epw : (((rn : Nat) : Int) ^ (l - L)) = ((rn ^ (l - L) : Nat) : Int) := (Int.natCast_pow rn (l - L)).symm
      rw [epw]
      refine ⟨_, _, rfl, rfl, .inr ⟨by omega, by omega⟩, ?_⟩
      have enum : (((M : Nat) : Int) - 1 + 1) * ((rn ^ (l - L) : Nat) : Int) = ((M * rn ^ (l - L) : Nat) : Int) := by
        rw [Int.sub_add_cancel]
        exact (Int.natCast_mul _ _).symm
      dsimp only
      rw [enum]
      have hml : M * rn ^ (l - L) < 4096 := Nat.lt_of_lt_of_le hMl hb4
      refine ⟨_, rfl, ?_⟩
      have hu : upd H6 da (.dK (kvsOf (found ++ [(n, x)]))) da = some (.dK (kvsOf (found ++ [(n, x)]))) := upd_same
      have fresh : ∀ q ∈ kvsOf found, q.1 ≠ Sum.inr n := fun q hq e => by
        obtain ⟨p', hp', rfl⟩ := List.mem_map.mp hq
        have hm : p'.1 ∈ ((osOf rq).take i).map (·.2) := by rw [← fk6]; exact List.mem_map_of_mem hp'
        have e1 : p'.1 = n := Sum.inr.inj e
        rw [e1] at hm
        have e2 : osOf rq = (osOf rq).take i ++ (l, n) :: (osOf rq).drop (i + 1) := by
          rw [← drop_at ho, List.take_append_drop]
        rw [e2, List.map_append] at ond
        exact (List.nodup_append.mp ond).2.2 n hm n (by rw [List.map_cons]; exact List.mem_cons_self ..) rfl
      refine ⟨_, rfl, _, rfl, _, rfl, (rn : Nat), M * rn ^ (l - L), l, x, rfl, r2, r4, by omega, by omega, by rw [Int.toNat_natCast]; rw [Int.toNat_natCast] at tx; exact tx, ?_⟩
      refine ⟨_, rfl, _, rfl, da, _, rfl, DPut.k (k := .inr n) hd6 (sz_lt (m := 100) (by rw [kvsOf_len]; omega) rfl), ?_⟩
      rw [putK_fresh fresh]
      have e9 : kvsOf found ++ [(Sum.inr n, V.str x)] = kvsOf (found ++ [(n, x)]) := by
        unfold kvsOf
        rw [List.map_append]
        rfl
      rw [e9]
      refine ⟨used ++ [x], found ++ [(n, x)], l, M * rn ^ (l - L) + 1, some (.int (l : Nat)), some (.str n), ?_, sx.put (by simp), hu, ?_, by omega, by omega, ?_, pk7, fr7, ?_, ?_⟩
      · rw [show (((M * rn ^ (l - L) + 1 : Nat) : Int) - 1) = ((M * rn ^ (l - L) : Nat) : Int) by omega]
        rfl
      · rw [List.length_append, fl6]; rfl
      · rw [take_snoc ho, List.map_append, List.map_append, fk6]
        rfl
      · exact fun o ho' => (List.pairwise_cons.mp pk6.as).1 o ho'
      · rw [ep, List.append_assoc]
        show found ++ (n, ((lvl (digs (rn : Nat)) l)[M * (digs (rn : Nat)).length ^ (l - L)]?).getD "") :: canL (digs (rn : Nat)) ((osOf rq).drop (i + 1)) l (M * (digs (rn : Nat)).length ^ (l - L) + 1) = _
        rw [dl, hx]
        rfl
    · rintro σ H6 ⟨used, found, L, M, o8, o9, rfl, sx, hd6, fl6, L6, M6, fk6, pk6, fr6, lo6, ep⟩
      rw [List.length_map, vl, ← e0, List.drop_length] at ep
      refine ⟨_, rfl, kq H6 da (sx.to s05 fun a ha => ?_) ?_ ?_⟩
      · rw [List.mem_singleton.mp ha]; exact s1.free hda
      · exact s1.free hda
      · rw [hd6, eW, ep]
        show _ = some (HO.dK (kvsOf (found ++ [])))
        rw [List.append_nil]
/-! ### _law_outcome -/
def sp_out22 (mg : Str → Option Value) : Sp := fun vs H Q _ => ∃ (qa : Addr) (r : Int) (hh : Nat) (rq : List (Str × Nat)), vs = [.int r, .int (hh : Nat), .ref qa] ∧ BookOk r (hh : Nat) [] [] ∧ RqOk (hh : Nat) [] [] rq ∧ H qa = some (.dK (kvsI rq)) ∧
  (failR r (hh : Nat) [] [] rq = none → ∀ H' q, Same H H' → BookNew (CBk mg) H H' q (mkBook r (hh : Nat) (assignW r [] [] rq) []) → Q (.ref q) H') ∧
  (∀ n, failR r (hh : Nat) [] [] rq = some n → ∀ H', Same H H' → Q (.int (n : Nat)) H')
theorem cal_l_outcome (T : Txt K mg) (Z_NoRoom : SupX P w K mg base "NoRoom" (clsAt mg "NoRoom") "level") : CalG P w K mg base CX0 10 "_law_outcome" (sp_out22 mg) [] := by
  refine T.d_l_outcome.cal .nil sc_l_outcome (fun vs H Q E h => by obtain ⟨_, _, _, _, rfl, _⟩ := h; rfl) (fun f cdv A outer s H vs Q E hr h => ?_)
  obtain ⟨qa, r, hh, rq, rfl, ok, rk, hqa, ky, kn⟩ := h
  refine ⟨_, (pss_cons (ps_set (i := 3) sc_l_outcome.nd rfl (Or.inl rfl) pe_non)
      (pss_cons (ps_set (i := 4) sc_l_outcome.nd rfl (Or.inl rfl) pe_non)
      (pss_cons (ps_try_keep (i := 5) (c := .ref (clsAt mg "CodeError")) rfl rfl sc_l_outcome.nd rfl rfl rfl ⟨rfl, by decide, .inl T.h_CodeError.gl⟩ takes_never (fun W pn xe tk _ =>
      (pss_one (ps_set (i := 4) sc_l_outcome.nd rfl (Or.inl rfl) (pe_gE (cal_canonical T Z_NoRoom) hr (by first | decide | (simp only [Nat.add_eq]; omega)) rfl (fun σ => passAt tk σ) (pa_cons (pv 0) (pa_cons (pv 1) (pa_cons (pv 2) pa_nil))))))) (fun a oe cls d pn hz hv =>
      (pss_one (ps_set (i := 3) sc_l_outcome.nd rfl (Or.inl rfl) (pv 5)))))
      (pss_cons (ps_if (pt_cmpR op_isN (pv 3) pe_non (nomark _))
      (pss_one (ps_ret (pv 4)))
      pss_nil)
      (pss_one (ps_ret (pe_ifExp (PW.pt (pw_and (pt_val (pe_callB (r := rIsY K) call_isY (by rfl) T.n_isinstance (by decide +kernel) (pa_cons (pv 3) (pa_cons (C8.pe_gc (v := .ref (clsAt mg "NoRoom")) rfl ⟨_, T.q_NoRoom.gl, rfl⟩) pa_nil)))) (pw_and1 (pt_not (pt_val (pe_callB (r := rIsY K) call_isY (by rfl) T.n_isinstance (by decide +kernel) (pa_cons (pv 3) (pa_cons (C8.pe_gc (v := .ref (clsAt mg "InvalidRequest")) rfl ⟨_, T.q_InvalidRequest.gl, rfl⟩) pa_nil)))))))) (pe_xkK (K := K) (pv 3)) pe_str))))))), ?_⟩
  have ss := T.s_NoRoom_NoRoom
  have neq : ∀ {C : Addr}, PySem.W.subIn K (.ref (clsAt mg "NoRoom")) (.ref C) = some false → clsAt mg "NoRoom" ≠ C := fun {C} h z => by
    rw [← z, ss] at h
    cases h
  have no : ∀ {x : Str} {C : Addr}, AskT K mg x C → PySem.W.subIn K (.ref (clsAt mg "NoRoom")) (.ref C) = some false → PySem.W.kitOne K (.ref (clsAt mg "NoRoom")) (.ref C) = some false := fun q s => q.kit s fun _ => neq s
  refine ⟨_, rfl, _, rfl, _, rfl, qa, r, hh, rq, rfl, ok, rk, hqa, fun hf H1 q s1 BN => ?_, fun n hf H1 d s1 hd => ?_⟩
  · refine ⟨_, rfl, rfl, _, rfl, ?_⟩
    exact iteT ⟨_, rfl, ky hf H1 q s1 BN⟩
  · refine ⟨true, T.h_CodeError.exm T.s_NoRoom_CodeError, fun _ a ha => ?_, fun z => by cases z⟩
    refine ⟨_, rfl, ha, ?_⟩
    refine ⟨_, rfl, rfl, _, rfl, ?_⟩
    refine iteF ?_
    have hd2 := (newS (o := ExK (XNr mg) (some d) a) ha) _ _ hd
    have s2 := Same.trans s1 (newS (o := ExK (XNr mg) (some d) a) ha)
    have kx0 : KeptX _ a (clsAt mg "NoRoom") (some d) := ⟨upd_same, fun dd e => by cases e; exact ⟨_, hd2⟩⟩
    refine ⟨_, rfl, a, _, _, _, _, true, rfl, kx0, T.y_NoRoom, .own _, T.q_NoRoom.kit ss (fun z => by cases z), _, rfl, ?_⟩
    refine iteT ?_
    refine ⟨_, rfl, a, _, _, _, _, false, rfl, kx0, T.y_NoRoom, .own _, no T.q_InvalidRequest T.s_NoRoom_InvalidRequest, _, rfl, ?_⟩
    refine iteT ?_
    refine ⟨_, rfl, a, _, d, _, _, rfl, kx0.1, hd2, rfl, T.y_NoRoom, Z_NoRoom.no, ?_⟩
    exact kn n hf _ s2
/-! ### _law_full -/
def natV (ls : List Nat) : List V := ls.map fun l : Nat => V.int (l : Nat)
theorem natV_len (ls : List Nat) : (natV ls).length = ls.length := List.length_map _
theorem natV_rep (n l : Nat) : (List.replicate n [V.int (l : Nat)]).flatten = natV (List.replicate n l) := by
  induction n with
  | zero => rfl
  | succ n ih =>
    rw [List.replicate_succ, List.flatten_cons, ih]
    rfl
def sp_l_full (K : PySem.W.Frag) : Sp := fun vs H Q _ => ∃ (p : Addr) (G : Hp) (n : Nat) (r : Int) (hh : Nat), vs = [.ref p, .int r, .int (hh : Nat)] ∧ PenG G H p n ∧ n + 20 ≤ 1000000000 ∧ 2 ≤ r ∧ r ≤ 4 ∧ 1 ≤ hh ∧ hh ≤ 6 ∧
  ∀ (H' : Hp) (a : Addr) (ls : List Nat), G a = none → PenG (upd G a (.lst (natV ls))) H' p (n + 20) → (∀ l ∈ ls, 1 ≤ l ∧ l ≤ hh) → ls.length ≤ 9 → Q (.ref a) H'
theorem cal_l_full (T : Txt K mg) : CalG P w K mg base CX0 3 "_law_full" (sp_l_full K) [] := by
  refine T.d_l_full.cal .nil sc_l_full (fun vs H Q E h => by obtain ⟨_, _, _, _, _, rfl, _⟩ := h; rfl) (fun f cdv A outer s H vs Q E hr h => ?_)
  obtain ⟨p, G, n, r, hh, rfl, hP, hn, r2, r4, h1, h6, k⟩ := h
  refine ⟨_, (pss_cons (ps_set (i := 3) sc_l_full.nd rfl (Or.inl rfl) (pe_op op_rep (pe_lst (pa_cons pe_int pa_nil)) (pv 1)))
      (pss_cons (ps_for PassesOwn.never rfl (pi_range1 rfl T.n_range (pa_cons (pe_g (cal_l_draw T) hr (by first | decide | (simp only [Nat.add_eq]; omega)) rfl (pa_cons (pv 0) (pa_cons pe_int pa_nil))) pa_nil)) (pg_name (i := 4) sc_l_full.nd rfl (Or.inl rfl))
      (pss_cons (ps_set (i := 5) sc_l_full.nd rfl (Or.inl rfl) (pe_g (cal_l_draw T) hr (by first | decide | (simp only [Nat.add_eq]; omega)) rfl (pa_cons (pv 0) (pa_cons (pe_callB (r := rLenQ K) call_len_seq (by rfl) T.n_len (by decide +kernel) (pa_cons (pv 3) pa_nil)) pa_nil))))
      (pss_one (ps_if (PW.pt (pw_and (pt_cmpR op_lt (pe_ix (r := rIxL K) ix_list (pv 3) (pv 5) (fun _ _ => rfl)) (pv 2) (nomark _)) (pw_and1 (pt_cmpR op_le (pe_op op_add (pe_callB (r := rLenQ K) call_len_seq (by rfl) T.n_len (by decide +kernel) (pa_cons (pv 3) pa_nil)) (pv 1)) pe_int (nomark _)))))
      (pss_cons (ps_set (i := 6) sc_l_full.nd rfl (Or.inl rfl) (pe_op op_add (pe_bmK (K := K) (r := rPopAt) PySem.F.plainAttrs_list PySem.F.slot_list_pop PySem.F.type_list_pop mt_popAt (pv 3) (pa_cons (pv 5) pa_nil)) pe_int))
      (pss_one (ps_set (i := 3) sc_l_full.nd rfl (Or.inl rfl) (pe_op op_cat (pv 3) (pe_op op_rep (pe_lst (pa_cons (pv 6) pa_nil)) (pv 1))))))
      pss_nil))))
      (pss_one (ps_ret (pv 3))))), ?_⟩
  refine ⟨(sz_rfl rfl), fun o ho => ?_⟩
  have P1 := hP.drop (o := .lst [V.int 1]) ho
  refine ⟨_, rfl, o, r, _, rfl, rfl, upd_same, by omega, by omega, sz_le (m := 10) (by show 1 * r.toNat ≤ 10; omega) rfl, fun L hL => ?_⟩
  rw [show (List.replicate r.toNat [V.int 1]).flatten = natV (List.replicate r.toNat 1) from natV_rep r.toNat 1]
  have P2 := P1.new (o := .lst (natV (List.replicate r.toNat 1))) hL
  have gL : G L = none := P1.sub.free hL
  refine ⟨_, rfl, p, _, _, 4, rfl, P2, by omega, by decide, by decide, fun H3 t P3 t0 t4 => ?_⟩
  refine ⟨t, rfl, by omega, by omega, ?_⟩
  refine for_range (lo := 0) (n := t.toNat) (fun i σ H' => ∃ (L : Addr) (ls : List Nat) (o4 o5 o6 : Option V), σ = [some (.ref p), some (.int r), some (.int (hh : Nat)), some (.ref L), o4, o5, o6] ∧ G L = none ∧ PenG (upd G L (.lst (natV ls))) H' p (n + 1 + i) ∧ (∀ l ∈ ls, 1 ≤ l ∧ l ≤ hh) ∧ ls.length ≤ 9 ∧ 1 ≤ ls.length)
    ⟨L, _, none, none, none, rfl, gL, P3, fun l hl => by rw [(List.mem_replicate.mp hl).2]; omega, by rw [List.length_replicate]; omega, by rw [List.length_replicate]; omega⟩ ?_ ?_
  · clear gL hL P2 P3
    rintro i σ H4 hi ⟨L, ls, o4, o5, o6, rfl, gL, P4, lok, l9, l1⟩
    have hL4 : H4 L = some (.lst (natV ls)) := P4.sub _ _ upd_same
    refine ⟨_, rfl, _, rfl, L, _, rfl, .inl (SqL.of hL4), p, _, _, _, rfl, P4, by omega, by rw [natV_len]; omega, by rw [natV_len]; omega, fun H5 c P5 c0 c1 => ?_⟩
    rw [natV_len] at c1
    obtain ⟨c, rfl⟩ := Int.eq_ofNat_of_zero_le c0
    have hc : c < ls.length := by omega
    have hL5 : H5 L = some (.lst (natV ls)) := P5.sub _ _ upd_same
    have hget : (natV ls)[c]? = some (V.int (ls[c] : Nat)) := by
      unfold natV
      rw [List.getElem?_map, List.getElem?_eq_getElem hc]
      rfl
    have hm : ls[c] ∈ ls := List.getElem_mem hc
    have hb := lok _ hm
    refine ⟨_, rfl, _, rfl, L, _, _, _, rfl, rfl, SqL.of hL5, atI_nat hget, _, rfl, _, _, rfl, rfl, _, rfl, ?_⟩
    have fin : ∃ (L' : Addr) (ls' : List Nat) (o4 o5' o6' : Option V), [some (V.ref p), some (.int r), some (.int (hh : Nat)), some (.ref L), some (.int (0 + (i : Nat))), some (.int (c : Nat)), o6] = [some (.ref p), some (.int r), some (.int (hh : Nat)), some (.ref L'), o4, o5', o6'] ∧ G L' = none ∧ PenG (upd G L' (.lst (natV ls'))) H5 p (n + 1 + (i + 1)) ∧ (∀ l ∈ ls', 1 ≤ l ∧ l ≤ hh) ∧ ls'.length ≤ 9 ∧ 1 ≤ ls'.length :=
      ⟨L, ls, _, _, _, rfl, gL, P5.mono (by omega), lok, l9, l1⟩
    refine if_b (fun cc => ?_) (fun _ => fin)
    have cc := of_decide_eq_true cc
    refine ⟨_, rfl, _, _, rfl, .inl (SqL.of hL5), _, rfl, _, _, rfl, rfl, _, _, rfl, rfl, _, rfl, ?_⟩
    rw [natV_len]
    refine if_b (fun c9 => ?_) (fun _ => fin)
    have c9 := of_decide_eq_true c9
    clear fin
    refine ⟨_, rfl, .inl ⟨rfl, _, SqL.of hL5⟩, _, rfl, L, _, (c : Nat), c, _, rfl, rfl, hL5, by omega, by omega, seqIndex_nat (by rw [natV_len]; exact hc), hget, _, _, rfl, rfl, ?_⟩
    have P6 := P5.put (o' := .lst ((natV ls).eraseIdx c))
    have eE : (natV ls).eraseIdx c = natV (ls.eraseIdx c) := map_eraseIdx _ ls c
    rw [eE] at P6 ⊢
    have lE : (ls.eraseIdx c).length = ls.length - 1 := by rw [List.length_eraseIdx, if_pos hc]
    have hL6 : upd H5 L (.lst (natV (ls.eraseIdx c))) L = some (.lst (natV (ls.eraseIdx c))) := upd_same
    generalize upd H5 L (.lst (natV (ls.eraseIdx c))) = H6 at P6 hL6 ⊢
    refine ⟨_, rfl, _, rfl, (sz_rfl rfl), fun o ho => ?_⟩
    have P7 := P6.drop (o := .lst [V.int ((ls[c] : Nat) + 1)]) ho
    refine ⟨_, rfl, o, r, _, rfl, rfl, upd_same, by omega, by omega, sz_le (m := 10) (by show 1 * r.toNat ≤ 10; omega) rfl, fun R hR => ?_⟩
    rw [show (List.replicate r.toNat [V.int (((ls[c] : Nat) : Int) + 1)]).flatten = natV (List.replicate r.toNat (ls[c] + 1)) from natV_rep r.toNat (ls[c] + 1)]
    have P8 := P7.drop (o := .lst (natV (List.replicate r.toNat (ls[c] + 1)))) hR
    have s67 := Same.trans (newS (o := .lst [V.int ((ls[c] : Nat) + 1)]) ho) (newS (o := .lst (natV (List.replicate r.toNat (ls[c] + 1)))) hR)
    refine ⟨L, R, _, _, rfl, rfl, s67 _ _ hL6, upd_same, sz_le (m := 100) (by rw [natV_len, natV_len, lE, List.length_replicate]; omega) rfl, fun S hS => ?_⟩
    have eA : natV (ls.eraseIdx c) ++ natV (List.replicate r.toNat (ls[c] + 1)) = natV (ls.eraseIdx c ++ List.replicate r.toNat (ls[c] + 1)) := List.map_append.symm
    rw [eA]
    have P9 := P8.new (o := .lst (natV (ls.eraseIdx c ++ List.replicate r.toNat (ls[c] + 1)))) hS
    have gS' : upd G L (.lst (natV (ls.eraseIdx c))) S = none := P8.sub.free hS
    have nSL : S ≠ L := fun e => by rw [e, upd_same] at gS'; cases gS'
    have gS : G S = none := by rw [upd_ne nSL] at gS'; exact gS'
    rw [← upd_comm nSL] at P9
    refine ⟨S, _, _, _, _, rfl, gS, (P9.forget (by rw [upd_ne (Ne.symm nSL)]; exact gL)).mono (by omega), fun l hl => ?_, ?_, ?_⟩
    · rcases List.mem_append.mp hl with hl | hl
      · exact lok _ (List.mem_of_mem_eraseIdx hl)
      · rw [(List.mem_replicate.mp hl).2]; omega
    · rw [List.length_append, lE, List.length_replicate]; omega
    · rw [List.length_append, lE, List.length_replicate]; omega
  · rintro σ H4 ⟨L, ls, o4, o5, o6, rfl, gL, P4, lok, l9, l1⟩
    exact ⟨_, rfl, k H4 L ls gL (P4.mono (by omega)) lok l9⟩
/-! ### the law -/
theorem asg_len {r h : Int} {ws : List (Str × Str)} {rs : List Str} {rq : List (Str × Nat)} (ok : BookOk r h ws rs) (k : RqOk h ws rs rq) (hf : failR r h ws rs rq = none) : (assignW r ws rs rq).length ≤ ws.length + rq.length := by
  have l1 := (remW_sub ws (kvsI rq)).length_le
  have l2 := (plc_names ok k hf).length_eq
  rw [List.length_map, List.length_map] at l2
  unfold assignW
  rw [List.length_append]
  omega
theorem range_getD {α : Type} (xs : List α) (d : α) : (List.range xs.length).map (fun j => (xs[j]?).getD d) = xs := by
  refine List.ext_getElem? fun j => ?_
  rw [List.getElem?_map]
  by_cases h : j < xs.length
  · rw [List.getElem?_range h, List.getElem?_eq_getElem h]
    show some ((xs[j]?).getD d) = _
    rw [List.getElem?_eq_getElem h]
    rfl
  · rw [List.getElem?_eq_none (by rw [List.length_range]; omega), List.getElem?_eq_none (by omega)]
    rfl
theorem pool_names : ∀ x ∈ POOL, nameB x = true := by decide +kernel
def sp_law (K : PySem.W.Frag) : Sp := fun vs H Q _ => ∃ (a : Addr) (ns : List Int), vs = [.ref a] ∧ SqL K H a (ns.map V.int) ∧ ns.length ≤ 63 ∧ ∀ H', Q (.bl true) H'
theorem ok_law (T : Txt K mg) (Z_NoRoom : SupX P w K mg base "NoRoom" (clsAt mg "NoRoom") "level") {f : Addr} {fd : FuncData} (F : Fun K "law" "law" s_law f fd) : FnG P w K mg base CX0 16 f fd ["script"] (sp_law K) := by
  obtain ⟨a0, hT0, MK0⟩ := (mak_Codebook (P := P) (w := w) (base := base) T).2
  refine Fun.okG F sc_law (fun vs H Q E h => by obtain ⟨_, _, rfl, _⟩ := h; rfl) (fun cdv A outer s H vs Q E hr h => ?_)
  obtain ⟨a, ns, rfl, hS, hl63, k⟩ := h
  refine ⟨_, (pss_cons (ps_set (i := 1) sc_law.nd rfl (Or.inr rfl) (pe_g (cal_l_pen T) hr (by first | decide | (simp only [Nat.add_eq]; omega)) rfl (pa_cons (pv 0) pa_nil)))
      (pss_cons (ps_for PassesOwn.never rfl (pi_range1 rfl T.n_range (pa_cons pe_int pa_nil)) (pg_name (i := 2) sc_law.nd rfl (Or.inl rfl))
      (pss_cons (ps_asg (pe_tup (pa_cons (pe_op op_add pe_int (pe_g (cal_l_draw T) hr (by first | decide | (simp only [Nat.add_eq]; omega)) rfl (pa_cons (pv 1) (pa_cons pe_int pa_nil)))) (pa_cons (pe_op op_add pe_int (pe_g (cal_l_draw T) hr (by first | decide | (simp only [Nat.add_eq]; omega)) rfl (pa_cons (pv 1) (pa_cons pe_int pa_nil)))) pa_nil))) (pg_tup (by rfl) (pgs_cons (pg_name (i := 3) sc_law.nd rfl (Or.inl rfl)) (pgs_cons (pg_name (i := 4) sc_law.nd rfl (Or.inr rfl)) pgs_nil))))
      (pss_cons (ps_set (i := 5) sc_law.nd rfl (Or.inr rfl) (pe_lc (own := [("k", 13)]) (g := gName 13) (by rfl) sc_law.nd (pi_range1 rfl T.n_range (pa_cons (pe_g (cal_l_draw T) hr (by first | decide | (simp only [Nat.add_eq]; omega)) rfl (pa_cons (pv 1) (pa_cons pe_int pa_nil))) pa_nil)) (blkOk_by (own := [("k", 13)]) (N := ["script", "pen", "turn", "radix", "depth", "some", "road", "names", "wanted", "due", "seen", "again", "found", "k"]) (sc := (defScope s_law)) (by decide +kernel)) (fun _ _ _ _ _ => (pg_name (i := 13) sc_law.nd rfl (Or.inl rfl))) (fun _ _ _ _ _ => pts_nil) (fun _ _ _ _ _ => (pe_op op_add pe_int (pe_g (cal_l_draw T) hr (by first | decide | (simp only [Nat.add_eq]; omega)) rfl (pa_cons (pv 1) (pa_cons (pv 4) pa_nil)))))))
      (pss_cons (ps_set (i := 6) sc_law.nd rfl (Or.inl rfl) (pe_g (cal_l_draw T) hr (by first | decide | (simp only [Nat.add_eq]; omega)) rfl (pa_cons (pv 1) (pa_cons pe_int pa_nil))))
      (C8.pss_cut (ps_if (pt_cmpR op_eq (pv 6) pe_int (nomark _))
      (pss_one (ps_set (i := 5) sc_law.nd rfl (Or.inr rfl) (pe_g (cal_l_full T) hr (by first | decide | (simp only [Nat.add_eq]; omega)) rfl (pa_cons (pv 1) (pa_cons (pv 3) (pa_cons (pv 4) pa_nil))))))
      pss_nil)
      (C8.pss_cut (ps_if (pt_cmpR op_eq (pv 6) pe_int (nomark _))
      (pss_one (ps_set (i := 5) sc_law.nd rfl (Or.inr rfl) (pe_op op_rep (pe_lst (pa_cons (pe_op op_add pe_int (pe_g (cal_l_draw T) hr (by first | decide | (simp only [Nat.add_eq]; omega)) rfl (pa_cons (pv 1) (pa_cons (pv 4) pa_nil)))) pa_nil)) (pe_g (cal_l_draw T) hr (by first | decide | (simp only [Nat.add_eq]; omega)) rfl (pa_cons (pv 1) (pa_cons pe_int pa_nil))))))
      pss_nil)
      (pss_cons (ps_set (i := 7) sc_law.nd rfl (Or.inr rfl) (pe_g (cal_l_names T) hr (by first | decide | (simp only [Nat.add_eq]; omega)) rfl (pa_cons (pv 1) (pa_cons (pe_callB (r := rLenQ K) call_len_seq (by rfl) T.n_len (by decide +kernel) (pa_cons (pv 5) pa_nil)) pa_nil))))
      (pss_cons (ps_set (i := 8) sc_law.nd rfl (Or.inl rfl) (pe_callTy (r := rDictP K) (call_dictP rfl) (by rfl) T.n_dict (by decide +kernel) (pa_cons (pe_lc (own := [("k", 13)]) (g := gName 13) (by rfl) sc_law.nd (pi_range1 rfl T.n_range (pa_cons (pe_callB (r := rLenQ K) call_len_seq (by rfl) T.n_len (by decide +kernel) (pa_cons (pv 5) pa_nil)) pa_nil)) (blkOk_by (own := [("k", 13)]) (N := ["script", "pen", "turn", "radix", "depth", "some", "road", "names", "wanted", "due", "seen", "again", "found", "k"]) (sc := (defScope s_law)) (by decide +kernel)) (fun _ _ _ _ _ => (pg_name (i := 13) sc_law.nd rfl (Or.inl rfl))) (fun _ _ _ _ _ => pts_nil) (fun _ _ _ _ _ => (pe_tup (pa_cons (pe_ix (r := rIxL K) ix_list (pv 7) (pv 13) (fun _ _ => rfl)) (pa_cons (pe_ix (r := rIxL K) ix_list (pv 5) (pv 13) (fun _ _ => rfl)) pa_nil))))) pa_nil)))
      (pss_cons (ps_par (i := 9) (j := 10) (by rfl) sc_law.nd rfl rfl (by decide) rfl rfl (pa_cons (pe_g (cal_l_due T) hr (by first | decide | (simp only [Nat.add_eq]; omega)) rfl (pa_cons (pv 3) (pa_cons (pv 4) (pa_cons (pv 8) pa_nil)))) (pa_cons (pe_callB (r := rReprN K) (call_reprN hr) (by rfl) T.n_repr (by decide +kernel) (pa_cons (pv 8) pa_nil)) pa_nil)) (by rfl))
      (pss_one (ps_for PassesOwn.never rfl (pi_range1 rfl T.n_range (pa_cons pe_int pa_nil)) (pg_name (i := 11) sc_law.nd rfl (Or.inl rfl))
      (pss_cons (ps_set (i := 12) sc_law.nd rfl (Or.inl rfl) (pe_g (cal_l_outcome T Z_NoRoom) hr (by first | decide | (simp only [Nat.add_eq]; omega)) rfl (pa_cons (pv 3) (pa_cons (pv 4) (pa_cons (pv 8) pa_nil)))))
      (pss_one (ps_if (pt_val (pe_callB (r := rIsi K) call_isi (by rfl) T.n_isinstance (by decide +kernel) (pa_cons (pv 9) (pa_cons (pe_bltn (v := .ty "int") (u := .type "int") (by rfl) T.n_int (by decide +kernel) rfl) pa_nil))))
      (pss_one (ps_if (pt_cmpR op_ne (pe_callB (r := rReprN K) (call_reprN hr) (by rfl) T.n_repr (by decide +kernel) (pa_cons (pv 12) pa_nil)) (pe_callB (r := rReprN K) (call_reprN hr) (by rfl) T.n_repr (by decide +kernel) (pa_cons (pv 9) pa_nil)) (nomark _))
      (pss_one (ps_ret pe_bl))
      pss_nil))
      (pss_one (ps_if (PW.pt (pw_or (pt_cmpR (r := rOwnEq K (CBk mg) (sp_eq K mg) true) (op_ownNe (met_eq T) T.e_Codebook hr (by first | decide | (simp only [Nat.add_eq]; omega))) (pv 12) (pe_kE MK0 hr (by first | decide | (simp only [Nat.add_eq]; omega)) rfl passLL (pa_cons (pv 3) (pa_cons (pv 4) (pa_cons (pv 9) pa_nil)))) (nomark _)) (pw_or (pt_cmpR (r := rNeD K) (op_neD hr.toRoom.units) (pe_callTy (call_listD rfl) (by rfl) T.n_list (by decide +kernel) (pa_cons (pe_mE0 (met_words T) hr (by first | decide | (simp only [Nat.add_eq]; omega)) pass00 (pv 12)) pa_nil)) (pe_callB (call_sortedD rfl) (by rfl) T.n_sorted (by decide +kernel) (pa_cons (pv 9) pa_nil)) (nomark _)) (pw_or1 (pt_cmpR op_ne (pe_callB (r := rReprN K) (call_reprN hr) (by rfl) T.n_repr (by decide +kernel) (pa_cons (pv 8) pa_nil)) (pv 10) (nomark _))))))
      (pss_one (ps_ret pe_bl))
      pss_nil))))))))))))))))
      (pss_one (ps_ret pe_bl)))), ?_⟩
  refine ⟨_, rfl, a, ns, rfl, hS, fun H0 p hP0 => ?_⟩
  refine ⟨10, rfl, by decide, by decide, for_range (lo := 0) (n := 10) (fun i σ H' => ∃ (G : Hp) (o2 o3 o4 o5 o6 o7 o8 o9 o10 o11 o12 o13 : Option V), σ = [some (.ref a), some (.ref p), o2, o3, o4, o5, o6, o7, o8, o9, o10, o11, o12, o13] ∧ PenG G H' p (i * 300))
    ⟨H, none, none, none, none, none, none, none, none, none, none, none, none, rfl, hP0.mono (by omega)⟩ ?_ ?_⟩
  · rintro i σ H1 hi ⟨G, o2, o3, o4, o5, o6, o7, o8, o9, o10, o11, o12, o13, rfl, hP⟩
    refine ⟨_, rfl, p, G, _, 3, rfl, hP, by omega, by decide, by decide, fun H2 d hP2 d0 d3 => ?_⟩
    refine ⟨_, _, rfl, rfl, _, rfl, p, G, _, 6, rfl, hP2, by omega, by decide, by decide, fun H3 e hP3 e0 e6 => ?_⟩
    refine ⟨_, _, rfl, rfl, ?_⟩
    obtain ⟨r, er⟩ : ∃ r : Int, r = 2 + d := ⟨_, rfl⟩
    obtain ⟨e, rfl⟩ := Int.eq_ofNat_of_zero_le e0
    have eh : (1 : Int) + (e : Nat) = ((e + 1 : Nat) : Int) := by omega
    obtain ⟨hh, ehh⟩ : ∃ hh : Nat, hh = e + 1 := ⟨_, rfl⟩
    dsimp only
    rw [← er, eh, ← ehh]
    refine ⟨(sz_rfl rfl), fun t2 ht2 => ?_⟩
    have hP3 := hP3.drop (o := .tup [.int r, .int (hh : Nat)]) ht2
    refine ⟨t2, _, rfl, SqT.of upd_same, rfl, _, _, rfl, _, _, rfl, rfl, ?_⟩
    have r2 : 2 ≤ r := by omega
    have r4 : r ≤ 4 := by omega
    have h1 : 1 ≤ hh := by omega
    have h6 : hh ≤ 6 := by omega
    refine ⟨_, rfl, p, G, _, 9, rfl, hP3, by omega, by decide, by decide, fun H4 c hP4 c0 c9 => ?_⟩
    refine ⟨c, rfl, by omega, by omega, fun S hS' => ?_⟩
    have gS : G S = none := hP4.sub.free hS'
    refine lc_rangeI (fun j acc H' => ∃ ls : List Nat, acc = natV ls ∧ ls.length = j ∧ (∀ l ∈ ls, 1 ≤ l ∧ l ≤ hh) ∧ PenG (upd G S (.lst (natV ls))) H' p (i * 300 + 3 + j)) ⟨[], rfl, rfl, (fun _ h => nomatch h), hP4.new hS'⟩ (by omega) ?_ ?_
    · rintro j acc H5 Q' hj hl hSa ⟨ls, rfl, ll, lok, P5⟩ kk
      refine ⟨_, rfl, _, rfl, p, _, _, (hh : Nat), rfl, P5, by omega, by omega, by omega, fun H6 b P6 b0 b1 => ?_⟩
      obtain ⟨b, rfl⟩ := Int.eq_ofNat_of_zero_le b0
      refine ⟨_, _, rfl, rfl, ?_⟩
      dsimp only
      rw [show (1 : Int) + (b : Nat) = ((b + 1 : Nat) : Int) by omega]
      have e1 : natV ls ++ [V.int ((b + 1 : Nat))] = natV (ls ++ [b + 1]) := by unfold natV; rw [List.map_append]; rfl
      refine kk _ _ (P6.sub _ _ upd_same) ?_
      rw [e1]
      refine ⟨ls ++ [b + 1], rfl, by rw [List.length_append, ll]; rfl, fun l hl => ?_, (P6.put).mono (by omega)⟩
      rcases List.mem_append.mp hl with hl | hl
      · exact lok l hl
      · rw [List.mem_singleton.mp hl]; omega
    rintro acc H5 hl hSa ⟨ls, rfl, ll, lok, P5⟩
    have l9 : ls.length ≤ 9 := by omega
    -- road
    refine ⟨_, rfl, p, _, _, 4, rfl, P5, by omega, by decide, by decide, fun H6 b P6 b0 b4 => ?_⟩
    refine ⟨fun σ' H' => ∃ (S : Addr) (ls : List Nat), σ' = [some (.ref a), some (.ref p), some (.int (0 + (i : Nat))), some (.int r), some (.int (hh : Nat)), some (.ref S), some (.int b), o7, o8, o9, o10, o11, o12, o13] ∧ G S = none ∧ PenG (upd G S (.lst (natV ls))) H' p (i * 300 + 60) ∧ (∀ l ∈ ls, 1 ≤ l ∧ l ≤ hh) ∧ ls.length ≤ 9, ?_, ?_⟩
    · refine ⟨_, rfl, rfl, _, rfl, ?_⟩
      refine if_b (fun _ => ?_) (fun _ => ⟨S, ls, rfl, gS, P6.mono (by omega), lok, l9⟩)
      refine ⟨_, rfl, _, rfl, _, rfl, p, _, _, r, hh, rfl, P6, by omega, r2, r4, h1, h6, fun H7 S2 ls2 gS2 P7 lok2 l92 => ?_⟩
      have n2 : S2 ≠ S := fun e => by rw [e, upd_same] at gS2; cases gS2
      have gS2' : G S2 = none := by rw [upd_ne n2] at gS2; exact gS2
      rw [← upd_comm n2] at P7
      exact ⟨S2, ls2, rfl, gS2', (P7.forget (by rw [upd_ne (Ne.symm n2)]; exact gS)).mono (by omega), lok2, l92⟩
    clear P6 P5 hP4 hP3 hP2 hP gS lok l9 hSa hl ll
    rintro σ2 H6 ⟨S, ls, rfl, gS, P6, lok, l9⟩
    refine ⟨fun σ' H' => ∃ (S : Addr) (ls : List Nat), σ' = [some (.ref a), some (.ref p), some (.int (0 + (i : Nat))), some (.int r), some (.int (hh : Nat)), some (.ref S), some (.int b), o7, o8, o9, o10, o11, o12, o13] ∧ G S = none ∧ PenG (upd G S (.lst (natV ls))) H' p (i * 300 + 70) ∧ (∀ l ∈ ls, 1 ≤ l ∧ l ≤ hh) ∧ ls.length ≤ 9, ?_, ?_⟩
    · refine ⟨_, rfl, rfl, _, rfl, ?_⟩
      refine if_b (fun _ => ?_) (fun _ => ⟨S, ls, rfl, gS, P6.mono (by omega), lok, l9⟩)
      refine ⟨_, rfl, _, rfl, p, _, _, (hh : Nat), rfl, P6, by omega, by omega, by omega, fun H7 c P7 c0 c1 => ?_⟩
      obtain ⟨c, rfl⟩ := Int.eq_ofNat_of_zero_le c0
      refine ⟨_, _, rfl, rfl, (sz_rfl rfl), fun o ho => ?_⟩
      have go : upd G S (.lst (natV ls)) o = none := P7.sub.free ho
      have P8 := P7.new (o := .lst [V.int (1 + (c : Nat))]) ho
      refine ⟨_, rfl, p, _, _, 9, rfl, P8, by omega, by decide, by decide, fun H9 e P9 e0 e9 => ?_⟩
      refine ⟨o, e, _, rfl, rfl, P9.sub _ _ upd_same, by omega, by omega, sz_le (m := 10) (by show 1 * e.toNat ≤ 10; omega) rfl, fun R hR => ?_⟩
      rw [show (1 : Int) + (c : Nat) = ((c + 1 : Nat) : Int) by omega] at *
      rw [show (List.replicate e.toNat [V.int ((c + 1 : Nat) : Int)]).flatten = natV (List.replicate e.toNat (c + 1)) from natV_rep e.toNat (c + 1)]
      have P10 := P9.new (o := .lst (natV (List.replicate e.toNat (c + 1)))) hR
      have gR : G R = none := ((newS gS).trans (newS go)).free (P9.sub.free hR)
      refine ⟨R, _, rfl, gR, (P10.sub_of (same_upd2 (Same.trans (newS gS) (newS go)))).mono (by omega), fun l hl => ?_, ?_⟩
      · rw [(List.mem_replicate.mp hl).2]; omega
      · rw [List.length_replicate]; omega
    clear P6 gS lok l9
    rintro σ2 H6 ⟨S, ls, rfl, gS, P6, lok, l9⟩
    -- names
    refine ⟨_, rfl, _, rfl, S, _, rfl, .inl (SqL.of (P6.sub _ _ upd_same)), p, _, _, ls.length, by show [V.ref p, V.int ((natV ls).length : Nat)] = _; rw [natV_len], P6, by omega, by omega, fun H7 na ns gna P7 nl nnd nmem => ?_⟩
    have gSG : upd G S (.lst (natV ls)) S = some (.lst (natV ls)) := upd_same
    generalize upd G S (.lst (natV ls)) = G1 at P6 P7 gna gSG
    have g12 := newS (o := .lst (ns.map V.str)) gna
    have hS2 := g12 _ _ gSG
    have hna2 : upd G1 na (.lst (ns.map V.str)) na = some (.lst (ns.map V.str)) := upd_same
    generalize upd G1 na (.lst (ns.map V.str)) = G2 at P7 hS2 hna2
    have hS7 := P7.sub _ _ hS2
    have hna7 := P7.sub _ _ hna2
    obtain ⟨rq, erq⟩ : ∃ rq : List (Str × Nat), rq = (List.range ls.length).map fun j => ((ns[j]?).getD ("" : Str), (ls[j]?).getD 0) := ⟨_, rfl⟩
    have erq1 : rq.map (·.1) = ns := by rw [erq, List.map_map, ← nl]; exact range_getD ns ("" : Str)
    have rql : rq.length = ls.length := by rw [erq, List.length_map, List.length_range]
    have qn : (rq.map (·.1)).Nodup := by rw [erq1]; exact nnd
    have qo : ∀ q ∈ rq, nameB q.1 = true ∧ 1 ≤ q.2 ∧ ((q.2 : Nat) : Int) ≤ (hh : Nat) := fun q hq => by
      have h0 : q.1 ∈ ns := by rw [← erq1]; exact List.mem_map_of_mem hq
      rw [erq] at hq
      obtain ⟨j, hj, rfl⟩ := List.mem_map.mp hq
      have hj := List.mem_range.mp hj
      refine ⟨pool_names _ (nmem _ h0), ?_⟩
      rw [List.getElem?_eq_getElem hj]
      have := lok _ (List.getElem_mem hj)
      show 1 ≤ ls[j] ∧ ((ls[j] : Nat) : Int) ≤ _
      omega
    have ok : BookOk r (hh : Nat) [] [] := ⟨r2, r4, by omega, by omega, (fun _ h => nomatch h), (fun _ h => nomatch h), (fun _ h => nomatch h), List.Pairwise.nil, List.Pairwise.nil, by decide, by decide⟩
    have rk : RqOk (hh : Nat) [] [] rq := ⟨qn, qo, by decide, by show 0 + rq.length ≤ 30; omega⟩
    -- wanted
    refine ⟨_, rfl, S, _, rfl, .inl (SqL.of hS7), ((natV ls).length : Nat), rfl, by rw [natV_len]; omega, by rw [natV_len]; omega, fun D hD => ?_⟩
    rw [Int.toNat_natCast, natV_len]
    refine lc_rangeTup (fun j => [V.str ((ns[j]?).getD ("" : Str)), V.int (((ls[j]?).getD 0 : Nat))]) hD (by omega) ?_ ?_
    · intro j hj H' Q' s' kk
      have hjn : j < ns.length := by omega
      rw [show (0 : Int) + (j : Nat) = ((j : Nat) : Int) by omega]
      refine ⟨_, rfl, _, rfl, na, _, _, _, rfl, rfl, SqL.of (s' _ _ hna7), atI_nat (by rw [List.getElem?_map, List.getElem?_eq_getElem hjn]; rfl), _, rfl, _, rfl, S, _, _, _, rfl, rfl, SqL.of (s' _ _ hS7), atI_nat (by unfold natV; rw [List.getElem?_map, List.getElem?_eq_getElem hj]; rfl), (sz_rfl rfl), fun T hT => ?_⟩
      exact kk _ T (newS hT) hT (by rw [upd_same, List.getElem?_eq_getElem hjn, List.getElem?_eq_getElem hj]; rfl)
    intro H8 ps s8 hD8 hps
    have P8 := P7.same s8
    have hps2 : Paired (fun (p : Addr) (kv : Key × V) => SqT K H8 p [kV kv.1, kv.2]) ps (kvsI rq) := by
      have e : kvsI rq = (List.range ls.length).map fun j => ((Sum.inr ((ns[j]?).getD ("" : Str)), V.int (((ls[j]?).getD 0 : Nat))) : Key × V) := by
        rw [erq]
        unfold kvsI
        rw [List.map_map]
        rfl
      rw [e]
      exact paired_to (f := id) (g := fun j : Nat => ((Sum.inr ((ns[j]?).getD ("" : Str)), V.int (((ls[j]?).getD 0 : Nat))) : Key × V)) (fun a d (z : H7 a = none ∧ a ≠ D ∧ H8 a = some (.tup [V.str ((ns[d]?).getD ("" : Str)), V.int (((ls[d]?).getD 0 : Nat))])) => SqT.of z.2.2) (by rw [List.map_id]; exact hps)
    refine ⟨D, ps, kvsI rq, rfl, SqL.of hD8, hps2, fun qa hqa => ?_⟩
    have mk1 : mergeK [] (kvsI rq) = kvsI rq := by rw [merge_nodup (kvs := []) (by rw [List.nil_append, kvsI_keys]; exact List.Pairwise.map _ (fun _ _ h e => h (Sum.inr.inj e)) qn), List.nil_append]
    rw [mk1]
    have P9 := P8.drop (o := .dK (kvsI rq)) hqa
    have hqa9 : upd H8 qa (.dK (kvsI rq)) qa = some (.dK (kvsI rq)) := upd_same
    generalize upd H8 qa (.dK (kvsI rq)) = H9 at P9 hqa9 ⊢
    clear P8 P7 P6 hps hps2 hD8 s8 hna7 hS7 hS2 hna2 gSG g12
    have shQ : Shd (dI rq) 1 300000 := shd_dI (fun p hp => ⟨name_small (qo p hp).1, by have := (qo p hp).2.2; omega⟩) (by omega)
    -- due, seen
    refine ⟨_, rfl, _, rfl, _, rfl, r, hh, qa, rq, rfl, ok, rk, hqa9, fun hf H10 da s10 n10 hda => ?_, fun n hf H10 s10 => ?_⟩
    · have hqa10 := s10 _ _ hqa9
      refine ⟨_, rfl, .ref qa, dI rq, rfl, dpN_dI (.inl hqa10), shQ.sh, Nat.le_trans shQ.dep (by decide), sz_le shQ.len rfl, ?_⟩
      refine ⟨_, _, rfl, ?_⟩
      have P10 := P9.same s10
      have okA := (assign_ok ok rk hf).1
      have okM := mkBook_okD okA
      have ndM := mkBook_nd okA
      generalize hW : assignW r [] [] rq = W at okA okM ndM hda
      refine ⟨2, rfl, by decide, by decide, for_range (lo := 0) (n := 2) (fun j σ H' => ∃ (u11 u12 : Option V), σ = [some (.ref a), some (.ref p), some (.int (0 + (i : Nat))), some (.int r), some (.int (hh : Nat)), some (.ref S), some (.int b), some (.ref na), some (.ref qa), some (.ref da), some (.str (dI rq).shown), u11, u12, o13] ∧ Same H10 H')
        ⟨o11, o12, rfl, .refl _⟩ ?_ ?_⟩
      · rintro j σ H11 hj ⟨u11, u12, rfl, s11⟩
        have hqa11 := s11 _ _ hqa10
        refine ⟨_, rfl, _, rfl, _, rfl, qa, r, hh, rq, rfl, ok, rk, hqa11, fun _ H12 q s12 BN => ?_, (fun n hn => by rw [hf] at hn; cases hn)⟩
        rw [hW] at BN
        have BA := BN.at_
        have hda12 := s12 _ _ (s11 _ _ hda)
        refine ⟨_, rfl, _, _, .type "dict", .type "int", false, rfl, .ty "int", .base (.dK hda12), kit_ty (by decide +kernel), _, rfl, iteF ?_⟩
        obtain ⟨qx, qd, ql, c1, c2, c3⟩ := id BA.ex
        refine ⟨_, rfl, _, rfl, _, rfl, _, rfl, fun x3 dx3 nx3 ndx3 nex3 => ?_⟩
        refine init_use (d := da) okA (same_new (same_new (Same.refl _) ndx3) nx3) nx3 upd_same hda12 (seqV_of (xs := []) (by simp) (by decide) (.inr ⟨hT0.sq _, hT0.ty _⟩)) fun H13 s13 B3 => ⟨rfl, ?_⟩
        obtain ⟨gx3, gd3, gl3, _, _, _, e4, e5, e6⟩ := id B3.ex
        refine ⟨q, qx, _, .ref (CBk mg), rfl, s13 _ _ c1, T.t_Codebook.ins T.k_Codebook.cl e4, nf_own, q, _, _, rfl, BA.same s13, okM.rsOk, .inl ⟨x3, _, rfl, B3.at_, okM.rsOk, ?_⟩⟩
        rw [eqBook_self ndM]
        refine ⟨_, rfl, _, rfl, iteF ?_⟩
        -- the names in their order
        refine ⟨_, rfl, q, qx, _, rfl, s13 _ _ c1, rfl, q, _, rfl, BA.same s13, fun ga hga => ?_⟩
        have z1 := newS (o := .dK (kvsOf (mkBook r (hh : Nat) W []).ws)) hga
        refine ⟨ga, _, rfl, .inl upd_same, fun gl hgl => ?_⟩
        have z2 := newS (o := .lst ((kvsOf (mkBook r (hh : Nat) W []).ws).map fun kv => kV kv.1)) hgl
        have eM : (kvsOf (mkBook r (hh : Nat) W []).ws).map (fun kv => kV kv.1) = ((mkBook r (hh : Nat) W []).ws.map (·.1)).map V.str := by
          unfold kvsOf
          rw [List.map_map, List.map_map]
          rfl
        rw [eM] at z2 ⊢
        have t3 := Same.trans s13 (Same.trans z1 z2)
        have hda14 := t3 _ _ hda12
        have hgl14 : upd (upd H13 ga (.dK (kvsOf (mkBook r (hh : Nat) W []).ws))) gl (.lst (((mkBook r (hh : Nat) W []).ws.map (·.1)).map V.str)) gl = some (.lst (((mkBook r (hh : Nat) W []).ws.map (·.1)).map V.str)) := upd_same
        generalize upd (upd H13 ga (.dK (kvsOf (mkBook r (hh : Nat) W []).ws))) gl (.lst (((mkBook r (hh : Nat) W []).ws.map (·.1)).map V.str)) = H14 at t3 hda14 hgl14 ⊢
        have lW : W.length ≤ 30 := by
          have := asg_len ok rk hf
          rw [hW] at this
          have h0 : ([] : List (Str × Str)).length = 0 := rfl
          omega
        refine ⟨_, rfl, da, kvsOf W, W.map (·.1), rfl, .inl hda14, kvsOf_keys W, by rw [List.length_map]; omega, fun ys l5 hp5 hs5 hl5 => ?_⟩
        have eys : ys = (mkBook r (hh : Nat) W []).ws.map (·.1) := by rw [srt_of hp5 hs5, mkBook_ws, pick_names]
        rw [← eys] at hgl14
        have z5 := newS (o := .lst (ys.map V.str)) hl5
        have nok : ∀ y ∈ ys, PyData.strOk y = true := fun y hy => okA.nameOk y (hp5.mem_iff.mp hy)
        refine ⟨.list (ys.map PyData.str), .list (ys.map PyData.str), .lst (SqL.of (z5 _ _ hgl14)) (dpAll_strs _), .lst (SqL.of upd_same) (dpAll_strs _), shaped_strs nok, shaped_strs nok, _, rfl, ?_⟩
        rw [eqv_strs, decide_eq_true rfl]
        refine iteF ?_
        have t5 := Same.trans t3 z5
        have hqa15 := t5 _ _ (s12 _ _ hqa11)
        refine ⟨_, rfl, .ref qa, dI rq, rfl, dpN_dI (.inl hqa15), shQ.sh, Nat.le_trans shQ.dep (by decide), sz_le shQ.len rfl, _, rfl, rfl, _, rfl, ?_⟩
        rw [ne_self]
        refine iteF ?_
        exact ⟨_, _, rfl, Same.trans s11 (Same.trans s12 t5)⟩
      · rintro σ H11 ⟨u11, u12, rfl, s11⟩
        exact ⟨G2, _, _, _, _, _, _, _, _, _, _, _, _, rfl, (P10.same s11).mono (by omega)⟩
    · have hqa10 := s10 _ _ hqa9
      refine ⟨_, rfl, .ref qa, dI rq, rfl, dpN_dI (.inl hqa10), shQ.sh, Nat.le_trans shQ.dep (by decide), sz_le shQ.len rfl, ?_⟩
      refine ⟨_, _, rfl, ?_⟩
      have P10 := P9.same s10
      refine ⟨2, rfl, by decide, by decide, for_range (lo := 0) (n := 2) (fun j σ H' => ∃ (u11 u12 : Option V), σ = [some (.ref a), some (.ref p), some (.int (0 + (i : Nat))), some (.int r), some (.int (hh : Nat)), some (.ref S), some (.int b), some (.ref na), some (.ref qa), some (.int (n : Nat)), some (.str (dI rq).shown), u11, u12, o13] ∧ Same H10 H')
        ⟨o11, o12, rfl, .refl _⟩ ?_ ?_⟩
      · rintro j σ H11 hj ⟨u11, u12, rfl, s11⟩
        have hqa11 := s11 _ _ hqa10
        refine ⟨_, rfl, _, rfl, _, rfl, qa, r, hh, rq, rfl, ok, rk, hqa11, (fun hn => by rw [hf] at hn; cases hn), fun n' hn H12 s12 => ?_⟩
        rw [hf] at hn
        cases hn
        refine ⟨_, rfl, _, _, .type "int", .type "int", true, rfl, .ty "int", .base (.int _), kit_ty (by decide +kernel), _, rfl, iteT ?_⟩
        have hn0 : n ≤ hh := by
          have := fail_le _ _ (show failFrom _ _ _ 0 _ = some n from hf)
          rw [Int.toNat_natCast] at this
          omega
        have shn : Shd (.int (n : Nat)) 0 1002 := shd_int (by omega) (by omega)
        refine ⟨_, rfl, .int (n : Nat), .int (n : Nat), rfl, .flat rfl, shn.sh, Nat.le_trans shn.dep (by decide), sz_le shn.len rfl, _, rfl, .int (n : Nat), .int (n : Nat), rfl, .flat rfl, shn.sh, Nat.le_trans shn.dep (by decide), sz_le shn.len rfl, rfl, _, rfl, ?_⟩
        rw [ne_self]
        refine iteF ?_
        exact ⟨_, _, rfl, Same.trans s11 s12⟩
      · rintro σ H11 ⟨u11, u12, rfl, s11⟩
        exact ⟨G2, _, _, _, _, _, _, _, _, _, _, _, _, rfl, (P10.same s11).mono (by omega)⟩
  · rintro σ H1 ⟨G, o2, o3, o4, o5, o6, o7, o8, o9, o10, o11, o12, o13, rfl, hP⟩
    exact k _
end
theorem all_mk {l : PySem.W.OpenLaw} {w : World} {K : PySem.W.Frag} {h : Heap} {mg : Str → Option Value} {fa : Addr} (X : K.In h) (G : h.Ns mainGlobals mg) (hfa : mg "law" = some (.ref fa))
    {f0 f1 f2 f3 f4 f5 f6 f7 f8 f9 f10 f11 f12 f13 f14 f15 f16 f17 f18 f19 f20 f21 f22 f23 f24 f25 f26 f27 f28 f29 f30 f31 f32 f33 f34 f35 f36 f37 f38 f39 f40 : Addr}
    {od0 an0 od1 an1 od2 an2 od3 an3 od4 an4 od5 an5 od6 an6 od7 an7 od8 an8 od9 an9 od10 an10 od11 an11 od12 an12 od13 an13 od14 an14 od15 an15 od16 an16 od17 an17 od18 an18 od19 an19 od20 an20 od21 an21 od22 an22 od23 an23 od24 an24 od25 an25 od26 an26 od27 an27 od28 an28 od29 an29 od30 an30 od31 an31 od32 an32 od33 an33 od34 an34 od35 an35 od36 an36 od37 an37 od38 an38 od39 an39 od40 an40 : Option Addr}
    {sl0 sl1 sl2 sl3 sl4 sl5 sl6 sl7 sl8 sl9 sl10 sl11 sl12 sl13 sl14 sl15 sl16 sl17 sl18 sl19 sl20 sl21 sl22 sl23 sl24 sl25 sl26 sl27 sl28 sl29 sl30 sl31 sl32 sl33 sl34 sl35 sl36 sl37 sl38 sl39 sl40 : Array (Option Value)}
    {oc0 kV0 dc0 pm0 cd0 ct0 oc1 kV1 dc1 pm1 cd1 ct1 oc2 kV2 dc2 pm2 cd2 ct2 oc3 kV3 dc3 pm3 cd3 ct3 oc4 kV4 dc4 pm4 cd4 ct4 oc5 kV5 dc5 pm5 cd5 ct5 oc6 kV6 dc6 pm6 cd6 ct6 oc7 kV7 dc7 pm7 cd7 ct7 oc8 kV8 dc8 pm8 cd8 ct8 oc9 kV9 dc9 pm9 cd9 ct9 oc10 kV10 dc10 pm10 cd10 ct10 oc11 kV11 dc11 pm11 cd11 ct11 oc12 kV12 dc12 pm12 cd12 ct12 oc13 kV13 dc13 pm13 cd13 ct13 oc14 kV14 dc14 pm14 cd14 ct14 oc15 kV15 dc15 pm15 cd15 ct15 oc16 kV16 dc16 pm16 cd16 ct16 oc17 kV17 dc17 pm17 cd17 ct17 oc18 kV18 dc18 pm18 cd18 ct18 oc19 kV19 dc19 pm19 cd19 ct19 oc20 kV20 dc20 pm20 cd20 ct20 oc21 kV21 dc21 pm21 cd21 ct21 oc22 kV22 dc22 pm22 cd22 ct22 oc23 kV23 dc23 pm23 cd23 ct23 oc24 kV24 dc24 pm24 cd24 ct24 oc25 kV25 dc25 pm25 cd25 ct25 oc26 kV26 dc26 pm26 cd26 ct26 oc27 kV27 dc27 pm27 cd27 ct27 oc28 kV28 dc28 pm28 cd28 ct28 oc29 kV29 dc29 pm29 cd29 ct29 oc30 kV30 dc30 pm30 cd30 ct30 oc31 kV31 dc31 pm31 cd31 ct31 oc32 kV32 dc32 pm32 cd32 ct32 oc33 kV33 dc33 pm33 cd33 ct33 oc34 kV34 dc34 pm34 cd34 ct34 oc35 kV35 dc35 pm35 cd35 ct35 oc36 kV36 dc36 pm36 cd36 ct36 oc37 kV37 dc37 pm37 cd37 ct37 oc38 kV38 dc38 pm38 cd38 ct38 oc39 kV39 dc39 pm39 cd39 ct39 oc40 kV40 dc40 pm40 cd40 ct40 : Value}
    {p_DEPTHS : Addr}
    {od_DEPTHS : Option Addr}
    {n_DEPTHS : Nat}
    {sl_DEPTHS : Array (Option Value)}
    {p_RADIXES : Addr}
    {od_RADIXES : Option Addr}
    {n_RADIXES : Nat}
    {sl_RADIXES : Array (Option Value)}
    {C_InvalidCodebook : Addr}
    {C_InvalidKept : Addr}
    {C_InvalidRequest : Addr}
    {C_UnknownName : Addr}
    {C_NoRoom : Addr}
    {C_CodeError : Addr}
    {C_Codebook : Addr}
    {aT10 a010 : Addr}
    {oT10 : Value}
    {dT10 d010 : Option Addr}
    {nT10 n010 : Nat}
    {sT10 s010 : Array (Option Value)}
    {nm_NoRoom qn_NoRoom : Str}
    {N_NoRoom f_NoRoom cda_NoRoom cc_NoRoom : Addr}
    {bs_NoRoom bm_NoRoom sub_NoRoom : List Value}
    {sn_NoRoom : List Str}
    {ab_NoRoom : Bool}
    {col_NoRoom : Option Bool}
    {dd_NoRoom an_NoRoom od_NoRoom cdd_NoRoom cld_NoRoom : Option Addr}
    {ka_NoRoom kb_NoRoom kc_NoRoom kd_NoRoom ke_NoRoom : Option Value}
    {oc_NoRoom kV_NoRoom doc_NoRoom pm_NoRoom ct_NoRoom ccl_NoRoom cl_NoRoom : Value}
    {osl_NoRoom ccs_NoRoom csl_NoRoom : Array (Option Value)}
    {cvs_NoRoom : Array Value}
    {fl_NoRoom : Str}
    {tf_NoRoom : Tok}
    {t_DEPTHS_0 t_DEPTHS_1 t_DEPTHS_2 t_DEPTHS_3 t_DEPTHS_4 t_DEPTHS_5 t_DIGITS t_LETTERS t_LONGEST_NAME t_RADIXES_0 t_RADIXES_1 t_RADIXES_2 : Tok}
    (a0 : PySem.W.nsIn K mainGlobals "is_whole" = some (some (.ref f0)))
    (l0 : K.lookup f0 = some ⟨oc0, od0, .func (PySem.W.fnOf "is_whole" "is_whole" (defArgs s_is_whole) (defBody s_is_whole) (defScope s_is_whole) .none kV0 dc0 pm0 an0 cd0 ct0), sl0⟩)
    (c0 : PySem.W.codeIn K cd0 "is_whole" = true)
    (k0 : PySem.W.keepIn K (.ref f0) = true)
    (a1 : PySem.W.nsIn K mainGlobals "is_shape" = some (some (.ref f1)))
    (l1 : K.lookup f1 = some ⟨oc1, od1, .func (PySem.W.fnOf "is_shape" "is_shape" (defArgs s_is_shape) (defBody s_is_shape) (defScope s_is_shape) .none kV1 dc1 pm1 an1 cd1 ct1), sl1⟩)
    (c1 : PySem.W.codeIn K cd1 "is_shape" = true)
    (k1 : PySem.W.keepIn K (.ref f1) = true)
    (a2 : PySem.W.nsIn K mainGlobals "is_length" = some (some (.ref f2)))
    (l2 : K.lookup f2 = some ⟨oc2, od2, .func (PySem.W.fnOf "is_length" "is_length" (defArgs s_is_length) (defBody s_is_length) (defScope s_is_length) .none kV2 dc2 pm2 an2 cd2 ct2), sl2⟩)
    (c2 : PySem.W.codeIn K cd2 "is_length" = true)
    (k2 : PySem.W.keepIn K (.ref f2) = true)
    (a3 : PySem.W.nsIn K mainGlobals "is_name" = some (some (.ref f3)))
    (l3 : K.lookup f3 = some ⟨oc3, od3, .func (PySem.W.fnOf "is_name" "is_name" (defArgs s_is_name) (defBody s_is_name) (defScope s_is_name) .none kV3 dc3 pm3 an3 cd3 ct3), sl3⟩)
    (c3 : PySem.W.codeIn K cd3 "is_name" = true)
    (k3 : PySem.W.keepIn K (.ref f3) = true)
    (a4 : PySem.W.nsIn K mainGlobals "is_codeword" = some (some (.ref f4)))
    (l4 : K.lookup f4 = some ⟨oc4, od4, .func (PySem.W.fnOf "is_codeword" "is_codeword" (defArgs s_is_codeword) (defBody s_is_codeword) (defScope s_is_codeword) .none kV4 dc4 pm4 an4 cd4 ct4), sl4⟩)
    (c4 : PySem.W.codeIn K cd4 "is_codeword" = true)
    (k4 : PySem.W.keepIn K (.ref f4) = true)
    (a5 : PySem.W.nsIn K mainGlobals "ancestors" = some (some (.ref f5)))
    (l5 : K.lookup f5 = some ⟨oc5, od5, .func (PySem.W.fnOf "ancestors" "ancestors" (defArgs s_ancestors) (defBody s_ancestors) (defScope s_ancestors) .none kV5 dc5 pm5 an5 cd5 ct5), sl5⟩)
    (c5 : PySem.W.codeIn K cd5 "ancestors" = true)
    (k5 : PySem.W.keepIn K (.ref f5) = true)
    (a6 : PySem.W.nsIn K mainGlobals "first_clash" = some (some (.ref f6)))
    (l6 : K.lookup f6 = some ⟨oc6, od6, .func (PySem.W.fnOf "first_clash" "first_clash" (defArgs s_first_clash) (defBody s_first_clash) (defScope s_first_clash) .none kV6 dc6 pm6 an6 cd6 ct6), sl6⟩)
    (c6 : PySem.W.codeIn K cd6 "first_clash" = true)
    (k6 : PySem.W.keepIn K (.ref f6) = true)
    (a7 : PySem.W.nsIn K mainGlobals "is_word_table" = some (some (.ref f7)))
    (l7 : K.lookup f7 = some ⟨oc7, od7, .func (PySem.W.fnOf "is_word_table" "is_word_table" (defArgs s_is_word_table) (defBody s_is_word_table) (defScope s_is_word_table) .none kV7 dc7 pm7 an7 cd7 ct7), sl7⟩)
    (c7 : PySem.W.codeIn K cd7 "is_word_table" = true)
    (k7 : PySem.W.keepIn K (.ref f7) = true)
    (a8 : PySem.W.nsIn K mainGlobals "is_codeword_list" = some (some (.ref f8)))
    (l8 : K.lookup f8 = some ⟨oc8, od8, .func (PySem.W.fnOf "is_codeword_list" "is_codeword_list" (defArgs s_is_codeword_list) (defBody s_is_codeword_list) (defScope s_is_codeword_list) .none kV8 dc8 pm8 an8 cd8 ct8), sl8⟩)
    (c8 : PySem.W.codeIn K cd8 "is_codeword_list" = true)
    (k8 : PySem.W.keepIn K (.ref f8) = true)
    (a9 : PySem.W.nsIn K mainGlobals "forms_codebook" = some (some (.ref f9)))
    (l9 : K.lookup f9 = some ⟨oc9, od9, .func (PySem.W.fnOf "forms_codebook" "forms_codebook" (defArgs s_forms_codebook) (defBody s_forms_codebook) (defScope s_forms_codebook) .none kV9 dc9 pm9 an9 cd9 ct9), sl9⟩)
    (c9 : PySem.W.codeIn K cd9 "forms_codebook" = true)
    (k9 : PySem.W.keepIn K (.ref f9) = true)
    (a16 : PySem.W.nsIn K mainGlobals "is_request" = some (some (.ref f16)))
    (l16 : K.lookup f16 = some ⟨oc16, od16, .func (PySem.W.fnOf "is_request" "is_request" (defArgs s_is_request) (defBody s_is_request) (defScope s_is_request) .none kV16 dc16 pm16 an16 cd16 ct16), sl16⟩)
    (c16 : PySem.W.codeIn K cd16 "is_request" = true)
    (k16 : PySem.W.keepIn K (.ref f16) = true)
    (a17 : PySem.W.nsIn K mainGlobals "check_request" = some (some (.ref f17)))
    (l17 : K.lookup f17 = some ⟨oc17, od17, .func (PySem.W.fnOf "check_request" "check_request" (defArgs s_check_request) (defBody s_check_request) (defScope s_check_request) .none kV17 dc17 pm17 an17 cd17 ct17), sl17⟩)
    (c17 : PySem.W.codeIn K cd17 "check_request" = true)
    (k17 : PySem.W.keepIn K (.ref f17) = true)
    (a18 : PySem.W.nsIn K mainGlobals "unrequested_words" = some (some (.ref f18)))
    (l18 : K.lookup f18 = some ⟨oc18, od18, .func (PySem.W.fnOf "unrequested_words" "unrequested_words" (defArgs s_unrequested_words) (defBody s_unrequested_words) (defScope s_unrequested_words) .none kV18 dc18 pm18 an18 cd18 ct18), sl18⟩)
    (c18 : PySem.W.codeIn K cd18 "unrequested_words" = true)
    (k18 : PySem.W.keepIn K (.ref f18) = true)
    (a19 : PySem.W.nsIn K mainGlobals "is_selection" = some (some (.ref f19)))
    (l19 : K.lookup f19 = some ⟨oc19, od19, .func (PySem.W.fnOf "is_selection" "is_selection" (defArgs s_is_selection) (defBody s_is_selection) (defScope s_is_selection) .none kV19 dc19 pm19 an19 cd19 ct19), sl19⟩)
    (c19 : PySem.W.codeIn K cd19 "is_selection" = true)
    (k19 : PySem.W.keepIn K (.ref f19) = true)
    (a20 : PySem.W.nsIn K mainGlobals "nodes_of_level" = some (some (.ref f20)))
    (l20 : K.lookup f20 = some ⟨oc20, od20, .func (PySem.W.fnOf "nodes_of_level" "nodes_of_level" (defArgs s_nodes_of_level) (defBody s_nodes_of_level) (defScope s_nodes_of_level) .none kV20 dc20 pm20 an20 cd20 ct20), sl20⟩)
    (c20 : PySem.W.codeIn K cd20 "nodes_of_level" = true)
    (k20 : PySem.W.keepIn K (.ref f20) = true)
    (a21 : PySem.W.nsIn K mainGlobals "free_beside" = some (some (.ref f21)))
    (l21 : K.lookup f21 = some ⟨oc21, od21, .func (PySem.W.fnOf "free_beside" "free_beside" (defArgs s_free_beside) (defBody s_free_beside) (defScope s_free_beside) .none kV21 dc21 pm21 an21 cd21 ct21), sl21⟩)
    (c21 : PySem.W.codeIn K cd21 "free_beside" = true)
    (k21 : PySem.W.keepIn K (.ref f21) = true)
    (a22 : PySem.W.nsIn K mainGlobals "touched_above" = some (some (.ref f22)))
    (l22 : K.lookup f22 = some ⟨oc22, od22, .func (PySem.W.fnOf "touched_above" "touched_above" (defArgs s_touched_above) (defBody s_touched_above) (defScope s_touched_above) .none kV22 dc22 pm22 an22 cd22 ct22), sl22⟩)
    (c22 : PySem.W.codeIn K cd22 "touched_above" = true)
    (k22 : PySem.W.keepIn K (.ref f22) = true)
    (a23 : PySem.W.nsIn K mainGlobals "level_size" = some (some (.ref f23)))
    (l23 : K.lookup f23 = some ⟨oc23, od23, .func (PySem.W.fnOf "level_size" "level_size" (defArgs s_level_size) (defBody s_level_size) (defScope s_level_size) .none kV23 dc23 pm23 an23 cd23 ct23), sl23⟩)
    (c23 : PySem.W.codeIn K cd23 "level_size" = true)
    (k23 : PySem.W.keepIn K (.ref f23) = true)
    (a24 : PySem.W.nsIn K mainGlobals "filled_nodes" = some (some (.ref f24)))
    (l24 : K.lookup f24 = some ⟨oc24, od24, .func (PySem.W.fnOf "filled_nodes" "filled_nodes" (defArgs s_filled_nodes) (defBody s_filled_nodes) (defScope s_filled_nodes) .none kV24 dc24 pm24 an24 cd24 ct24), sl24⟩)
    (c24 : PySem.W.codeIn K cd24 "filled_nodes" = true)
    (k24 : PySem.W.keepIn K (.ref f24) = true)
    (a25 : PySem.W.nsIn K mainGlobals "loads" = some (some (.ref f25)))
    (l25 : K.lookup f25 = some ⟨oc25, od25, .func (PySem.W.fnOf "loads" "loads" (defArgs s_loads) (defBody s_loads) (defScope s_loads) .none kV25 dc25 pm25 an25 cd25 ct25), sl25⟩)
    (c25 : PySem.W.codeIn K cd25 "loads" = true)
    (k25 : PySem.W.keepIn K (.ref f25) = true)
    (a26 : PySem.W.nsIn K mainGlobals "failing_level" = some (some (.ref f26)))
    (l26 : K.lookup f26 = some ⟨oc26, od26, .func (PySem.W.fnOf "failing_level" "failing_level" (defArgs s_failing_level) (defBody s_failing_level) (defScope s_failing_level) .none kV26 dc26 pm26 an26 cd26 ct26), sl26⟩)
    (c26 : PySem.W.codeIn K cd26 "failing_level" = true)
    (k26 : PySem.W.keepIn K (.ref f26) = true)
    (a27 : PySem.W.nsIn K mainGlobals "first_free" = some (some (.ref f27)))
    (l27 : K.lookup f27 = some ⟨oc27, od27, .func (PySem.W.fnOf "first_free" "first_free" (defArgs s_first_free) (defBody s_first_free) (defScope s_first_free) .none kV27 dc27 pm27 an27 cd27 ct27), sl27⟩)
    (c27 : PySem.W.codeIn K cd27 "first_free" = true)
    (k27 : PySem.W.keepIn K (.ref f27) = true)
    (a28 : PySem.W.nsIn K mainGlobals "pack" = some (some (.ref f28)))
    (l28 : K.lookup f28 = some ⟨oc28, od28, .func (PySem.W.fnOf "pack" "pack" (defArgs s_pack) (defBody s_pack) (defScope s_pack) .none kV28 dc28 pm28 an28 cd28 ct28), sl28⟩)
    (c28 : PySem.W.codeIn K cd28 "pack" = true)
    (k28 : PySem.W.keepIn K (.ref f28) = true)
    (a29 : PySem.W.nsIn K mainGlobals "assign" = some (some (.ref f29)))
    (l29 : K.lookup f29 = some ⟨oc29, od29, .func (PySem.W.fnOf "assign" "assign" (defArgs s_assign) (defBody s_assign) (defScope s_assign) .none kV29 dc29 pm29 an29 cd29 ct29), sl29⟩)
    (c29 : PySem.W.codeIn K cd29 "assign" = true)
    (k29 : PySem.W.keepIn K (.ref f29) = true)
    (a30 : PySem.W.nsIn K mainGlobals "canonical" = some (some (.ref f30)))
    (l30 : K.lookup f30 = some ⟨oc30, od30, .func (PySem.W.fnOf "canonical" "canonical" (defArgs s_canonical) (defBody s_canonical) (defScope s_canonical) .none kV30 dc30 pm30 an30 cd30 ct30), sl30⟩)
    (c30 : PySem.W.codeIn K cd30 "canonical" = true)
    (k30 : PySem.W.keepIn K (.ref f30) = true)
    (a31 : PySem.W.nsIn K mainGlobals "_law_power" = some (some (.ref f31)))
    (l31 : K.lookup f31 = some ⟨oc31, od31, .func (PySem.W.fnOf "_law_power" "_law_power" (defArgs s_l_power) (defBody s_l_power) (defScope s_l_power) .none kV31 dc31 pm31 an31 cd31 ct31), sl31⟩)
    (c31 : PySem.W.codeIn K cd31 "_law_power" = true)
    (k31 : PySem.W.keepIn K (.ref f31) = true)
    (a32 : PySem.W.nsIn K mainGlobals "_law_pen" = some (some (.ref f32)))
    (l32 : K.lookup f32 = some ⟨oc32, od32, .func (PySem.W.fnOf "_law_pen" "_law_pen" (defArgs s_l_pen) (defBody s_l_pen) (defScope s_l_pen) .none kV32 dc32 pm32 an32 cd32 ct32), sl32⟩)
    (c32 : PySem.W.codeIn K cd32 "_law_pen" = true)
    (k32 : PySem.W.keepIn K (.ref f32) = true)
    (a33 : PySem.W.nsIn K mainGlobals "_law_next" = some (some (.ref f33)))
    (l33 : K.lookup f33 = some ⟨oc33, od33, .func (PySem.W.fnOf "_law_next" "_law_next" (defArgs s_l_next) (defBody s_l_next) (defScope s_l_next) .none kV33 dc33 pm33 an33 cd33 ct33), sl33⟩)
    (c33 : PySem.W.codeIn K cd33 "_law_next" = true)
    (k33 : PySem.W.keepIn K (.ref f33) = true)
    (a34 : PySem.W.nsIn K mainGlobals "_law_draw" = some (some (.ref f34)))
    (l34 : K.lookup f34 = some ⟨oc34, od34, .func (PySem.W.fnOf "_law_draw" "_law_draw" (defArgs s_l_draw) (defBody s_l_draw) (defScope s_l_draw) .none kV34 dc34 pm34 an34 cd34 ct34), sl34⟩)
    (c34 : PySem.W.codeIn K cd34 "_law_draw" = true)
    (k34 : PySem.W.keepIn K (.ref f34) = true)
    (a35 : PySem.W.nsIn K mainGlobals "_law_names" = some (some (.ref f35)))
    (l35 : K.lookup f35 = some ⟨oc35, od35, .func (PySem.W.fnOf "_law_names" "_law_names" (defArgs s_l_names) (defBody s_l_names) (defScope s_l_names) .none kV35 dc35 pm35 an35 cd35 ct35), sl35⟩)
    (c35 : PySem.W.codeIn K cd35 "_law_names" = true)
    (k35 : PySem.W.keepIn K (.ref f35) = true)
    (a36 : PySem.W.nsIn K mainGlobals "_law_digits" = some (some (.ref f36)))
    (l36 : K.lookup f36 = some ⟨oc36, od36, .func (PySem.W.fnOf "_law_digits" "_law_digits" (defArgs s_l_digits) (defBody s_l_digits) (defScope s_l_digits) .none kV36 dc36 pm36 an36 cd36 ct36), sl36⟩)
    (c36 : PySem.W.codeIn K cd36 "_law_digits" = true)
    (k36 : PySem.W.keepIn K (.ref f36) = true)
    (a37 : PySem.W.nsIn K mainGlobals "_law_due" = some (some (.ref f37)))
    (l37 : K.lookup f37 = some ⟨oc37, od37, .func (PySem.W.fnOf "_law_due" "_law_due" (defArgs s_l_due) (defBody s_l_due) (defScope s_l_due) .none kV37 dc37 pm37 an37 cd37 ct37), sl37⟩)
    (c37 : PySem.W.codeIn K cd37 "_law_due" = true)
    (k37 : PySem.W.keepIn K (.ref f37) = true)
    (a38 : PySem.W.nsIn K mainGlobals "_law_outcome" = some (some (.ref f38)))
    (l38 : K.lookup f38 = some ⟨oc38, od38, .func (PySem.W.fnOf "_law_outcome" "_law_outcome" (defArgs s_l_outcome) (defBody s_l_outcome) (defScope s_l_outcome) .none kV38 dc38 pm38 an38 cd38 ct38), sl38⟩)
    (c38 : PySem.W.codeIn K cd38 "_law_outcome" = true)
    (k38 : PySem.W.keepIn K (.ref f38) = true)
    (a39 : PySem.W.nsIn K mainGlobals "_law_full" = some (some (.ref f39)))
    (l39 : K.lookup f39 = some ⟨oc39, od39, .func (PySem.W.fnOf "_law_full" "_law_full" (defArgs s_l_full) (defBody s_l_full) (defScope s_l_full) .none kV39 dc39 pm39 an39 cd39 ct39), sl39⟩)
    (c39 : PySem.W.codeIn K cd39 "_law_full" = true)
    (k39 : PySem.W.keepIn K (.ref f39) = true)
    (a40 : PySem.W.nsIn K mainGlobals "law" = some (some (.ref f40)))
    (l40 : K.lookup f40 = some ⟨oc40, od40, .func (PySem.W.fnOf "law" "law" (defArgs s_law) (defBody s_law) (defScope s_law) .none kV40 dc40 pm40 an40 cd40 ct40), sl40⟩)
    (c40 : PySem.W.codeIn K cd40 "law" = true)
    (k40 : PySem.W.keepIn K (.ref f40) = true)
    (g_DEPTHS : PySem.W.nsIn K mainGlobals "DEPTHS" = some (some (.ref p_DEPTHS)))
    (x_DEPTHS : K.lookup p_DEPTHS = some ⟨.type "tuple", od_DEPTHS, .seq #[.int 1 t_DEPTHS_0, .int 2 t_DEPTHS_1, .int 3 t_DEPTHS_2, .int 4 t_DEPTHS_3, .int 5 t_DEPTHS_4, .int 6 t_DEPTHS_5] n_DEPTHS, sl_DEPTHS⟩)
    (g_DIGITS : PySem.W.nsIn K mainGlobals "DIGITS" = some (some (.str "0123456789" t_DIGITS)))
    (g_LETTERS : PySem.W.nsIn K mainGlobals "LETTERS" = some (some (.str "abcdefghijklmnopqrstuvwxyz" t_LETTERS)))
    (g_LONGEST_NAME : PySem.W.nsIn K mainGlobals "LONGEST_NAME" = some (some (.int 8 t_LONGEST_NAME)))
    (g_RADIXES : PySem.W.nsIn K mainGlobals "RADIXES" = some (some (.ref p_RADIXES)))
    (x_RADIXES : K.lookup p_RADIXES = some ⟨.type "tuple", od_RADIXES, .seq #[.int 2 t_RADIXES_0, .int 3 t_RADIXES_1, .int 4 t_RADIXES_2] n_RADIXES, sl_RADIXES⟩)
    (z_all : PySem.W.nsIn K mainGlobals "all" = some none)
    (z_any : PySem.W.nsIn K mainGlobals "any" = some none)
    (z_bool : PySem.W.nsIn K mainGlobals "bool" = some none)
    (z_dict : PySem.W.nsIn K mainGlobals "dict" = some none)
    (z_enumerate : PySem.W.nsIn K mainGlobals "enumerate" = some none)
    (z_int : PySem.W.nsIn K mainGlobals "int" = some none)
    (z_isinstance : PySem.W.nsIn K mainGlobals "isinstance" = some none)
    (z_len : PySem.W.nsIn K mainGlobals "len" = some none)
    (z_list : PySem.W.nsIn K mainGlobals "list" = some none)
    (z_range : PySem.W.nsIn K mainGlobals "range" = some none)
    (z_repr : PySem.W.nsIn K mainGlobals "repr" = some none)
    (z_set : PySem.W.nsIn K mainGlobals "set" = some none)
    (z_sorted : PySem.W.nsIn K mainGlobals "sorted" = some none)
    (z_str : PySem.W.nsIn K mainGlobals "str" = some none)
    (z_sum : PySem.W.nsIn K mainGlobals "sum" = some none)
    (z_tuple : PySem.W.nsIn K mainGlobals "tuple" = some none)
    (z_zip : PySem.W.nsIn K mainGlobals "zip" = some none)
    (g_InvalidCodebook : PySem.W.nsIn K mainGlobals "InvalidCodebook" = some (some (.ref C_InvalidCodebook)))
    (ex_InvalidCodebook : PySem.W.excIn K C_InvalidCodebook [.type "ValueError", .type "Exception", .type "BaseException", .type "object"] "ValueError.__new__" = true)
    (kp_InvalidCodebook : PySem.W.keepIn K (.ref C_InvalidCodebook) = true)
    (bp_InvalidCodebook : PySem.W.subIn K (.ref C_InvalidCodebook) (.type "BaseException") = some true)
    (tp_InvalidCodebook : PySem.W.typeIn K (.ref C_InvalidCodebook) = some (.type "type"))
    (g_InvalidKept : PySem.W.nsIn K mainGlobals "InvalidKept" = some (some (.ref C_InvalidKept)))
    (ex_InvalidKept : PySem.W.excIn K C_InvalidKept [.type "ValueError", .type "Exception", .type "BaseException", .type "object"] "ValueError.__new__" = true)
    (kp_InvalidKept : PySem.W.keepIn K (.ref C_InvalidKept) = true)
    (bp_InvalidKept : PySem.W.subIn K (.ref C_InvalidKept) (.type "BaseException") = some true)
    (tp_InvalidKept : PySem.W.typeIn K (.ref C_InvalidKept) = some (.type "type"))
    (g_InvalidRequest : PySem.W.nsIn K mainGlobals "InvalidRequest" = some (some (.ref C_InvalidRequest)))
    (ex_InvalidRequest : PySem.W.excIn K C_InvalidRequest [.type "ValueError", .type "Exception", .type "BaseException", .type "object"] "ValueError.__new__" = true)
    (kp_InvalidRequest : PySem.W.keepIn K (.ref C_InvalidRequest) = true)
    (bp_InvalidRequest : PySem.W.subIn K (.ref C_InvalidRequest) (.type "BaseException") = some true)
    (tp_InvalidRequest : PySem.W.typeIn K (.ref C_InvalidRequest) = some (.type "type"))
    (g_UnknownName : PySem.W.nsIn K mainGlobals "UnknownName" = some (some (.ref C_UnknownName)))
    (ex_UnknownName : PySem.W.excIn K C_UnknownName [.type "ValueError", .type "Exception", .type "BaseException", .type "object"] "ValueError.__new__" = true)
    (kp_UnknownName : PySem.W.keepIn K (.ref C_UnknownName) = true)
    (bp_UnknownName : PySem.W.subIn K (.ref C_UnknownName) (.type "BaseException") = some true)
    (tp_UnknownName : PySem.W.typeIn K (.ref C_UnknownName) = some (.type "type"))
    (g_NoRoom : PySem.W.nsIn K mainGlobals "NoRoom" = some (some (.ref C_NoRoom)))
    (g_CodeError : PySem.W.nsIn K mainGlobals "CodeError" = some (some (.ref C_CodeError)))
    (ci_NoRoom : PySem.W.isClsIn K C_NoRoom = true)
    (ty_NoRoom : PySem.W.typeIn K (.ref C_NoRoom) = some (.type "type"))
    (ci_InvalidRequest : PySem.W.isClsIn K C_InvalidRequest = true)
    (ty_InvalidRequest : PySem.W.typeIn K (.ref C_InvalidRequest) = some (.type "type"))
    (bq_CodeError : PySem.W.subIn K (.ref C_CodeError) (.type "BaseException") = some true)
    (hd_CodeError : PySem.W.hasDictIn K C_CodeError = true)
    (ty_CodeError : PySem.W.typeIn K (.ref C_CodeError) = some (.type "type"))
    (yg_NoRoom : PySem.W.findIn K (.ref C_NoRoom) "__getattribute__" = some (some (.builtin "BaseException.__getattribute__")))
    (yk_NoRoom : PySem.W.findIn K (.ref C_NoRoom) "__getattr__" = some none)
    (bq_NoRoom : PySem.W.subIn K (.ref C_NoRoom) (.type "BaseException") = some true)
    (hd_NoRoom : PySem.W.hasDictIn K C_NoRoom = true)
    (ya_NoRoom : PySem.W.findIn K (.ref C_NoRoom) "__class__" = some (some (.builtin "object.__class__")))
    (yn_NoRoom : PySem.W.specialIn K (.builtin "object.__class__") "__get__" = some (some (.builtin "getset_descriptor.__get__")))
    (yt_NoRoom : PySem.W.takesIn K (.builtin "object.__class__") = some true)
    (ym_NoRoom : PySem.W.mroIn K C_NoRoom (.type "object") = some true)
    (ss_NoRoom_CodeError : PySem.W.subIn K (.ref C_NoRoom) (.ref C_CodeError) = some true)
    (ss_NoRoom_NoRoom : PySem.W.subIn K (.ref C_NoRoom) (.ref C_NoRoom) = some true)
    (ss_NoRoom_InvalidRequest : PySem.W.subIn K (.ref C_NoRoom) (.ref C_InvalidRequest) = some false)
    (g_Codebook : PySem.W.nsIn K mainGlobals "Codebook" = some (some (.ref C_Codebook)))
    (pg_Codebook : PySem.W.plainGet K C_Codebook Str.empty = true)
    (hd_Codebook : PySem.W.hasDictIn K C_Codebook = true)
    (po_Codebook : PySem.W.plainOver K C_Codebook = true)
    (sa_Codebook : PySem.W.findIn K (.ref C_Codebook) "__setattr__" = some (some (.builtin "object.__setattr__")))
    (ha_Codebook : PySem.W.findIn K (.ref C_Codebook) "__class__" = some (some (.builtin "object.__class__")))
    (hn_Codebook : PySem.W.specialIn K (.builtin "object.__class__") "__get__" = some (some (.builtin "getset_descriptor.__get__")))
    (ht_Codebook : PySem.W.takesIn K (.builtin "object.__class__") = some true)
    (hm_Codebook : PySem.W.mroIn K C_Codebook (.type "object") = some true)
    (ci_Codebook : PySem.W.isClsIn K C_Codebook = true)
    (ty_Codebook : PySem.W.typeIn K (.ref C_Codebook) = some (.type "type"))
    (kp_Codebook : PySem.W.keepIn K (.ref C_Codebook) = true)
    (ne_Codebook : PySem.W.findIn K (.ref C_Codebook) "__ne__" = some (some (.builtin "object.__ne__")))
    (na_Codebook_radix : PySem.W.findIn K (.ref C_Codebook) "radix" = some none)
    (na_Codebook_depth : PySem.W.findIn K (.ref C_Codebook) "depth" = some none)
    (na_Codebook__words : PySem.W.findIn K (.ref C_Codebook) "_words" = some none)
    (na_Codebook__reserved : PySem.W.findIn K (.ref C_Codebook) "_reserved" = some none)
    (at10 : PySem.W.findIn K (.ref C_Codebook) "__init__" = some (some (.ref f10)))
    (fn10 : PySem.W.isFn K (.ref f10) = true)
    (l10 : K.lookup f10 = some ⟨oc10, od10, .func (PySem.W.fnOf "__init__" "Codebook.__init__" (defArgs s_Codebook__init) (defBody s_Codebook__init) (defScope s_Codebook__init) (.ref aT10) kV10 dc10 pm10 an10 cd10 ct10), sl10⟩)
    (c10 : PySem.W.codeIn K cd10 "Codebook.__init__" = true)
    (k10 : PySem.W.keepIn K (.ref f10) = true)
    (xT10 : K.lookup aT10 = some ⟨oT10, dT10, .seq #[.ref a010] nT10, sT10⟩)
    (x010 : K.lookup a010 = some ⟨.type "tuple", d010, .seq #[] n010, s010⟩)
    (mk_Codebook : PySem.W.makesIn K C_Codebook = true)
    (at11 : PySem.W.findIn K (.ref C_Codebook) "words" = some (some (.ref f11)))
    (fn11 : PySem.W.isFn K (.ref f11) = true)
    (l11 : K.lookup f11 = some ⟨oc11, od11, .func (PySem.W.fnOf "words" "Codebook.words" (defArgs s_Codebook_words) (defBody s_Codebook_words) (defScope s_Codebook_words) .none kV11 dc11 pm11 an11 cd11 ct11), sl11⟩)
    (c11 : PySem.W.codeIn K cd11 "Codebook.words" = true)
    (k11 : PySem.W.keepIn K (.ref f11) = true)
    (at12 : PySem.W.findIn K (.ref C_Codebook) "reserved" = some (some (.ref f12)))
    (fn12 : PySem.W.isFn K (.ref f12) = true)
    (l12 : K.lookup f12 = some ⟨oc12, od12, .func (PySem.W.fnOf "reserved" "Codebook.reserved" (defArgs s_Codebook_reserved) (defBody s_Codebook_reserved) (defScope s_Codebook_reserved) .none kV12 dc12 pm12 an12 cd12 ct12), sl12⟩)
    (c12 : PySem.W.codeIn K cd12 "Codebook.reserved" = true)
    (k12 : PySem.W.keepIn K (.ref f12) = true)
    (at13 : PySem.W.findIn K (.ref C_Codebook) "codeword" = some (some (.ref f13)))
    (fn13 : PySem.W.isFn K (.ref f13) = true)
    (l13 : K.lookup f13 = some ⟨oc13, od13, .func (PySem.W.fnOf "codeword" "Codebook.codeword" (defArgs s_Codebook_codeword) (defBody s_Codebook_codeword) (defScope s_Codebook_codeword) .none kV13 dc13 pm13 an13 cd13 ct13), sl13⟩)
    (c13 : PySem.W.codeIn K cd13 "Codebook.codeword" = true)
    (k13 : PySem.W.keepIn K (.ref f13) = true)
    (at14 : PySem.W.findIn K (.ref C_Codebook) "__len__" = some (some (.ref f14)))
    (fn14 : PySem.W.isFn K (.ref f14) = true)
    (l14 : K.lookup f14 = some ⟨oc14, od14, .func (PySem.W.fnOf "__len__" "Codebook.__len__" (defArgs s_Codebook__len) (defBody s_Codebook__len) (defScope s_Codebook__len) .none kV14 dc14 pm14 an14 cd14 ct14), sl14⟩)
    (c14 : PySem.W.codeIn K cd14 "Codebook.__len__" = true)
    (k14 : PySem.W.keepIn K (.ref f14) = true)
    (at15 : PySem.W.findIn K (.ref C_Codebook) "__eq__" = some (some (.ref f15)))
    (fn15 : PySem.W.isFn K (.ref f15) = true)
    (l15 : K.lookup f15 = some ⟨oc15, od15, .func (PySem.W.fnOf "__eq__" "Codebook.__eq__" (defArgs s_Codebook__eq) (defBody s_Codebook__eq) (defScope s_Codebook__eq) .none kV15 dc15 pm15 an15 cd15 ct15), sl15⟩)
    (c15 : PySem.W.codeIn K cd15 "Codebook.__eq__" = true)
    (k15 : PySem.W.keepIn K (.ref f15) = true)
    (oc__NoRoom : K.lookup C_NoRoom = some (excClassObj nm_NoRoom qn_NoRoom C_NoRoom N_NoRoom bs_NoRoom bm_NoRoom true sn_NoRoom sub_NoRoom ab_NoRoom col_NoRoom dd_NoRoom ka_NoRoom kb_NoRoom kc_NoRoom kd_NoRoom ke_NoRoom "ValueError.__new__"))
    (rv__NoRoom : PySem.HandSPX.refsVE bm_NoRoom = true)
    (sa_NoRoom : PySem.W.findIn K (.ref C_NoRoom) "__setattr__" = some (some (.builtin "object.__setattr__")))
    (kp_NoRoom : PySem.W.keepIn K (.ref C_NoRoom) = true)
    (no_NoRoom : PySem.W.findIn K (.ref C_NoRoom) "level" = some none)
    (hi_NoRoom : PySem.W.findIn K (.ref C_NoRoom) "__init__" = some (some (.ref f_NoRoom)))
    (ti_NoRoom : PySem.W.typeIn K (.ref f_NoRoom) = some (.type "function"))
    (lk_NoRoom : K.lookup f_NoRoom = some ⟨oc_NoRoom, od_NoRoom, .func (supD "NoRoom.__init__" (defArgs s_NoRoom) (defBody s_NoRoom) (defScope s_NoRoom) .none kV_NoRoom doc_NoRoom pm_NoRoom an_NoRoom cda_NoRoom ct_NoRoom cc_NoRoom), osl_NoRoom⟩)
    (cd_NoRoom : PySem.W.codeIn K (.ref cda_NoRoom) "NoRoom.__init__" = true)
    (fi_NoRoom : K.lookup cda_NoRoom = some ⟨ccl_NoRoom, cdd_NoRoom, .fields cvs_NoRoom, ccs_NoRoom⟩)
    (rv_f_NoRoom : cvs_NoRoom[2]? = some (.str fl_NoRoom tf_NoRoom))
    (rv_g_NoRoom : (l.prog.main.file == fl_NoRoom) = true)
    (ce_NoRoom : K.lookup cc_NoRoom = some ⟨cl_NoRoom, cld_NoRoom, .cell (some (.ref C_NoRoom)), csl_NoRoom⟩)
    (rv_top : (l.prog.main.scope.names.lookup ("super" : Str)).isSome = false)
    (op_any : PySem.W.nsIn K cStatics "thirdparty.any" = some none)
    (gs_super : PySem.W.nsIn K mainGlobals "super" = some none)
    (sf_NoRoom : PySem.W.mroIn K C_NoRoom (.ref C_NoRoom) = some true)
    (bv_NoRoom : PySem.W.subIn K (.ref C_NoRoom) (.type "ValueError") = some true)
    (su_NoRoom : PySem.W.ks_superIn K C_NoRoom C_NoRoom "__init__" = some (some (.builtin "ValueError.__init__"))) :
    ∃ fd : FuncData, (∀ (s : Shared) (v : Value), BindsTo s fd ⟨[v], []⟩ [("script", v)]) ∧ ∀ base : Heap, K.In base → base.Ns mainGlobals mg → FnG l.prog w K mg base CX0 16 fa fd ["script"] (sp_law K) := by
  have e := hfa.symm.trans (PySem.W.mg_of X G a40)
  cases e
  have F0 := fun_mk (st := s_is_whole) l0 c0 k0
  have d0 : DefT K mg "is_whole" s_is_whole ["thing"] [] := ⟨_, _, F0, PySem.W.mg_of X G a0, F0.binds fun _ _ _ _ _ _ us hl => match us, hl with | [_], _ => rfl⟩
  have F1 := fun_mk (st := s_is_shape) l1 c1 k1
  have d1 : DefT K mg "is_shape" s_is_shape ["radix", "depth"] [] := ⟨_, _, F1, PySem.W.mg_of X G a1, F1.binds fun _ _ _ _ _ _ us hl => match us, hl with | [_, _], _ => rfl⟩
  have F2 := fun_mk (st := s_is_length) l2 c2 k2
  have d2 : DefT K mg "is_length" s_is_length ["depth", "thing"] [] := ⟨_, _, F2, PySem.W.mg_of X G a2, F2.binds fun _ _ _ _ _ _ us hl => match us, hl with | [_, _], _ => rfl⟩
  have F3 := fun_mk (st := s_is_name) l3 c3 k3
  have d3 : DefT K mg "is_name" s_is_name ["thing"] [] := ⟨_, _, F3, PySem.W.mg_of X G a3, F3.binds fun _ _ _ _ _ _ us hl => match us, hl with | [_], _ => rfl⟩
  have F4 := fun_mk (st := s_is_codeword) l4 c4 k4
  have d4 : DefT K mg "is_codeword" s_is_codeword ["radix", "depth", "thing"] [] := ⟨_, _, F4, PySem.W.mg_of X G a4, F4.binds fun _ _ _ _ _ _ us hl => match us, hl with | [_, _, _], _ => rfl⟩
  have F5 := fun_mk (st := s_ancestors) l5 c5 k5
  have d5 : DefT K mg "ancestors" s_ancestors ["node"] [] := ⟨_, _, F5, PySem.W.mg_of X G a5, F5.binds fun _ _ _ _ _ _ us hl => match us, hl with | [_], _ => rfl⟩
  have F6 := fun_mk (st := s_first_clash) l6 c6 k6
  have d6 : DefT K mg "first_clash" s_first_clash ["nodes"] [] := ⟨_, _, F6, PySem.W.mg_of X G a6, F6.binds fun _ _ _ _ _ _ us hl => match us, hl with | [_], _ => rfl⟩
  have F7 := fun_mk (st := s_is_word_table) l7 c7 k7
  have d7 : DefT K mg "is_word_table" s_is_word_table ["radix", "depth", "thing"] [] := ⟨_, _, F7, PySem.W.mg_of X G a7, F7.binds fun _ _ _ _ _ _ us hl => match us, hl with | [_, _, _], _ => rfl⟩
  have F8 := fun_mk (st := s_is_codeword_list) l8 c8 k8
  have d8 : DefT K mg "is_codeword_list" s_is_codeword_list ["radix", "depth", "thing"] [] := ⟨_, _, F8, PySem.W.mg_of X G a8, F8.binds fun _ _ _ _ _ _ us hl => match us, hl with | [_, _, _], _ => rfl⟩
  have F9 := fun_mk (st := s_forms_codebook) l9 c9 k9
  have d9 : DefT K mg "forms_codebook" s_forms_codebook ["radix", "depth", "words", "reserved"] [] := ⟨_, _, F9, PySem.W.mg_of X G a9, F9.binds fun _ _ _ _ _ _ us hl => match us, hl with | [_, _, _, _], _ => rfl⟩
  have F16 := fun_mk (st := s_is_request) l16 c16 k16
  have d16 : DefT K mg "is_request" s_is_request ["depth", "thing"] [] := ⟨_, _, F16, PySem.W.mg_of X G a16, F16.binds fun _ _ _ _ _ _ us hl => match us, hl with | [_, _], _ => rfl⟩
  have F17 := fun_mk (st := s_check_request) l17 c17 k17
  have d17 : DefT K mg "check_request" s_check_request ["book", "request"] [] := ⟨_, _, F17, PySem.W.mg_of X G a17, F17.binds fun _ _ _ _ _ _ us hl => match us, hl with | [_, _], _ => rfl⟩
  have F18 := fun_mk (st := s_unrequested_words) l18 c18 k18
  have d18 : DefT K mg "unrequested_words" s_unrequested_words ["book", "request"] [] := ⟨_, _, F18, PySem.W.mg_of X G a18, F18.binds fun _ _ _ _ _ _ us hl => match us, hl with | [_, _], _ => rfl⟩
  have F19 := fun_mk (st := s_is_selection) l19 c19 k19
  have d19 : DefT K mg "is_selection" s_is_selection ["words", "thing"] [] := ⟨_, _, F19, PySem.W.mg_of X G a19, F19.binds fun _ _ _ _ _ _ us hl => match us, hl with | [_, _], _ => rfl⟩
  have F20 := fun_mk (st := s_nodes_of_level) l20 c20 k20
  have d20 : DefT K mg "nodes_of_level" s_nodes_of_level ["radix", "level"] [] := ⟨_, _, F20, PySem.W.mg_of X G a20, F20.binds fun _ _ _ _ _ _ us hl => match us, hl with | [_, _], _ => rfl⟩
  have F21 := fun_mk (st := s_free_beside) l21 c21 k21
  have d21 : DefT K mg "free_beside" s_free_beside ["radix", "taken", "level"] [] := ⟨_, _, F21, PySem.W.mg_of X G a21, F21.binds fun _ _ _ _ _ _ us hl => match us, hl with | [_, _, _], _ => rfl⟩
  have F22 := fun_mk (st := s_touched_above) l22 c22 k22
  have d22 : DefT K mg "touched_above" s_touched_above ["taken", "level"] [] := ⟨_, _, F22, PySem.W.mg_of X G a22, F22.binds fun _ _ _ _ _ _ us hl => match us, hl with | [_, _], _ => rfl⟩
  have F23 := fun_mk (st := s_level_size) l23 c23 k23
  have d23 : DefT K mg "level_size" s_level_size ["radix", "level"] [] := ⟨_, _, F23, PySem.W.mg_of X G a23, F23.binds fun _ _ _ _ _ _ us hl => match us, hl with | [_, _], _ => rfl⟩
  have F24 := fun_mk (st := s_filled_nodes) l24 c24 k24
  have d24 : DefT K mg "filled_nodes" s_filled_nodes ["radix", "lengths", "level"] [] := ⟨_, _, F24, PySem.W.mg_of X G a24, F24.binds fun _ _ _ _ _ _ us hl => match us, hl with | [_, _, _], _ => rfl⟩
  have F25 := fun_mk (st := s_loads) l25 c25 k25
  have d25 : DefT K mg "loads" s_loads ["book", "request", "kept"] [] := ⟨_, _, F25, PySem.W.mg_of X G a25, F25.binds fun _ _ _ _ _ _ us hl => match us, hl with | [_, _, _], _ => rfl⟩
  have F26 := fun_mk (st := s_failing_level) l26 c26 k26
  have d26 : DefT K mg "failing_level" s_failing_level ["book", "request", "kept"] [] := ⟨_, _, F26, PySem.W.mg_of X G a26, F26.binds fun _ _ _ _ _ _ us hl => match us, hl with | [_, _, _], _ => rfl⟩
  have F27 := fun_mk (st := s_first_free) l27 c27 k27
  have d27 : DefT K mg "first_free" s_first_free ["radix", "fixed", "lengths"] [] := ⟨_, _, F27, PySem.W.mg_of X G a27, F27.binds fun _ _ _ _ _ _ us hl => match us, hl with | [_, _, _], _ => rfl⟩
  have F28 := fun_mk (st := s_pack) l28 c28 k28
  have d28 : DefT K mg "pack" s_pack ["book", "request", "kept"] [] := ⟨_, _, F28, PySem.W.mg_of X G a28, F28.binds fun _ _ _ _ _ _ us hl => match us, hl with | [_, _, _], _ => rfl⟩
  have F29 := fun_mk (st := s_assign) l29 c29 k29
  have d29 : DefT K mg "assign" s_assign ["book", "request"] [] := ⟨_, _, F29, PySem.W.mg_of X G a29, F29.binds fun _ _ _ _ _ _ us hl => match us, hl with | [_, _], _ => rfl⟩
  have F30 := fun_mk (st := s_canonical) l30 c30 k30
  have d30 : DefT K mg "canonical" s_canonical ["radix", "depth", "lengths"] [] := ⟨_, _, F30, PySem.W.mg_of X G a30, F30.binds fun _ _ _ _ _ _ us hl => match us, hl with | [_, _, _], _ => rfl⟩
  have F31 := fun_mk (st := s_l_power) l31 c31 k31
  have d31 : DefT K mg "_law_power" s_l_power ["base", "exponent"] [] := ⟨_, _, F31, PySem.W.mg_of X G a31, F31.binds fun _ _ _ _ _ _ us hl => match us, hl with | [_, _], _ => rfl⟩
  have F32 := fun_mk (st := s_l_pen) l32 c32 k32
  have d32 : DefT K mg "_law_pen" s_l_pen ["script"] [] := ⟨_, _, F32, PySem.W.mg_of X G a32, F32.binds fun _ _ _ _ _ _ us hl => match us, hl with | [_], _ => rfl⟩
  have F33 := fun_mk (st := s_l_next) l33 c33 k33
  have d33 : DefT K mg "_law_next" s_l_next ["pen"] [] := ⟨_, _, F33, PySem.W.mg_of X G a33, F33.binds fun _ _ _ _ _ _ us hl => match us, hl with | [_], _ => rfl⟩
  have F34 := fun_mk (st := s_l_draw) l34 c34 k34
  have d34 : DefT K mg "_law_draw" s_l_draw ["pen", "below"] [] := ⟨_, _, F34, PySem.W.mg_of X G a34, F34.binds fun _ _ _ _ _ _ us hl => match us, hl with | [_, _], _ => rfl⟩
  have F35 := fun_mk (st := s_l_names) l35 c35 k35
  have d35 : DefT K mg "_law_names" s_l_names ["pen", "tally"] [] := ⟨_, _, F35, PySem.W.mg_of X G a35, F35.binds fun _ _ _ _ _ _ us hl => match us, hl with | [_, _], _ => rfl⟩
  have F36 := fun_mk (st := s_l_digits) l36 c36 k36
  have d36 : DefT K mg "_law_digits" s_l_digits ["radix", "number", "length"] [] := ⟨_, _, F36, PySem.W.mg_of X G a36, F36.binds fun _ _ _ _ _ _ us hl => match us, hl with | [_, _, _], _ => rfl⟩
  have F37 := fun_mk (st := s_l_due) l37 c37 k37
  have d37 : DefT K mg "_law_due" s_l_due ["radix", "depth", "wanted"] [] := ⟨_, _, F37, PySem.W.mg_of X G a37, F37.binds fun _ _ _ _ _ _ us hl => match us, hl with | [_, _, _], _ => rfl⟩
  have F38 := fun_mk (st := s_l_outcome) l38 c38 k38
  have d38 : DefT K mg "_law_outcome" s_l_outcome ["radix", "depth", "wanted"] [] := ⟨_, _, F38, PySem.W.mg_of X G a38, F38.binds fun _ _ _ _ _ _ us hl => match us, hl with | [_, _, _], _ => rfl⟩
  have F39 := fun_mk (st := s_l_full) l39 c39 k39
  have d39 : DefT K mg "_law_full" s_l_full ["pen", "radix", "depth"] [] := ⟨_, _, F39, PySem.W.mg_of X G a39, F39.binds fun _ _ _ _ _ _ us hl => match us, hl with | [_, _, _], _ => rfl⟩
  have F40 := fun_mk (st := s_law) l40 c40 k40
  have d40 : DefT K mg "law" s_law ["script"] [] := ⟨_, _, F40, PySem.W.mg_of X G a40, F40.binds fun _ _ _ _ _ _ us hl => match us, hl with | [_], _ => rfl⟩
  have F10 : FunD K "__init__" "Codebook.__init__" (defArgs s_Codebook__init) (defBody s_Codebook__init) (defScope s_Codebook__init) [.ref a010] [] f10 _ := ⟨⟨_, _, _, _, _, _, _, _, _, _, rfl, l10, c10, .inr ⟨(fun z => by cases z), _, _, [.ref a010], _, rfl, xT10, rfl, .cons rfl .nil⟩, .inl rfl⟩, k10⟩
  have i10 : IniD K C_Codebook "Codebook.__init__" s_Codebook__init ["self", "radix", "depth", "words", "reserved"] := ⟨f10, a010, _, ⟨mk_Codebook, at10, fn10, kp_Codebook⟩, F10, ⟨_, _, _, x010⟩, F10.binds1 (ps := ["self", "radix", "depth", "words", "reserved"]) 4 0 (fun z => by cases z) rfl (fun T kV doc pm an cdv ct us its l1 l2 => match us, its, l1, l2 with | [_, _, _, _], [_], _, _ => ⟨_, rfl, rfl⟩), F10.binds1 (ps := ["self", "radix", "depth", "words", "reserved"]) 5 1 (fun z => by cases z) rfl (fun T kV doc pm an cdv ct us its l1 l2 => match us, its, l1, l2 with | [_, _, _, _, _], [_], _, _ => ⟨_, rfl, rfl⟩)⟩
  have F11 := fun_mk (st := s_Codebook_words) l11 c11 k11
  have F12 := fun_mk (st := s_Codebook_reserved) l12 c12 k12
  have F13 := fun_mk (st := s_Codebook_codeword) l13 c13 k13
  have F14 := fun_mk (st := s_Codebook__len) l14 c14 k14
  have F15 := fun_mk (st := s_Codebook__eq) l15 c15 k15
  have O_NoRoom : OexC K C_NoRoom := ⟨⟨_, _, _, _, _, _, _, _, _, _, _, _, _, _, _, oc__NoRoom, rv__NoRoom⟩, sa_NoRoom, bq_NoRoom, ty_NoRoom, kp_NoRoom⟩
  have S_NoRoom : SupF l.prog K C_NoRoom f_NoRoom cc_NoRoom cda_NoRoom "NoRoom.__init__" (supD "NoRoom.__init__" (defArgs s_NoRoom) (defBody s_NoRoom) (defScope s_NoRoom) .none kV_NoRoom doc_NoRoom pm_NoRoom an_NoRoom cda_NoRoom ct_NoRoom cc_NoRoom) := ⟨⟨_, _, _, lk_NoRoom⟩, cd_NoRoom, ⟨_, _, _, _, _, _, fi_NoRoom, rv_f_NoRoom, rv_g_NoRoom⟩, ⟨_, _, _, ce_NoRoom⟩, rv_top, sf_NoRoom, bv_NoRoom, op_any, su_NoRoom, gs_super⟩
  have Z_NoRoom : ∀ base : Heap, SupX l.prog w K mg base "NoRoom" (clsAt mg "NoRoom") "level" := fun base => by rw [clsAt_eq (PySem.W.mg_of X G g_NoRoom)]; exact ⟨PySem.W.mg_of X G g_NoRoom, O_NoRoom, no_NoRoom, f_NoRoom, _, fn_NoRoom S_NoRoom O_NoRoom no_NoRoom, hi_NoRoom, ti_NoRoom, .all fun us hl => match us, hl with | [_, _], _ => rfl⟩
  have T : Txt K mg := ⟨d0,
    d1,
    d2,
    d3,
    d4,
    d5,
    d6,
    d7,
    d8,
    d9,
    d16,
    d17,
    d18,
    d19,
    d20,
    d21,
    d22,
    d23,
    d24,
    d25,
    d26,
    d27,
    d28,
    d29,
    d30,
    d31,
    d32,
    d33,
    d34,
    d35,
    d36,
    d37,
    d38,
    d39,
    d40,
    ⟨_, PySem.W.mg_of X G g_DEPTHS, fun H => .inr ⟨_, _, n_DEPTHS, x_DEPTHS, rfl, rfl, sz_rfl rfl, (.cons ⟨_, rfl⟩ (.cons ⟨_, rfl⟩ (.cons ⟨_, rfl⟩ (.cons ⟨_, rfl⟩ (.cons ⟨_, rfl⟩ (.cons ⟨_, rfl⟩ .nil))))))⟩⟩,
    ⟨_, PySem.W.mg_of X G g_DIGITS, ⟨_, rfl⟩⟩,
    ⟨_, PySem.W.mg_of X G g_LETTERS, ⟨_, rfl⟩⟩,
    ⟨_, PySem.W.mg_of X G g_LONGEST_NAME, ⟨_, rfl⟩⟩,
    ⟨_, PySem.W.mg_of X G g_RADIXES, fun H => .inr ⟨_, _, n_RADIXES, x_RADIXES, rfl, rfl, sz_rfl rfl, (.cons ⟨_, rfl⟩ (.cons ⟨_, rfl⟩ (.cons ⟨_, rfl⟩ .nil)))⟩⟩,
    PySem.W.mg_none_of X G z_all,
    PySem.W.mg_none_of X G z_any,
    PySem.W.mg_none_of X G z_bool,
    PySem.W.mg_none_of X G z_dict,
    PySem.W.mg_none_of X G z_enumerate,
    PySem.W.mg_none_of X G z_int,
    PySem.W.mg_none_of X G z_isinstance,
    PySem.W.mg_none_of X G z_len,
    PySem.W.mg_none_of X G z_list,
    PySem.W.mg_none_of X G z_range,
    PySem.W.mg_none_of X G z_repr,
    PySem.W.mg_none_of X G z_set,
    PySem.W.mg_none_of X G z_sorted,
    PySem.W.mg_none_of X G z_str,
    PySem.W.mg_none_of X G z_sum,
    PySem.W.mg_none_of X G z_tuple,
    PySem.W.mg_none_of X G z_zip,
    (by rw [clsAt_eq (PySem.W.mg_of X G g_InvalidCodebook)]; exact ⟨PySem.W.mg_of X G g_InvalidCodebook, ex_InvalidCodebook, kp_InvalidCodebook, bp_InvalidCodebook, tp_InvalidCodebook⟩),
    (by rw [clsAt_eq (PySem.W.mg_of X G g_InvalidKept)]; exact ⟨PySem.W.mg_of X G g_InvalidKept, ex_InvalidKept, kp_InvalidKept, bp_InvalidKept, tp_InvalidKept⟩),
    (by rw [clsAt_eq (PySem.W.mg_of X G g_InvalidRequest)]; exact ⟨PySem.W.mg_of X G g_InvalidRequest, ex_InvalidRequest, kp_InvalidRequest, bp_InvalidRequest, tp_InvalidRequest⟩),
    (by rw [clsAt_eq (PySem.W.mg_of X G g_UnknownName)]; exact ⟨PySem.W.mg_of X G g_UnknownName, ex_UnknownName, kp_UnknownName, bp_UnknownName, tp_UnknownName⟩),
    (by rw [clsAt_eq (PySem.W.mg_of X G g_NoRoom)]; exact ⟨PySem.W.mg_of X G g_NoRoom, cls_some ci_NoRoom ty_NoRoom⟩),
    (by rw [clsAt_eq (PySem.W.mg_of X G g_InvalidRequest)]; exact ⟨PySem.W.mg_of X G g_InvalidRequest, cls_some ci_InvalidRequest ty_InvalidRequest⟩),
    (by rw [clsAt_eq (PySem.W.mg_of X G g_CodeError)]; exact ⟨PySem.W.mg_of X G g_CodeError, bq_CodeError, hd_CodeError, ty_CodeError⟩),
    (by rw [clsAt_eq (PySem.W.mg_of X G g_NoRoom)]; exact ⟨yg_NoRoom, yk_NoRoom, bq_NoRoom, hd_NoRoom, ya_NoRoom, yn_NoRoom, yt_NoRoom, ym_NoRoom⟩),
    (by rw [clsAt_eq (PySem.W.mg_of X G g_NoRoom), clsAt_eq (PySem.W.mg_of X G g_CodeError)]; exact ss_NoRoom_CodeError),
    (by rw [clsAt_eq (PySem.W.mg_of X G g_NoRoom)]; exact ss_NoRoom_NoRoom),
    (by rw [clsAt_eq (PySem.W.mg_of X G g_NoRoom), clsAt_eq (PySem.W.mg_of X G g_InvalidRequest)]; exact ss_NoRoom_InvalidRequest),
    (by rw [clsAt_eq (PySem.W.mg_of X G g_Codebook)]; exact ⟨⟨pg_Codebook, hd_Codebook, po_Codebook, sa_Codebook⟩, PySem.W.mg_of X G g_Codebook⟩),
    (by rw [clsAt_eq (PySem.W.mg_of X G g_Codebook)]; exact ⟨ha_Codebook, hn_Codebook, ht_Codebook, hm_Codebook, cls_some ci_Codebook ty_Codebook, kp_Codebook⟩),
    (by rw [clsAt_eq (PySem.W.mg_of X G g_Codebook)]; exact ⟨ne_Codebook, hm_Codebook⟩),
    (by rw [clsAt_eq (PySem.W.mg_of X G g_Codebook)]; exact na_Codebook_radix),
    (by rw [clsAt_eq (PySem.W.mg_of X G g_Codebook)]; exact na_Codebook_depth),
    (by rw [clsAt_eq (PySem.W.mg_of X G g_Codebook)]; exact na_Codebook__words),
    (by rw [clsAt_eq (PySem.W.mg_of X G g_Codebook)]; exact na_Codebook__reserved),
    (by rw [clsAt_eq (PySem.W.mg_of X G g_Codebook)]; exact i10),
    (by rw [clsAt_eq (PySem.W.mg_of X G g_Codebook)]; exact ⟨f11, _, ⟨at11, fn11, k11⟩, F11, F11.binds fun _ _ _ _ _ _ us hl => match us, hl with | [_], _ => rfl⟩),
    (by rw [clsAt_eq (PySem.W.mg_of X G g_Codebook)]; exact ⟨f12, _, ⟨at12, fn12, k12⟩, F12, F12.binds fun _ _ _ _ _ _ us hl => match us, hl with | [_], _ => rfl⟩),
    (by rw [clsAt_eq (PySem.W.mg_of X G g_Codebook)]; exact ⟨f13, _, ⟨at13, fn13, k13⟩, F13, F13.binds fun _ _ _ _ _ _ us hl => match us, hl with | [_, _], _ => rfl⟩),
    (by rw [clsAt_eq (PySem.W.mg_of X G g_Codebook)]; exact ⟨f14, _, ⟨at14, fn14, k14⟩, F14, F14.binds fun _ _ _ _ _ _ us hl => match us, hl with | [_], _ => rfl⟩),
    (by rw [clsAt_eq (PySem.W.mg_of X G g_Codebook)]; exact ⟨f15, _, ⟨at15, fn15, k15⟩, F15, F15.binds fun _ _ _ _ _ _ us hl => match us, hl with | [_, _], _ => rfl⟩)⟩
  exact ⟨_, fun s v => .of_eq rfl, fun base _ _ => ok_law (P := l.prog) (w := w) (base := base) T (Z_NoRoom base) F40⟩
theorem walk {l : PySem.W.OpenLaw} {q : Program} {loose : List Str} {XP : (Str → Option Value) → Heap → Prop} {YP : World → Heap → Prop} {d : DefRec} {K : Params → PySem.W.Frag} (hn : l.most = some 63) (hdf : d.params.defaults = [])
    (hY : ∀ (w : World) (h : Heap), YP w h → (K w.params).In h)
    (F : ∀ (w : World) (mg : Str → Option Value) (fa : Addr) (h : Heap), (K w.params).In h → h.Ns mainGlobals mg → mg d.name = some (.ref fa) →
      ∃ fd : FuncData, (∀ (s : Shared) (u : Value), BindsTo s fd ⟨[u], []⟩ [("script", u)]) ∧ ∀ base : Heap, (K w.params).In base → base.Ns mainGlobals mg → FnG l.prog w (K w.params) mg base CX0 16 fa fd ["script"] (sp_law (K w.params))) :
    PySem.W.WalkO q loose XP YP l.row.toRowW d [] (fun f vs => PySem.call f vs) :=
  walk_ofG (n := 63) (k := 16) (x := "script") (sp := fun w => sp_law (K w.params)) hn (by decide) hdf ⟨⟨rfl, by decide, by decide⟩, rfl⟩ hY F (fun _ _ a ns hl _ hS => ⟨a, ns, rfl, hS, hl, fun _ => rfl⟩)
end KC
open PySem PySem.W PyProof.Rows in
set_option maxRecDepth 100000 in
set_option maxHeartbeats 0 in
theorem PySem.Challenge.cw_keptcode_k22_canonical_codes_holds : PySem.Challenge.rw_keptcode_k22_canonical_codes.Holds := by
  w_on; o_law; k_head; (case hw => w_witness2)
  k_fill
  refine KC.walk (l := PySem.Challenge.rw_keptcode_k22_canonical_codes) rfl rfl (fun w h Y => PySem.W.kIn_of Y) ?F
  case F =>
    intro w mg fa h KX G hmg
    refine' KC.all_mk KX G hmg ?a0 ?l0 ?c0 ?k0 ?a1 ?l1 ?c1 ?k1 ?a2 ?l2 ?c2 ?k2 ?a3 ?l3 ?c3 ?k3 ?a4 ?l4 ?c4 ?k4 ?a5 ?l5 ?c5 ?k5 ?a6 ?l6 ?c6 ?k6 ?a7 ?l7 ?c7 ?k7 ?a8 ?l8 ?c8 ?k8 ?a9 ?l9 ?c9 ?k9 ?a16 ?l16 ?c16 ?k16 ?a17 ?l17 ?c17 ?k17 ?a18 ?l18 ?c18 ?k18 ?a19 ?l19 ?c19 ?k19 ?a20 ?l20 ?c20 ?k20 ?a21 ?l21 ?c21 ?k21 ?a22 ?l22 ?c22 ?k22 ?a23 ?l23 ?c23 ?k23 ?a24 ?l24 ?c24 ?k24 ?a25 ?l25 ?c25 ?k25 ?a26 ?l26 ?c26 ?k26 ?a27 ?l27 ?c27 ?k27 ?a28 ?l28 ?c28 ?k28 ?a29 ?l29 ?c29 ?k29 ?a30 ?l30 ?c30 ?k30 ?a31 ?l31 ?c31 ?k31 ?a32 ?l32 ?c32 ?k32 ?a33 ?l33 ?c33 ?k33 ?a34 ?l34 ?c34 ?k34 ?a35 ?l35 ?c35 ?k35 ?a36 ?l36 ?c36 ?k36 ?a37 ?l37 ?c37 ?k37 ?a38 ?l38 ?c38 ?k38 ?a39 ?l39 ?c39 ?k39 ?a40 ?l40 ?c40 ?k40 ?g_DEPTHS ?x_DEPTHS ?g_DIGITS ?g_LETTERS ?g_LONGEST_NAME ?g_RADIXES ?x_RADIXES ?z_all ?z_any ?z_bool ?z_dict ?z_enumerate ?z_int ?z_isinstance ?z_len ?z_list ?z_range ?z_repr ?z_set ?z_sorted ?z_str ?z_sum ?z_tuple ?z_zip ?g_InvalidCodebook ?ex_InvalidCodebook ?kp_InvalidCodebook ?bp_InvalidCodebook ?tp_InvalidCodebook ?g_InvalidKept ?ex_InvalidKept ?kp_InvalidKept ?bp_InvalidKept ?tp_InvalidKept ?g_InvalidRequest ?ex_InvalidRequest ?kp_InvalidRequest ?bp_InvalidRequest ?tp_InvalidRequest ?g_UnknownName ?ex_UnknownName ?kp_UnknownName ?bp_UnknownName ?tp_UnknownName ?g_NoRoom ?g_CodeError ?ci_NoRoom ?ty_NoRoom ?ci_InvalidRequest ?ty_InvalidRequest ?bq_CodeError ?hd_CodeError ?ty_CodeError ?yg_NoRoom ?yk_NoRoom ?bq_NoRoom ?hd_NoRoom ?ya_NoRoom ?yn_NoRoom ?yt_NoRoom ?ym_NoRoom ?ss_NoRoom_CodeError ?ss_NoRoom_NoRoom ?ss_NoRoom_InvalidRequest ?g_Codebook ?pg_Codebook ?hd_Codebook ?po_Codebook ?sa_Codebook ?ha_Codebook ?hn_Codebook ?ht_Codebook ?hm_Codebook ?ci_Codebook ?ty_Codebook ?kp_Codebook ?ne_Codebook ?na_Codebook_radix ?na_Codebook_depth ?na_Codebook__words ?na_Codebook__reserved ?at10 ?fn10 ?l10 ?c10 ?k10 ?xT10 ?x010 ?mk_Codebook ?at11 ?fn11 ?l11 ?c11 ?k11 ?at12 ?fn12 ?l12 ?c12 ?k12 ?at13 ?fn13 ?l13 ?c13 ?k13 ?at14 ?fn14 ?l14 ?c14 ?k14 ?at15 ?fn15 ?l15 ?c15 ?k15 ?oc__NoRoom ?rv__NoRoom ?sa_NoRoom ?kp_NoRoom ?no_NoRoom ?hi_NoRoom ?ti_NoRoom ?lk_NoRoom ?cd_NoRoom ?fi_NoRoom ?rv_f_NoRoom ?rv_g_NoRoom ?ce_NoRoom ?rv_top ?op_any ?gs_super ?sf_NoRoom ?bv_NoRoom ?su_NoRoom
    (case a0 => k_is)
    (case l0 => k_is)
    (case c0 => k_is)
    (case k0 => k_is)
    (case a1 => k_is)
    (case l1 => k_is)
    (case c1 => k_is)
    (case k1 => k_is)
    (case a2 => k_is)
    (case l2 => k_is)
    (case c2 => k_is)
    (case k2 => k_is)
    (case a3 => k_is)
    (case l3 => k_is)
    (case c3 => k_is)
    (case k3 => k_is)
    (case a4 => k_is)
    (case l4 => k_is)
    (case c4 => k_is)
    (case k4 => k_is)
    (case a5 => k_is)
    (case l5 => k_is)
    (case c5 => k_is)
    (case k5 => k_is)
    (case a6 => k_is)
    (case l6 => k_is)
    (case c6 => k_is)
    (case k6 => k_is)
    (case a7 => k_is)
    (case l7 => k_is)
    (case c7 => k_is)
    (case k7 => k_is)
    (case a8 => k_is)
    (case l8 => k_is)
    (case c8 => k_is)
    (case k8 => k_is)
    (case a9 => k_is)
    (case l9 => k_is)
    (case c9 => k_is)
    (case k9 => k_is)
    (case a16 => k_is)
    (case l16 => k_is)
    (case c16 => k_is)
    (case k16 => k_is)
    (case a17 => k_is)
    (case l17 => k_is)
    (case c17 => k_is)
    (case k17 => k_is)
    (case a18 => k_is)
    (case l18 => k_is)
    (case c18 => k_is)
    (case k18 => k_is)
    (case a19 => k_is)
    (case l19 => k_is)
    (case c19 => k_is)
    (case k19 => k_is)
    (case a20 => k_is)
    (case l20 => k_is)
    (case c20 => k_is)
    (case k20 => k_is)
    (case a21 => k_is)
    (case l21 => k_is)
    (case c21 => k_is)
    (case k21 => k_is)
    (case a22 => k_is)
    (case l22 => k_is)
    (case c22 => k_is)
    (case k22 => k_is)
    (case a23 => k_is)
    (case l23 => k_is)
    (case c23 => k_is)
    (case k23 => k_is)
    (case a24 => k_is)
    (case l24 => k_is)
    (case c24 => k_is)
    (case k24 => k_is)
    (case a25 => k_is)
    (case l25 => k_is)
    (case c25 => k_is)
    (case k25 => k_is)
    (case a26 => k_is)
    (case l26 => k_is)
    (case c26 => k_is)
    (case k26 => k_is)
    (case a27 => k_is)
    (case l27 => k_is)
    (case c27 => k_is)
    (case k27 => k_is)
    (case a28 => k_is)
    (case l28 => k_is)
    (case c28 => k_is)
    (case k28 => k_is)
    (case a29 => k_is)
    (case l29 => k_is)
    (case c29 => k_is)
    (case k29 => k_is)
    (case a30 => k_is)
    (case l30 => k_is)
    (case c30 => k_is)
    (case k30 => k_is)
    (case a31 => k_is)
    (case l31 => k_is)
    (case c31 => k_is)
    (case k31 => k_is)
    (case a32 => k_is)
    (case l32 => k_is)
    (case c32 => k_is)
    (case k32 => k_is)
    (case a33 => k_is)
    (case l33 => k_is)
    (case c33 => k_is)
    (case k33 => k_is)
    (case a34 => k_is)
    (case l34 => k_is)
    (case c34 => k_is)
    (case k34 => k_is)
    (case a35 => k_is)
    (case l35 => k_is)
    (case c35 => k_is)
    (case k35 => k_is)
    (case a36 => k_is)
    (case l36 => k_is)
    (case c36 => k_is)
    (case k36 => k_is)
    (case a37 => k_is)
    (case l37 => k_is)
    (case c37 => k_is)
    (case k37 => k_is)
    (case a38 => k_is)
    (case l38 => k_is)
    (case c38 => k_is)
    (case k38 => k_is)
    (case a39 => k_is)
    (case l39 => k_is)
    (case c39 => k_is)
    (case k39 => k_is)
    (case a40 => k_is)
    (case l40 => k_is)
    (case c40 => k_is)
    (case k40 => k_is)
    (case g_DEPTHS => k_is)
    (case x_DEPTHS => k_is)
    (case g_DIGITS => k_is)
    (case g_LETTERS => k_is)
    (case g_LONGEST_NAME => k_is)
    (case g_RADIXES => k_is)
    (case x_RADIXES => k_is)
    (case z_all => k_is)
    (case z_any => k_is)
    (case z_bool => k_is)
    (case z_dict => k_is)
    (case z_enumerate => k_is)
    (case z_int => k_is)
    (case z_isinstance => k_is)
    (case z_len => k_is)
    (case z_list => k_is)
    (case z_range => k_is)
    (case z_repr => k_is)
    (case z_set => k_is)
    (case z_sorted => k_is)
    (case z_str => k_is)
    (case z_sum => k_is)
    (case z_tuple => k_is)
    (case z_zip => k_is)
    (case g_InvalidCodebook => k_is)
    (case ex_InvalidCodebook => k_exc)
    (case kp_InvalidCodebook => k_is)
    (case bp_InvalidCodebook => k_is)
    (case tp_InvalidCodebook => k_is)
    (case g_InvalidKept => k_is)
    (case ex_InvalidKept => k_exc)
    (case kp_InvalidKept => k_is)
    (case bp_InvalidKept => k_is)
    (case tp_InvalidKept => k_is)
    (case g_InvalidRequest => k_is)
    (case ex_InvalidRequest => k_exc)
    (case kp_InvalidRequest => k_is)
    (case bp_InvalidRequest => k_is)
    (case tp_InvalidRequest => k_is)
    (case g_UnknownName => k_is)
    (case ex_UnknownName => k_exc)
    (case kp_UnknownName => k_is)
    (case bp_UnknownName => k_is)
    (case tp_UnknownName => k_is)
    (case g_NoRoom => k_is)
    (case g_CodeError => k_is)
    (case ci_NoRoom => k_is)
    (case ty_NoRoom => k_is)
    (case ci_InvalidRequest => k_is)
    (case ty_InvalidRequest => k_is)
    (case bq_CodeError => k_is)
    (case hd_CodeError => k_is)
    (case ty_CodeError => k_is)
    (case yg_NoRoom => k_is)
    (case yk_NoRoom => k_is)
    (case bq_NoRoom => k_is)
    (case hd_NoRoom => k_is)
    (case ya_NoRoom => k_is)
    (case yn_NoRoom => k_is)
    (case yt_NoRoom => k_is)
    (case ym_NoRoom => k_is)
    (case ss_NoRoom_CodeError => k_is)
    (case ss_NoRoom_NoRoom => k_is)
    (case ss_NoRoom_InvalidRequest => k_is)
    (case g_Codebook => k_is)
    (case pg_Codebook => k_is)
    (case hd_Codebook => k_is)
    (case po_Codebook => k_is)
    (case sa_Codebook => k_is)
    (case ha_Codebook => k_is)
    (case hn_Codebook => k_is)
    (case ht_Codebook => k_is)
    (case hm_Codebook => k_is)
    (case ci_Codebook => k_is)
    (case ty_Codebook => k_is)
    (case kp_Codebook => k_is)
    (case ne_Codebook => k_is)
    (case na_Codebook_radix => k_is)
    (case na_Codebook_depth => k_is)
    (case na_Codebook__words => k_is)
    (case na_Codebook__reserved => k_is)
    (case at10 => k_is)
    (case fn10 => k_is)
    (case l10 => k_is)
    (case c10 => k_is)
    (case k10 => k_is)
    (case xT10 => k_is)
    (case x010 => k_is)
    (case mk_Codebook => k_is)
    (case at11 => k_is)
    (case fn11 => k_is)
    (case l11 => k_is)
    (case c11 => k_is)
    (case k11 => k_is)
    (case at12 => k_is)
    (case fn12 => k_is)
    (case l12 => k_is)
    (case c12 => k_is)
    (case k12 => k_is)
    (case at13 => k_is)
    (case fn13 => k_is)
    (case l13 => k_is)
    (case c13 => k_is)
    (case k13 => k_is)
    (case at14 => k_is)
    (case fn14 => k_is)
    (case l14 => k_is)
    (case c14 => k_is)
    (case k14 => k_is)
    (case at15 => k_is)
    (case fn15 => k_is)
    (case l15 => k_is)
    (case c15 => k_is)
    (case k15 => k_is)
    (case oc__NoRoom => k_is)
    (case rv__NoRoom => first | rfl | decide +kernel)
    (case sa_NoRoom => k_is)
    (case kp_NoRoom => k_is)
    (case no_NoRoom => k_is)
    (case hi_NoRoom => k_is)
    (case ti_NoRoom => k_is)
    (case lk_NoRoom => k_is)
    (case cd_NoRoom => k_is)
    (case fi_NoRoom => k_is)
    (case rv_f_NoRoom => first | rfl | decide +kernel)
    (case rv_g_NoRoom => first | rfl | decide +kernel)
    (case ce_NoRoom => k_is)
    (case rv_top => first | rfl | decide +kernel)
    (case op_any => k_is)
    (case gs_super => k_is)
    (case sf_NoRoom => k_is)
    (case bv_NoRoom => k_is)
    (case su_NoRoom => ks_is)

