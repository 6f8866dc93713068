import PyProof.Rows.All
import Wide.All
import OpenK.AllK
import Wide.FinOn
import HandS.ForMost
import HandS.ForExc
import HandS.Wide
import HandS.Codes
import HandS.IsInst
import HandS.FStr
import HandS.Walk
import HandS.Defaults
import HandS.ListItems
import HandS.DictComp
import PySem.Challenge.RW_keptcode_k02_names_and_codewords
set_option Elab.async false
set_option linter.all false
set_option maxRecDepth 100000
set_option maxHeartbeats 4000000
namespace KC
open PySem PySem.Spec PyProof.Rows L2
/-! ### lists of ints as data -/
theorem dpAll_ints {K : PySem.W.Frag} {H : Hp} : ∀ ns : List Int, DpAll K H (ns.map V.int) (ns.map PyData.int)
  | [] => .nil
  | n :: r => .cons (.int n) (dpAll_ints r)
theorem lay_ints : ∀ ns : List Int, PyData.canLayAll0 (ns.map PyData.int) = true
  | [] => rfl
  | n :: r => by
    show (PyData.canLay0 (.int n) && PyData.canLayAll0 (r.map PyData.int)) = true
    rw [lay_ints r]
    rfl
theorem depth_ints : ∀ ns : List Int, PyData.depthAll (ns.map PyData.int) = 0
  | [] => rfl
  | n :: r => by
    show max (PyData.depth (.int n)) (PyData.depthAll (r.map PyData.int)) = 0
    rw [depth_ints r]
    rfl
theorem shaped_ints (ns : List Int) : SeqAt.shaped (.list (ns.map PyData.int)) = true := by
  unfold SeqAt.shaped
  have h1 : PyData.canLay0 (.list (ns.map PyData.int)) = true := lay_ints ns
  have h2 : PyData.depth (.list (ns.map PyData.int)) = 1 := by
    show PyData.depthAll (ns.map PyData.int) + 1 = 1
    rw [depth_ints]
  rw [h1, h2]
  decide
/-! ### the frame G below a heap H -/
theorem same_new {H H' : Hp} {p : Addr} {o : HO} (s : Same H H') (h : H p = none) : Same H (upd H' p o) := fun b u e => by
  rw [upd_ne (ne_of_none e h)]
  exact s b u e
theorem same_upd2 {H H' : Hp} {p : Addr} {o : HO} (s : Same H H') : Same (L2.upd H p o) (L2.upd H' p o) := fun b u e => by
  by_cases hb : b = p
  · subst hb
    rw [upd_same] at e ⊢
    exact e
  · rw [upd_ne hb] at e ⊢
    exact s b u e
theorem same_seqT {K : PySem.W.Frag} {H H' : Hp} {a : Addr} {xs : List V} (e : Same H H') (h : SqT K H a xs) : SqT K H' a xs := by
  rcases h with (h | ⟨o, h⟩) | h
  · exact .inl (.inl (e _ _ h))
  · exact .inl (.inr ⟨o, e _ _ h⟩)
  · exact .inr h
/-- the pen at p and its numbers: G is all that stands beside it; at most n draws of the script were made -/
structure PenG (G H : Hp) (p : Addr) (n : Nat) : Prop where
  sub : Same G H
  free : G p = none
  pen : ∃ (q : Addr) (ns : List Int) (i v : Int), H p = some (.lst [.ref q, .int i, .int v]) ∧ H q = some (.lst (ns.map V.int)) ∧ G q = none ∧ q ≠ p ∧ ns.length ≤ 60 ∧ 0 ≤ i ∧ i ≤ n ∧ 0 ≤ v
section
variable {G H H' : Hp} {p : Addr} {n m : Nat}
theorem PenG.mono (h : PenG G H p n) (le : n ≤ m) : PenG G H p m := by
  obtain ⟨s, f, q, ns, i, v, hp, hq, hg, hne, hl, h0, hi, hv⟩ := h
  exact ⟨s, f, q, ns, i, v, hp, hq, hg, hne, hl, h0, by omega, hv⟩
theorem PenG.here (h : PenG G H p n) : ∃ o, H p = some o := by
  obtain ⟨s, f, q, ns, i, v, hp, _⟩ := h
  exact ⟨_, hp⟩
theorem PenG.ne_new (h : PenG G H p n) {l : Addr} (hl : H l = none) : l ≠ p := fun e => by
  obtain ⟨o, ho⟩ := h.here
  rw [e, ho] at hl
  cases hl
theorem PenG.ne_old (h : PenG G H p n) {l : Addr} {o : HO} (hl : G l = some o) : l ≠ p := fun e => by
  rw [e, h.free] at hl
  cases hl
/-- a new object beside the pen -/
theorem PenG.new (h : PenG G H p n) {l : Addr} {o : HO} (hl : H l = none) : PenG (L2.upd G l o) (L2.upd H l o) p n := by
  have hne := h.ne_new hl
  obtain ⟨s, f, q, ns, i, v, hp, hq, hg, hr⟩ := h
  have hlq : q ≠ l := fun e => by rw [← e, hq] at hl; cases hl
  exact ⟨same_upd2 s, by rw [upd_ne (Ne.symm hne)]; exact f, q, ns, i, v, by rw [upd_ne (Ne.symm hne)]; exact hp, by rw [upd_ne hlq]; exact hq, by rw [upd_ne hlq]; exact hg, hr⟩
/-- a new object that is not kept in mind -/
theorem PenG.drop (h : PenG G H p n) {l : Addr} {o : HO} (hl : H l = none) : PenG G (L2.upd H l o) p n := by
  have hne := h.ne_new hl
  have gl : G l = none := h.sub.free hl
  obtain ⟨s, f, q, ns, i, v, hp, hq, hr⟩ := h
  have hlq : q ≠ l := fun e => by rw [← e, hq] at hl; cases hl
  exact ⟨same_new s gl, f, q, ns, i, v, by rw [upd_ne (Ne.symm hne)]; exact hp, by rw [upd_ne hlq]; exact hq, hr⟩
theorem PenG.same (h : PenG G H p n) (s : Same H H') : PenG G H' p n := by
  obtain ⟨sub, f, q, ns, i, v, hp, hq, hr⟩ := h
  exact ⟨Same.trans sub s, f, q, ns, i, v, s _ _ hp, s _ _ hq, hr⟩
/-- an object beside the pen is changed -/
theorem PenG.put {D : Addr} {o o' : HO} (h : PenG (L2.upd G D o) H p n) : PenG (L2.upd G D o') (L2.upd H D o') p n := by
  obtain ⟨s, f, q, ns, i, v, hp, hq, hg, hr⟩ := h
  have ne : p ≠ D := fun e => by rw [e, upd_same] at f; cases f
  have nq : q ≠ D := fun e => by rw [e, upd_same] at hg; cases hg
  refine ⟨fun b u e => ?_, by rw [upd_ne ne] at f ⊢; exact f, q, ns, i, v, by rw [upd_ne ne]; exact hp, by rw [upd_ne nq]; exact hq, by rw [upd_ne nq] at hg ⊢; exact hg, hr⟩
  by_cases hb : b = D
  · subst hb
    rw [upd_same] at e ⊢
    exact e
  · rw [upd_ne hb] at e ⊢
    exact s b u (by rw [upd_ne hb]; exact e)
/-- an object is no longer kept in mind -/
theorem PenG.forget {D : Addr} {o : HO} (h : PenG (L2.upd G D o) H p n) (g : G D = none) : PenG G H p n := by
  obtain ⟨s, f, q, ns, i, v, hp, hq, hg, hr⟩ := h
  have ne : p ≠ D := fun e => by rw [e, upd_same] at f; cases f
  have nq : q ≠ D := fun e => by rw [e, upd_same] at hg; cases hg
  refine ⟨fun b u e => s b u ?_, by rw [upd_ne ne] at f; exact f, q, ns, i, v, hp, hq, by rw [upd_ne nq] at hg; exact hg, hr⟩
  rw [upd_ne (ne_of_none e g)]
  exact e
/-- less is kept in mind -/
theorem PenG.sub_of {G0 : Hp} (h : PenG G H p n) (s : Same G0 G) : PenG G0 H p n := by
  obtain ⟨s1, f, q, ns, i, v, hp, hq, hg, hr⟩ := h
  exact ⟨Same.trans s s1, s.free f, q, ns, i, v, hp, hq, s.free hg, hr⟩
end
theorem same_del {G G2 : Hp} {D : Addr} {o : HO} (s : Same (L2.upd G D o) G2) (g : G D = none) : ∃ G3 : Hp, G3 D = none ∧ Same G G3 ∧ G2 = L2.upd G3 D o := by
  refine ⟨fun b => if b = D then none else G2 b, by simp, fun b u e => ?_, ?_⟩
  · have hb : b ≠ D := fun q => by rw [q, g] at e; cases e
    show (if b = D then none else G2 b) = some u
    rw [if_neg hb]
    exact s b u (by rw [upd_ne hb]; exact e)
  · funext b
    by_cases hb : b = D
    · subst hb
      rw [upd_same]
      exact s b o upd_same
    · rw [upd_ne hb]
      show G2 b = if b = D then none else G2 b
      rw [if_neg hb]
/-! ### tests that are known -/
theorem if_t {c : Bool} {A B : Prop} (hc : c = true) (h : A) : if c = true then A else B := by rw [if_pos hc]; exact h
theorem if_f {c : Bool} {A B : Prop} (hc : c = false) (h : B) : if c = true then A else B := by rw [hc, if_neg Bool.false_ne_true]; exact h
theorem if_b {c : Bool} {A B : Prop} (h1 : c = true → A) (h2 : c = false → B) : if c = true then A else B := by
  cases c with
  | true => exact iteT (h1 rfl)
  | false => exact iteF (h2 rfl)
theorem at_int {ns : List Int} {j : Nat} (h : j < ns.length) : atI (ns.map V.int) (j : Int) = some (.int ns[j]) := atI_nat (by rw [List.getElem?_map, List.getElem?_eq_getElem h]; rfl)
/-- room, and no repr is going on -/
structure RoomG (k : Nat) (A : Around) : Prop extends Room k A where
  gd : A.guards = some []
theorem RoomG.mono {j k : Nat} {A : Around} (r : RoomG k A) (h : j ≤ k) : RoomG j A := ⟨r.toRoom.mono h, r.gd⟩
theorem RoomG.deeper {k : Nat} {A : Around} (r : RoomG (k + 1) A) (env : Env) : RoomG k (A.deeper env) := ⟨r.toRoom.deeper env, r.gd⟩
theorem make_guards {A : Around} {C : Addr} {us : List Value} {kw : List (Str × Value)} : (A.under (.builtin "type.__call__" ⟨.ref C :: us, kw⟩)).guards = A.guards := by
  first
    | rfl
    | simp [Around.under, Code.guards, Code.isGuard, guardIds, pushGuards]
theorem RoomG.make {k : Nat} {A : Around} (r : RoomG (k + 1) A) (C : Addr) (us : List Value) (kw : List (Str × Value)) : RoomG k (A.under (.builtin "type.__call__" ⟨.ref C :: us, kw⟩)) :=
  ⟨r.toRoom.make C us kw, by rw [make_guards]; exact r.gd⟩
/-- the def at f keeps the promise sp, wherever no repr is going on -/
structure FnG (P : Program) (w : World) (K : PySem.W.Frag) (mg : Str → Option Value) (base : Heap) (CX : CXT) (k : Nat) (f : Addr) (fd : FuncData) (ps : List Str) (sp : Sp) : Prop where
  len : ∀ vs H Q E, sp vs H Q E → vs.length = ps.length
  run : ∀ (A : Around) (outer : List Env) (s : Shared) (H : Hp) (args : Args) (us : List Value) (vs : List V) (Q : VK) (E : XK), RoomG k A → Env0 P w K mg base A outer s H → BindsTo s fd args (ps.zip us) → Vals vs us → sp vs H Q E →
    codeAny (model P w) A (.call (.ref f) args) (CR CX outer P w H s Q E) s
theorem FnG.mono {P : Program} {w : World} {K : PySem.W.Frag} {mg : Str → Option Value} {base : Heap} {CX : CXT} {j k : Nat} {f : Addr} {fd : FuncData} {ps : List Str} {sp : Sp} (F : FnG P w K mg base CX j f fd ps sp) (h : j ≤ k) :
    FnG P w K mg base CX k f fd ps sp := ⟨F.len, fun A outer s H args us vs Q E hr => F.run A outer s H args us vs Q E (hr.mono h)⟩
theorem fnG_of {CX : CXT} {P : Program} {w : World} {K : PySem.W.Frag} {mg : Str → Option Value} {base : Heap} {k : Nat} {f : Addr} {name qual : Str} {params : Arguments} {body : List Stmt} {scope : Scope} {dV kV doc pm cdv ct oc : Value} {an od : Option Addr}
    {osl : Array (Option Value)} {N ps : List Str} {sp : Sp} (lk : K.lookup f = some ⟨oc, od, .func (PySem.W.fnOf name qual params body scope dV kV doc pm an cdv ct), osl⟩) (hcd : PySem.W.codeIn K cdv qual = true) (S : FnScope N ps scope)
    (len : ∀ vs H Q E, sp vs H Q E → vs.length = ps.length)
    (hbody : ∀ (A : Around) (outer : List Env) (s : Shared) (H : Hp) (vs : List V) (Q : VK) (E : XK), RoomG k (A.deeper (envOfC qual scope s.heap.objs.size f cdv)) → sp vs H Q E →
      ∃ t, PSs (cxOf CX P w K mg base N qual scope f cdv A outer s H E) body t ∧ t { nx := fun _ H' => Q .non H', rt := Q } (start N vs) H) :
    FnG P w K mg base CX (k + 1) f (PySem.W.fnOf name qual params body scope dV kV doc pm an cdv ct) ps sp := by
  refine ⟨len, fun A outer s H args us vs Q E hr e0 hb r hsp => ?_⟩
  have hl := len _ _ _ _ hsp
  have KX : K.In s.heap := e0.mod.kin.keeps fun b o e => (e0.bs b o e).1
  have lim : s.heap.NoLimit := e0.mod.nolimit.keeps fun b o e => (e0.bs b o e).1
  have hkind : ∀ y ∈ ps.zip us, scope.names.lookup y.1 = some .local ∨ (scope.names.lookup y.1 = some .cell ∧ ((cellsFrom (s.heap.objs.size + 1) scope.names []).lookup y.1).isSome = true) := fun ⟨n, v⟩ hy => by
    rcases S.par n (List.of_mem_zip hy).1 with q | q
    · exact .inl q
    · exact .inr ⟨q, PySem.W.cellsFrom_some _ _ _ (.inl q)⟩
  refine codeAny_call_function hr.toRoom.depth (KX _ _ lk) rfl S.co S.gen rfl (PySem.W.codeRec_of KX hcd) (hb _ _ _ _ ?_)
  refine wpAny_newFunctionEnv_cells S.kind hkind fun env he s1 x => ?_
  subst he
  refine ⟨lim.keeps x.toInCall.keep, codeAny_func ?_⟩
  obtain ⟨t, ht, hq⟩ := hbody A outer s H vs Q E (hr.deeper _) hsp
  have I : Inv (cxOf CX P w K mg base N qual scope f cdv A outer s H E) [] (start N vs) H s1 := inv_start S hr.hd e0 hl r x
  refine wpAny_mono (ht.run [] s1 (start N vs) H _ I hq) (fun fl s' hs => ?_) fun e s' hs => hs
  have fin : ∀ {σ' : L2.St} {H' : Hp} {v : V} {u : Value}, Inv (cxOf CX P w K mg base N qual scope f cdv A outer s H E) [] σ' H' s' → RelV v u → Q v H' → CE outer P w H s Q u s' :=
    fun {σ' H' v u} J rv q => ⟨v, H', J.os, J.bare, J.base, J.hok, rv, q⟩
  cases fl with
  | ret u =>
    obtain ⟨v, σ', H', J, rv, q⟩ := hs
    exact fin J rv q
  | next =>
    obtain ⟨σ', H', J, q⟩ := hs
    exact fin (v := V.non) (u := Value.none) J rfl q
  | brk =>
    obtain ⟨_, _, _, q⟩ := hs
    exact False.elim q
  | cont =>
    obtain ⟨_, _, _, q⟩ := hs
    exact False.elim q
section
variable {P : Program} {w : World} {K : PySem.W.Frag} {mg : Str → Option Value} {base : Heap}
/-- a def that lets no exception out -/
theorem Fun.okG {x qual : Str} {st : Stmt} {f : Addr} {fd : FuncData} {N ps : List Str} {k : Nat} {sp : Sp} (F : Fun K x qual st f fd) (S : FnScope N ps (defScope st)) (len : ∀ vs H Q E, sp vs H Q E → vs.length = ps.length)
    (hbody : ∀ (cdv : Value) (A : Around) (outer : List Env) (s : Shared) (H : Hp) (vs : List V) (Q : VK) (E : XK), RoomG k (A.deeper (envOfC qual (defScope st) s.heap.objs.size f cdv)) → sp vs H Q E →
      ∃ t, PSs (cxOf CX0 P w K mg base N qual (defScope st) f cdv A outer s H E).nox (defBody st) t ∧ t { nx := fun _ H' => Q .non H', rt := Q } (start N vs) H) : FnG P w K mg base CX0 (k + 1) f fd ps sp := by
  obtain ⟨oc, od, kV, doc, pm, an, cdv, ct, osl, rfl, lk, hcd⟩ := F.ex
  refine fnG_of lk hcd S len fun A outer s H vs Q E hr hsp => ?_
  obtain ⟨t, h, q⟩ := hbody cdv A outer s H vs Q E hr hsp
  exact ⟨t, h.nox, q⟩
/-- .. that may raise -/
theorem Fun.okGX {x qual : Str} {st : Stmt} {f : Addr} {fd : FuncData} {N ps : List Str} {k : Nat} {sp : Sp} (F : Fun K x qual st f fd) (S : FnScope N ps (defScope st)) (len : ∀ vs H Q E, sp vs H Q E → vs.length = ps.length)
    (hbody : ∀ (cdv : Value) (A : Around) (outer : List Env) (s : Shared) (H : Hp) (vs : List V) (Q : VK) (E : XK), RoomG k (A.deeper (envOfC qual (defScope st) s.heap.objs.size f cdv)) → sp vs H Q E →
      ∃ t, PSs (cxOf (L2.CX P w) P w K mg base N qual (defScope st) f cdv A outer s H E) (defBody st) t ∧ t { nx := fun _ H' => Q .non H', rt := Q } (start N vs) H) : FnG P w K mg base (L2.CX P w) (k + 1) f fd ps sp := by
  obtain ⟨oc, od, kV, doc, pm, an, cdv, ct, osl, rfl, lk, hcd⟩ := F.ex
  exact fnG_of lk hcd S len fun A outer s H vs Q E hr hsp => hbody cdv A outer s H vs Q E hr hsp
end
/-! ### a def of the text's top -/
/-- the def st of the name x, as the top has left it: its parameters ps, its defaults ds -/
structure DefT (K : PySem.W.Frag) (mg : Str → Option Value) (x : Str) (st : Stmt) (ps : List Str) (ds : List Value) : Prop where
  ex : ∃ (f : Addr) (fd : FuncData), Fun K x x st f fd ∧ mg x = some (.ref f) ∧ Binds K fd ps ds
/-- the promise of the def x -/
structure CalG (P : Program) (w : World) (K : PySem.W.Frag) (mg : Str → Option Value) (base : Heap) (CX : CXT) (k : Nat) (x : Str) (sp : Sp) (dvs : List V) : Prop where
  ex : ∃ (f : Addr) (fd : FuncData) (ps : List Str) (ds : List Value), FnG P w K mg base CX k f fd ps sp ∧ mg x = some (.ref f) ∧ PySem.W.keepIn K (.ref f) = true ∧ Binds K fd ps ds ∧ Vals dvs ds
/-- of the method m of the class at C -/
structure MetG (P : Program) (w : World) (K : PySem.W.Frag) (mg : Str → Option Value) (base : Heap) (CX : CXT) (k : Nat) (C : Addr) (m : Str) (sp : Sp) (dvs : List V) : Prop where
  ex : ∃ (f : Addr) (fd : FuncData) (ps : List Str) (ds : List Value), Cls K C ∧ Meth K C m f ∧ FnG P w K mg base CX k f fd ps sp ∧ Binds K fd ps ds ∧ Vals dvs ds
/-- of the making of the class x at C -/
structure MakG (P : Program) (w : World) (K : PySem.W.Frag) (mg : Str → Option Value) (base : Heap) (CX : CXT) (k : Nat) (x : Str) (C : Addr) (sp : Sp) (dvs : List V) : Prop where
  ex : ∃ (f : Addr) (fd : FuncData) (ps : List Str) (ds : List Value), Mk K C f ∧ FnG P w K mg base CX k f fd ps sp ∧ mg x = some (.ref C) ∧ Binds K fd ps ds ∧ Vals dvs ds
section
variable {P : Program} {w : World} {K : PySem.W.Frag} {mg : Str → Option Value} {base : Heap}
theorem DefT.cal {x : Str} {st : Stmt} {N ps : List Str} {ds : List Value} {dvs : List V} {k : Nat} {sp : Sp} (D : DefT K mg x st ps ds) (d : Vals dvs ds) (S : FnScope N ps (defScope st)) (len : ∀ vs H Q E, sp vs H Q E → vs.length = ps.length)
    (hbody : ∀ (f : Addr) (cdv : Value) (A : Around) (outer : List Env) (s : Shared) (H : Hp) (vs : List V) (Q : VK) (E : XK), RoomG k (A.deeper (envOfC x (defScope st) s.heap.objs.size f cdv)) → sp vs H Q E →
      ∃ t, PSs (cxOf CX0 P w K mg base N x (defScope st) f cdv A outer s H E).nox (defBody st) t ∧ t { nx := fun _ H' => Q .non H', rt := Q } (start N vs) H) : CalG P w K mg base CX0 (k + 1) x sp dvs := by
  obtain ⟨f, fd, F, hm, b⟩ := D.ex
  exact ⟨f, fd, ps, ds, Fun.okG F S len (hbody f), hm, F.kp, b, d⟩
theorem DefT.calX {x : Str} {st : Stmt} {N ps : List Str} {ds : List Value} {dvs : List V} {k : Nat} {sp : Sp} (D : DefT K mg x st ps ds) (d : Vals dvs ds) (S : FnScope N ps (defScope st)) (len : ∀ vs H Q E, sp vs H Q E → vs.length = ps.length)
    (hbody : ∀ (f : Addr) (cdv : Value) (A : Around) (outer : List Env) (s : Shared) (H : Hp) (vs : List V) (Q : VK) (E : XK), RoomG k (A.deeper (envOfC x (defScope st) s.heap.objs.size f cdv)) → sp vs H Q E →
      ∃ t, PSs (cxOf (L2.CX P w) P w K mg base N x (defScope st) f cdv A outer s H E) (defBody st) t ∧ t { nx := fun _ H' => Q .non H', rt := Q } (start N vs) H) : CalG P w K mg base (L2.CX P w) (k + 1) x sp dvs := by
  obtain ⟨f, fd, F, hm, b⟩ := D.ex
  exact ⟨f, fd, ps, ds, Fun.okGX F S len (hbody f), hm, F.kp, b, d⟩
end
/-! ### the calls -/
def tCallE (sp : Sp) (dvs : List V) (E : L2.St → XK) (t : TA) : TE := fun σ H Q => t σ H fun vs H1 => sp (vs ++ dvs) H1 Q (E σ)
def tMethE (C : Addr) (m : Str) (sp : Sp) (dvs : List V) (E : L2.St → XK) (ta : TE) (t : TA) : TE := fun σ H Q => ta σ H fun x H1 => ∃ a dx fs, x = .ref a ∧ H1 a = some (.ins C dx fs) ∧ fs.lookup m = none ∧
  t σ H1 fun vs H2 => sp (x :: (vs ++ dvs)) H2 Q (E σ)
def tMakeE (C : Addr) (sp : Sp) (dvs : List V) (E : L2.St → XK) (t : TA) : TE := fun σ H Q => t σ H fun vs H1 => ∀ x dx, H1 x = none → H1 dx = none → dx ≠ x →
  sp (.ref x :: (vs ++ dvs)) (L2.upd (L2.upd H1 dx (.own x)) x (.ins C dx [])) (fun v H2 => v = .non ∧ Q (.ref x) H2) (E σ)
abbrev E00 : L2.St → XK := fun _ => E0
theorem pass00 {X : Cx} : ∀ σ : L2.St, PassesAt CX0 X σ (E00 σ) := fun _ _ _ _ _ _ _ h => h.elim
theorem passLL {X : Cx} : ∀ σ : L2.St, PassesAt (L2.CX X.prog X.w) X σ (E00 σ) := fun _ pins H s e s' I h => by
  obtain ⟨_, _, _, _, _, _, _, _, _, _, _, _, z⟩ := h
  exact z.elim
section
variable {X : Cx} {CX : CXT} {k j : Nat} {f C : Addr} {fd : FuncData} {ps : List Str} {sp : Sp} {dvs : List V} {ds : List Value} {E : L2.St → XK} {x m : Str} {p pos apos : Pos} {e o : Expr} {es : List Expr} {ta : TE} {t : TA}
theorem run_fnG {pins : List (Addr × Obj)} {σ : L2.St} {H : Hp} {s : Shared} {Q : VK} {us : List Value} {vs : List V} (F : FnG X.prog X.w X.K X.mg X.base CX k f fd ps sp) (hr : RoomG k X.A) (hb : Binds X.K fd ps ds) (hd : Vals dvs ds) (hx : PassesAt CX X σ (E σ))
    (I : Inv X pins σ H s) (r : Vals vs us) (h : sp (vs ++ dvs) H Q (E σ)) : wpAny (model X.prog X.w) X.A (call (.ref f) us) (EP X pins σ Q) X.xe s := by
  have r2 : Vals (vs ++ dvs) (us ++ ds) := r.append hd
  have hl : (us ++ ds).length = ps.length := by rw [← r2.length]; exact F.len _ _ _ _ h
  refine wpAny_call (codeAny_mono (F.run X.A X.stack s H ⟨us, []⟩ (us ++ ds) (vs ++ dvs) Q (E σ) hr I.env0 (hb s us I.kIn hl) r2 h) fun r s' hq => ?_)
  cases r with
  | error e => exact hx pins H s e s' I hq
  | ok fl =>
    cases fl with
    | ret u => exact I.after hq
    | next => exact False.elim hq
    | brk => exact False.elim hq
    | cont => exact False.elim hq
/-- f(e, ..) -/
theorem pe_gE (c : CalG X.prog X.w X.K X.mg X.base CX k x sp dvs) (hr : RoomG j X.A) (hk : k ≤ j) (hg : Gl X x) (hx : ∀ σ, PassesAt CX X σ (E σ)) (ha : PA X (e :: es) t)
    (hdb : (x == ("__debug__" : Str)) = false := by decide) (he : starEach (e :: es) X.env = (false, eval e X.env) :: starEach es X.env := by rfl) (hpl : (backTo pos (starEach es X.env)).any (·.1) = false := by rfl) :
    PE X (.Call (.Name x p) (e :: es) [] pos) (tCallE sp dvs E t) := by
  obtain ⟨f, fd, ps, ds, F, hm, kp, b, d⟩ := c.ex
  refine ⟨fun pins s σ H Q I h => ?_⟩
  refine wpAny_Call_Name_kw (ld_glob I hg hm ?_ hdb)
  refine PySem.W.callWith_K (h₀ := X.base) I.ok.mod.kin kp (thn (ha.run pos pins s σ H _ I h) fun us s1 ⟨vs, H1, I1, r, q⟩ => ⟨I1.kIn, ?_⟩) he hpl
  exact run_fnG F (hr.mono hk) b d (hx σ) I1 r q
theorem pe_gE0 (c : CalG X.prog X.w X.K X.mg X.base CX k x sp dvs) (hr : RoomG j X.A) (hk : k ≤ j) (hg : Gl X x) (hx : ∀ σ, PassesAt CX X σ (E σ))
    (hdb : (x == ("__debug__" : Str)) = false := by decide) :
    PE X (.Call (.Name x p) [] [] pos) (tCallE sp dvs E tNil) := by
  obtain ⟨f, fd, ps, ds, F, hm, kp, b, d⟩ := c.ex
  refine ⟨fun pins s σ H Q I h => ?_⟩
  refine wpAny_Call_Name_kw (ld_glob I hg hm ?_ hdb)
  exact PySem.W.callWith_K0 I.kIn kp (run_fnG (us := []) F (hr.mono hk) b d (hx σ) I .nil h)
/-- .. of a def that raises nothing -/
theorem pe_g (c : CalG X.prog X.w X.K X.mg X.base CX0 k x sp dvs) (hr : RoomG j X.A) (hk : k ≤ j) (hg : Gl X x) (ha : PA X (e :: es) t)
    (hdb : (x == ("__debug__" : Str)) = false := by decide) (he : starEach (e :: es) X.env = (false, eval e X.env) :: starEach es X.env := by rfl) (hpl : (backTo pos (starEach es X.env)).any (·.1) = false := by rfl) :
    PE X (.Call (.Name x p) (e :: es) [] pos) (tCallE sp dvs E00 t) := pe_gE c hr hk hg pass00 ha hdb he hpl
/-- .. of a def that may raise, where it does not -/
theorem pe_gL (c : CalG X.prog X.w X.K X.mg X.base (L2.CX X.prog X.w) k x sp dvs) (hr : RoomG j X.A) (hk : k ≤ j) (hg : Gl X x) (ha : PA X (e :: es) t)
    (hdb : (x == ("__debug__" : Str)) = false := by decide) (he : starEach (e :: es) X.env = (false, eval e X.env) :: starEach es X.env := by rfl) (hpl : (backTo pos (starEach es X.env)).any (·.1) = false := by rfl) :
    PE X (.Call (.Name x p) (e :: es) [] pos) (tCallE sp dvs E00 t) := pe_gE c hr hk hg passLL ha hdb he hpl
/-- o.m(e, ..) -/
theorem pe_mE {pl : Sem Bool} (c : MetG X.prog X.w X.K X.mg X.base CX k C m sp dvs) (hr : RoomG j X.A) (hk : k ≤ j) (hx : ∀ σ, PassesAt CX X σ (E σ)) (he : PE X o ta) (ha : PA X (e :: es) t)
    (hst : starEach (e :: es) X.env = (false, eval e X.env) :: starEach es X.env := by rfl) (hpl : (backTo pos (starEach es X.env)).any (·.1) = false := by rfl)
    (ht : eval (.Call (.Attribute o m apos) (e :: es) [] pos) X.env = (do
      let ov ← eval o X.env
      standAt apos.atName
      let (f, first) ← holding [ov] (getMethod ov m pl)
      callWith pos f first (backTo pos (starEach (e :: es) X.env)) (backToKw pos (keywordEach [] X.env))) := by rfl) :
    PE X (.Call (.Attribute o m apos) (e :: es) [] pos) (tMethE C m sp dvs E ta t) := by
  obtain ⟨f, fd, ps, ds, cl, hm, F, b, d⟩ := c.ex
  refine ⟨fun pins s σ H Q I h => ?_⟩
  refine PySem.W.methodCall_KW (pl := pl) (thn (he.run pins s σ H _ I h) fun u s1 ⟨x, H1, I1, rx, a, dx, fs, ex, ea, l, q⟩ => ?_) ht
  subst ex
  obtain rfl : u = Value.ref a := rx
  refine getmeth_ok I1 ea cl hm l ?_
  refine PySem.W.callWith_K (first := [.ref a]) (h₀ := X.base) I.ok.mod.kin hm.kp (thn (ha.run pos pins s1 σ H1 _ I1 q) fun us s2 ⟨vs, H2, I2, r, q2⟩ => ⟨I2.kIn, ?_⟩) hst hpl
  exact run_fnG (us := .ref a :: us) (vs := .ref a :: vs) F (hr.mono hk) b d (hx σ) I2 (.cons rfl r) q2
theorem pe_mE0 {pl : Sem Bool} (c : MetG X.prog X.w X.K X.mg X.base CX k C m sp dvs) (hr : RoomG j X.A) (hk : k ≤ j) (hx : ∀ σ, PassesAt CX X σ (E σ)) (he : PE X o ta)
    (ht : eval (.Call (.Attribute o m apos) [] [] pos) X.env = (do
      let ov ← eval o X.env
      standAt apos.atName
      let (f, first) ← holding [ov] (getMethod ov m pl)
      callWith pos f first (backTo pos (starEach [] X.env)) (backToKw pos (keywordEach [] X.env))) := by rfl) :
    PE X (.Call (.Attribute o m apos) [] [] pos) (tMethE C m sp dvs E ta tNil) := by
  obtain ⟨f, fd, ps, ds, cl, hm, F, b, d⟩ := c.ex
  refine ⟨fun pins s σ H Q I h => ?_⟩
  refine PySem.W.methodCall_KW (pl := pl) (thn (he.run pins s σ H _ I h) fun u s1 ⟨x, H1, I1, rx, a, dx, fs, ex, ea, l, q⟩ => ?_) ht
  subst ex
  obtain rfl : u = Value.ref a := rx
  refine getmeth_ok I1 ea cl hm l ?_
  exact PySem.W.callWith_K0 (first := [.ref a]) I1.kIn hm.kp (run_fnG (us := [.ref a]) (vs := [.ref a]) F (hr.mono hk) b d (hx σ) I1 (.cons rfl .nil) q)
/-- C(e, ..) -/
theorem run_makeG {pins : List (Addr × Obj)} {σ : L2.St} {H : Hp} {s : Shared} {Q : VK} {us : List Value} {vs : List V} (M : Mk X.K C f) (F : FnG X.prog X.w X.K X.mg X.base CX k f fd ps sp) (hr : RoomG (k + 1) X.A) (hb : Binds X.K fd ps ds) (hd : Vals dvs ds)
    (hx : ∀ σ, PassesAt CX X σ (E σ)) (I : Inv X pins σ H s) (r : Vals vs us)
    (h : ∀ x dx, H x = none → H dx = none → dx ≠ x → sp (.ref x :: (vs ++ dvs)) (L2.upd (L2.upd H dx (.own x)) x (.ins C dx [])) (fun v H2 => v = .non ∧ Q (.ref x) H2) (E σ)) :
    wpAny (model X.prog X.w) X.A (call (.ref C) us) (EP X pins σ Q) X.xe s := by
  have hq := h (s.heap.objs.size + 1) s.heap.objs.size (I.hok.fresh (Nat.le_succ _)) (I.hok.fresh (Nat.le_refl _)) (Nat.ne_of_lt (Nat.lt_succ_self _))
  have I2 := Inv.made (C := C) I
  have r2 : Vals (V.ref (s.heap.objs.size + 1) :: (vs ++ dvs)) (Value.ref (s.heap.objs.size + 1) :: (us ++ ds)) := .cons rfl (r.append hd)
  have hl : (Value.ref (s.heap.objs.size + 1) :: us ++ ds).length = ps.length := by
    have e := r2.length
    rw [F.len _ _ _ _ hq] at e
    exact e.symm
  refine wpAny_call (make_map (f := f) I.kIn M.makes M.init (beq_iff_eq.mp M.fn) (codeAny_mono (F.run _ X.stack _ _ ⟨Value.ref (s.heap.objs.size + 1) :: us, []⟩ (Value.ref (s.heap.objs.size + 1) :: (us ++ ds)) _ _ (E σ) (hr.make C us [])
    (I2.env0.make C us []) (hb _ (Value.ref (s.heap.objs.size + 1) :: us) I2.kIn hl) r2 hq) fun r s' hq' => ?_))
  cases r with
  | error e => exact hx σ pins _ _ e s' I2 hq'
  | ok fl =>
    cases fl with
    | ret u =>
      obtain ⟨v, H', I3, rv, ev, q3⟩ := I2.after hq'
      subst ev
      exact ⟨rv, ⟨V.ref (s.heap.objs.size + 1), H', I3, rfl, q3⟩⟩
    | next => exact False.elim hq'
    | brk => exact False.elim hq'
    | cont => exact False.elim hq'
theorem pe_kE (c : MakG X.prog X.w X.K X.mg X.base CX k x C sp dvs) (hr : RoomG j X.A) (hk : k + 1 ≤ j) (hg : Gl X x) (hx : ∀ σ, PassesAt CX X σ (E σ))
    (ha : PA X (e :: es) t) (hdb : (x == ("__debug__" : Str)) = false := by decide) (he : starEach (e :: es) X.env = (false, eval e X.env) :: starEach es X.env := by rfl) (hpl : (backTo pos (starEach es X.env)).any (·.1) = false := by rfl) :
    PE X (.Call (.Name x p) (e :: es) [] pos) (tMakeE C sp dvs E t) := by
  obtain ⟨f, fd, ps, ds, M, F, hm, b, d⟩ := c.ex
  refine ⟨fun pins s σ H Q I h => ?_⟩
  refine wpAny_Call_Name_kw (ld_glob I hg hm ?_ hdb)
  refine PySem.W.callWith_K (h₀ := X.base) I.ok.mod.kin M.kp (thn (ha.run pos pins s σ H _ I h) fun us s1 ⟨vs, H1, I1, r, q⟩ => ⟨I1.kIn, ?_⟩) he hpl
  exact run_makeG M F (hr.mono hk) b d hx I1 r q
theorem pe_kE0 (c : MakG X.prog X.w X.K X.mg X.base CX k x C sp dvs) (hr : RoomG j X.A) (hk : k + 1 ≤ j) (hg : Gl X x) (hx : ∀ σ, PassesAt CX X σ (E σ))
    (hdb : (x == ("__debug__" : Str)) = false := by decide) : PE X (.Call (.Name x p) [] [] pos) (tMakeE C sp dvs E tNil) := by
  obtain ⟨f, fd, ps, ds, M, F, hm, b, d⟩ := c.ex
  refine ⟨fun pins s σ H Q I h => ?_⟩
  refine wpAny_Call_Name_kw (ld_glob I hg hm ?_ hdb)
  exact PySem.W.callWith_K0 I.kIn M.kp (run_makeG (us := []) M F (hr.mono hk) b d hx I .nil h)
end
/-! ### the law's own end -/
theorem law_callG {P : Program} {w : World} {K : PySem.W.Frag} {mg mb : Str → Option Value} {k : Nat} {fa a : Addr} {fd : FuncData} {x : Str} {sp : Sp} {s₁ : Shared} {vs : List Value} {ns : List Int}
    (KX : K.In s₁.heap) (hns : s₁.heap.Ns mainGlobals mg) (hb : s₁.heap.Ns builtinsNs mb) (hbb : ∀ x : Str, x ≠ "__name__" → mb x = bootBuiltins x) (hlim : s₁.heap.NoLimit) (hg : s₁.gens = #[])
    (ha : s₁.heap.get? a = some { cls := .type "list", data := .seq vs.toArray }) (hi : IntsAre vs ns) (hl : ns.length ≤ sizeLine) (hr : RoomG k callerA)
    (F : ∀ base : Heap, K.In base → base.Ns mainGlobals mg → FnG P w K mg base CX0 k fa fd [x] sp) (hbind : ∀ (s : Shared) (u : Value), BindsTo s fd ⟨[u], []⟩ [(x, u)])
    (hsp : ∀ H : Hp, Only H → SqL K H a (ns.map V.int) → sp [.ref a] H (fun v _ => v = .bl true) fun _ _ _ => False) :
    codeAny (model P w) callerA (.call (.ref fa) ⟨[.ref a], []⟩) (fun r s' => r = .ok (.ret (.bool true)) ∧ OldK s₁.heap s'.heap ∧ s'.os = s₁.os ∧ AllBare s'.gens) s₁ := by
  have rv := vals_ints hi
  have lenV := hi.length
  have core : ∀ H : Hp, Only H → SqL K H a (ns.map V.int) → HOk P w H s₁.heap → (∀ b, H b ≠ none → b = a) → (H a ≠ none → K.lookup a = none) →
      codeAny (model P w) callerA (.call (.ref fa) ⟨[.ref a], []⟩) (fun r s' => r = .ok (.ret (.bool true)) ∧ OldK s₁.heap s'.heap ∧ s'.os = s₁.os ∧ AllBare s'.gens) s₁ := by
    intro H hO hS hok hA hK
    have base_of : ∀ {b : Addr} {o : Obj}, s₁.heap.get? b = some o → H b = none → (hidT s₁.heap H).get? b = some o := fun e n => hidT_get e n
    have noA : ∀ {b : Addr} {o : Obj} {es : Array DictEntry} {ep : Nat}, s₁.heap.get? b = some o → o.data = .dict es ep → H b = none := fun {b o es ep} e d => by
      cases q : H b with
      | none => rfl
      | some u =>
        have e' : b = a := hA b (by rw [q]; simp)
        subst e'
        rw [ha] at e; cases e
        have d' : Data.seq vs.toArray _ = Data.dict es ep := d
        cases d'
    have nsK : ∀ {b : Addr} {m : Str → Option Value}, s₁.heap.Ns b m → (hidT s₁.heap H).Ns b m := fun {b m} ⟨o, es, ep, e, d, r⟩ => ⟨o, es, ep, base_of e (noA e d), d, r⟩
    have hKb : K.In (hidT s₁.heap H) := fun b o e => base_of (KX b o e) (by
      cases q : H b with
      | none => rfl
      | some u =>
        have e' : b = a := hA b (by rw [q]; simp)
        subst e'
        rw [hK (by rw [q]; simp)] at e; cases e)
    have hM : Mod K mg (hidT s₁.heap H) := ⟨hKb, nsK hns, ⟨mb, nsK hb, hbb⟩, let ⟨mc, h1, h2⟩ := hlim; ⟨mc, nsK h1, h2⟩⟩
    have e0 : Env0 P w K mg (hidT s₁.heap H) callerA [] s₁ H := ⟨rfl, hM, fun b o e => of_hidT e, Nat.le_of_eq (hidT_size _ _), trivial, fun b hb => absurd (show b ∈ ([] : List Addr) from hb) (by simp), hok, .of_eq hg⟩
    refine codeAny_mono ((F _ hKb (nsK hns)).run callerA [] s₁ H ⟨[.ref a], []⟩ [.ref a] [.ref a] _ _ hr e0 (hbind s₁ (.ref a)) (.cons rfl .nil) (hsp H hO hS)) fun r s' h => ?_
    cases r with
    | error e => exact False.elim h
    | ok fl =>
      cases fl with
      | next => exact False.elim h
      | brk => exact False.elim h
      | cont => exact False.elim h
      | ret u =>
        obtain ⟨v, H', os, bare, un, hok', r', q⟩ := h
        have q' : v = .bl true := q
        subst q'
        obtain rfl : u = Value.bool true := r'
        refine ⟨rfl, OldK.of_keep fun b o e => ?_, os, bare⟩
        cases q : H b with
        | none => exact un.keep b o e q (by intro z; exact absurd (show b ∈ ([] : List Addr) from z) (by simp)) (by simp)
        | some u =>
          rcases hO b with z | ⟨ob, xs, z⟩
          · rw [q] at z; cases z
          · have z2 := un.frzs b ob _ z
            obtain ⟨e1, _⟩ := hok b _ z
            obtain ⟨e2, _⟩ := hok' b _ z2
            rw [e] at e1; cases e1
            exact e2
  cases hk : K.lookup a with
  | some o =>
    have e := KX a o hk
    rw [ha] at e
    cases e
    refine core (fun _ => none) (fun _ => .inl rfl) (.inr ⟨_, vs.toArray, _, hk, rfl, rfl, rfl, by rw [List.size_toArray, lenV]; exact hl, by simpa using rv⟩) (fun b u z => by have z' : (none : Option HO) = some u := z; cases z') (fun b z => absurd rfl z) fun z => absurd rfl z
  | none =>
    refine core (fun b => if b = a then some (.frz { cls := .type "list", data := .seq vs.toArray } (.lst (ns.map V.int))) else none) (fun b => ?_) (.inl (.inr ⟨{ cls := .type "list", data := .seq vs.toArray }, if_pos rfl⟩)) (fun b u z => ?_) (fun b z => ?_) fun _ => hk
    · by_cases hb : b = a
      · exact .inr ⟨_, _, if_pos hb⟩
      · exact .inl (if_neg hb)
    · by_cases hb : b = a
      · have z' := (if_pos hb).symm.trans z
        cases z'
        subst hb
        exact ⟨ha, by rw [List.length_map]; exact hl, vs, _, rv, ha⟩
      · have z' := (if_neg hb).symm.trans z
        cases z'
    · by_cases hb : b = a
      · exact hb
      · exact absurd (if_neg hb) z
theorem walk_ofG {l : PySem.W.OpenLaw} {n k : Nat} {q : Program} {loose : List Str} {XP : (Str → Option Value) → Heap → Prop} {YP : World → Heap → Prop} {d : DefRec} {K : Params → PySem.W.Frag} {sp : World → Sp} {x : Str}
    (hn : l.most = some n) (hn2 : n ≤ sizeLine) (hdf : d.params.defaults = []) (hr : RoomG k callerA)
    (hY : ∀ (w : World) (h : Heap), YP w h → (K w.params).In h)
    (F : ∀ (w : World) (mg : Str → Option Value) (fa : Addr) (h : Heap), (K w.params).In h → h.Ns mainGlobals mg → mg d.name = some (.ref fa) →
      ∃ fd : FuncData, (∀ (s : Shared) (u : Value), BindsTo s fd ⟨[u], []⟩ [(x, u)]) ∧
        ∀ base : Heap, (K w.params).In base → base.Ns mainGlobals mg → FnG l.prog w (K w.params) mg base CX0 k fa fd [x] (sp w))
    (hsp : ∀ (w : World) (H : Hp) (a : Addr) (ns : List Int), ns.length ≤ n → Only H → SqL (K w.params) H a (ns.map V.int) → sp w [.ref a] H (fun v _ => v = .bl true) fun _ _ _ => False) :
    PySem.W.WalkO q loose XP YP l.row.toRowW d [] (fun f vs => PySem.call f vs) := by
  refine Att.attach_call hn hdf fun w s₀ s₁ mg mb fa o pm cd doc a vs ns G Y ho hd hcd hmg hobj hints hlen hg => ?_
  have KX := hY w _ Y
  obtain ⟨fd, hb, hF⟩ := F w mg fa _ KX G.T.g hmg
  exact law_callG KX G.T.g G.T.b G.T.builtins G.T.nolimit hg hobj hints (Nat.le_trans hlen hn2) hr hF hb (fun H hO hS => hsp w H a ns hlen hO hS)
/-! ### sizes -/
theorem sz_rfl {n : Nat} (h : Nat.ble n 1000 = true) : n ≤ sizeLine := Nat.le_trans (Nat.le_of_ble_eq_true h) (by decide)
theorem sz_le {n m : Nat} (h : n ≤ m) (h2 : Nat.ble m 16777216 = true) : n ≤ sizeLine := Nat.le_trans h (Nat.le_trans (Nat.le_of_ble_eq_true h2) (by decide))
theorem sz_lt {n m : Nat} (h : n ≤ m) (h2 : Nat.ble m 16777215 = true) : n < sizeLine := Nat.lt_of_le_of_lt h (Nat.lt_of_le_of_lt (Nat.le_of_ble_eq_true h2) (by decide))
/-! ### comprehensions, what they ask -/
abbrev LcG (J : It) (g : TG) (tt : TT) (te : TE) (vs : List Nat) (σ : L2.St) (H1 : Hp) (D : Addr) (Qd : Hp → Prop) : Prop :=
  ∃ W : Nat → Nat → Hp → Prop, (∃ m, W 0 m (L2.upd H1 D (.lst []))) ∧ ∀ i m H, W i m H →
    (J.stop i H ∧ Qd H) ∨ (J.go i H ∧ ∃ Nx : Hp → Prop, (∀ H', Nx H' → ∃ m', m' < m ∧ W (i + 1) m' H') ∧ ∀ x H', J.yld i H x H' → g x (wipe σ vs) H' fun σ2 H2 => wipe σ2 vs = wipe σ vs ∧ tt σ2 H2 fun b H3 =>
      if b = true then te σ2 H3 fun y H4 => ∃ acc, H4 D = some (.lst acc) ∧ acc.length < sizeLine ∧ Nx (L2.upd H4 D (.lst (acc ++ [y]))) else Nx H3)
theorem wipe_set1 (σ : L2.St) (j : Nat) (o : Option V) : wipe ((wipe σ [j]).set j o) [j] = wipe σ [j] := by
  show ((σ.set j none).set j o).set j none = σ.set j none
  rw [List.set_set, List.set_set]
theorem same_mut {H H' : Hp} {D : Addr} {o : HO} (s : Same H H') (h : H D = none) : Same H (L2.upd H' D o) := same_new s h
/-- [f(c) for c in x], x a text, f a truth -/
theorem lc_strB {x : Str} {j : Nat} {te : TE} {σ : L2.St} {H1 : Hp} {D : Addr} {Qd : Hp → Prop} (f : Nat → Bool) (hx : x.cps.size < sizeLine)
    (he : ∀ (c : Nat) (H' : Hp) (Q' : VK), c ∈ x.cps.toList → Q' (.bl (f c)) H' → te ((wipe σ [j]).set j (some (.str ⟨#[c]⟩))) H' Q') (hd : Qd (L2.upd H1 D (.lst ((x.cps.toList.map f).map V.bl)))) :
    LcG (Its x) (gName j) tYes te [j] σ H1 D Qd := by
  refine lc_it walk_str (fun i H => H = L2.upd H1 D (.lst (((x.cps.toList.take i).map f).map V.bl))) rfl (fun _ _ _ _ => trivial) ?_ (fun H e => ?_)
  · rintro i v H H' hi rfl ⟨rfl, c, hc, rfl⟩
    refine ⟨wipe_set1 _ _ _, ?_⟩
    have hm : c ∈ x.cps.toList := by
      obtain ⟨h1, h2⟩ := Array.getElem?_eq_some_iff.mp hc
      rw [← h2]
      exact Array.mem_toList_iff.mpr (Array.getElem_mem h1)
    refine he c _ _ hm ⟨_, upd_same, ?_, ?_⟩
    · rw [List.length_map, List.length_map, List.length_take]
      omega
    · rw [upd_upd]
      have e : x.cps.toList.take (i + 1) = x.cps.toList.take i ++ [c] := by
        rw [List.take_succ, Array.getElem?_toList, hc]
        rfl
      rw [e, List.map_append, List.map_append]
      rfl
  · rw [e]
    have e2 : x.cps.toList.take x.cps.size = x.cps.toList := List.take_of_length_le (by simp)
    rw [e2]
    exact hd
/-- a comprehension over a range that may change the heap: an invariant over the turn, what is made so far, and the heap -/
theorem lc_rangeI {lo : Int} {n j : Nat} {te : TE} {σ : L2.St} {H1 : Hp} {D : Addr} {Qd : Hp → Prop} (Pv : Nat → List V → Hp → Prop) (h0 : Pv 0 [] (L2.upd H1 D (.lst []))) (hn : n < 16777216)
    (hs : ∀ i acc H (Q' : VK), i < n → acc.length = i → H D = some (.lst acc) → Pv i acc H → (∀ y H4, H4 D = some (.lst acc) → Pv (i + 1) (acc ++ [y]) (L2.upd H4 D (.lst (acc ++ [y]))) → Q' y H4) →
      te ((wipe σ [j]).set j (some (.int (lo + i)))) H Q')
    (hd : ∀ acc H, acc.length = n → H D = some (.lst acc) → Pv n acc H → Qd H) :
    LcG (Itr lo n) (gName j) tYes te [j] σ H1 D Qd := by
  refine lc_range (fun i H => ∃ acc, acc.length = i ∧ H D = some (.lst acc) ∧ Pv i acc H) ⟨[], rfl, upd_same, h0⟩ ?_ (fun H ⟨acc, e, hD, h⟩ => hd acc H e hD h)
  rintro i H hi ⟨acc, e, hD, h⟩
  refine ⟨wipe_set1 _ _ _, ?_⟩
  refine hs i acc H _ hi e hD h (fun y H4 q1 q2 => ?_)
  exact ⟨acc, q1, by rw [e]; exact Nat.lt_of_lt_of_le (show i < 16777216 by omega) (by decide), acc ++ [y], by rw [List.length_append, e]; rfl, upd_same, q2⟩
/-! ### what is no text -/
def NotStr (K : PySem.W.Frag) (H : Hp) (v : V) : Prop := ∃ t : String, TyX K H v (.type t) ∧ kitB t "str" = some false
theorem TyX.same {K : PySem.W.Frag} {H H' : Hp} {v : V} {t : String} (s : Same H H') (h : TyX K H v (.type t)) : TyX K H' v (.type t) := by
  cases h with
  | base h =>
    cases h with
    | non => exact .base .non
    | bl x => exact .base (.bl x)
    | int i => exact .base (.int i)
    | str x => exact .base (.str x)
    | flt x => exact .base (.flt x)
    | lst e => exact .base (.lst (s _ _ e))
    | frz e => exact .base (.frz (s _ _ e))
    | tup e => exact .base (.tup (s _ _ e))
    | dK e => exact .base (.dK (s _ _ e))
    | dT e => exact .base (.dT (s _ _ e))
  | byt b => exact .byt b
  | set e => exact .set (s _ _ e)
  | kList e c => exact .kList e c
  | kTuple e c => exact .kTuple e c
  | kDict e c => exact .kDict e c
  | fTuple e => exact .fTuple (s _ _ e)
  | fDict e => exact .fDict (s _ _ e)
theorem NotStr.same {K : PySem.W.Frag} {H H' : Hp} {v : V} (s : Same H H') (h : NotStr K H v) : NotStr K H' v := by
  obtain ⟨t, h, k⟩ := h
  exact ⟨t, TyX.same s h, k⟩
/-- [e for x in range(lo, lo + m)] whose element draws with the pen and makes new objects: c draws a turn -/
theorem lc_rangeP {lo : Int} {m j : Nat} {te : TE} {σ : L2.St} {H1 G : Hp} {D p : Addr} {n : Nat} {Qd : Hp → Prop} (c : Nat) (A : Hp → V → Prop) (mono : ∀ {G1 G2 y}, Same G1 G2 → A G1 y → A G2 y) (h0 : PenG G H1 p n) (hD : H1 D = none) (hm : m < 16777216)
    (hs : ∀ i acc G' H (Q' : VK), i < m → acc.length = i → Same G G' → G' D = none → PenG (L2.upd G' D (.lst acc)) H p (n + i * c) → (∀ y ∈ acc, A G' y) →
      (∀ y G'' H4, Same G' G'' → G'' D = none → A G'' y → PenG (L2.upd G'' D (.lst acc)) H4 p (n + i * c + c) → Q' y H4) →
      te ((wipe σ [j]).set j (some (.int (lo + i)))) H Q')
    (hd : ∀ acc G' H, acc.length = m → Same G G' → G' D = none → (∀ y ∈ acc, A G' y) → PenG (L2.upd G' D (.lst acc)) H p (n + m * c) → Qd H) :
    LcG (Itr lo m) (gName j) tYes te [j] σ H1 D Qd := by
  have gD : G D = none := h0.sub.free hD
  refine lc_rangeI (fun i acc H => ∃ G', Same G G' ∧ G' D = none ∧ (∀ y ∈ acc, A G' y) ∧ PenG (L2.upd G' D (.lst acc)) H p (n + i * c))
    ⟨G, Same.refl G, gD, by simp, by rw [Nat.zero_mul, Nat.add_zero]; exact h0.new hD⟩ hm ?_ ?_
  · rintro i acc H Q' hi hl hDa ⟨G', s, g, hA, hP⟩ k
    refine hs i acc G' H Q' hi hl s g hP hA (fun y G'' H4 s2 g2 ha hP2 => k y H4 (hP2.sub _ _ upd_same) ⟨G'', Same.trans s s2, g2, ?_, ?_⟩)
    · intro z hz
      rcases List.mem_append.mp hz with hz | hz
      · exact mono s2 (hA z hz)
      · rw [List.mem_singleton] at hz
        rw [hz]
        exact ha
    · rw [show n + (i + 1) * c = n + i * c + c by rw [Nat.add_mul, Nat.one_mul, Nat.add_assoc]]
      exact hP2.put
  · rintro acc H hl hDa ⟨G', s, g, hA, hP⟩
    exact hd acc G' H hl s g hA hP
/-! ### texts -/
theorem atI_int {α : Type} {xs : List α} {i : Int} {v : α} (h0 : 0 ≤ i) (h : xs[i.toNat]? = some v) : atI xs i = some v := by
  have e : ((i.toNat : Nat) : Int) = i := Int.toNat_of_nonneg h0
  rw [← e]
  exact atI_nat h
theorem atI_some {α : Type} {xs : List α} {i : Int} (h0 : 0 ≤ i) (h1 : i < xs.length) : ∃ v, atI xs i = some v ∧ v ∈ xs := by
  have hl : i.toNat < xs.length := by omega
  exact ⟨xs[i.toNat], atI_int h0 (List.getElem?_eq_getElem hl), List.getElem_mem hl⟩
theorem tl_join0 : ∀ xs : List Str, TL.tl (Txt.join "" xs) = (xs.map TL.tl).flatten := by
  intro xs
  rw [TL.join_eq]
  have e0 : TL.tl ("" : Str) = [] := by decide +kernel
  induction xs with
  | nil => rfl
  | cons x r ih =>
    cases r with
    | nil => simp [Str.join]
    | cons y r =>
      show TL.tl (x ++ "" ++ Str.join "" (y :: r)) = _
      rw [TL.tl_append, TL.tl_append, e0, List.append_nil, ih]
      rfl
theorem len_join0 (xs : List Str) : (Txt.join "" xs).length = (xs.map (·.length)).sum := by
  rw [TL.len_tl, tl_join0, List.length_flatten, List.map_map]
  congr 1
/-- values that are all texts -/
theorem all_strs {P : Str → Prop} : ∀ {vs : List V}, (∀ v ∈ vs, ∃ x, v = .str x ∧ P x) → ∃ xs : List Str, vs = xs.map V.str ∧ ∀ x ∈ xs, P x
  | [], _ => ⟨[], rfl, by simp⟩
  | v :: r, h => by
    obtain ⟨x, rfl, hx⟩ := h v (List.mem_cons_self ..)
    obtain ⟨xs, rfl, hxs⟩ := all_strs (P := P) (vs := r) fun v hv => h v (List.mem_cons_of_mem _ hv)
    exact ⟨x :: xs, rfl, by simp only [List.mem_cons, forall_eq_or_imp]; exact ⟨hx, hxs⟩⟩
theorem sum_one : ∀ {xs : List Str}, (∀ x ∈ xs, x.length = 1) → (xs.map (·.length)).sum = xs.length
  | [], _ => rfl
  | x :: r, h => by
    have e := sum_one (xs := r) fun z hz => h z (List.mem_cons_of_mem _ hz)
    rw [List.map_cons, List.sum_cons, e, h x (List.mem_cons_self ..), List.length_cons]
    omega
theorem len_cut (z : Str) (lo hi : Option Int) : (cutS z lo hi).length ≤ z.length := by
  unfold cutS
  show (List.toArray _).size ≤ _
  rw [List.size_toArray, List.length_take, List.length_drop]
  have : z.cps.toList.length = z.length := (TL.len_tl z).symm
  omega
theorem len_app (x y : Str) : (x ++ y).length = x.length + y.length := by
  rw [TL.len_tl, TL.tl_append, List.length_append, ← TL.len_tl, ← TL.len_tl]
/-! ### any object, as the laws draw them -/
def Scal (v : V) : Prop := v = .int 0 ∨ v = .int 1 ∨ v = .int (-1) ∨ v = .bl true ∨ v = .non ∨ v = .str "" ∨ v = .str "0" ∨ v = .str "a" ∨ v = .str "aA" ∨ v = .int (10 ^ 39) ∨ v = .str "10"
def AKeys : List Key := [.inr "a", .inr "b", .inr "c", .inl 0]
def AnyV (G : Hp) : Nat → V → Prop
  | 0, v => Scal v
  | L + 1, v => Scal v ∨ (∃ a xs, v = .ref a ∧ (G a = some (.lst xs) ∨ G a = some (.tup xs)) ∧ xs.length ≤ 3 ∧ ∀ x ∈ xs, AnyV G L x) ∨
    (∃ a kvs, v = .ref a ∧ G a = some (.dK kvs) ∧ kvs.length ≤ 3 ∧ ∀ kv ∈ kvs, kv.1 ∈ AKeys ∧ AnyV G L kv.2)
theorem AnyV.same {G G' : Hp} (s : Same G G') : ∀ {L : Nat} {v : V}, AnyV G L v → AnyV G' L v
  | 0, _, h => h
  | L + 1, v, h => by
    rcases h with h | ⟨a, xs, e, ha, hl, hx⟩ | ⟨a, kvs, e, ha, hl, hx⟩
    · exact .inl h
    · refine .inr (.inl ⟨a, xs, e, ?_, hl, fun x m => AnyV.same s (hx x m)⟩)
      rcases ha with ha | ha
      · exact .inl (s _ _ ha)
      · exact .inr (s _ _ ha)
    · exact .inr (.inr ⟨a, kvs, e, s _ _ ha, hl, fun kv m => ⟨(hx kv m).1, AnyV.same s (hx kv m).2⟩⟩)
theorem Scal.any {G : Hp} {L : Nat} {v : V} (h : Scal v) : AnyV G L v := by
  cases L with
  | zero => exact h
  | succ L => exact .inl h
theorem AnyV.kind {K : PySem.W.Frag} {G : Hp} {L : Nat} {v : V} (h : AnyV G L v) : (∃ x : Str, v = .str x ∧ x.length ≤ 2) ∨ NotStr K G v := by
  have hs : ∀ {v : V}, Scal v → (∃ x : Str, v = .str x ∧ x.length ≤ 2) ∨ NotStr K G v := by
    intro v h
    rcases h with rfl | rfl | rfl | rfl | rfl | rfl | rfl | rfl | rfl | rfl | rfl
    · exact .inr ⟨"int", .base (.int _), by decide +kernel⟩
    · exact .inr ⟨"int", .base (.int _), by decide +kernel⟩
    · exact .inr ⟨"int", .base (.int _), by decide +kernel⟩
    · exact .inr ⟨"bool", .base (.bl _), by decide +kernel⟩
    · exact .inr ⟨"NoneType", .base .non, by decide +kernel⟩
    · exact .inl ⟨_, rfl, by decide +kernel⟩
    · exact .inl ⟨_, rfl, by decide +kernel⟩
    · exact .inl ⟨_, rfl, by decide +kernel⟩
    · exact .inl ⟨_, rfl, by decide +kernel⟩
    · exact .inr ⟨"int", .base (.int _), by decide +kernel⟩
    · exact .inl ⟨_, rfl, by decide +kernel⟩
  cases L with
  | zero => exact hs h
  | succ L =>
    rcases h with h | ⟨a, xs, rfl, ha | ha, _⟩ | ⟨a, kvs, rfl, ha, _⟩
    · exact hs h
    · exact .inr ⟨"list", .base (.lst ha), by decide +kernel⟩
    · exact .inr ⟨"tuple", .base (.tup ha), by decide +kernel⟩
    · exact .inr ⟨"dict", .base (.dK ha), by decide +kernel⟩
/-- what stands in G and not in G0 -/
def minus (G G0 : Hp) : Hp := fun a => match G0 a with
  | none => G a
  | some _ => none
theorem minus_sub {G G0 : Hp} : Same (minus G G0) G := fun a o e => by
  unfold minus at e
  cases h : G0 a with
  | none => rw [h] at e; exact e
  | some u => rw [h] at e; cases e
theorem minus_at {G G0 : Hp} {a : Addr} (h : G0 a = none) : minus G G0 a = G a := by
  unfold minus
  rw [h]
theorem minus_mono {G1 G2 G0 : Hp} (s : Same G1 G2) : Same (minus G1 G0) (minus G2 G0) := fun a o e => by
  cases h : G0 a with
  | none => rw [minus_at h] at e ⊢; exact s a o e
  | some u => unfold minus at e; rw [h] at e; cases e
theorem minus_less {G G0 G1 : Hp} (s : Same G0 G1) : Same (minus G G1) (minus G G0) := fun a o e => by
  cases h : G1 a with
  | none => rw [minus_at h] at e; rw [minus_at (s.free h)]; exact e
  | some u => unfold minus at e; rw [h] at e; cases e
theorem minus_del {G0 G1 G3 : Hp} {D : Addr} {o o' : HO} (s : Same G0 G1) : Same (minus (L2.upd G3 D o) (L2.upd G1 D o')) (minus G3 G0) := fun a u e => by
  have hD : a ≠ D := fun q => by
    subst q
    unfold minus at e
    rw [upd_same] at e
    cases e
  cases h : G1 a with
  | none =>
    rw [minus_at (by rw [upd_ne hD]; exact h), upd_ne hD] at e
    rw [minus_at (s.free h)]
    exact e
  | some v =>
    unfold minus at e
    rw [upd_ne hD, h] at e
    cases e
/-! ### readings that name K -/
def rLenQ (K : PySem.W.Frag) : List V → Hp → VK → Prop := fun xs H Q => ∃ p ys, xs = [.ref p] ∧ (SqL K H p ys ∨ SqT K H p ys) ∧ Q (.int ys.length) H
def rListQ (K : PySem.W.Frag) : List V → Hp → VK → Prop := fun xs H Q => ∃ p ys, xs = [.ref p] ∧ (SqL K H p ys ∨ SqT K H p ys) ∧ ∀ l, H l = none → Q (.ref l) (L2.upd H l (.lst ys))
def rTupQ (K : PySem.W.Frag) : List V → Hp → VK → Prop := fun xs H Q => ∃ p ys, xs = [.ref p] ∧ ((SqL K H p ys ∧ ∀ l, H l = none → Q (.ref l) (L2.upd H l (.tup ys))) ∨ (SqT K H p ys ∧ Q (.ref p) H))
def rDictP (K : PySem.W.Frag) : List V → Hp → VK → Prop := fun xs H Q => ∃ (a : Addr) (ps : List Addr) (kvs : List (Key × V)), xs = [.ref a] ∧ SqL K H a (ps.map V.ref) ∧ Paired (fun p kv => SqT K H p [kV kv.1, kv.2]) ps kvs ∧ ∀ p, H p = none → Q (.ref p) (L2.upd H p (.dK (mergeK [] kvs)))
def rJoinQ (K : PySem.W.Frag) : V → List V → Hp → VK → Prop := fun x xs H Q => ∃ a p, ∃ ys : List Str, x = .str a ∧ xs = [.ref p] ∧ (SqL K H p (ys.map V.str) ∨ SqT K H p (ys.map V.str)) ∧ (ys.map (·.length)).sum + ys.length * a.length ≤ 16777216 ∧ Q (.str (Txt.join a ys)) H
section
variable {X : Cx} {K : PySem.W.Frag}
theorem pi_listK {tg l : Expr} {tl : TE} (he : PE X l tl) (hK : X.K = K := by rfl) : PI X tg l (iList K tl) := hK ▸ pi_list he
theorem pi_tupK {tg l : Expr} {tl : TE} (he : PE X l tl) (hK : X.K = K := by rfl) : PI X tg l (iTup K tl) := hK ▸ pi_tup he
end
/-! ### dicts made of pairs -/
theorem put_mem {kvs : List (Key × V)} {k : Key} {v : V} {q : Key × V} (h : q ∈ putK kvs k v) : q ∈ kvs ∨ q = (k, v) := by
  unfold putK at h
  split at h
  · obtain ⟨a, ha, rfl⟩ := List.mem_map.mp h
    by_cases e : a.1 = k
    · rw [if_pos e, e]
      exact .inr rfl
    · rw [if_neg e]
      exact .inl ha
  · rcases List.mem_append.mp h with h | h
    · exact .inl h
    · exact .inr (List.mem_singleton.mp h)
theorem put_len (kvs : List (Key × V)) (k : Key) (v : V) : (putK kvs k v).length ≤ kvs.length + 1 := by
  unfold putK
  split
  · rw [List.length_map]; omega
  · rw [List.length_append]; exact Nat.le_refl _
theorem merge_mem {q : Key × V} : ∀ {more kvs : List (Key × V)}, q ∈ mergeK kvs more → q ∈ kvs ∨ q ∈ more
  | [], _, h => .inl h
  | a :: r, kvs, h => by
    rcases merge_mem (more := r) (kvs := putK kvs a.1 a.2) h with h | h
    · rcases put_mem h with h | h
      · exact .inl h
      · exact .inr (by rw [h]; exact List.mem_cons_self ..)
    · exact .inr (List.mem_cons_of_mem _ h)
theorem merge_len : ∀ (more kvs : List (Key × V)), (mergeK kvs more).length ≤ kvs.length + more.length
  | [], _ => Nat.le_refl _
  | a :: r, kvs => by
    have h := merge_len r (putK kvs a.1 a.2)
    have h2 := put_len kvs a.1 a.2
    show (mergeK (putK kvs a.1 a.2) r).length ≤ _
    rw [List.length_cons]
    omega
/-- a list of pairs, each a tuple of its own -/
theorem pairs_of {K : PySem.W.Frag} {H : Hp} {P : Key × V → Prop} : ∀ {vs : List V}, (∀ v ∈ vs, ∃ t k x, v = .ref t ∧ H t = some (.tup [kV k, x]) ∧ P (k, x)) →
    ∃ (ps : List Addr) (kvs : List (Key × V)), vs = ps.map V.ref ∧ Paired (fun p kv => SqT K H p [kV kv.1, kv.2]) ps kvs ∧ kvs.length = vs.length ∧ ∀ kv ∈ kvs, P kv
  | [], _ => ⟨[], [], rfl, .nil, rfl, by simp⟩
  | v :: r, h => by
    obtain ⟨t, k, x, rfl, ht, hp⟩ := h v (List.mem_cons_self ..)
    obtain ⟨ps, kvs, rfl, hps, hl, hk⟩ := pairs_of (K := K) (H := H) (P := P) (vs := r) fun v hv => h v (List.mem_cons_of_mem _ hv)
    exact ⟨t :: ps, (k, x) :: kvs, rfl, .cons (SqT.of ht) hps, by rw [List.length_cons, List.length_cons, hl], by simp only [List.mem_cons, forall_eq_or_imp]; exact ⟨hp, hk⟩⟩
/-! ### comprehensions over lists -/
/-- [f(x) for x in xs], nothing changed -/
theorem lc_listF {K : PySem.W.Frag} {a : Addr} {xs : List V} {j : Nat} {te : TE} {σ : L2.St} {H1 : Hp} {D : Addr} {Qd : Hp → Prop} (f : V → V) (hS : SqL K H1 a xs) (hD : H1 D = none) (hx : xs.length < 16777216)
    (he : ∀ x ∈ xs, ∀ (H' : Hp) (Q' : VK), Same H1 H' → Q' (f x) H' → te ((wipe σ [j]).set j (some x)) H' Q') (hd : Qd (L2.upd H1 D (.lst (xs.map f)))) :
    LcG (Itl K a) (gName j) tYes te [j] σ H1 D Qd := by
  refine lc_list (K := K) (a := a) (xs := xs) (fun i H => H = L2.upd H1 D (.lst ((xs.take i).map f))) rfl (fun i H _ e => by rw [e]; exact Same.seq (same_new (Same.refl _) hD) hS) ?_ (fun H e => by rw [e, List.take_length]; exact hd)
  rintro i x H hi rfl
  refine ⟨wipe_set1 _ _ _, ?_⟩
  have hl : i < xs.length := (List.getElem?_eq_some_iff.mp hi).1
  refine he x (List.mem_of_getElem? hi) _ _ (same_new (Same.refl _) hD) ⟨_, upd_same, ?_, ?_⟩
  · rw [List.length_map, List.length_take]
    exact Nat.lt_of_lt_of_le (show min i xs.length < 16777216 by omega) (by decide)
  · rw [upd_upd]
    have e : xs.take (i + 1) = xs.take i ++ [x] := by
      rw [List.take_succ, hi]
      rfl
    rw [e, List.map_append]
    rfl
/-- [f(x) for x in xs if p(x)], nothing changed -/
theorem lc_listP {K : PySem.W.Frag} {a : Addr} {xs : List V} {j : Nat} {tt : TT} {te : TE} {σ : L2.St} {H1 : Hp} {D : Addr} {Qd : Hp → Prop} (p : V → Bool) (f : V → V) (hS : SqL K H1 a xs) (hD : H1 D = none) (hx : xs.length < 16777216)
    (ht : ∀ x ∈ xs, ∀ (H' : Hp) (Q' : Bool → Hp → Prop), Same H1 H' → Q' (p x) H' → tt ((wipe σ [j]).set j (some x)) H' Q')
    (he : ∀ x ∈ xs, p x = true → ∀ (H' : Hp) (Q' : VK), Same H1 H' → Q' (f x) H' → te ((wipe σ [j]).set j (some x)) H' Q') (hd : Qd (L2.upd H1 D (.lst ((xs.filter p).map f)))) :
    LcG (Itl K a) (gName j) tt te [j] σ H1 D Qd := by
  refine lc_list (K := K) (a := a) (xs := xs) (fun i H => H = L2.upd H1 D (.lst (((xs.take i).filter p).map f))) rfl (fun i H _ e => by rw [e]; exact Same.seq (same_new (Same.refl _) hD) hS) ?_ (fun H e => by rw [e, List.take_length]; exact hd)
  rintro i x H hi rfl
  refine ⟨wipe_set1 _ _ _, ?_⟩
  have hl : i < xs.length := (List.getElem?_eq_some_iff.mp hi).1
  have e : xs.take (i + 1) = xs.take i ++ [x] := by
    rw [List.take_succ, hi]
    rfl
  refine ht x (List.mem_of_getElem? hi) _ _ (same_new (Same.refl _) hD) ?_
  refine if_b (fun hp => ?_) (fun hp => ?_)
  · refine he x (List.mem_of_getElem? hi) hp _ _ (same_new (Same.refl _) hD) ⟨_, upd_same, ?_, ?_⟩
    · rw [List.length_map]
      have h1 := List.length_filter_le p (xs.take i)
      rw [List.length_take] at h1
      exact Nat.lt_of_lt_of_le (show _ < 16777216 by omega) (by decide)
    · rw [upd_upd, e, List.filter_append, List.map_append, List.filter_cons, hp]
      rfl
  · show L2.upd H1 D _ = L2.upd H1 D _
    rw [e, List.filter_append, List.filter_cons, hp]
    simp
/-- [f(i) for i in range(lo, lo + n)], nothing changed -/
theorem lc_rangeF {lo : Int} {n j : Nat} {te : TE} {σ : L2.St} {H1 : Hp} {D : Addr} {Qd : Hp → Prop} (f : Nat → V) (hD : H1 D = none) (hn : n < 16777216)
    (he : ∀ i, i < n → ∀ (H' : Hp) (Q' : VK), Same H1 H' → Q' (f i) H' → te ((wipe σ [j]).set j (some (.int (lo + i)))) H' Q') (hd : Qd (L2.upd H1 D (.lst ((List.range n).map f)))) :
    LcG (Itr lo n) (gName j) tYes te [j] σ H1 D Qd := by
  refine lc_rangeI (fun i acc H => acc = (List.range i).map f ∧ H = L2.upd H1 D (.lst acc)) ⟨rfl, rfl⟩ hn ?_ ?_
  · rintro i acc H Q' hi hl hDa ⟨rfl, rfl⟩ k
    refine he i hi _ _ (same_new (Same.refl _) hD) (k _ _ upd_same ⟨?_, ?_⟩)
    · rw [List.range_succ, List.map_append]
      rfl
    · rw [upd_upd]
  · rintro acc H hl hDa ⟨rfl, rfl⟩
    exact hd
/-! ### classes -/
structure ClsT (K : PySem.W.Frag) (mg : Str → Option Value) (x : Str) (C : Addr) : Prop where
  cl : Cls K C
  gl : mg x = some (.ref C)
structure MetT (K : PySem.W.Frag) (C : Addr) (m qual : Str) (st : Stmt) (ps : List Str) : Prop where
  ex : ∃ (f : Addr) (fd : FuncData), Meth K C m f ∧ Fun K m qual st f fd ∧ Binds K fd ps []
structure IniT (K : PySem.W.Frag) (C : Addr) (qual : Str) (st : Stmt) (ps : List Str) : Prop where
  ex : ∃ (f : Addr) (fd : FuncData), Mk K C f ∧ Fun K "__init__" qual st f fd ∧ Binds K fd ps []
/-- an empty tuple of the text -/
structure Tup0 (K : PySem.W.Frag) (a : Addr) : Prop where
  ex : ∃ (od : Option Addr) (n : Nat) (sl : Array (Option Value)), K.lookup a = some ⟨.type "tuple", od, .seq #[] n, sl⟩
theorem Tup0.sq {K : PySem.W.Frag} {a : Addr} (h : Tup0 K a) (H : Hp) : SqT K H a [] := by
  obtain ⟨od, n, sl, e⟩ := h.ex
  exact .inr ⟨_, _, n, e, rfl, rfl, Nat.zero_le _, .nil⟩
theorem Tup0.ty {K : PySem.W.Frag} {a : Addr} (h : Tup0 K a) (H : Hp) : TyX K H (.ref a) (.type "tuple") := by
  obtain ⟨od, n, sl, e⟩ := h.ex
  exact .kTuple e rfl
/-- an __init__ whose last parameter has () as its default -/
structure IniD (K : PySem.W.Frag) (C : Addr) (qual : Str) (st : Stmt) (ps : List Str) : Prop where
  ex : ∃ (f a0 : Addr) (fd : FuncData), Mk K C f ∧ FunD K "__init__" qual (defArgs st) (defBody st) (defScope st) [.ref a0] [] f fd ∧ Tup0 K a0 ∧ (∃ ds, Vals [.ref a0] ds ∧ Binds K fd ps ds) ∧ (∃ ds, Vals [] ds ∧ Binds K fd ps ds)
section
variable {P : Program} {w : World} {K : PySem.W.Frag} {mg : Str → Option Value} {base : Heap}
theorem FunD.okG {x qual : Str} {params : Arguments} {body : List Stmt} {scope : Scope} {dvs : List V} {kws : List (Str × V)} {f : Addr} {fd : FuncData} {CX : CXT} {N ps : List Str} {k : Nat} {sp : Sp} (F : FunD K x qual params body scope dvs kws f fd) (S : FnScope N ps scope) (len : ∀ vs H Q E, sp vs H Q E → vs.length = ps.length)
    (hbody : ∀ (cdv : Value) (A : Around) (outer : List Env) (s : Shared) (H : Hp) (vs : List V) (Q : VK) (E : XK), RoomG k (A.deeper (envOfC qual scope s.heap.objs.size f cdv)) → sp vs H Q E →
      ∃ t, PSs (cxOf CX P w K mg base N qual scope f cdv A outer s H E) body t ∧ t { nx := fun _ H' => Q .non H', rt := Q } (start N vs) H) : FnG P w K mg base CX (k + 1) f fd ps sp := by
  obtain ⟨oc, od, dV, kV, doc, pm, an, cdv, ct, osl, rfl, lk, hcd, _, _⟩ := F.ex
  exact fnG_of lk hcd S len fun A outer s H vs Q E hr hsp => hbody cdv A outer s H vs Q E hr hsp
theorem MetT.met {C : Addr} {m qual : Str} {st : Stmt} {N ps : List Str} {k : Nat} {sp : Sp} (D : MetT K C m qual st ps) (c : Cls K C) (S : FnScope N ps (defScope st)) (len : ∀ vs H Q E, sp vs H Q E → vs.length = ps.length)
    (hbody : ∀ (f : Addr) (cdv : Value) (A : Around) (outer : List Env) (s : Shared) (H : Hp) (vs : List V) (Q : VK) (E : XK), RoomG k (A.deeper (envOfC qual (defScope st) s.heap.objs.size f cdv)) → sp vs H Q E →
      ∃ t, PSs (cxOf CX0 P w K mg base N qual (defScope st) f cdv A outer s H E).nox (defBody st) t ∧ t { nx := fun _ H' => Q .non H', rt := Q } (start N vs) H) : MetG P w K mg base CX0 (k + 1) C m sp [] := by
  obtain ⟨f, fd, hm, F, b⟩ := D.ex
  exact ⟨f, fd, ps, [], c, hm, Fun.okG F S len (hbody f), b, .nil⟩
theorem MetT.metX {C : Addr} {m qual : Str} {st : Stmt} {N ps : List Str} {k : Nat} {sp : Sp} (D : MetT K C m qual st ps) (c : Cls K C) (S : FnScope N ps (defScope st)) (len : ∀ vs H Q E, sp vs H Q E → vs.length = ps.length)
    (hbody : ∀ (f : Addr) (cdv : Value) (A : Around) (outer : List Env) (s : Shared) (H : Hp) (vs : List V) (Q : VK) (E : XK), RoomG k (A.deeper (envOfC qual (defScope st) s.heap.objs.size f cdv)) → sp vs H Q E →
      ∃ t, PSs (cxOf (L2.CX P w) P w K mg base N qual (defScope st) f cdv A outer s H E) (defBody st) t ∧ t { nx := fun _ H' => Q .non H', rt := Q } (start N vs) H) : MetG P w K mg base (L2.CX P w) (k + 1) C m sp [] := by
  obtain ⟨f, fd, hm, F, b⟩ := D.ex
  exact ⟨f, fd, ps, [], c, hm, Fun.okGX F S len (hbody f), b, .nil⟩
/-- the making of the class: all arguments given | the last one left out -/
theorem IniD.mak {x : Str} {C : Addr} {qual : Str} {st : Stmt} {N ps : List Str} {k : Nat} {sp : Sp} {CX : CXT} (D : IniD K C qual st ps) (c : ClsT K mg x C) (S : FnScope N ps (defScope st)) (len : ∀ vs H Q E, sp vs H Q E → vs.length = ps.length)
    (hbody : ∀ (f : Addr) (cdv : Value) (A : Around) (outer : List Env) (s : Shared) (H : Hp) (vs : List V) (Q : VK) (E : XK), RoomG k (A.deeper (envOfC qual (defScope st) s.heap.objs.size f cdv)) → sp vs H Q E →
      ∃ t, PSs (cxOf CX P w K mg base N qual (defScope st) f cdv A outer s H E) (defBody st) t ∧ t { nx := fun _ H' => Q .non H', rt := Q } (start N vs) H) :
    MakG P w K mg base CX (k + 1) x C sp [] ∧ ∃ a0, Tup0 K a0 ∧ MakG P w K mg base CX (k + 1) x C sp [.ref a0] := by
  obtain ⟨f, a0, fd, M, F, h0, ⟨ds, d, b⟩, ⟨ds', d', b'⟩⟩ := D.ex
  have FG : FnG P w K mg base CX (k + 1) f fd ps sp := FunD.okG F S len (hbody f)
  exact ⟨⟨f, fd, ps, ds', M, FG, c.gl, b', d'⟩, a0, h0, ⟨f, fd, ps, ds, M, FG, c.gl, b, d⟩⟩
theorem IniT.mak {x : Str} {C : Addr} {qual : Str} {st : Stmt} {N ps : List Str} {k : Nat} {sp : Sp} (D : IniT K C qual st ps) (c : ClsT K mg x C) (S : FnScope N ps (defScope st)) (len : ∀ vs H Q E, sp vs H Q E → vs.length = ps.length)
    (hbody : ∀ (f : Addr) (cdv : Value) (A : Around) (outer : List Env) (s : Shared) (H : Hp) (vs : List V) (Q : VK) (E : XK), RoomG k (A.deeper (envOfC qual (defScope st) s.heap.objs.size f cdv)) → sp vs H Q E →
      ∃ t, PSs (cxOf CX0 P w K mg base N qual (defScope st) f cdv A outer s H E).nox (defBody st) t ∧ t { nx := fun _ H' => Q .non H', rt := Q } (start N vs) H) : MakG P w K mg base CX0 (k + 1) x C sp [] := by
  obtain ⟨f, fd, M, F, b⟩ := D.ex
  exact ⟨f, fd, ps, [], M, Fun.okG F S len (hbody f), c.gl, b, .nil⟩
end
/-! ### items walked -/
theorem wipe_set2 (σ : L2.St) {i j : Nat} (h : i ≠ j) (a b : Option V) : wipe (((wipe σ [i, j]).set i a).set j b) [i, j] = wipe σ [i, j] := by
  show ((((((σ.set j none).set i none).set i a).set j b).set j none).set i none) = (σ.set j none).set i none
  rw [List.set_set, List.set_set, List.set_comm _ _ h, List.set_set, List.set_comm _ _ (Ne.symm h), List.set_comm _ _ h, List.set_set, List.set_comm _ _ (Ne.symm h)]
/-- [f(k, v) for k, v in d.items()], f a truth; new objects may be made -/
theorem lc_itemsB {K : PySem.W.Frag} {d : Addr} {o : Obj} {kvs : List (Key × V)} {i j : Nat} {te : TE} {σ : L2.St} {H1 : Hp} {D : Addr} {Qd : Hp → Prop} (f : Key × V → Bool) (hij : i ≠ j) (hS : H1 d = some (.frz o (.dK kvs))) (hD : H1 D = none) (hx : kvs.length < 16777216)
    (he : ∀ q ∈ kvs, ∀ (H' : Hp) (Q' : VK), Same H1 H' → (∀ H'', Same H' H'' → Q' (.bl (f q)) H'') → te (((wipe σ [i, j]).set i (some (kV q.1))).set j (some q.2)) H' Q') (hd : ∀ H', Same H1 H' → H' D = some (.lst ((kvs.map f).map V.bl)) → Qd H') :
    LcG (Iti d o kvs) (gTup K 2 (gCons (gName i) (gCons (gName j) gNil))) tYes te [i, j] σ H1 D Qd := by
  refine lc_it walk_items (fun n H => Same H1 H ∧ H D = some (.lst (((kvs.take n).map f).map V.bl))) ⟨same_new (Same.refl _) hD, upd_same⟩ (fun n H _ h => h.1 _ _ hS) ?_ (fun H h => hd H h.1 (by rw [h.2, List.take_length]))
  rintro n v H H' hn ⟨s, hDn⟩ ⟨T, x, y, rfl, hT, rfl, e1, e2⟩
  cases e : kvs[n]? with
  | none =>
    have h1 : (kvs[n]?.map fun kv => kV kv.1) = some x := e1
    rw [e] at h1
    cases h1
  | some q =>
    have h1 : (kvs[n]?.map fun kv => kV kv.1) = some x := e1
    have h2 : (kvs[n]?.map Prod.snd) = some y := e2
    rw [e] at h1 h2
    obtain rfl : kV q.1 = x := Option.some.inj h1
    obtain rfl : q.2 = y := Option.some.inj h2
    refine ⟨T, _, rfl, SqT.of upd_same, rfl, _, _, rfl, _, _, rfl, rfl, wipe_set2 σ hij _ _, ?_⟩
    have hDT : D ≠ T := fun z => by rw [z, hT] at hDn; cases hDn
    refine he q (List.mem_of_getElem? e) _ _ (same_new s (s.free hT)) fun H'' s2 => ?_
    have hD2 : H'' D = some (.lst (((kvs.take n).map f).map V.bl)) := s2 _ _ (by rw [upd_ne hDT]; exact hDn)
    refine ⟨_, hD2, ?_, same_new (Same.trans (same_new s (s.free hT)) s2) hD, ?_⟩
    · rw [List.length_map, List.length_map, List.length_take]
      exact Nat.lt_of_lt_of_le (show min n kvs.length < 16777216 by omega) (by decide)
    · rw [upd_same]
      have et : kvs.take (n + 1) = kvs.take n ++ [q] := by
        rw [List.take_succ, e]
        rfl
      rw [et, List.map_append, List.map_append]
      rfl
/-- [f(x) for x in xs], f a truth; new objects may be made -/
theorem lc_listB {K : PySem.W.Frag} {a : Addr} {xs : List V} {j : Nat} {te : TE} {σ : L2.St} {H1 : Hp} {D : Addr} {Qd : Hp → Prop} (f : V → Bool) (hS : SqL K H1 a xs) (hD : H1 D = none) (hx : xs.length < 16777216)
    (he : ∀ x ∈ xs, ∀ (H' : Hp) (Q' : VK), Same H1 H' → (∀ H'', Same H' H'' → Q' (.bl (f x)) H'') → te ((wipe σ [j]).set j (some x)) H' Q') (hd : ∀ H', Same H1 H' → H' D = some (.lst ((xs.map f).map V.bl)) → Qd H') :
    LcG (Itl K a) (gName j) tYes te [j] σ H1 D Qd := by
  refine lc_it walk_list (fun n H => Same H1 H ∧ H D = some (.lst (((xs.take n).map f).map V.bl))) ⟨same_new (Same.refl _) hD, upd_same⟩ (fun n H _ h => Same.seq h.1 hS) ?_ (fun H h => hd H h.1 (by rw [h.2, List.take_length]))
  rintro n x H H' hn ⟨s, hDn⟩ ⟨rfl, e⟩
  refine ⟨wipe_set1 _ _ _, ?_⟩
  refine he x (List.mem_of_getElem? e) _ _ s fun H'' s2 => ⟨_, s2 _ _ hDn, ?_, same_new (Same.trans s s2) hD, ?_⟩
  · rw [List.length_map, List.length_map, List.length_take]
    exact Nat.lt_of_lt_of_le (show min n xs.length < 16777216 by omega) (by decide)
  · rw [upd_same]
    have et : xs.take (n + 1) = xs.take n ++ [x] := by
      rw [List.take_succ, e]
      rfl
    rw [et, List.map_append, List.map_append]
    rfl
theorem lc_tupB {K : PySem.W.Frag} {a : Addr} {xs : List V} {j : Nat} {te : TE} {σ : L2.St} {H1 : Hp} {D : Addr} {Qd : Hp → Prop} (f : V → Bool) (hS : SqT K H1 a xs) (hD : H1 D = none) (hx : xs.length < 16777216)
    (he : ∀ x ∈ xs, ∀ (H' : Hp) (Q' : VK), Same H1 H' → (∀ H'', Same H' H'' → Q' (.bl (f x)) H'') → te ((wipe σ [j]).set j (some x)) H' Q') (hd : ∀ H', Same H1 H' → H' D = some (.lst ((xs.map f).map V.bl)) → Qd H') :
    LcG (Itt K a) (gName j) tYes te [j] σ H1 D Qd := by
  refine lc_it walk_tup (fun n H => Same H1 H ∧ H D = some (.lst (((xs.take n).map f).map V.bl))) ⟨same_new (Same.refl _) hD, upd_same⟩ (fun n H _ h => same_seqT h.1 hS) ?_ (fun H h => hd H h.1 (by rw [h.2, List.take_length]))
  rintro n x H H' hn ⟨s, hDn⟩ ⟨rfl, e⟩
  refine ⟨wipe_set1 _ _ _, ?_⟩
  refine he x (List.mem_of_getElem? e) _ _ s fun H'' s2 => ⟨_, s2 _ _ hDn, ?_, same_new (Same.trans s s2) hD, ?_⟩
  · rw [List.length_map, List.length_map, List.length_take]
    exact Nat.lt_of_lt_of_le (show min n xs.length < 16777216 by omega) (by decide)
  · rw [upd_same]
    have et : xs.take (n + 1) = xs.take n ++ [x] := by
      rw [List.take_succ, e]
      rfl
    rw [et, List.map_append, List.map_append]
    rfl
end KC
namespace KC
open PySem PySem.Spec PyProof.Rows L2
def top (i : Nat) : Stmt := PySem.Challenge.pw_keptcode_k02_names_and_codewords.main.body.getD i (.Pass ⟨0, 0, 0, 0⟩)
abbrev s_is_name : Stmt := top 4
abbrev s_is_codeword : Stmt := top 5
abbrev s_l_pen : Stmt := top 7
abbrev s_l_next : Stmt := top 8
abbrev s_l_draw : Stmt := top 9
abbrev s_l_any : Stmt := top 10
abbrev s_l_same_truth : Stmt := top 11
abbrev s_l_word : Stmt := top 12
abbrev s_l_is_name : Stmt := top 13
abbrev s_l_is_codeword : Stmt := top 14
abbrev s_law : Stmt := top 15
theorem sc_is_name : FnScope ["thing", "letter"] ["thing"] (defScope s_is_name) := ⟨rfl, rfl, rfl, by decide +kernel, rfl, by decide +kernel, by decide +kernel⟩
theorem sc_is_codeword : FnScope ["radix", "depth", "thing", "digit"] ["radix", "depth", "thing"] (defScope s_is_codeword) := ⟨rfl, rfl, rfl, by decide +kernel, rfl, by decide +kernel, by decide +kernel⟩
theorem sc_l_pen : FnScope ["script"] ["script"] (defScope s_l_pen) := ⟨rfl, rfl, rfl, by decide +kernel, rfl, by decide +kernel, by decide +kernel⟩
theorem sc_l_next : FnScope ["pen", "index", "cell", "low", "mid", "top"] ["pen"] (defScope s_l_next) := ⟨rfl, rfl, rfl, by decide +kernel, rfl, by decide +kernel, by decide +kernel⟩
theorem sc_l_draw : FnScope ["pen", "below", "digit"] ["pen", "below"] (defScope s_l_draw) := ⟨rfl, rfl, rfl, by decide +kernel, rfl, by decide +kernel, by decide +kernel⟩
theorem sc_l_any : FnScope ["pen", "levels", "road", "parts", "turn", "k"] ["pen", "levels"] (defScope s_l_any) := ⟨rfl, rfl, rfl, by decide +kernel, rfl, by decide +kernel, by decide +kernel⟩
theorem sc_l_same_truth : FnScope ["result", "expected"] ["result", "expected"] (defScope s_l_same_truth) := ⟨rfl, rfl, rfl, by decide +kernel, rfl, by decide +kernel, by decide +kernel⟩
theorem sc_l_word : FnScope ["pen", "signs", "most", "turn"] ["pen", "signs", "most"] (defScope s_l_word) := ⟨rfl, rfl, rfl, by decide +kernel, rfl, by decide +kernel, by decide +kernel⟩
theorem sc_l_is_name : FnScope ["thing", "sign"] ["thing"] (defScope s_l_is_name) := ⟨rfl, rfl, rfl, by decide +kernel, rfl, by decide +kernel, by decide +kernel⟩
theorem sc_l_is_codeword : FnScope ["radix", "depth", "thing", "sign"] ["radix", "depth", "thing"] (defScope s_l_is_codeword) := ⟨rfl, rfl, rfl, by decide +kernel, rfl, by decide +kernel, by decide +kernel⟩
theorem sc_law : FnScope ["script", "pen", "turn", "radix", "depth", "road", "thing", "spot", "signs"] ["script"] (defScope s_law) := ⟨rfl, rfl, rfl, by decide +kernel, rfl, by decide +kernel, by decide +kernel⟩
structure Txt (K : PySem.W.Frag) (mg : Str → Option Value) : Prop where
  d_is_name : DefT K mg "is_name" s_is_name ["thing"] []
  d_is_codeword : DefT K mg "is_codeword" s_is_codeword ["radix", "depth", "thing"] []
  d_l_pen : DefT K mg "_law_pen" s_l_pen ["script"] []
  d_l_next : DefT K mg "_law_next" s_l_next ["pen"] []
  d_l_draw : DefT K mg "_law_draw" s_l_draw ["pen", "below"] []
  d_l_any : DefT K mg "_law_any" s_l_any ["pen", "levels"] []
  d_l_same_truth : DefT K mg "_law_same_truth" s_l_same_truth ["result", "expected"] []
  d_l_word : DefT K mg "_law_word" s_l_word ["pen", "signs", "most"] []
  d_l_is_name : DefT K mg "_law_is_name" s_l_is_name ["thing"] []
  d_l_is_codeword : DefT K mg "_law_is_codeword" s_l_is_codeword ["radix", "depth", "thing"] []
  d_law : DefT K mg "law" s_law ["script"] []
  c_DIGITS : ∃ u, mg "DIGITS" = some u ∧ RelV (.str "0123456789") u
  c_LETTERS : ∃ u, mg "LETTERS" = some u ∧ RelV (.str "abcdefghijklmnopqrstuvwxyz") u
  c_LONGEST_NAME : ∃ u, mg "LONGEST_NAME" = some u ∧ RelV (.int 8) u
  n_all : mg "all" = none
  n_bool : mg "bool" = none
  n_dict : mg "dict" = none
  n_isinstance : mg "isinstance" = none
  n_len : mg "len" = none
  n_list : mg "list" = none
  n_range : mg "range" = none
  n_str : mg "str" = none
  n_tuple : mg "tuple" = none
section
variable {P : Program} {w : World} {K : PySem.W.Frag} {mg : Str → Option Value} {base : Heap}
/-! ### the law's pen -/
theorem cut_60 (ns : List Int) : cutV (ns.map V.int) none (some 60) = (ns.take 60).map V.int := by
  unfold cutV
  rw [HT.sIx_none, show (60 : Int) = ((60 : Nat) : Int) from rfl, HT.sIx_nat, List.length_map, List.drop_zero, Nat.sub_zero, ← List.map_take]
  congr 1
  rw [List.take_eq_take_iff]
  omega
/-- _law_pen(script): a new pen -/
def sp_l_pen (K : PySem.W.Frag) : Sp := fun vs H Q _ => ∃ (a : Addr) (ns : List Int), vs = [.ref a] ∧ SqL K H a (ns.map V.int) ∧
  ∀ (H' : Hp) (p : Addr), PenG H H' p 0 → Q (.ref p) H'
theorem cal_l_pen (T : Txt K mg) : CalG P w K mg base CX0 1 "_law_pen" (sp_l_pen K) [] := by
  refine T.d_l_pen.cal .nil sc_l_pen (fun vs H Q E h => by obtain ⟨_, _, rfl, _⟩ := h; rfl) (fun f cdv A outer s H vs Q E hr h => ?_)
  obtain ⟨a, ns, rfl, hS, k⟩ := h
  refine ⟨_, (pss_one (ps_ret (pe_lst (pa_cons (pe_callTy (r := rListQ K) call_list_of (by rfl) T.n_list (by decide +kernel) (pa_cons (pe_slice (r := rSlL K) sl_list (pv 0) po_none (po_some pe_int)) pa_nil)) (pa_cons pe_int (pa_cons pe_int pa_nil)))))), ?_⟩
  refine ⟨_, rfl, 60, rfl, a, _, rfl, hS, fun l hl => ?_⟩
  refine ⟨l, _, rfl, .inl (SqL.of upd_same), fun q hq => ?_⟩
  refine ⟨by show 3 ≤ sizeLine; decide, fun p hp => ?_⟩
  rw [cut_60] at *
  have ql : q ≠ l := fun e => by rw [e, upd_same] at hq; cases hq
  have pq : p ≠ q := fun e => by rw [e, upd_same] at hp; cases hp
  have hq0 : H q = none := by rw [upd_ne ql] at hq; exact hq
  have pl : p ≠ l := fun e => by rw [e, upd_ne (Ne.symm ql), upd_same] at hp; cases hp
  have hp0 : H p = none := by rw [upd_ne pq, upd_ne pl] at hp; exact hp
  refine k _ p ⟨same_new (same_new (same_new (Same.refl H) hl) hq0) hp0, hp0, q, ns.take 60, 0, 0, upd_same, ?_, hq0, Ne.symm pq, ?_, Int.le_refl _, Int.le_refl _, Int.le_refl _⟩
  · rw [upd_ne (Ne.symm pq), upd_same]
  rw [List.length_take]
  exact Nat.min_le_left _ _
/-- _law_next(pen): the next number, not below 0 -/
def sp_l_next (K : PySem.W.Frag) : Sp := fun vs H Q _ => ∃ (p : Addr) (G : Hp) (n : Nat), vs = [.ref p] ∧ PenG G H p n ∧ n + 1 ≤ 1000000000 ∧
  ∀ (H' : Hp) (z : Int), PenG G H' p (n + 1) → 0 ≤ z → Q (.int z) H'
theorem mul_r {i j : Int} (h : -(2 ^ 64) < j ∧ j < 2 ^ 64) : CMul i j := .inr h
theorem mul_l {i j : Int} (h : -(2 ^ 64) < i ∧ i < 2 ^ 64) : CMul i j := .inl h
abbrev posDummy : Unit := ()
theorem mod_b {x m : Int} (h : 0 < m) (h2 : m < 2 ^ 63) : -(2 ^ 64) < x % m ∧ x % m < 2 ^ 64 := by
  have a := Int.emod_nonneg x (show m ≠ 0 by omega)
  have b := Int.emod_lt_of_pos x h
  constructor <;> omega
theorem cal_l_next (T : Txt K mg) : CalG P w K mg base CX0 1 "_law_next" (sp_l_next K) [] := by
  refine T.d_l_next.cal .nil sc_l_next (fun vs H Q E h => by obtain ⟨_, _, _, rfl, _⟩ := h; rfl) (fun f cdv A outer s H vs Q E hr h => ?_)
  obtain ⟨p, G, n, rfl, hP, hn, k⟩ := h
  obtain ⟨sub, free, q, ns, i, v, hp, hq, hg, hqp, hl, h0, hi, hv⟩ := id hP
  refine ⟨_, (pss_cons (ps_set (i := 1) sc_l_next.nd rfl (Or.inl rfl) (pe_ix (r := rIxL K) ix_list (pv 0) pe_int (fun _ _ => rfl)))
      (pss_cons (ps_asg (pe_op op_add (pv 1) pe_int) (pg_sub (pv 0) pe_int set_list))
      (pss_cons (ps_set (i := 2) sc_l_next.nd rfl (Or.inl rfl) (pe_op op_add (pe_op op_mul (pv 1) pe_int) pe_int))
      (C8.pss_cut (ps_if (pt_cmpR (r := rNeD K) (op_neD hr.toRoom.units) (pe_ix (r := rIxL K) ix_list (pv 0) pe_int (fun _ _ => rfl)) (pe_lst pa_nil) (nomark _))
      (pss_one (ps_set (i := 2) sc_l_next.nd rfl (Or.inl rfl) (pe_ix (r := rIxL K) ix_list (pe_ix (r := rIxL K) ix_list (pv 0) pe_int (fun _ _ => rfl)) (pe_op op_modN (pv 1) (pe_callB (r := rLenQ K) call_len_seq (by rfl) T.n_len (by decide +kernel) (pa_cons (pe_ix (r := rIxL K) ix_list (pv 0) pe_int (fun _ _ => rfl)) pa_nil))) (fun _ _ => rfl))))
      pss_nil)
      (C8.pss_cut (ps_if (PW.pt (pw_and (pt_cmpR op_lt (pv 1) (pe_callB (r := rLenQ K) call_len_seq (by rfl) T.n_len (by decide +kernel) (pa_cons (pe_ix (r := rIxL K) ix_list (pv 0) pe_int (fun _ _ => rfl)) pa_nil)) (nomark _)) (pw_and1 (pt_cmpR op_ge (pv 2) (pe_op op_pow pe_int pe_int) (nomark _)))))
      (pss_one (ps_ret (pv 2)))
      pss_nil)
      (pss_cons (ps_set (i := 3) sc_l_next.nd rfl (Or.inl rfl) (pe_op op_mod (pe_op op_add (pe_op op_add (pe_op op_mod (pv 2) pe_int) (pe_op op_mul (pv 1) pe_int)) pe_int) pe_int))
      (pss_cons (ps_set (i := 4) sc_l_next.nd rfl (Or.inl rfl) (pe_op op_mod (pe_op op_add (pe_op op_add (pe_op op_mul (pv 3) (pv 3)) (pe_op op_mul (pv 1) pe_int)) pe_int) pe_int))
      (pss_cons (ps_set (i := 5) sc_l_next.nd rfl (Or.inl rfl) (pe_op op_mod (pe_op op_add (pe_op op_add (pe_op op_mul (pv 4) (pv 4)) (pv 3)) (pe_op op_mul (pe_op op_mul (pv 1) (pv 1)) pe_int)) pe_int))
      (pss_one (ps_ret (pe_op op_add (pe_op op_mul (pe_op op_add (pe_op op_mul (pv 5) pe_int) (pv 4)) pe_int) (pv 3)))))))))))), ?_⟩
  -- index = pen[1]
  refine ⟨_, rfl, p, _, 1, _, rfl, rfl, SqL.of hp, rfl, ?_⟩
  -- pen[1] = index + 1
  refine ⟨_, rfl, _, _, rfl, rfl, ?_⟩
  refine ⟨_, rfl, p, _, 1, 1, rfl, rfl, hp, rfl, ?_⟩
  have hp1 : upd H p (.lst [.ref q, .int (i + 1), .int v]) p = some (.lst [.ref q, .int (i + 1), .int v]) := upd_same
  have hP1 : PenG G (upd H p (.lst [.ref q, .int (i + 1), .int v])) p (n + 1) :=
    ⟨same_new sub free, free, q, ns, i + 1, v, hp1, by rw [upd_ne hqp]; exact hq, hg, hqp, hl, by omega, by omega, hv⟩
  -- cell = index * 1019 + 11
  refine ⟨_, rfl, _, _, rfl, rfl, mul_r (by decide), _, _, rfl, rfl, ?_⟩
  -- if pen[0] != []: cell = pen[0][index % len(pen[0])]
  refine ⟨fun σ' H' => ∃ c : Int, σ' = [some (.ref p), some (.int i), some (.int c), none, none, none] ∧ PenG G H' p (n + 1), ?_, ?_⟩
  · refine ⟨_, rfl, p, _, 0, _, rfl, rfl, SqL.of hp1, rfl, Nat.zero_le _, fun l hl1 => ?_⟩
    have hP2 := hP1.drop (o := .lst []) hl1
    have hlp := hP1.ne_new hl1
    have hql : q ≠ l := fun e => by rw [← e, upd_ne hqp, hq] at hl1; cases hl1
    have hq2 : upd (upd H p (.lst [.ref q, .int (i + 1), .int v])) l (.lst []) q = some (.lst (ns.map V.int)) := by rw [upd_ne hql, upd_ne hqp]; exact hq
    refine ⟨.list (ns.map PyData.int), .list [], .lst (SqL.of hq2) (dpAll_ints ns), .lst (SqL.of upd_same) .nil, shaped_ints ns, rfl, _, rfl, ?_⟩
    refine if_b (fun hne => ?_) (fun _ => ⟨_, rfl, hP2⟩)
    have hp2 : upd (upd H p (.lst [.ref q, .int (i + 1), .int v])) l (.lst []) p = some (.lst [.ref q, .int (i + 1), .int v]) := by rw [upd_ne (Ne.symm hlp)]; exact hp1
    have hpos : 0 < ns.length := by
      cases ns with
      | nil => exact absurd hne (by decide)
      | cons a r => exact Nat.succ_pos _
    have hm : i % (ns.length : Int) = ((i % (ns.length : Int)).toNat : Int) := (Int.toNat_of_nonneg (Int.emod_nonneg _ (by omega))).symm
    have hlt : (i % (ns.length : Int)).toNat < ns.length := by
      have := Int.emod_lt_of_pos i (show (0 : Int) < ns.length by omega)
      omega
    refine ⟨_, rfl, p, _, 0, _, rfl, rfl, SqL.of hp2, rfl, _, rfl, _, rfl, p, _, 0, _, rfl, rfl, SqL.of hp2, rfl, q, _, rfl, .inl (SqL.of hq2), _, _, rfl, rfl, by rw [List.length_map]; omega, ?_⟩
    refine ⟨q, _, _, _, rfl, rfl, SqL.of hq2, by rw [List.length_map, Int.fmod_eq_emod_of_nonneg _ (by omega), hm]; exact at_int hlt, ?_⟩
    exact ⟨_, rfl, hP2⟩
  · rintro σ' H' ⟨c, rfl, hP2⟩
    obtain ⟨sub2, free2, q2, ns2, i2, v2, hp2, hq2, hg2, hqp2, hl2, h02, hi2, hv2⟩ := id hP2
    -- if index < len(pen[0]) and cell >= 10 ** 18: return cell
    refine ⟨fun σ' H'' => σ' = [some (.ref p), some (.int i), some (.int c), none, none, none] ∧ H'' = H', ?_, ?_⟩
    · refine ⟨_, rfl, _, rfl, p, _, 0, _, rfl, rfl, SqL.of hp2, rfl, q2, _, rfl, .inl (SqL.of hq2), _, _, rfl, rfl, _, rfl, ?_⟩
      refine if_b (fun _ => ?_) (fun _ => iteF ⟨rfl, rfl⟩)
      refine ⟨_, rfl, _, _, rfl, rfl, ⟨by decide, by decide, by decide⟩, _, _, rfl, rfl, _, rfl, ?_⟩
      refine if_b (fun hc => ?_) (fun _ => ⟨rfl, rfl⟩)
      refine ⟨_, rfl, k _ _ hP2 ?_⟩
      have := of_decide_eq_true hc
      have e : ((10 : Int) ^ (18 : Int).toNat) = 1000000000000000000 := by decide
      rw [e] at this
      omega
    · rintro σ' H'' ⟨rfl, rfl⟩
      have fin : ∀ low mid top : Int, 0 ≤ low → 0 ≤ mid → 0 ≤ top → Q (.int ((top * 2147483629 + mid) * 2147483587 + low)) H'' := fun low mid top a b c => k _ _ hP2 (by omega)
      have b1 : -(2 ^ 64) < i ∧ i < 2 ^ 64 := by constructor <;> omega
      refine ⟨_, rfl, _, _, rfl, rfl, (by show (0 : Int) < _; decide), _, rfl, _, _, rfl, rfl, mul_r (by decide), _, _, rfl, rfl, _, _, rfl, rfl, _, _, rfl, rfl, (by show (0 : Int) < _; decide), ?_⟩
      refine ⟨_, rfl, _, rfl, _, _, rfl, rfl, mul_l (mod_b (by decide) (by decide)), _, rfl, _, _, rfl, rfl, mul_r (by decide), _, _, rfl, rfl, _, _, rfl, rfl, _, _, rfl, rfl, (by show (0 : Int) < _; decide), ?_⟩
      refine ⟨_, rfl, _, rfl, _, _, rfl, rfl, mul_l (mod_b (by decide) (by decide)), _, rfl, _, _, rfl, rfl, _, rfl, _, rfl, _, _, rfl, rfl, mul_l b1, _, _, rfl, rfl, mul_r (by decide), _, _, rfl, rfl, _, _, rfl, rfl, (by show (0 : Int) < _; decide), ?_⟩
      refine ⟨_, rfl, _, _, rfl, rfl, mul_r (by decide), _, rfl, _, _, rfl, rfl, _, _, rfl, rfl, mul_r (by decide), _, rfl, _, _, rfl, rfl, ?_⟩
      exact fin _ _ _ (Int.emod_nonneg _ (by decide)) (Int.emod_nonneg _ (by decide)) (Int.emod_nonneg _ (by decide))
/-- _law_draw(pen, below): a number from 0 to below - 1 -/
def sp_l_draw (K : PySem.W.Frag) : Sp := fun vs H Q _ => ∃ (p : Addr) (G : Hp) (n : Nat) (b : Int), vs = [.ref p, .int b] ∧ PenG G H p n ∧ n + 1 ≤ 1000000000 ∧ 0 < b ∧ b < 1073741824 ∧
  ∀ (H' : Hp) (d : Int), PenG G H' p (n + 1) → 0 ≤ d → d < b → Q (.int d) H'
theorem cal_l_draw (T : Txt K mg) : CalG P w K mg base CX0 2 "_law_draw" (sp_l_draw K) [] := by
  refine T.d_l_draw.cal .nil sc_l_draw (fun vs H Q E h => by obtain ⟨_, _, _, _, rfl, _⟩ := h; rfl) (fun f cdv A outer s H vs Q E hr h => ?_)
  obtain ⟨p, G, n, b, rfl, hP, hn, hb, hb2, k⟩ := h
  refine ⟨_, (C8.pss_cut (ps_if (pt_cmpR op_lt (pe_ix (r := rIxL K) ix_list (pv 0) pe_int (fun _ _ => rfl)) (pv 1) (nomark _))
      (pss_one (ps_asg (pe_g (cal_l_next T) hr (by first | decide | (simp only [Nat.add_eq]; omega)) rfl (pa_cons (pv 0) pa_nil)) (pg_sub (pv 0) pe_int set_list)))
      pss_nil)
      (pss_cons (ps_set (i := 2) sc_l_draw.nd rfl (Or.inl rfl) (pe_op op_modN (pe_ix (r := rIxL K) ix_list (pv 0) pe_int (fun _ _ => rfl)) (pv 1)))
      (pss_cons (ps_asg (pe_op op_fdivN (pe_ix (r := rIxL K) ix_list (pv 0) pe_int (fun _ _ => rfl)) (pv 1)) (pg_sub (pv 0) pe_int set_list))
      (pss_one (ps_ret (pv 2)))))), ?_⟩
  obtain ⟨sub, free, q, ns, i, v, hp, hq, hg, hqp, hl, h0, hi, hv⟩ := id hP
  refine ⟨fun σ' H' => σ' = [some (.ref p), some (.int b), none] ∧ PenG G H' p (n + 1), ?_, ?_⟩
  · refine ⟨_, rfl, p, _, 2, _, rfl, rfl, SqL.of hp, rfl, _, rfl, _, _, rfl, rfl, _, rfl, ?_⟩
    refine if_b (fun _ => ?_) (fun _ => ⟨rfl, hP.mono (by omega)⟩)
    refine ⟨_, rfl, p, G, n, rfl, hP, hn, fun H' z hP' hz => ?_⟩
    obtain ⟨sub', free', q', ns', i', v', hp', hq', hg', hqp', hl', h0', hi', hv'⟩ := id hP'
    refine ⟨_, rfl, p, _, 2, 2, rfl, rfl, hp', rfl, rfl, ?_⟩
    exact ⟨same_new sub' free, free, q', ns', i', z, upd_same, by rw [upd_ne hqp']; exact hq', hg', hqp', hl', h0', hi', hz⟩
  · rintro σ' H' ⟨rfl, hP'⟩
    obtain ⟨sub', free', q', ns', i', v', hp', hq', hg', hqp', hl', h0', hi', hv'⟩ := id hP'
    refine ⟨_, rfl, p, _, 2, _, rfl, rfl, SqL.of hp', rfl, _, rfl, _, _, rfl, rfl, by omega, ?_⟩
    refine ⟨_, rfl, p, _, 2, _, rfl, rfl, SqL.of hp', rfl, _, rfl, _, _, rfl, rfl, ⟨by omega, by omega⟩, ?_⟩
    refine ⟨_, rfl, p, _, 2, 2, rfl, rfl, hp', rfl, ?_⟩
    refine ⟨_, rfl, ?_⟩
    show Q (.int (v'.fmod b)) _
    have em : v'.fmod b = v' % b := Int.fmod_eq_emod_of_nonneg _ (by omega)
    have ed : v'.fdiv b = v' / b := Int.fdiv_eq_ediv_of_nonneg _ (by omega)
    rw [em]
    refine k _ _ ⟨same_new sub' free, free, q', ns', i', v' / b, ?_, by rw [upd_ne hqp']; exact hq', hg', hqp', hl', h0', hi', Int.ediv_nonneg hv' (by omega)⟩ (Int.emod_nonneg _ (by omega)) (Int.emod_lt_of_pos _ hb)
    rw [upd_same, ← ed]
    rfl
/-! ### is_name -/
/-- the signs of a name -/
def nameB (x : Str) : Bool := decide (1 ≤ x.length) && decide (x.length ≤ 8) && x.cps.toList.all fun c => decide (97 ≤ c ∧ c ≤ 122)
theorem name_len {x : Str} (h : nameB x = true) : 1 ≤ x.length ∧ x.length ≤ 8 := by
  unfold nameB at h
  rw [Bool.and_eq_true, Bool.and_eq_true] at h
  exact ⟨of_decide_eq_true h.1.1, of_decide_eq_true h.1.2⟩
def sp_isname (K : PySem.W.Frag) : Sp := fun vs H Q _ => ∃ v : V, vs = [v] ∧ ((∃ x : Str, v = .str x ∧ x.length ≤ 1000000 ∧ ∀ H', Same H H' → Q (.bl (nameB x)) H') ∨ (NotStr K H v ∧ ∀ H', Same H H' → Q (.bl false) H'))
theorem letters_in (c : Nat) : decide (c ∈ ("abcdefghijklmnopqrstuvwxyz" : Str).cps.toList) = decide (97 ≤ c ∧ c ≤ 122) := by
  have e : ("abcdefghijklmnopqrstuvwxyz" : Str).cps.toList = [97, 98, 99, 100, 101, 102, 103, 104, 105, 106, 107, 108, 109, 110, 111, 112, 113, 114, 115, 116, 117, 118, 119, 120, 121, 122] := by decide +kernel
  rw [e]
  simp only [List.mem_cons, List.not_mem_nil, or_false, decide_eq_decide]
  omega
theorem all_bl (l : List Nat) (f : Nat → Bool) : (l.map f).all id = l.all f := by rw [List.all_map]; rfl
theorem cal_is_name (T : Txt K mg) : CalG P w K mg base CX0 1 "is_name" (sp_isname K) [] := by
  refine T.d_is_name.cal .nil sc_is_name (fun vs H Q E h => by obtain ⟨_, rfl, _⟩ := h; rfl) (fun f cdv A outer s H vs Q E hr h => ?_)
  obtain ⟨v, rfl, h⟩ := h
  refine ⟨_, (C8.pss_cut (ps_if (PW.pt (pw_or (pt_not (pt_val (pe_callB (r := rIsi K) call_isi (by rfl) T.n_isinstance (by decide +kernel) (pa_cons (pv 0) (pa_cons (pe_bltn (v := .ty "str") (u := .type "str") (by rfl) T.n_str (by decide +kernel) rfl) pa_nil))))) (pw_or1 (pt_not (pt_chain op_le op_le pe_int (pe_callB call_len_str (by rfl) T.n_len (by decide +kernel) (pa_cons (pv 0) pa_nil)) (C8.pe_gc rfl T.c_LONGEST_NAME))))))
      (pss_one (ps_ret pe_bl))
      pss_nil)
      (pss_one (ps_ret (pe_callB (r := rAll K) (cr_all rfl) (by rfl) T.n_all (by decide +kernel) (pa_cons (pe_lc (own := [("letter", 1)]) (g := gName 1) (by rfl) sc_is_name.nd (pi_str (pv 0)) (blkOk_by (own := [("letter", 1)]) (N := ["thing", "letter"]) (sc := (defScope s_is_name)) (by decide +kernel)) (fun _ _ _ _ _ => (pg_name (i := 1) sc_is_name.nd rfl (Or.inl rfl))) (fun _ _ _ _ _ => pts_nil) (fun _ _ _ _ _ => (pe_cmpR op_in_sign (pv 1) (C8.pe_gc rfl T.c_LETTERS) (by rfl)))) pa_nil))))), ?_⟩
  rcases h with ⟨x, rfl, hx, k⟩ | ⟨⟨nt, hnt, knt⟩, k⟩
  · refine ⟨fun σ' H' => σ' = [some (.str x), none] ∧ H' = H ∧ 1 ≤ x.length ∧ x.length ≤ 8, ?_, ?_⟩
    · refine ⟨_, rfl, _, _, .type "str", .type "str", true, rfl, .ty "str", .base (.str _), kit_ty (by decide +kernel), _, rfl, ?_⟩
      refine iteF ?_
      refine ⟨_, rfl, _, rfl, sz_le hx rfl, _, _, rfl, rfl, _, rfl, ?_⟩
      refine if_b (fun h1 => ?_) (fun h1 => ?_)
      · refine ⟨_, _, rfl, rfl, _, rfl, ?_⟩
        have h1' := of_decide_eq_true h1
        by_cases h2 : x.length ≤ 8
        · have e2 : decide ((x.length : Int) ≤ 8) = true := decide_eq_true (by omega)
          show if (!decide ((x.length : Int) ≤ 8)) = true then _ else _
          rw [e2]
          exact iteF ⟨rfl, rfl, by omega, h2⟩
        · have e2 : decide ((x.length : Int) ≤ 8) = false := decide_eq_false (by omega)
          show if (!decide ((x.length : Int) ≤ 8)) = true then _ else _
          rw [e2]
          refine iteT ?_
          have e3 : nameB x = false := by unfold nameB; rw [decide_eq_false h2, Bool.and_false, Bool.false_and]
          have := k _ (Same.refl _)
          rw [e3] at this
          exact this
      · have h1' := of_decide_eq_false h1
        refine ⟨_, rfl, ?_⟩
        have e3 : nameB x = false := by unfold nameB; rw [decide_eq_false (show ¬ 1 ≤ x.length by omega), Bool.false_and, Bool.false_and]
        have := k _ (Same.refl _)
        rw [e3] at this
        exact this
    · rintro σ' H' ⟨rfl, rfl, h1, h2⟩
      refine ⟨_, rfl, _, rfl, fun D hD => lc_strB (fun c => decide (97 ≤ c ∧ c ≤ 122)) ?_ ?_ ?_⟩
      · exact Nat.lt_of_le_of_lt hx (by decide)
      · intro c H'' Q' hc q
        refine ⟨_, rfl, _, _, rfl, rfl, ?_⟩
        rw [letters_in]
        exact q
      · refine ⟨D, _, rfl, SqL.of upd_same, ?_⟩
        rw [all_bl]
        have e3 : nameB x = x.cps.toList.all fun c => decide (97 ≤ c ∧ c ≤ 122) := by unfold nameB; rw [decide_eq_true h1, decide_eq_true h2, Bool.true_and, Bool.true_and]
        rw [← e3]
        exact k _ (same_new (Same.refl _) hD)
  · refine ⟨fun _ _ => False, ?_, fun _ _ h => h.elim⟩
    refine ⟨_, rfl, _, _, .type nt, .type "str", false, rfl, .ty "str", hnt, kit_ty knt, _, rfl, ?_⟩
    exact iteT (k _ (Same.refl _))
/-! ### is_codeword -/
def wordB (r h : Int) (x : Str) : Bool := decide (1 ≤ x.length) && decide ((x.length : Int) ≤ h) && x.cps.toList.all fun c => decide (48 ≤ c ∧ (c : Int) < 48 + r)
def sp_iscw (K : PySem.W.Frag) : Sp := fun vs H Q _ => ∃ (r h : Int) (v : V), vs = [.int r, .int h, v] ∧ 2 ≤ r ∧ r ≤ 4 ∧
  ((∃ x : Str, v = .str x ∧ x.length ≤ 1000000 ∧ ∀ H', Same H H' → Q (.bl (wordB r h x)) H') ∨ (NotStr K H v ∧ ∀ H', Same H H' → Q (.bl false) H'))
theorem digits_in {r : Int} (h2 : 2 ≤ r) (h4 : r ≤ 4) (c : Nat) : decide (c ∈ (cutS ("0123456789" : Str) none (some r)).cps.toList) = decide (48 ≤ c ∧ (c : Int) < 48 + r) := by
  have hr : r = 2 ∨ r = 3 ∨ r = 4 := by omega
  rcases hr with rfl | rfl | rfl
  · have e : (cutS ("0123456789" : Str) none (some 2)).cps.toList = [48, 49] := by decide +kernel
    rw [e]
    simp only [List.mem_cons, List.not_mem_nil, or_false, decide_eq_decide]
    omega
  · have e : (cutS ("0123456789" : Str) none (some 3)).cps.toList = [48, 49, 50] := by decide +kernel
    rw [e]
    simp only [List.mem_cons, List.not_mem_nil, or_false, decide_eq_decide]
    omega
  · have e : (cutS ("0123456789" : Str) none (some 4)).cps.toList = [48, 49, 50, 51] := by decide +kernel
    rw [e]
    simp only [List.mem_cons, List.not_mem_nil, or_false, decide_eq_decide]
    omega
theorem cal_is_codeword (T : Txt K mg) : CalG P w K mg base CX0 1 "is_codeword" (sp_iscw K) [] := by
  refine T.d_is_codeword.cal .nil sc_is_codeword (fun vs H Q E h => by obtain ⟨_, _, _, rfl, _⟩ := h; rfl) (fun f cdv A outer s H vs Q E hr h => ?_)
  obtain ⟨r, hh, v, rfl, r2, r4, h⟩ := h
  refine ⟨_, (C8.pss_cut (ps_if (PW.pt (pw_or (pt_not (pt_val (pe_callB (r := rIsi K) call_isi (by rfl) T.n_isinstance (by decide +kernel) (pa_cons (pv 2) (pa_cons (pe_bltn (v := .ty "str") (u := .type "str") (by rfl) T.n_str (by decide +kernel) rfl) pa_nil))))) (pw_or1 (pt_not (pt_chain op_le op_le pe_int (pe_callB call_len_str (by rfl) T.n_len (by decide +kernel) (pa_cons (pv 2) pa_nil)) (pv 1))))))
      (pss_one (ps_ret pe_bl))
      pss_nil)
      (pss_one (ps_ret (pe_callB (r := rAll K) (cr_all rfl) (by rfl) T.n_all (by decide +kernel) (pa_cons (pe_lc (own := [("digit", 3)]) (g := gName 3) (by rfl) sc_is_codeword.nd (pi_str (pv 2)) (blkOk_by (own := [("digit", 3)]) (N := ["radix", "depth", "thing", "digit"]) (sc := (defScope s_is_codeword)) (by decide +kernel)) (fun _ _ _ _ _ => (pg_name (i := 3) sc_is_codeword.nd rfl (Or.inl rfl))) (fun _ _ _ _ _ => pts_nil) (fun _ _ _ _ _ => (pe_cmpR op_in_sign (pv 3) (pe_slice sl_str (C8.pe_gc rfl T.c_DIGITS) po_none (po_some (pv 0))) (by rfl)))) pa_nil))))), ?_⟩
  rcases h with ⟨x, rfl, hx, k⟩ | ⟨⟨nt, hnt, knt⟩, k⟩
  · refine ⟨fun σ' H' => σ' = [some (.int r), some (.int hh), some (.str x), none] ∧ H' = H ∧ 1 ≤ x.length ∧ (x.length : Int) ≤ hh, ?_, ?_⟩
    · refine ⟨_, rfl, _, _, .type "str", .type "str", true, rfl, .ty "str", .base (.str _), kit_ty (by decide +kernel), _, rfl, ?_⟩
      refine iteF ?_
      refine ⟨_, rfl, _, rfl, sz_le hx rfl, _, _, rfl, rfl, _, rfl, ?_⟩
      refine if_b (fun h1 => ?_) (fun h1 => ?_)
      · refine ⟨_, rfl, _, _, rfl, rfl, _, rfl, ?_⟩
        have h1' := of_decide_eq_true h1
        by_cases h2 : (x.length : Int) ≤ hh
        · have e2 : decide ((x.length : Int) ≤ hh) = true := decide_eq_true h2
          show if (!decide ((x.length : Int) ≤ hh)) = true then _ else _
          rw [e2]
          exact iteF ⟨rfl, rfl, by omega, h2⟩
        · have e2 : decide ((x.length : Int) ≤ hh) = false := decide_eq_false h2
          show if (!decide ((x.length : Int) ≤ hh)) = true then _ else _
          rw [e2]
          refine iteT ?_
          have e3 : wordB r hh x = false := by unfold wordB; rw [e2, Bool.and_false, Bool.false_and]
          have := k _ (Same.refl _)
          rw [e3] at this
          exact this
      · have h1' := of_decide_eq_false h1
        refine ⟨_, rfl, ?_⟩
        have e3 : wordB r hh x = false := by unfold wordB; rw [decide_eq_false (show ¬ 1 ≤ x.length by omega), Bool.false_and, Bool.false_and]
        have := k _ (Same.refl _)
        rw [e3] at this
        exact this
    · rintro σ' H' ⟨rfl, rfl, h1, h2⟩
      refine ⟨_, rfl, _, rfl, fun D hD => lc_strB (fun c => decide (48 ≤ c ∧ (c : Int) < 48 + r)) ?_ ?_ ?_⟩
      · exact Nat.lt_of_le_of_lt hx (by decide)
      · intro c H'' Q' hc q
        refine ⟨_, rfl, _, rfl, _, rfl, _, rfl, sz_rfl rfl, _, _, rfl, rfl, ?_⟩
        rw [digits_in r2 r4]
        exact q
      · refine ⟨D, _, rfl, SqL.of upd_same, ?_⟩
        rw [all_bl]
        have e3 : wordB r hh x = x.cps.toList.all fun c => decide (48 ≤ c ∧ (c : Int) < 48 + r) := by unfold wordB; rw [decide_eq_true h1, decide_eq_true h2, Bool.true_and, Bool.true_and]
        rw [← e3]
        exact k _ (same_new (Same.refl _) hD)
  · refine ⟨fun _ _ => False, ?_, fun _ _ h => h.elim⟩
    refine ⟨_, rfl, _, _, .type nt, .type "str", false, rfl, .ty "str", hnt, kit_ty knt, _, rfl, ?_⟩
    exact iteT (k _ (Same.refl _))
/-! ### the law's own readings -/
theorem sgn_lt (c d : Nat) : decide (([c] : List Nat) < [d]) = decide (c < d) := by
  rw [decide_eq_decide]
  constructor
  · intro h
    rcases List.cons_lt_cons_iff.mp h with h | ⟨_, h⟩
    · exact h
    · exact absurd h (by simp)
  · intro h
    exact List.cons_lt_cons_iff.mpr (.inl h)
theorem cal_l_is_name (T : Txt K mg) : CalG P w K mg base CX0 1 "_law_is_name" (sp_isname K) [] := by
  refine T.d_l_is_name.cal .nil sc_l_is_name (fun vs H Q E h => by obtain ⟨_, rfl, _⟩ := h; rfl) (fun f cdv A outer s H vs Q E hr h => ?_)
  obtain ⟨v, rfl, h⟩ := h
  refine ⟨_, (C8.pss_cut (ps_if (PW.pt (pw_or (pt_not (pt_val (pe_callB (r := rIsi K) call_isi (by rfl) T.n_isinstance (by decide +kernel) (pa_cons (pv 0) (pa_cons (pe_bltn (v := .ty "str") (u := .type "str") (by rfl) T.n_str (by decide +kernel) rfl) pa_nil))))) (pw_or1 (pt_not (pt_chain op_le op_le pe_int (pe_callB call_len_str (by rfl) T.n_len (by decide +kernel) (pa_cons (pv 0) pa_nil)) pe_int)))))
      (pss_one (ps_ret pe_bl))
      pss_nil)
      (pss_one (ps_ret (pe_callB (r := rAll K) (cr_all rfl) (by rfl) T.n_all (by decide +kernel) (pa_cons (pe_lc (own := [("sign", 1)]) (g := gName 1) (by rfl) sc_l_is_name.nd (pi_str (pv 0)) (blkOk_by (own := [("sign", 1)]) (N := ["thing", "sign"]) (sc := (defScope s_l_is_name)) (by decide +kernel)) (fun _ _ _ _ _ => (pg_name (i := 1) sc_l_is_name.nd rfl (Or.inl rfl))) (fun _ _ _ _ _ => pts_nil) (fun _ _ _ _ _ => (pe_chain op_le_str op_le_str pe_str (pv 1) pe_str))) pa_nil))))), ?_⟩
  rcases h with ⟨x, rfl, hx, k⟩ | ⟨⟨nt, hnt, knt⟩, k⟩
  · refine ⟨fun σ' H' => σ' = [some (.str x), none] ∧ H' = H ∧ 1 ≤ x.length ∧ x.length ≤ 8, ?_, ?_⟩
    · refine ⟨_, rfl, _, _, .type "str", .type "str", true, rfl, .ty "str", .base (.str _), kit_ty (by decide +kernel), _, rfl, ?_⟩
      refine iteF ?_
      refine ⟨_, rfl, _, rfl, sz_le hx rfl, _, _, rfl, rfl, _, rfl, ?_⟩
      refine if_b (fun h1 => ?_) (fun h1 => ?_)
      · refine ⟨_, _, rfl, rfl, _, rfl, ?_⟩
        have h1' := of_decide_eq_true h1
        by_cases h2 : x.length ≤ 8
        · have e2 : decide ((x.length : Int) ≤ 8) = true := decide_eq_true (by omega)
          show if (!decide ((x.length : Int) ≤ 8)) = true then _ else _
          rw [e2]
          exact iteF ⟨rfl, rfl, by omega, h2⟩
        · have e2 : decide ((x.length : Int) ≤ 8) = false := decide_eq_false (by omega)
          show if (!decide ((x.length : Int) ≤ 8)) = true then _ else _
          rw [e2]
          refine iteT ?_
          have e3 : nameB x = false := by unfold nameB; rw [decide_eq_false h2, Bool.and_false, Bool.false_and]
          have := k _ (Same.refl _)
          rw [e3] at this
          exact this
      · have h1' := of_decide_eq_false h1
        refine ⟨_, rfl, ?_⟩
        have e3 : nameB x = false := by unfold nameB; rw [decide_eq_false (show ¬ 1 ≤ x.length by omega), Bool.false_and, Bool.false_and]
        have := k _ (Same.refl _)
        rw [e3] at this
        exact this
    · rintro σ' H' ⟨rfl, rfl, h1, h2⟩
      refine ⟨_, rfl, _, rfl, fun D hD => lc_strB (fun c => decide (97 ≤ c ∧ c ≤ 122)) ?_ ?_ ?_⟩
      · exact Nat.lt_of_le_of_lt hx (by decide)
      · intro c H'' Q' hc q
        refine ⟨_, rfl, _, _, rfl, rfl, _, rfl, ?_⟩
        have ea : ("a" : Str).cps.toList = [97] := by decide +kernel
        have ez : ("z" : Str).cps.toList = [122] := by decide +kernel
        rw [ea, sgn_lt]
        refine if_b (fun h3 => ?_) (fun h3 => ?_)
        · have h3' : 97 ≤ c := by simpa using h3
          refine ⟨_, _, rfl, rfl, ?_⟩
          rw [ez, sgn_lt]
          have e : (!decide (122 < c)) = decide (97 ≤ c ∧ c ≤ 122) := by
            rw [← decide_not, decide_eq_decide]
            omega
          rw [e]
          exact q
        · have h3' : c < 97 := by simpa using h3
          rw [decide_eq_false (show ¬ (97 ≤ c ∧ c ≤ 122) by omega)] at q
          exact q
      · refine ⟨D, _, rfl, SqL.of upd_same, ?_⟩
        rw [all_bl]
        have e3 : nameB x = x.cps.toList.all fun c => decide (97 ≤ c ∧ c ≤ 122) := by unfold nameB; rw [decide_eq_true h1, decide_eq_true h2, Bool.true_and, Bool.true_and]
        rw [← e3]
        exact k _ (same_new (Same.refl _) hD)
  · refine ⟨fun _ _ => False, ?_, fun _ _ h => h.elim⟩
    refine ⟨_, rfl, _, _, .type nt, .type "str", false, rfl, .ty "str", hnt, kit_ty knt, _, rfl, ?_⟩
    exact iteT (k _ (Same.refl _))
theorem digits_in4 {r : Int} (h2 : 2 ≤ r) (h4 : r ≤ 4) (c : Nat) : decide (c ∈ (cutS ("0123" : Str) none (some r)).cps.toList) = decide (48 ≤ c ∧ (c : Int) < 48 + r) := by
  have hr : r = 2 ∨ r = 3 ∨ r = 4 := by omega
  rcases hr with rfl | rfl | rfl
  · have e : (cutS ("0123" : Str) none (some 2)).cps.toList = [48, 49] := by decide +kernel
    rw [e]
    simp only [List.mem_cons, List.not_mem_nil, or_false, decide_eq_decide]
    omega
  · have e : (cutS ("0123" : Str) none (some 3)).cps.toList = [48, 49, 50] := by decide +kernel
    rw [e]
    simp only [List.mem_cons, List.not_mem_nil, or_false, decide_eq_decide]
    omega
  · have e : (cutS ("0123" : Str) none (some 4)).cps.toList = [48, 49, 50, 51] := by decide +kernel
    rw [e]
    simp only [List.mem_cons, List.not_mem_nil, or_false, decide_eq_decide]
    omega
theorem cal_l_is_codeword (T : Txt K mg) : CalG P w K mg base CX0 1 "_law_is_codeword" (sp_iscw K) [] := by
  refine T.d_l_is_codeword.cal .nil sc_l_is_codeword (fun vs H Q E h => by obtain ⟨_, _, _, rfl, _⟩ := h; rfl) (fun f cdv A outer s H vs Q E hr h => ?_)
  obtain ⟨r, hh, v, rfl, r2, r4, h⟩ := h
  refine ⟨_, (C8.pss_cut (ps_if (PW.pt (pw_or (pt_not (pt_val (pe_callB (r := rIsi K) call_isi (by rfl) T.n_isinstance (by decide +kernel) (pa_cons (pv 2) (pa_cons (pe_bltn (v := .ty "str") (u := .type "str") (by rfl) T.n_str (by decide +kernel) rfl) pa_nil))))) (pw_or1 (pt_not (pt_chain op_le op_le pe_int (pe_callB call_len_str (by rfl) T.n_len (by decide +kernel) (pa_cons (pv 2) pa_nil)) (pv 1))))))
      (pss_one (ps_ret pe_bl))
      pss_nil)
      (pss_one (ps_ret (pe_callB (r := rAll K) (cr_all rfl) (by rfl) T.n_all (by decide +kernel) (pa_cons (pe_lc (own := [("sign", 3)]) (g := gName 3) (by rfl) sc_l_is_codeword.nd (pi_str (pv 2)) (blkOk_by (own := [("sign", 3)]) (N := ["radix", "depth", "thing", "sign"]) (sc := (defScope s_l_is_codeword)) (by decide +kernel)) (fun _ _ _ _ _ => (pg_name (i := 3) sc_l_is_codeword.nd rfl (Or.inl rfl))) (fun _ _ _ _ _ => pts_nil) (fun _ _ _ _ _ => (pe_cmpR op_in_sign (pv 3) (pe_slice sl_str pe_str po_none (po_some (pv 0))) (by rfl)))) pa_nil))))), ?_⟩
  rcases h with ⟨x, rfl, hx, k⟩ | ⟨⟨nt, hnt, knt⟩, k⟩
  · refine ⟨fun σ' H' => σ' = [some (.int r), some (.int hh), some (.str x), none] ∧ H' = H ∧ 1 ≤ x.length ∧ (x.length : Int) ≤ hh, ?_, ?_⟩
    · refine ⟨_, rfl, _, _, .type "str", .type "str", true, rfl, .ty "str", .base (.str _), kit_ty (by decide +kernel), _, rfl, ?_⟩
      refine iteF ?_
      refine ⟨_, rfl, _, rfl, sz_le hx rfl, _, _, rfl, rfl, _, rfl, ?_⟩
      refine if_b (fun h1 => ?_) (fun h1 => ?_)
      · refine ⟨_, rfl, _, _, rfl, rfl, _, rfl, ?_⟩
        have h1' := of_decide_eq_true h1
        by_cases h2 : (x.length : Int) ≤ hh
        · have e2 : decide ((x.length : Int) ≤ hh) = true := decide_eq_true h2
          show if (!decide ((x.length : Int) ≤ hh)) = true then _ else _
          rw [e2]
          exact iteF ⟨rfl, rfl, by omega, h2⟩
        · have e2 : decide ((x.length : Int) ≤ hh) = false := decide_eq_false h2
          show if (!decide ((x.length : Int) ≤ hh)) = true then _ else _
          rw [e2]
          refine iteT ?_
          have e3 : wordB r hh x = false := by unfold wordB; rw [e2, Bool.and_false, Bool.false_and]
          have := k _ (Same.refl _)
          rw [e3] at this
          exact this
      · have h1' := of_decide_eq_false h1
        refine ⟨_, rfl, ?_⟩
        have e3 : wordB r hh x = false := by unfold wordB; rw [decide_eq_false (show ¬ 1 ≤ x.length by omega), Bool.false_and, Bool.false_and]
        have := k _ (Same.refl _)
        rw [e3] at this
        exact this
    · rintro σ' H' ⟨rfl, rfl, h1, h2⟩
      refine ⟨_, rfl, _, rfl, fun D hD => lc_strB (fun c => decide (48 ≤ c ∧ (c : Int) < 48 + r)) ?_ ?_ ?_⟩
      · exact Nat.lt_of_le_of_lt hx (by decide)
      · intro c H'' Q' hc q
        refine ⟨_, rfl, _, rfl, _, rfl, _, rfl, sz_rfl rfl, _, _, rfl, rfl, ?_⟩
        rw [digits_in4 r2 r4]
        exact q
      · refine ⟨D, _, rfl, SqL.of upd_same, ?_⟩
        rw [all_bl]
        have e3 : wordB r hh x = x.cps.toList.all fun c => decide (48 ≤ c ∧ (c : Int) < 48 + r) := by unfold wordB; rw [decide_eq_true h1, decide_eq_true h2, Bool.true_and, Bool.true_and]
        rw [← e3]
        exact k _ (same_new (Same.refl _) hD)
  · refine ⟨fun _ _ => False, ?_, fun _ _ h => h.elim⟩
    refine ⟨_, rfl, _, _, .type nt, .type "str", false, rfl, .ty "str", hnt, kit_ty knt, _, rfl, ?_⟩
    exact iteT (k _ (Same.refl _))
/-- _law_same_truth(result, expected) of two truths -/
def sp_same_truth : Sp := fun vs H Q _ => ∃ a b : Bool, vs = [.bl a, .bl b] ∧ Q (.bl (decide (V.bl a = V.bl b))) H
theorem cal_l_same_truth (T : Txt K mg) : CalG P w K mg base CX0 1 "_law_same_truth" sp_same_truth [] := by
  refine T.d_l_same_truth.cal .nil sc_l_same_truth (fun vs H Q E h => by obtain ⟨_, _, rfl, _⟩ := h; rfl) (fun f cdv A outer s H vs Q E hr h => ?_)
  obtain ⟨a, b, rfl, k⟩ := h
  refine ⟨_, (pss_one (ps_ret (pe_and (pe_callB (r := rIsi K) call_isi (by rfl) T.n_isinstance (by decide +kernel) (pa_cons (pv 0) (pa_cons (pe_bltn (v := .ty "bool") (u := .type "bool") (by rfl) T.n_bool (by decide +kernel) rfl) pa_nil))) (pe_one (pe_cmpR op_eq (pv 0) (pv 1) (nomark _)))))), ?_⟩
  refine ⟨_, rfl, _, _, .type "bool", .type "bool", true, rfl, .ty "bool", .base (.bl _), kit_ty (by decide +kernel), true, rfl, ?_⟩
  refine ⟨_, rfl, _, rfl, rfl, ?_⟩
  exact k
/-- _law_word(pen, signs, most): a text of at most `most` of the signs -/
def sp_l_word : Sp := fun vs H Q _ => ∃ (p : Addr) (G : Hp) (n m : Nat) (z : Str), vs = [.ref p, .str z, .int (m : Int)] ∧ PenG G H p n ∧ n + 1 + m ≤ 1000000000 ∧ m ≤ 1000 ∧ 0 < z.length ∧ z.length ≤ 1000 ∧
  ∀ (H' : Hp) (x : Str), PenG G H' p (n + 1 + m) → x.length ≤ m → Q (.str x) H'
theorem cal_l_word (T : Txt K mg) : CalG P w K mg base CX0 3 "_law_word" sp_l_word [] := by
  refine T.d_l_word.cal .nil sc_l_word (fun vs H Q E h => by obtain ⟨_, _, _, _, _, rfl, _⟩ := h; rfl) (fun f cdv A outer s H vs Q E hr h => ?_)
  obtain ⟨p, G, n, m, z, rfl, hP, hn, hm, hz, hz2, k⟩ := h
  refine ⟨_, (pss_one (ps_ret (pe_m1 (r := rJoinQ K) PySem.F.slot_str_join PySem.F.type_str_join mt_join pe_str (pe_lc (own := [("turn", 3)]) (g := gName 3) (by rfl) sc_l_word.nd (pi_range1 rfl T.n_range (pa_cons (pe_g (cal_l_draw T) hr (by first | decide | (simp only [Nat.add_eq]; omega)) rfl (pa_cons (pv 0) (pa_cons (pe_op op_add (pv 2) pe_int) pa_nil))) pa_nil)) (blkOk_by (own := [("turn", 3)]) (N := ["pen", "signs", "most", "turn"]) (sc := (defScope s_l_word)) (by decide +kernel)) (fun _ _ _ _ _ => (pg_name (i := 3) sc_l_word.nd rfl (Or.inl rfl))) (fun _ _ _ _ _ => pts_nil) (fun _ _ _ _ _ => (pe_ix (r := rIxS) ix_str (pv 1) (pe_g (cal_l_draw T) hr (by first | decide | (simp only [Nat.add_eq]; omega)) rfl (pa_cons (pv 0) (pa_cons (pe_callB call_len_str (by rfl) T.n_len (by decide +kernel) (pa_cons (pv 1) pa_nil)) pa_nil))) (fun _ _ => rfl))))))), ?_⟩
  refine ⟨⟨_, rfl⟩, _, rfl, _, rfl, _, _, rfl, rfl, ?_⟩
  refine ⟨p, G, n, _, rfl, hP, by omega, by omega, by omega, fun H1 d hP1 d0 d1 => ?_⟩
  refine ⟨d, rfl, by omega, by omega, fun D hD => lc_rangeP 1 (fun _ v => ∃ c : Nat, v = .str ⟨#[c]⟩) (fun _ h => h) hP1 hD (by omega) ?_ ?_⟩
  · rintro i acc G' H' Q' hi hl s g hP2 hA kk
    refine ⟨_, rfl, _, rfl, _, rfl, _, rfl, sz_le hz2 rfl, ?_⟩
    refine ⟨p, _, _, _, rfl, hP2, by omega, by omega, by omega, fun H3 e hP3 e0 e1 => ?_⟩
    obtain ⟨c, hc, _⟩ := atI_some (xs := z.cps.toList) e0 (by rw [← TL.len_tl]; exact e1)
    refine ⟨_, _, c, rfl, rfl, sz_le hz2 rfl, hc, ?_⟩
    exact kk _ G' H3 (Same.refl _) g ⟨_, rfl⟩ (hP3.mono (by omega))
  · rintro acc G' H' hl s g hA hP2
    obtain ⟨xs, rfl, hxs⟩ := all_strs (P := fun x => x.length = 1) fun v hv => by
      obtain ⟨c, rfl⟩ := hA v hv
      exact ⟨_, rfl, rfl⟩
    rw [List.length_map] at hl
    have el := sum_one hxs
    refine ⟨_, D, xs, rfl, rfl, .inl (SqL.of (hP2.sub _ _ upd_same)), ?_, ?_⟩
    · rw [el]
      show xs.length + xs.length * 0 ≤ 16777216
      omega
    · refine k _ _ (((hP2.forget g).sub_of s).mono (by omega)) ?_
      rw [len_join0, el]
      omega
/-- _law_any(pen, L): any object -/
def costA : Nat → Nat
  | 0 => 1
  | L + 1 => 2 + 3 * costA L
def sp_l_any (L : Nat) : Sp := fun vs H Q _ => ∃ (p : Addr) (G : Hp) (n : Nat), vs = [.ref p, .int (L : Int)] ∧ PenG G H p n ∧ n + costA L ≤ 1000000000 ∧
  ∀ (H' G' : Hp) (v : V), Same G G' → PenG G' H' p (n + costA L) → AnyV (minus G' G) L v → Q v H'
def scals : List V := [.int 0, .int 1, .int (-1), .bl true, .non, .str "", .str "0", .str "a", .str "aA", .int (10 ^ 39), .str "10"]
theorem scals_in {v : V} (h : v ∈ scals) : Scal v := by
  unfold scals at h
  simp only [List.mem_cons, List.not_mem_nil, or_false] at h
  exact h
theorem cal_any_0 (T : Txt K mg) : CalG P w K mg base CX0 3 "_law_any" (sp_l_any 0) [] := by
  refine T.d_l_any.cal .nil sc_l_any (fun vs H Q E h => by obtain ⟨_, _, _, rfl, _⟩ := h; rfl) (fun f cdv A outer s H vs Q E hr h => ?_)
  obtain ⟨p, G, n, rfl, hP, hn, k⟩ := h
  refine ⟨_, (pss_cons (ps_set (i := 2) sc_l_any.nd rfl (Or.inl rfl) (pe_g (cal_l_draw T) hr (by first | decide | (simp only [Nat.add_eq]; omega)) rfl (pa_cons (pv 0) (pa_cons (pe_ifExp (pt_cmpR op_gt (pv 1) pe_int (nomark _)) pe_int pe_int) pa_nil))))
      (pss_cons (ps_if (pt_cmpR op_lt (pv 2) pe_int (nomark _))
      (pss_one (ps_ret (pe_ix (r := rIxL K) ix_list (pe_lst (pa_cons pe_int (pa_cons pe_int (pa_cons (pe_un un_neg pe_int) (pa_cons pe_bl (pa_cons pe_non (pa_cons pe_str (pa_cons pe_str (pa_cons pe_str (pa_cons pe_str (pa_cons (pe_op op_pow pe_int pe_int) (pa_cons pe_str pa_nil)))))))))))) (pv 2) (fun _ _ => rfl))))
      pss_nil)
      pss_never)), ?_⟩
  refine ⟨_, rfl, _, rfl, _, _, rfl, rfl, _, rfl, ?_⟩
  refine ⟨p, G, n, 11, rfl, hP, by show n + 1 ≤ _; exact hn, by decide, by decide, fun H1 d hP1 d0 d1 => ?_⟩
  refine ⟨_, rfl, _, _, rfl, rfl, _, rfl, ?_⟩
  rw [decide_eq_true d1]
  refine iteT ?_
  refine ⟨_, rfl, _, _, rfl, rfl, ⟨by decide, by decide, by decide⟩, (sz_rfl rfl), fun l hl => ?_⟩
  obtain ⟨v, hv, hm⟩ := atI_some (xs := scals) d0 (by exact d1)
  refine ⟨_, rfl, l, scals, d, v, rfl, rfl, SqL.of upd_same, hv, ?_⟩
  refine k _ G v (Same.refl _) (hP1.drop hl) ?_
  exact Scal.any (scals_in hm)
theorem cal_any_s (T : Txt K mg) (L : Nat) (ih : CalG P w K mg base CX0 (3 + L) "_law_any" (sp_l_any L) []) : CalG P w K mg base CX0 (3 + (L + 1)) "_law_any" (sp_l_any (L + 1)) [] := by
  refine T.d_l_any.cal .nil sc_l_any (fun vs H Q E h => by obtain ⟨_, _, _, rfl, _⟩ := h; rfl) (fun f cdv A outer s H vs Q E hr h => ?_)
  obtain ⟨p, G, n, rfl, hP, hn, k⟩ := h
  refine ⟨_, (pss_cons (ps_set (i := 2) sc_l_any.nd rfl (Or.inl rfl) (pe_g (cal_l_draw T) hr (by first | decide | (simp only [Nat.add_eq]; omega)) rfl (pa_cons (pv 0) (pa_cons (pe_ifExp (pt_cmpR op_gt (pv 1) pe_int (nomark _)) pe_int pe_int) pa_nil))))
      (pss_cons (ps_if (pt_cmpR op_lt (pv 2) pe_int (nomark _))
      (pss_one (ps_ret (pe_ix (r := rIxL K) ix_list (pe_lst (pa_cons pe_int (pa_cons pe_int (pa_cons (pe_un un_neg pe_int) (pa_cons pe_bl (pa_cons pe_non (pa_cons pe_str (pa_cons pe_str (pa_cons pe_str (pa_cons pe_str (pa_cons (pe_op op_pow pe_int pe_int) (pa_cons pe_str pa_nil)))))))))))) (pv 2) (fun _ _ => rfl))))
      pss_nil)
      (pss_cons (ps_set (i := 3) sc_l_any.nd rfl (Or.inr rfl) (pe_lc (own := [("turn", 4)]) (g := gName 4) (by rfl) sc_l_any.nd (pi_range1 rfl T.n_range (pa_cons (pe_g (cal_l_draw T) hr (by first | decide | (simp only [Nat.add_eq]; omega)) rfl (pa_cons (pv 0) (pa_cons pe_int pa_nil))) pa_nil)) (blkOk_by (own := [("turn", 4)]) (N := ["pen", "levels", "road", "parts", "turn", "k"]) (sc := (defScope s_l_any)) (by decide +kernel)) (fun _ _ _ _ _ => (pg_name (i := 4) sc_l_any.nd rfl (Or.inl rfl))) (fun _ _ _ _ _ => pts_nil) (fun _ _ _ _ _ => (pe_g ih hr (by first | decide | (simp only [Nat.add_eq]; omega)) rfl (pa_cons (pv 0) (pa_cons (pe_op op_sub (pv 1) pe_int) pa_nil))))))
      (pss_cons (ps_if (pt_cmpR op_eq (pv 2) pe_int (nomark _))
      (pss_one (ps_ret (pv 3)))
      pss_nil)
      (pss_cons (ps_if (pt_cmpR op_eq (pv 2) pe_int (nomark _))
      (pss_one (ps_ret (pe_callTy (r := rDictP K) (call_dictP rfl) (by rfl) T.n_dict (by decide +kernel) (pa_cons (pe_lc (own := [("k", 5)]) (g := gName 5) (by rfl) sc_l_any.nd (pi_range1 rfl T.n_range (pa_cons (pe_callB (r := rLenQ K) call_len_seq (by rfl) T.n_len (by decide +kernel) (pa_cons (pv 3) pa_nil)) pa_nil)) (blkOk_by (own := [("k", 5)]) (N := ["pen", "levels", "road", "parts", "turn", "k"]) (sc := (defScope s_l_any)) (by decide +kernel)) (fun _ _ _ _ _ => (pg_name (i := 5) sc_l_any.nd rfl (Or.inl rfl))) (fun _ _ _ _ _ => pts_nil) (fun _ _ _ _ _ => (pe_tup (pa_cons (pe_ix (r := rIxL K) ix_list (pe_lst (pa_cons pe_str (pa_cons pe_str (pa_cons pe_str (pa_cons pe_int pa_nil))))) (pv 5) (fun _ _ => rfl)) (pa_cons (pe_ix (r := rIxL K) ix_list (pv 3) (pv 5) (fun _ _ => rfl)) pa_nil))))) pa_nil))))
      pss_nil)
      (pss_one (ps_ret (pe_callTy (r := rTupQ K) call_tuple_of (by rfl) T.n_tuple (by decide +kernel) (pa_cons (pv 3) pa_nil))))))))), ?_⟩
  have hc : costA (L + 1) = 2 + 3 * costA L := rfl
  refine ⟨_, rfl, _, rfl, _, _, rfl, rfl, _, rfl, ?_⟩
  show if decide ((0 : Int) < ((L + 1 : Nat) : Int)) = true then _ else _
  rw [decide_eq_true (show (0 : Int) < ((L + 1 : Nat) : Int) by omega)]
  refine iteT ?_
  refine ⟨p, G, n, 15, rfl, hP, by omega, by decide, by decide, fun H1 d hP1 d0 d1 => ?_⟩
  -- if road < 11
  refine ⟨_, rfl, _, _, rfl, rfl, _, rfl, ?_⟩
  refine if_b (fun h11 => ?_) (fun h11 => ?_)
  · refine ⟨_, rfl, _, _, rfl, rfl, ⟨by decide, by decide, by decide⟩, (sz_rfl rfl), fun l hl => ?_⟩
    obtain ⟨v, hv, hm⟩ := atI_some (xs := scals) d0 (by exact of_decide_eq_true h11)
    refine ⟨_, rfl, l, scals, d, v, rfl, rfl, SqL.of upd_same, hv, ?_⟩
    refine k _ G v (Same.refl _) ((hP1.drop hl).mono (by omega)) ?_
    exact Scal.any (scals_in hm)
  · -- parts = [_law_any(pen, levels - 1) for turn in range(_law_draw(pen, 4))]
    refine ⟨_, rfl, p, G, n + 1, 4, rfl, hP1, by omega, by decide, by decide, fun H2 m hP2 m0 m4 => ?_⟩
    have eL : ((L + 1 : Nat) : Int) - 1 = (L : Int) := by omega
    refine ⟨m, rfl, by omega, by omega, fun D hD => lc_rangeP (costA L) (fun G' v => AnyV (minus G' G) L v) (fun s h => h.same (minus_mono s)) hP2 hD (by omega) ?_ ?_⟩
    · rintro i acc G' H3 Q' hi hl s g hP3 hA kk
      refine ⟨_, rfl, _, rfl, _, _, rfl, rfl, ?_⟩
      have hmul : (i + 1) * costA L ≤ 3 * costA L := Nat.mul_le_mul_right _ (by omega)
      rw [Nat.add_mul, Nat.one_mul] at hmul
      refine ⟨p, _, _, by show [V.ref p, V.int (((L + 1 : Nat) : Int) - 1)] = _; rw [eL], hP3, by omega, fun H4 G4 v s4 hP4 hv => ?_⟩
      obtain ⟨G3, g3, s3, rfl⟩ := same_del s4 g
      exact kk v G3 H4 s3 g3 (hv.same (minus_del s)) hP4
    · rintro acc G' H3 hl s g hA hP3
      have hmul : m.toNat * costA L ≤ 3 * costA L := Nat.mul_le_mul_right _ (by omega)
      have sG : Same G (upd G' D (.lst acc)) := Same.trans s (same_new (Same.refl _) g)
      have hP4 : PenG (upd G' D (.lst acc)) H3 p (n + costA (L + 1)) := hP3.mono (by omega)
      have gD : G D = none := s.free g
      have hD3 : H3 D = some (.lst acc) := hP3.sub _ _ upd_same
      have hA2 : ∀ x ∈ acc, AnyV (minus (upd G' D (.lst acc)) G) L x := fun x hx => (hA x hx).same (minus_mono (same_new (Same.refl _) g))
      have hl3 : acc.length ≤ 3 := by omega
      -- if road == 11: return parts
      refine ⟨_, rfl, rfl, _, rfl, ?_⟩
      refine if_b (fun _ => ?_) (fun _ => ?_)
      · refine ⟨_, rfl, ?_⟩
        refine k _ _ _ sG hP4 (.inr (.inl ⟨D, acc, rfl, .inl ?_, hl3, hA2⟩))
        rw [minus_at gD]
        exact upd_same
      refine ⟨_, rfl, rfl, _, rfl, ?_⟩
      refine if_b (fun _ => ?_) (fun _ => ?_)
      · -- return dict([(['a', 'b', 'c', 0][k], parts[k]) for k in range(len(parts))])
        refine ⟨_, rfl, D, acc, rfl, .inl (SqL.of hD3), _, rfl, by omega, by omega, fun D2 hD2 => lc_rangeP 0 (fun G2 v => ∃ t ky x, v = .ref t ∧ G2 t = some (.tup [kV ky, x]) ∧ (ky ∈ AKeys ∧ x ∈ acc)) (fun s h => by
          obtain ⟨t, ky, x, e, ht, h⟩ := h
          exact ⟨t, ky, x, e, s _ _ ht, h⟩) hP4 hD2 (by omega) ?_ ?_⟩
        · rintro i acc2 G2 H4 Q' hi hl2 s2 g2 hP5 hA5 kk
          refine ⟨(sz_rfl rfl), fun l hl => ?_⟩
          have hi3 : i < 3 := by omega
          obtain ⟨ky, hky, hmk⟩ : ∃ ky : Key, atI (AKeys.map kV) ((i : Nat) : Int) = some (kV ky) ∧ ky ∈ AKeys := by
            have hlt : i < AKeys.length := by show i < 4; omega
            exact ⟨AKeys[i], atI_nat (by rw [List.getElem?_map, List.getElem?_eq_getElem hlt]; rfl), List.getElem_mem hlt⟩
          obtain ⟨x, hx, hmx⟩ := atI_some (xs := acc) (i := ((i : Nat) : Int)) (by omega) (by omega)
          have hlp := hP5.drop (o := .lst (AKeys.map kV)) hl
          have ei : (0 : Int) + (i : Nat) = ((i : Nat) : Int) := by omega
          refine ⟨_, rfl, l, AKeys.map kV, _, _, rfl, rfl, SqL.of upd_same, by rw [ei]; exact hky, ?_⟩
          have hDa : (upd G2 D2 (.lst acc2)) D = some (.lst acc) := same_new (Same.refl _) g2 _ _ (s2 _ _ upd_same)
          refine ⟨_, rfl, _, rfl, D, acc, _, x, rfl, rfl, SqL.of (hlp.sub _ _ hDa), by rw [ei]; exact hx, ?_⟩
          refine ⟨(sz_rfl rfl), fun t ht => ?_⟩
          have ht' : (upd H4 l (.lst (AKeys.map kV))) t = none := ht
          have htD : D2 ≠ t := fun e => by
            rw [← e, hlp.sub D2 _ upd_same] at ht'
            cases ht'
          have gt : G2 t = none := by
            have := hlp.sub.free ht'
            rw [upd_ne (Ne.symm htD)] at this
            exact this
          refine kk (.ref t) (upd G2 t (.tup [kV ky, x])) _ (same_new (Same.refl _) gt) (by rw [upd_ne htD]; exact g2) ⟨t, ky, x, rfl, upd_same, hmk, hmx⟩ ?_
          have hfin := hlp.new (o := .tup [kV ky, x]) ht'
          have ec : upd (upd G2 D2 (.lst acc2)) t (.tup [kV ky, x]) = upd (upd G2 t (.tup [kV ky, x])) D2 (.lst acc2) := by
            funext b
            unfold upd
            by_cases h1 : b = t
            · rw [if_pos h1]
              by_cases h2 : b = D2
              · exact absurd (h2.symm.trans h1) htD
              · rw [if_neg h2, if_pos h1]
            · rw [if_neg h1]
              by_cases h2 : b = D2
              · rw [if_pos h2, if_pos h2]
              · rw [if_neg h2, if_neg h2, if_neg h1]
          rw [ec] at hfin
          exact hfin.mono (by omega)
        · rintro acc2 G2 H4 hl2 s2 g2 hA5 hP5
          obtain ⟨ps, kvs, rfl, hps, hlk, hkv⟩ := pairs_of (K := K) (H := H4) (P := fun q => q.1 ∈ AKeys ∧ q.2 ∈ acc) fun v hv => by
            obtain ⟨t, ky, x, e, ht, h⟩ := hA5 v hv
            refine ⟨t, ky, x, e, hP5.sub _ _ ?_, h⟩
            exact same_new (Same.refl _) g2 _ _ ht
          refine ⟨D2, ps, kvs, rfl, SqL.of (hP5.sub _ _ upd_same), hps, fun r hr => ?_⟩
          have hP6 := (hP5.forget g2).new (o := .dK (mergeK [] kvs)) hr
          have gr : G2 r = none := (hP5.forget g2).sub.free hr
          have sG2 : Same G G2 := Same.trans sG s2
          refine k _ _ _ (same_new sG2 (sG2.free gr)) (hP6.mono (by omega)) (.inr (.inr ⟨r, mergeK [] kvs, rfl, ?_, ?_, fun kv hkv2 => ?_⟩))
          · rw [minus_at (sG2.free gr)]
            exact upd_same
          · have := merge_len kvs []
            have e0 : ([] : List (Key × V)).length = 0 := rfl
            omega
          · rcases merge_mem hkv2 with h | h
            · cases h
            · obtain ⟨h1, h2⟩ := hkv kv h
              exact ⟨h1, (hA2 _ h2).same (minus_mono (same_new s2 (by exact s2.free gr)))⟩
      · -- return tuple(parts)
        refine ⟨_, rfl, D, acc, rfl, .inl ⟨SqL.of hD3, fun r hr => ?_⟩⟩
        have hP6 := hP4.new (o := .tup acc) hr
        have gr : (upd G' D (.lst acc)) r = none := hP4.sub.free hr
        refine k _ _ _ (same_new sG (sG.free gr)) hP6 (.inr (.inl ⟨r, acc, rfl, .inr ?_, hl3, fun x hx => (hA2 x hx).same (minus_mono (same_new (Same.refl _) gr))⟩))
        rw [minus_at (sG.free gr)]
        exact upd_same
theorem cal_any (T : Txt K mg) : ∀ L : Nat, CalG P w K mg base CX0 (3 + L) "_law_any" (sp_l_any L) []
  | 0 => cal_any_0 T
  | L + 1 => cal_any_s T L (cal_any T L)
/-! ### the law -/
def ThingOk (K : PySem.W.Frag) (G : Hp) (v : V) : Prop := (∃ x : Str, v = .str x ∧ x.length ≤ 1000) ∨ NotStr K G v
theorem ThingOk.same {K : PySem.W.Frag} {G G' : Hp} {v : V} (s : Same G G') (h : ThingOk K G v) : ThingOk K G' v := by
  rcases h with h | h
  · exact .inl h
  · exact .inr (h.same s)
def sp_law (K : PySem.W.Frag) : Sp := fun vs H Q _ => ∃ (a : Addr) (ns : List Int), vs = [.ref a] ∧ SqL K H a (ns.map V.int) ∧ ns.length ≤ 63 ∧ ∀ H', Q (.bl true) H'
theorem cut_pos {r : Int} (r0 : 0 ≤ r) (r3 : r < 3) : 0 < (cutS ("0123" : Str) none (some (2 + r))).length := by
  have hr : r = 0 ∨ r = 1 ∨ r = 2 := by omega
  rcases hr with rfl | rfl | rfl <;> decide +kernel
theorem bl_refl (b : Bool) : decide (V.bl b = V.bl b) = true := decide_eq_true rfl
theorem ok_law (T : Txt K mg) {f : Addr} {fd : FuncData} (F : Fun K "law" "law" s_law f fd) : FnG P w K mg base CX0 6 f fd ["script"] (sp_law K) := by
  refine Fun.okG F sc_law (fun vs H Q E h => by obtain ⟨_, _, rfl, _⟩ := h; rfl) (fun cdv A outer s H vs Q E hr h => ?_)
  obtain ⟨a, ns, rfl, hS, hl63, k⟩ := h
  refine ⟨_, (pss_cons (ps_set (i := 1) sc_law.nd rfl (Or.inl rfl) (pe_g (cal_l_pen T) hr (by first | decide | (simp only [Nat.add_eq]; omega)) rfl (pa_cons (pv 0) pa_nil)))
      (pss_cons (ps_for PassesOwn.never rfl (pi_range1 rfl T.n_range (pa_cons pe_int pa_nil)) (pg_name (i := 2) sc_law.nd rfl (Or.inl rfl))
      (pss_cons (ps_par (i := 3) (j := 4) (by rfl) sc_law.nd rfl rfl (by decide) rfl rfl (pa_cons (pe_op op_add pe_int (pe_g (cal_l_draw T) hr (by first | decide | (simp only [Nat.add_eq]; omega)) rfl (pa_cons (pv 1) (pa_cons pe_int pa_nil)))) (pa_cons (pe_op op_add pe_int (pe_g (cal_l_draw T) hr (by first | decide | (simp only [Nat.add_eq]; omega)) rfl (pa_cons (pv 1) (pa_cons pe_int pa_nil)))) pa_nil)) (by rfl))
      (pss_cons (ps_set (i := 5) sc_law.nd rfl (Or.inl rfl) (pe_g (cal_l_draw T) hr (by first | decide | (simp only [Nat.add_eq]; omega)) rfl (pa_cons (pv 1) (pa_cons pe_int pa_nil))))
      (pss_cons (ps_set (i := 6) sc_law.nd rfl (Or.inl rfl) (pe_g (cal_any T 2) hr (by first | decide | (simp only [Nat.add_eq]; omega)) rfl (pa_cons (pv 1) (pa_cons pe_int pa_nil))))
      (C8.pss_cut (ps_if (pt_cmpR op_eq (pv 5) pe_int (nomark _))
      (pss_one (ps_set (i := 6) sc_law.nd rfl (Or.inl rfl) (pe_g (cal_l_word T) hr (by first | decide | (simp only [Nat.add_eq]; omega)) rfl (pa_cons (pv 1) (pa_cons pe_str (pa_cons pe_int pa_nil))))))
      pss_nil)
      (C8.pss_cut (ps_if (pt_cmpR op_gt (pv 5) pe_int (nomark _))
      (pss_one (ps_set (i := 6) sc_law.nd rfl (Or.inl rfl) (pe_g (cal_l_word T) hr (by first | decide | (simp only [Nat.add_eq]; omega)) rfl (pa_cons (pv 1) (pa_cons (pe_slice sl_str pe_str po_none (po_some (pv 3))) (pa_cons pe_int pa_nil))))))
      pss_nil)
      (C8.pss_cut (ps_if (PW.pt (pw_and (pt_val (pe_callB (r := rIsi K) call_isi (by rfl) T.n_isinstance (by decide +kernel) (pa_cons (pv 6) (pa_cons (pe_bltn (v := .ty "str") (u := .type "str") (by rfl) T.n_str (by decide +kernel) rfl) pa_nil)))) (pw_and1 (pt_cmpR op_eq (pe_g (cal_l_draw T) hr (by first | decide | (simp only [Nat.add_eq]; omega)) rfl (pa_cons (pv 1) (pa_cons pe_int pa_nil))) pe_int (nomark _)))))
      (pss_cons (ps_set (i := 7) sc_law.nd rfl (Or.inl rfl) (pe_g (cal_l_draw T) hr (by first | decide | (simp only [Nat.add_eq]; omega)) rfl (pa_cons (pv 1) (pa_cons (pe_op op_add (pe_callB call_len_str (by rfl) T.n_len (by decide +kernel) (pa_cons (pv 6) pa_nil)) pe_int) pa_nil))))
      (pss_cons (ps_set (i := 8) sc_law.nd rfl (Or.inl rfl) pe_str)
      (pss_one (ps_set (i := 6) sc_law.nd rfl (Or.inl rfl) (pe_op op_add_str (pe_op op_add_str (pe_slice sl_str (pv 6) po_none (po_some (pv 7))) (pe_ix (r := rIxS) ix_str (pv 8) (pe_g (cal_l_draw T) hr (by first | decide | (simp only [Nat.add_eq]; omega)) rfl (pa_cons (pv 1) (pa_cons (pe_callB call_len_str (by rfl) T.n_len (by decide +kernel) (pa_cons (pv 8) pa_nil)) pa_nil))) (fun _ _ => rfl))) (pe_slice sl_str (pv 6) (po_some (pv 7)) po_none))))))
      pss_nil)
      (pss_cons (ps_if (pt_not (pt_val (pe_g (cal_l_same_truth T) hr (by first | decide | (simp only [Nat.add_eq]; omega)) rfl (pa_cons (pe_g (cal_is_name T) hr (by first | decide | (simp only [Nat.add_eq]; omega)) rfl (pa_cons (pv 6) pa_nil)) (pa_cons (pe_g (cal_l_is_name T) hr (by first | decide | (simp only [Nat.add_eq]; omega)) rfl (pa_cons (pv 6) pa_nil)) pa_nil)))))
      (pss_one (ps_ret pe_bl))
      pss_nil)
      (pss_one (ps_if (pt_not (pt_val (pe_g (cal_l_same_truth T) hr (by first | decide | (simp only [Nat.add_eq]; omega)) rfl (pa_cons (pe_g (cal_is_codeword T) hr (by first | decide | (simp only [Nat.add_eq]; omega)) rfl (pa_cons (pv 3) (pa_cons (pv 4) (pa_cons (pv 6) pa_nil)))) (pa_cons (pe_g (cal_l_is_codeword T) hr (by first | decide | (simp only [Nat.add_eq]; omega)) rfl (pa_cons (pv 3) (pa_cons (pv 4) (pa_cons (pv 6) pa_nil)))) pa_nil)))))
      (pss_one (ps_ret pe_bl))
      pss_nil))))))))))
      (pss_one (ps_ret pe_bl)))), ?_⟩
  refine ⟨_, rfl, a, ns, rfl, hS, fun H0 p hP0 => ?_⟩
  refine ⟨10, rfl, by decide, by decide, for_range (lo := 0) (n := 10) (fun i σ H' => ∃ (G : Hp) (o2 o3 o4 o5 o6 o7 o8 : Option V), σ = [some (.ref a), some (.ref p), o2, o3, o4, o5, o6, o7, o8] ∧ PenG G H' p (i * 100))
    ⟨H, none, none, none, none, none, none, none, rfl, hP0.mono (by omega)⟩ ?_ ?_⟩
  · rintro i σ H' hi ⟨G, o2, o3, o4, o5, o6, o7, o8, rfl, hP⟩
    refine ⟨_, rfl, p, G, _, 3, rfl, hP, by omega, by decide, by decide, fun H1 r hP1 r0 r3 => ?_⟩
    refine ⟨_, _, rfl, rfl, _, rfl, p, G, _, 6, rfl, hP1, by omega, by decide, by decide, fun H2 dd hP2 q0 q6 => ?_⟩
    refine ⟨_, _, rfl, rfl, _, _, rfl, ?_⟩
    refine ⟨_, rfl, p, G, _, 4, rfl, hP2, by omega, by decide, by decide, fun H3 road hP3 _ _ => ?_⟩
    refine ⟨_, rfl, p, G, _, rfl, hP3, by show _ + 17 ≤ _; omega, fun H4 G4 v s4 hP4 hv => ?_⟩
    have hth4 : ThingOk K G4 v := by
      rcases hv.kind (K := K) with ⟨x, e, hx⟩ | h
      · exact .inl ⟨x, e, by omega⟩
      · exact .inr (h.same minus_sub)
    have hP4' : PenG G4 H4 p (i * 100 + 20) := hP4.mono (by show i * 100 + 1 + 1 + 1 + 17 ≤ _; omega)
    -- if road == 1
    refine ⟨fun σ' H' => ∃ G' v', σ' = [some (.ref a), some (.ref p), some (.int (0 + (i : Nat))), some (.int (2 + r)), some (.int (1 + dd)), some (.int road), some v', o7, o8] ∧ PenG G' H' p (i * 100 + 31) ∧ ThingOk K G' v', ?_, ?_⟩
    · refine ⟨_, rfl, rfl, _, rfl, ?_⟩
      refine if_b (fun _ => ?_) (fun _ => ⟨G4, v, rfl, hP4'.mono (by omega), hth4⟩)
      refine ⟨_, rfl, p, G4, _, 10, "abcxyz", rfl, hP4', by omega, by decide, by decide +kernel, by decide +kernel, fun H5 x hP5 hx => ?_⟩
      exact ⟨G4, .str x, rfl, hP5.mono (by omega), .inl ⟨x, rfl, by omega⟩⟩
    rintro σ5 H5 ⟨G5, v5, rfl, hP5, hth5⟩
    -- if road > 1
    refine ⟨fun σ' H' => ∃ G' v', σ' = [some (.ref a), some (.ref p), some (.int (0 + (i : Nat))), some (.int (2 + r)), some (.int (1 + dd)), some (.int road), some v', o7, o8] ∧ PenG G' H' p (i * 100 + 40) ∧ ThingOk K G' v', ?_, ?_⟩
    · refine ⟨_, rfl, _, _, rfl, rfl, _, rfl, ?_⟩
      refine if_b (fun _ => ?_) (fun _ => ⟨G5, v5, rfl, hP5.mono (by omega), hth5⟩)
      refine ⟨_, rfl, _, rfl, _, rfl, _, rfl, (sz_rfl rfl), p, G5, _, 8, _, rfl, hP5, by omega, by decide, cut_pos r0 r3, Nat.le_trans (len_cut _ _ _) (by decide +kernel), fun H6 x hP6 hx => ?_⟩
      exact ⟨G5, .str x, rfl, hP6.mono (by omega), .inl ⟨x, rfl, by omega⟩⟩
    rintro σ6 H6 ⟨G6, v6, rfl, hP6, hth6⟩
    -- if isinstance(thing, str) and _law_draw(pen, 3) == 0
    refine ⟨fun σ' H' => ∃ G' v' o7 o8, σ' = [some (.ref a), some (.ref p), some (.int (0 + (i : Nat))), some (.int (2 + r)), some (.int (1 + dd)), some (.int road), some v', o7, o8] ∧ PenG G' H' p (i * 100 + 43) ∧ ((∃ x : Str, v' = .str x ∧ x.length ≤ 1000000) ∨ NotStr K H' v'), ?_, ?_⟩
    · rcases hth6 with ⟨x, rfl, hx⟩ | ⟨nt, hnt0, knt⟩
      · refine ⟨_, rfl, _, _, .type "str", .type "str", true, rfl, .ty "str", .base (.str _), kit_ty (by decide +kernel), _, rfl, ?_⟩
        refine iteT ?_
        refine ⟨_, rfl, p, G6, _, 3, rfl, hP6, by omega, by decide, by decide, fun H7 z hP7 _ _ => ?_⟩
        refine ⟨rfl, _, rfl, ?_⟩
        refine if_b (fun _ => ?_) (fun _ => ⟨G6, .str x, o7, o8, rfl, hP7.mono (by omega), .inl ⟨x, rfl, by omega⟩⟩)
        refine ⟨_, rfl, _, rfl, _, rfl, sz_le hx rfl, _, _, rfl, rfl, p, G6, _, _, rfl, hP7, by omega, by omega, by omega, fun H8 sp hP8 s0 s1 => ?_⟩
        refine ⟨_, rfl, _, rfl, _, rfl, _, rfl, (by first | exact sz_rfl rfl | exact sz_le (by assumption) rfl | (refine sz_le (m := 1000000) ?_ rfl; omega)), _, rfl, _, rfl, _, rfl, _, rfl, (by first | exact sz_rfl rfl | exact sz_le (by assumption) rfl | (refine sz_le (m := 1000000) ?_ rfl; omega)), p, G6, _, _, rfl, hP8, by omega, by decide +kernel, by decide +kernel, fun H9 c hP9 c0 c1 => ?_⟩
        obtain ⟨c', hc, _⟩ := atI_some c0 (by rw [← TL.len_tl]; exact c1)
        have l1 := len_cut x none (some sp)
        have l2 := len_cut x (some sp) none
        have l3 : (cutS x none (some sp) ++ (⟨#[c']⟩ : Str)).length = (cutS x none (some sp)).length + 1 := len_app _ _
        refine ⟨_, _, c', rfl, rfl, sz_rfl (by decide +kernel), hc, _, _, rfl, rfl, sz_le (m := 2000) (by show (cutS x none (some sp)).length + 1 ≤ _; omega) rfl, ?_⟩
        refine ⟨_, rfl, _, rfl, _, rfl, _, rfl, sz_le hx rfl, _, _, rfl, rfl, sz_le (m := 4000) (by omega) rfl, ?_⟩
        refine ⟨G6, _, _, _, rfl, hP9.mono (by omega), .inl ⟨_, rfl, ?_⟩⟩
        rw [len_app]
        omega
      · have hnt := TyX.same hP6.sub hnt0
        refine ⟨_, rfl, _, _, .type nt, .type "str", false, rfl, .ty "str", hnt, kit_ty knt, _, rfl, ?_⟩
        refine iteF ?_
        exact ⟨G6, v6, o7, o8, rfl, hP6.mono (by omega), .inr ⟨nt, hnt, knt⟩⟩
    rintro σ7 H7 ⟨G7, v7, o7', o8', rfl, hP7, hth7⟩
    rcases hth7 with ⟨x, rfl, hx⟩ | hn
    · refine ⟨_, rfl, _, rfl, .inl ⟨x, rfl, hx, fun H8 s8 => ?_⟩⟩
      refine ⟨_, rfl, _, rfl, .inl ⟨x, rfl, hx, fun H9 s9 => ?_⟩⟩
      refine ⟨_, _, rfl, _, rfl, ?_⟩
      rw [bl_refl]
      refine iteF ?_
      refine ⟨_, rfl, _, rfl, _, rfl, _, _, _, rfl, by omega, by omega, .inl ⟨x, rfl, hx, fun H10 s10 => ?_⟩⟩
      refine ⟨_, rfl, _, rfl, _, rfl, _, _, _, rfl, by omega, by omega, .inl ⟨x, rfl, hx, fun H11 s11 => ?_⟩⟩
      refine ⟨_, _, rfl, _, rfl, ?_⟩
      rw [bl_refl]
      refine iteF ?_
      exact ⟨G7, _, _, _, _, _, _, _, rfl, (hP7.same (Same.trans (Same.trans (Same.trans s8 s9) s10) s11)).mono (by omega)⟩
    · refine ⟨_, rfl, _, rfl, .inr ⟨hn, fun H8 s8 => ?_⟩⟩
      refine ⟨_, rfl, _, rfl, .inr ⟨hn.same s8, fun H9 s9 => ?_⟩⟩
      refine ⟨_, _, rfl, _, rfl, ?_⟩
      rw [bl_refl]
      refine iteF ?_
      refine ⟨_, rfl, _, rfl, _, rfl, _, _, _, rfl, by omega, by omega, .inr ⟨hn.same (Same.trans s8 s9), fun H10 s10 => ?_⟩⟩
      refine ⟨_, rfl, _, rfl, _, rfl, _, _, _, rfl, by omega, by omega, .inr ⟨hn.same (Same.trans (Same.trans s8 s9) s10), fun H11 s11 => ?_⟩⟩
      refine ⟨_, _, rfl, _, rfl, ?_⟩
      rw [bl_refl]
      refine iteF ?_
      exact ⟨G7, _, _, _, _, _, _, _, rfl, (hP7.same (Same.trans (Same.trans (Same.trans s8 s9) s10) s11)).mono (by omega)⟩
  · rintro σ H' ⟨G, o2, o3, o4, o5, o6, o7, o8, rfl, hP⟩
    exact k _
end
theorem all_mk {l : PySem.W.OpenLaw} {w : World} {K : PySem.W.Frag} {h : Heap} {mg : Str → Option Value} {fa : Addr} (X : K.In h) (G : h.Ns mainGlobals mg) (hfa : mg "law" = some (.ref fa))
    {f0 f1 f2 f3 f4 f5 f6 f7 f8 f9 f10 : Addr}
    {od0 an0 od1 an1 od2 an2 od3 an3 od4 an4 od5 an5 od6 an6 od7 an7 od8 an8 od9 an9 od10 an10 : Option Addr}
    {sl0 sl1 sl2 sl3 sl4 sl5 sl6 sl7 sl8 sl9 sl10 : Array (Option Value)}
    {oc0 kV0 dc0 pm0 cd0 ct0 oc1 kV1 dc1 pm1 cd1 ct1 oc2 kV2 dc2 pm2 cd2 ct2 oc3 kV3 dc3 pm3 cd3 ct3 oc4 kV4 dc4 pm4 cd4 ct4 oc5 kV5 dc5 pm5 cd5 ct5 oc6 kV6 dc6 pm6 cd6 ct6 oc7 kV7 dc7 pm7 cd7 ct7 oc8 kV8 dc8 pm8 cd8 ct8 oc9 kV9 dc9 pm9 cd9 ct9 oc10 kV10 dc10 pm10 cd10 ct10 : Value}
    {t_DIGITS t_LETTERS t_LONGEST_NAME : Tok}
    (a0 : PySem.W.nsIn K mainGlobals "is_name" = some (some (.ref f0)))
    (l0 : K.lookup f0 = some ⟨oc0, od0, .func (PySem.W.fnOf "is_name" "is_name" (defArgs s_is_name) (defBody s_is_name) (defScope s_is_name) .none kV0 dc0 pm0 an0 cd0 ct0), sl0⟩)
    (c0 : PySem.W.codeIn K cd0 "is_name" = true)
    (k0 : PySem.W.keepIn K (.ref f0) = true)
    (a1 : PySem.W.nsIn K mainGlobals "is_codeword" = some (some (.ref f1)))
    (l1 : K.lookup f1 = some ⟨oc1, od1, .func (PySem.W.fnOf "is_codeword" "is_codeword" (defArgs s_is_codeword) (defBody s_is_codeword) (defScope s_is_codeword) .none kV1 dc1 pm1 an1 cd1 ct1), sl1⟩)
    (c1 : PySem.W.codeIn K cd1 "is_codeword" = true)
    (k1 : PySem.W.keepIn K (.ref f1) = true)
    (a2 : PySem.W.nsIn K mainGlobals "_law_pen" = some (some (.ref f2)))
    (l2 : K.lookup f2 = some ⟨oc2, od2, .func (PySem.W.fnOf "_law_pen" "_law_pen" (defArgs s_l_pen) (defBody s_l_pen) (defScope s_l_pen) .none kV2 dc2 pm2 an2 cd2 ct2), sl2⟩)
    (c2 : PySem.W.codeIn K cd2 "_law_pen" = true)
    (k2 : PySem.W.keepIn K (.ref f2) = true)
    (a3 : PySem.W.nsIn K mainGlobals "_law_next" = some (some (.ref f3)))
    (l3 : K.lookup f3 = some ⟨oc3, od3, .func (PySem.W.fnOf "_law_next" "_law_next" (defArgs s_l_next) (defBody s_l_next) (defScope s_l_next) .none kV3 dc3 pm3 an3 cd3 ct3), sl3⟩)
    (c3 : PySem.W.codeIn K cd3 "_law_next" = true)
    (k3 : PySem.W.keepIn K (.ref f3) = true)
    (a4 : PySem.W.nsIn K mainGlobals "_law_draw" = some (some (.ref f4)))
    (l4 : K.lookup f4 = some ⟨oc4, od4, .func (PySem.W.fnOf "_law_draw" "_law_draw" (defArgs s_l_draw) (defBody s_l_draw) (defScope s_l_draw) .none kV4 dc4 pm4 an4 cd4 ct4), sl4⟩)
    (c4 : PySem.W.codeIn K cd4 "_law_draw" = true)
    (k4 : PySem.W.keepIn K (.ref f4) = true)
    (a5 : PySem.W.nsIn K mainGlobals "_law_any" = some (some (.ref f5)))
    (l5 : K.lookup f5 = some ⟨oc5, od5, .func (PySem.W.fnOf "_law_any" "_law_any" (defArgs s_l_any) (defBody s_l_any) (defScope s_l_any) .none kV5 dc5 pm5 an5 cd5 ct5), sl5⟩)
    (c5 : PySem.W.codeIn K cd5 "_law_any" = true)
    (k5 : PySem.W.keepIn K (.ref f5) = true)
    (a6 : PySem.W.nsIn K mainGlobals "_law_same_truth" = some (some (.ref f6)))
    (l6 : K.lookup f6 = some ⟨oc6, od6, .func (PySem.W.fnOf "_law_same_truth" "_law_same_truth" (defArgs s_l_same_truth) (defBody s_l_same_truth) (defScope s_l_same_truth) .none kV6 dc6 pm6 an6 cd6 ct6), sl6⟩)
    (c6 : PySem.W.codeIn K cd6 "_law_same_truth" = true)
    (k6 : PySem.W.keepIn K (.ref f6) = true)
    (a7 : PySem.W.nsIn K mainGlobals "_law_word" = some (some (.ref f7)))
    (l7 : K.lookup f7 = some ⟨oc7, od7, .func (PySem.W.fnOf "_law_word" "_law_word" (defArgs s_l_word) (defBody s_l_word) (defScope s_l_word) .none kV7 dc7 pm7 an7 cd7 ct7), sl7⟩)
    (c7 : PySem.W.codeIn K cd7 "_law_word" = true)
    (k7 : PySem.W.keepIn K (.ref f7) = true)
    (a8 : PySem.W.nsIn K mainGlobals "_law_is_name" = some (some (.ref f8)))
    (l8 : K.lookup f8 = some ⟨oc8, od8, .func (PySem.W.fnOf "_law_is_name" "_law_is_name" (defArgs s_l_is_name) (defBody s_l_is_name) (defScope s_l_is_name) .none kV8 dc8 pm8 an8 cd8 ct8), sl8⟩)
    (c8 : PySem.W.codeIn K cd8 "_law_is_name" = true)
    (k8 : PySem.W.keepIn K (.ref f8) = true)
    (a9 : PySem.W.nsIn K mainGlobals "_law_is_codeword" = some (some (.ref f9)))
    (l9 : K.lookup f9 = some ⟨oc9, od9, .func (PySem.W.fnOf "_law_is_codeword" "_law_is_codeword" (defArgs s_l_is_codeword) (defBody s_l_is_codeword) (defScope s_l_is_codeword) .none kV9 dc9 pm9 an9 cd9 ct9), sl9⟩)
    (c9 : PySem.W.codeIn K cd9 "_law_is_codeword" = true)
    (k9 : PySem.W.keepIn K (.ref f9) = true)
    (a10 : PySem.W.nsIn K mainGlobals "law" = some (some (.ref f10)))
    (l10 : K.lookup f10 = some ⟨oc10, od10, .func (PySem.W.fnOf "law" "law" (defArgs s_law) (defBody s_law) (defScope s_law) .none kV10 dc10 pm10 an10 cd10 ct10), sl10⟩)
    (c10 : PySem.W.codeIn K cd10 "law" = true)
    (k10 : PySem.W.keepIn K (.ref f10) = true)
    (g_DIGITS : PySem.W.nsIn K mainGlobals "DIGITS" = some (some (.str "0123456789" t_DIGITS)))
    (g_LETTERS : PySem.W.nsIn K mainGlobals "LETTERS" = some (some (.str "abcdefghijklmnopqrstuvwxyz" t_LETTERS)))
    (g_LONGEST_NAME : PySem.W.nsIn K mainGlobals "LONGEST_NAME" = some (some (.int 8 t_LONGEST_NAME)))
    (z_all : PySem.W.nsIn K mainGlobals "all" = some none)
    (z_bool : PySem.W.nsIn K mainGlobals "bool" = some none)
    (z_dict : PySem.W.nsIn K mainGlobals "dict" = some none)
    (z_isinstance : PySem.W.nsIn K mainGlobals "isinstance" = some none)
    (z_len : PySem.W.nsIn K mainGlobals "len" = some none)
    (z_list : PySem.W.nsIn K mainGlobals "list" = some none)
    (z_range : PySem.W.nsIn K mainGlobals "range" = some none)
    (z_str : PySem.W.nsIn K mainGlobals "str" = some none)
    (z_tuple : PySem.W.nsIn K mainGlobals "tuple" = some none) :
    ∃ fd : FuncData, (∀ (s : Shared) (v : Value), BindsTo s fd ⟨[v], []⟩ [("script", v)]) ∧ ∀ base : Heap, K.In base → base.Ns mainGlobals mg → FnG l.prog w K mg base CX0 6 fa fd ["script"] (sp_law K) := by
  have e := hfa.symm.trans (PySem.W.mg_of X G a10)
  cases e
  have F0 := fun_mk (st := s_is_name) l0 c0 k0
  have d0 : DefT K mg "is_name" s_is_name ["thing"] [] := ⟨_, _, F0, PySem.W.mg_of X G a0, F0.binds fun _ _ _ _ _ _ us hl => match us, hl with | [_], _ => rfl⟩
  have F1 := fun_mk (st := s_is_codeword) l1 c1 k1
  have d1 : DefT K mg "is_codeword" s_is_codeword ["radix", "depth", "thing"] [] := ⟨_, _, F1, PySem.W.mg_of X G a1, F1.binds fun _ _ _ _ _ _ us hl => match us, hl with | [_, _, _], _ => rfl⟩
  have F2 := fun_mk (st := s_l_pen) l2 c2 k2
  have d2 : DefT K mg "_law_pen" s_l_pen ["script"] [] := ⟨_, _, F2, PySem.W.mg_of X G a2, F2.binds fun _ _ _ _ _ _ us hl => match us, hl with | [_], _ => rfl⟩
  have F3 := fun_mk (st := s_l_next) l3 c3 k3
  have d3 : DefT K mg "_law_next" s_l_next ["pen"] [] := ⟨_, _, F3, PySem.W.mg_of X G a3, F3.binds fun _ _ _ _ _ _ us hl => match us, hl with | [_], _ => rfl⟩
  have F4 := fun_mk (st := s_l_draw) l4 c4 k4
  have d4 : DefT K mg "_law_draw" s_l_draw ["pen", "below"] [] := ⟨_, _, F4, PySem.W.mg_of X G a4, F4.binds fun _ _ _ _ _ _ us hl => match us, hl with | [_, _], _ => rfl⟩
  have F5 := fun_mk (st := s_l_any) l5 c5 k5
  have d5 : DefT K mg "_law_any" s_l_any ["pen", "levels"] [] := ⟨_, _, F5, PySem.W.mg_of X G a5, F5.binds fun _ _ _ _ _ _ us hl => match us, hl with | [_, _], _ => rfl⟩
  have F6 := fun_mk (st := s_l_same_truth) l6 c6 k6
  have d6 : DefT K mg "_law_same_truth" s_l_same_truth ["result", "expected"] [] := ⟨_, _, F6, PySem.W.mg_of X G a6, F6.binds fun _ _ _ _ _ _ us hl => match us, hl with | [_, _], _ => rfl⟩
  have F7 := fun_mk (st := s_l_word) l7 c7 k7
  have d7 : DefT K mg "_law_word" s_l_word ["pen", "signs", "most"] [] := ⟨_, _, F7, PySem.W.mg_of X G a7, F7.binds fun _ _ _ _ _ _ us hl => match us, hl with | [_, _, _], _ => rfl⟩
  have F8 := fun_mk (st := s_l_is_name) l8 c8 k8
  have d8 : DefT K mg "_law_is_name" s_l_is_name ["thing"] [] := ⟨_, _, F8, PySem.W.mg_of X G a8, F8.binds fun _ _ _ _ _ _ us hl => match us, hl with | [_], _ => rfl⟩
  have F9 := fun_mk (st := s_l_is_codeword) l9 c9 k9
  have d9 : DefT K mg "_law_is_codeword" s_l_is_codeword ["radix", "depth", "thing"] [] := ⟨_, _, F9, PySem.W.mg_of X G a9, F9.binds fun _ _ _ _ _ _ us hl => match us, hl with | [_, _, _], _ => rfl⟩
  have F10 := fun_mk (st := s_law) l10 c10 k10
  have d10 : DefT K mg "law" s_law ["script"] [] := ⟨_, _, F10, PySem.W.mg_of X G a10, F10.binds fun _ _ _ _ _ _ us hl => match us, hl with | [_], _ => rfl⟩
  have T : Txt K mg := ⟨d0,
    d1,
    d2,
    d3,
    d4,
    d5,
    d6,
    d7,
    d8,
    d9,
    d10,
    ⟨_, PySem.W.mg_of X G g_DIGITS, ⟨_, rfl⟩⟩,
    ⟨_, PySem.W.mg_of X G g_LETTERS, ⟨_, rfl⟩⟩,
    ⟨_, PySem.W.mg_of X G g_LONGEST_NAME, ⟨_, rfl⟩⟩,
    PySem.W.mg_none_of X G z_all,
    PySem.W.mg_none_of X G z_bool,
    PySem.W.mg_none_of X G z_dict,
    PySem.W.mg_none_of X G z_isinstance,
    PySem.W.mg_none_of X G z_len,
    PySem.W.mg_none_of X G z_list,
    PySem.W.mg_none_of X G z_range,
    PySem.W.mg_none_of X G z_str,
    PySem.W.mg_none_of X G z_tuple⟩
  exact ⟨_, fun s v => .of_eq rfl, fun base _ _ => ok_law (P := l.prog) (w := w) (base := base) T F10⟩
theorem walk {l : PySem.W.OpenLaw} {q : Program} {loose : List Str} {XP : (Str → Option Value) → Heap → Prop} {YP : World → Heap → Prop} {d : DefRec} {K : Params → PySem.W.Frag} (hn : l.most = some 63) (hdf : d.params.defaults = [])
    (hY : ∀ (w : World) (h : Heap), YP w h → (K w.params).In h)
    (F : ∀ (w : World) (mg : Str → Option Value) (fa : Addr) (h : Heap), (K w.params).In h → h.Ns mainGlobals mg → mg d.name = some (.ref fa) →
      ∃ fd : FuncData, (∀ (s : Shared) (u : Value), BindsTo s fd ⟨[u], []⟩ [("script", u)]) ∧ ∀ base : Heap, (K w.params).In base → base.Ns mainGlobals mg → FnG l.prog w (K w.params) mg base CX0 6 fa fd ["script"] (sp_law (K w.params))) :
    PySem.W.WalkO q loose XP YP l.row.toRowW d [] (fun f vs => PySem.call f vs) :=
  walk_ofG (n := 63) (k := 6) (x := "script") (sp := fun w => sp_law (K w.params)) hn (by decide) hdf ⟨⟨rfl, by decide, by decide⟩, rfl⟩ hY F (fun _ _ a ns hl _ hS => ⟨a, ns, rfl, hS, hl, fun _ => rfl⟩)
end KC
open PySem PySem.W PyProof.Rows in
set_option maxRecDepth 100000 in
set_option maxHeartbeats 0 in
theorem PySem.Challenge.cw_keptcode_k02_names_and_codewords_holds : PySem.Challenge.rw_keptcode_k02_names_and_codewords.Holds := by
  w_on; o_law; k_head; (case hw => w_witness2)
  k_fill
  refine KC.walk (l := PySem.Challenge.rw_keptcode_k02_names_and_codewords) rfl rfl (fun w h Y => PySem.W.kIn_of Y) ?F
  case F =>
    intro w mg fa h KX G hmg
    refine' KC.all_mk KX G hmg ?a0 ?l0 ?c0 ?k0 ?a1 ?l1 ?c1 ?k1 ?a2 ?l2 ?c2 ?k2 ?a3 ?l3 ?c3 ?k3 ?a4 ?l4 ?c4 ?k4 ?a5 ?l5 ?c5 ?k5 ?a6 ?l6 ?c6 ?k6 ?a7 ?l7 ?c7 ?k7 ?a8 ?l8 ?c8 ?k8 ?a9 ?l9 ?c9 ?k9 ?a10 ?l10 ?c10 ?k10 ?g_DIGITS ?g_LETTERS ?g_LONGEST_NAME ?z_all ?z_bool ?z_dict ?z_isinstance ?z_len ?z_list ?z_range ?z_str ?z_tuple
    (case a0 => k_is)
    (case l0 => k_is)
    (case c0 => k_is)
    (case k0 => k_is)
    (case a1 => k_is)
    (case l1 => k_is)
    (case c1 => k_is)
    (case k1 => k_is)
    (case a2 => k_is)
    (case l2 => k_is)
    (case c2 => k_is)
    (case k2 => k_is)
    (case a3 => k_is)
    (case l3 => k_is)
    (case c3 => k_is)
    (case k3 => k_is)
    (case a4 => k_is)
    (case l4 => k_is)
    (case c4 => k_is)
    (case k4 => k_is)
    (case a5 => k_is)
    (case l5 => k_is)
    (case c5 => k_is)
    (case k5 => k_is)
    (case a6 => k_is)
    (case l6 => k_is)
    (case c6 => k_is)
    (case k6 => k_is)
    (case a7 => k_is)
    (case l7 => k_is)
    (case c7 => k_is)
    (case k7 => k_is)
    (case a8 => k_is)
    (case l8 => k_is)
    (case c8 => k_is)
    (case k8 => k_is)
    (case a9 => k_is)
    (case l9 => k_is)
    (case c9 => k_is)
    (case k9 => k_is)
    (case a10 => k_is)
    (case l10 => k_is)
    (case c10 => k_is)
    (case k10 => k_is)
    (case g_DIGITS => k_is)
    (case g_LETTERS => k_is)
    (case g_LONGEST_NAME => k_is)
    (case z_all => k_is)
    (case z_bool => k_is)
    (case z_dict => k_is)
    (case z_isinstance => k_is)
    (case z_len => k_is)
    (case z_list => k_is)
    (case z_range => k_is)
    (case z_str => k_is)
    (case z_tuple => k_is)

