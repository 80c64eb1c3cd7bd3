import PyProof.Rows.All
import Wide.All
import OpenK.AllK
import Wide.FinOn
import HandS.Base
import HandS.Call
import HandS.List
import HandS.Comp
import HandS.Iter
import HandS.Text
import HandS.Ends
import HandS.Words
import HandS.WordsList
import PyProof.ReprBulk
import HandS.ForMost
import HandS.IsInst
import HandS.Wide
import PySem.Challenge.RW_toldatlast_k16_walk
set_option Elab.async false
set_option linter.all false
set_option maxRecDepth 100000
set_option maxHeartbeats 8000000
/-! own rules: defs whose frame stands in no repr (so that repr of data is known), powers, keywords alone -/
namespace Own
open PySem PySem.Spec PyProof.Rows L2

/-- room, and nothing is being shown around -/
def RoomG (k : Nat) (A : Around) : Prop := Room k A ∧ A.guards = some []
theorem RoomG.mono {j k : Nat} {A : Around} (r : RoomG k A) (h : j ≤ k) : RoomG j A := ⟨r.1.mono h, r.2⟩
theorem RoomG.units {k : Nat} {A : Around} (r : RoomG k A) : A.units + 64 < cLine := by have := r.1.un; omega

structure FnG (P : Program) (w : World) (K : PySem.W.Frag) (mg : Str → Option Value) (base : Heap) (CX : CXT) (k : Nat) (f : Addr) (fd : FuncData)
    (ps : List Str) (sp : Sp) : Prop where
  len : ∀ vs H Q E, sp vs H Q E → vs.length = ps.length
  go : ∀ (A : Around) (outer : List Env) (s : Shared) (H : Hp) (args : Args) (us : List Value) (vs : List V) (Q : VK) (E : XK),
    RoomG k A → Env0 P w K mg base A outer s H → BindsTo s fd args (ps.zip us) → Vals vs us → sp vs H Q E →
    codeAny (model P w) A (.call (.ref f) args) (CR CX outer P w H s Q E) s
section
variable {P : Program} {w : World} {K : PySem.W.Frag} {mg : Str → Option Value} {base : Heap} {CX : CXT} {j k : Nat} {f : Addr} {fd : FuncData} {ps : List Str} {sp sp' : Sp}
theorem FnG.mono (F : FnG P w K mg base CX j f fd ps sp) (h : j ≤ k) : FnG P w K mg base CX k f fd ps sp :=
  ⟨F.len, fun A o s H args us vs Q E hr => F.go A o s H args us vs Q E (hr.mono h)⟩
theorem FnG.imp (F : FnG P w K mg base CX k f fd ps sp) (h : ∀ vs H Q E, sp' vs H Q E → sp vs H Q E) : FnG P w K mg base CX k f fd ps sp' :=
  ⟨fun vs H Q E q => F.len vs H Q E (h _ _ _ _ q), fun A o s H args us vs Q E hr he hb hv hs => F.go A o s H args us vs Q E hr he hb hv (h _ _ _ _ hs)⟩
end

/-- a def by its body, nothing being shown around it -/
theorem fnG {CX : CXT} {P : Program} {w : World} {K : PySem.W.Frag} {mg : Str → Option Value} {base : Heap} {k : Nat} {f : Addr} {name qual : Str} {params : Arguments} {body : List Stmt}
    {scope : Scope} {dV kV doc pm cdv ct oc : Value} {an od : Option Addr} {osl : Array (Option Value)} {N ps : List Str} {sp : Sp}
    (lk : K.lookup f = some ⟨oc, od, .func (PySem.W.fnOf name qual params body scope dV kV doc pm an cdv ct), osl⟩) (hcd : PySem.W.codeIn K cdv qual = true) (S : FnScope N ps scope)
    (len : ∀ vs H Q E, sp vs H Q E → vs.length = ps.length)
    (hbody : ∀ (A : Around) (outer : List Env) (s : Shared) (H : Hp) (vs : List V) (Q : VK) (E : XK), RoomG k (A.deeper (envOfC qual scope s.heap.objs.size f cdv)) → sp vs H Q E →
      ∃ t, PSs (cxOf CX P w K mg base N qual scope f cdv A outer s H E) body t ∧ t { nx := fun _ H' => Q .non H', rt := Q } (start N vs) H) :
    FnG P w K mg base CX (k + 1) f (PySem.W.fnOf name qual params body scope dV kV doc pm an cdv ct) ps sp := by
  constructor
  · exact len
  intro A outer s H args us vs Q E hr e0 hb r hsp
  have hl := len _ _ _ _ hsp
  have KX : K.In s.heap := e0.mod.kin.keeps fun b o e => (e0.bs b o e).1
  have lim : s.heap.NoLimit := e0.mod.nolimit.keeps fun b o e => (e0.bs b o e).1
  have hk : ∀ y ∈ ps.zip us, scope.names.lookup y.1 = some .local ∨
      (scope.names.lookup y.1 = some .cell ∧ ((cellsFrom (s.heap.objs.size + 1) scope.names []).lookup y.1).isSome = true) := by
    rintro ⟨n, v⟩ hy
    rcases S.par n (List.of_mem_zip hy).1 with q | q
    · exact Or.inl q
    · exact Or.inr ⟨q, PySem.W.cellsFrom_some _ _ _ (Or.inl q)⟩
  apply codeAny_call_function hr.1.depth (KX _ _ lk) rfl S.co S.gen rfl (PySem.W.codeRec_of KX hcd)
  apply hb
  apply wpAny_newFunctionEnv_cells S.kind hk
  intro env he s1 x
  subst he
  refine ⟨lim.keeps x.toInCall.keep, codeAny_func ?_⟩
  obtain ⟨t, ht, hq⟩ := hbody A outer s H vs Q E ⟨hr.1.deeper _, hr.2⟩ hsp
  have I := inv_start (CX := CX) (E := E) (qual := qual) (f := f) (cd := cdv) S hr.1.hd e0 hl r x
  refine wpAny_mono (ht.run [] s1 (start N vs) H _ I hq) (fun fl s' hs => ?_) (fun e s' hs => hs)
  cases fl with
  | next =>
    obtain ⟨σ', H', J, q⟩ := hs
    exact ⟨V.non, H', J.os, J.bare, J.base, J.hok, rfl, q⟩
  | ret u =>
    obtain ⟨v, σ', H', J, rv, q⟩ := hs
    exact ⟨v, H', J.os, J.bare, J.base, J.hok, rv, q⟩
  | brk =>
    obtain ⟨_, _, _, q⟩ := hs
    cases q
  | cont =>
    obtain ⟨_, _, _, q⟩ := hs
    cases q
theorem ofFun {CX : CXT} {P : Program} {w : World} {K : PySem.W.Frag} {mg : Str → Option Value} {base : Heap} {x qual : Str} {f : Addr} {fd : FuncData} {params : Arguments} {body : List Stmt} {scope : Scope}
    {N ps : List Str} {k : Nat} {sp : Sp}
    (F : ∃ (oc : Value) (od : Option Addr) (kV doc pm : Value) (an : Option Addr) (cdv ct : Value) (osl : Array (Option Value)),
      fd = PySem.W.fnOf x qual params body scope .none kV doc pm an cdv ct ∧ K.lookup f = some ⟨oc, od, .func fd, osl⟩ ∧ PySem.W.codeIn K cdv qual = true)
    (S : FnScope N ps scope) (len : ∀ vs H Q E, sp vs H Q E → vs.length = ps.length)
    (hbody : ∀ (cdv : Value) (A : Around) (outer : List Env) (s : Shared) (H : Hp) (vs : List V) (Q : VK) (E : XK), RoomG k (A.deeper (envOfC qual scope s.heap.objs.size f cdv)) → sp vs H Q E →
      ∃ t, PSs (cxOf CX P w K mg base N qual scope f cdv A outer s H E) body t ∧ t { nx := fun _ H' => Q .non H', rt := Q } (start N vs) H) : FnG P w K mg base CX (k + 1) f fd ps sp := by
  obtain ⟨oc, od, kV, doc, pm, an, cdv, ct, osl, rfl, lk, hcd⟩ := F
  exact fnG lk hcd S len fun A outer s H vs Q E hr h => hbody cdv A outer s H vs Q E hr h

section
variable {X : Cx} {CX : CXT} {k : Nat} {f C : Addr} {fd : FuncData} {ps ks : List Str} {sp : Sp} {E : XK} {x : Str} {p pos : Pos} {e : Expr} {es : List Expr} {kws : List Keyword} {t tk : TA}
  {g : List Value → List Value → List Value} {gV : List V → List V → List V} {dvs : List V} {ds : List Value}
theorem res_of {pins : List (Addr × Obj)} {σ : L2.St} {H : Hp} {s : Shared} {Q : VK} {r : Result} {s' : Shared} (I : Inv X pins σ H s) (hx : Passes CX X E) (h : CR CX X.stack X.prog X.w H s Q E r s') :
    match r with
    | .ok (.ret u) => EP X pins σ Q u s'
    | .ok _ => False
    | .error e => X.xe e s' := by
  cases r with
  | error e => exact hx pins σ H s e s' I h
  | ok fl =>
    cases fl with
    | ret u => exact I.after h
    | next => exact h
    | brk => exact h
    | cont => exact h
theorem goG {pins : List (Addr × Obj)} {σ : L2.St} {H : Hp} {s : Shared} {Q : VK} {us : List Value} {vs : List V} (F : FnG X.prog X.w X.K X.mg X.base CX k f fd ps sp) (hr : RoomG k X.A) (hb : Binds X.K fd ps ds)
    (hd : Vals dvs ds) (hx : Passes CX X E) (I : Inv X pins σ H s) (r : Vals vs us) (h : sp (vs ++ dvs) H Q E) : wpAny (model X.prog X.w) X.A (call (.ref f) us) (EP X pins σ Q) X.xe s := by
  have r2 : Vals (vs ++ dvs) (us ++ ds) := r.append hd
  refine wpAny_call (codeAny_mono (F.go X.A X.stack s H ⟨us, []⟩ (us ++ ds) (vs ++ dvs) Q E hr I.env0 (hb s us I.kIn ?_) r2 h) fun r s' hq => ?_)
  · rw [← r2.length]; exact F.len _ _ _ _ h
  · have z := res_of I hx hq
    cases r with
    | error e => exact z
    | ok fl => cases fl <;> first | exact z | exact z.elim
theorem call_g (F : FnG X.prog X.w X.K X.mg X.base CX k f fd ps sp) (hr : RoomG k X.A) (hg : Gl X x) (hm : X.mg x = some (.ref f)) (hk : PySem.W.keepIn X.K (.ref f) = true) (hb : Binds X.K fd ps ds) (hd : Vals dvs ds)
    (hx : Passes CX X E) (ha : PA X (e :: es) t) (hdb : (x == ("__debug__" : Str)) = false := by decide) (he : starEach (e :: es) X.env = (false, eval e X.env) :: starEach es X.env := by rfl)
    (hpl : (backTo pos (starEach es X.env)).any (·.1) = false := by rfl) : PE X (.Call (.Name x p) (e :: es) [] pos) (tCall sp dvs E t) := by
  constructor
  intro pins s σ H Q I h
  apply wpAny_Call_Name_kw (ld_glob I hg hm ?_ hdb)
  apply PySem.W.callWith_K (h₀ := X.base) I.ok.mod.kin hk ?_ he hpl
  exact thn (ha.run pos pins s σ H _ I h) fun us s1 ⟨vs, H1, I1, r, q⟩ => ⟨I1.kIn, goG F hr hb hd hx I1 r q⟩
theorem goK {pins : List (Addr × Obj)} {σ : L2.St} {H : Hp} {s : Shared} {Q : VK} {us ws : List Value} {vs zs : List V} (F : FnG X.prog X.w X.K X.mg X.base CX k f fd ps sp) (hr : RoomG k X.A)
    (hb : KBinds X.K fd ps ks g gV) (hx : Passes CX X E) (I : Inv X pins σ H s) (r : Vals vs us) (rz : Vals zs ws) (h : sp (gV vs zs) H Q E) :
    wpAny (model X.prog X.w) X.A (call (.ref f) us (ks.zip ws)) (EP X pins σ Q) X.xe s := by
  have r2 := hb.rel r rz
  refine wpAny_call (codeAny_mono (F.go X.A X.stack s H ⟨us, ks.zip ws⟩ (g us ws) (gV vs zs) Q E hr I.env0 (hb.to s us ws I.kIn ?_) r2 h) fun r s' hq => ?_)
  · rw [← r2.length]; exact F.len _ _ _ _ h
  · have z := res_of I hx hq
    cases r with
    | error e => exact z
    | ok fl => cases fl <;> first | exact z | exact z.elim
theorem call_gK (F : FnG X.prog X.w X.K X.mg X.base CX k f fd ps sp) (hr : RoomG k X.A) (hg : Gl X x) (hm : X.mg x = some (.ref f)) (hk : PySem.W.keepIn X.K (.ref f) = true) (hb : KBinds X.K fd ps ks g gV) (hx : Passes CX X E)
    (ha : PA X (e :: es) t) (hkw : PK X kws tk) (hall : (backToKw pos (keywordEach kws X.env)).all (·.1.isSome) = true := by rfl) (hks : (backToKw pos (keywordEach kws X.env)).filterMap (·.1) = ks := by rfl)
    (hdb : (x == ("__debug__" : Str)) = false := by decide) (he : starEach (e :: es) X.env = (false, eval e X.env) :: starEach es X.env := by rfl)
    (hpl : ((backTo pos (starEach (e :: es) X.env)).any (·.1) || (backToKw pos (keywordEach kws X.env)).any (·.1.isNone)) = false := by rfl) :
    PE X (.Call (.Name x p) (e :: es) kws pos) (tCallK sp gV E t tk) := by
  constructor
  intro pins s σ H Q I h
  apply wpAny_Call_Name_kw (ld_glob I hg hm ?_ hdb)
  apply PySem.W.callWith_KW (h₀ := X.base) I.ok.mod.kin hk hall ?_ hpl he
  refine thn (ha.run pos pins s σ H _ I h) fun us s1 ⟨vs, H1, I1, r, q⟩ => thn (hkw.run pos pins s1 σ H1 _ I1 q) fun ws s2 ⟨zs, H2, I2, rz, q2⟩ => ⟨I2.kIn, ?_⟩
  subst hks
  exact goK F hr hb hx I2 r rz q2
theorem call_gK0 (F : FnG X.prog X.w X.K X.mg X.base CX k f fd ps sp) (hr : RoomG k X.A) (hg : Gl X x) (hm : X.mg x = some (.ref f)) (hk : PySem.W.keepIn X.K (.ref f) = true) (hb : KBinds X.K fd ps ks g gV) (hx : Passes CX X E)
    (hkw : PK X kws tk) (hall : (backToKw pos (keywordEach kws X.env)).all (·.1.isSome) = true := by rfl) (hks : (backToKw pos (keywordEach kws X.env)).filterMap (·.1) = ks := by rfl)
    (hdb : (x == ("__debug__" : Str)) = false := by decide)
    (hpl : ((backTo pos (starEach [] X.env)).any (·.1) || (backToKw pos (keywordEach kws X.env)).any (·.1.isNone)) = false := by rfl) :
    PE X (.Call (.Name x p) [] kws pos) (tCallK sp gV E tNil tk) := by
  constructor
  intro pins s σ H Q I h
  apply wpAny_Call_Name_kw (ld_glob I hg hm ?_ hdb)
  apply PySem.W.callWith_KW0 (h₀ := X.base) I.ok.mod.kin hk hall ?_ hpl
  refine thn (hkw.run pos pins s σ H _ I h) fun ws s2 ⟨zs, H2, I2, rz, q2⟩ => ⟨I2.kIn, ?_⟩
  subst hks
  exact goK F hr hb hx I2 .nil rz q2
end

/-! ### powers, repr -/
def CPowB (i j : Int) : Prop := 0 ≤ j ∧ j ≤ 64 ∧ i.natAbs < 2 ^ 1000
section
variable {X : Cx}
theorem op_powB : OpR X (binaryOp .Pow) (rI CPowB fun i j => .int (i ^ j.toNat)) := opI fun i j _ _ _ _ _ hc q => by
  obtain ⟨h0, h1, h2⟩ := hc
  refine pow_int h0 ?_ q
  have e : Builtin.Int.intBits i ≤ 1000 := by
    unfold Builtin.Int.intBits
    split
    · omega
    · have : i.natAbs.log2 < 1000 := by
        rename_i hz
        have z : i.natAbs ≠ 0 := by
          intro q
          exact hz (by have : i = 0 := by omega
                       simp [this])
        exact (Nat.log2_lt z).mpr h2
      omega
  have e2 : (Builtin.Int.intBits i : Int) ≤ 1000 := by omega
  have : (Builtin.Int.intBits i : Int) * j ≤ 1000 * 64 := Int.mul_le_mul e2 h1 h0 (by decide)
  have e3 : (2 : Int) ^ 27 = 134217728 := by decide
  rw [e3]
  exact Int.le_trans this (by decide)
/-- repr of data: a list, a tuple -/
def rRep (K : PySem.W.Frag) : List V → Hp → VK → Prop := fun xs H Q => ∃ (a : Addr) (d : PyData), xs = [.ref a] ∧ Dp K H (.ref a) d ∧ d.showable = true ∧ d.depth ≤ 60 ∧ d.shown.length ≤ sizeLine ∧ Q (.str d.shown) H
theorem noDict : ∀ {K : PySem.W.Frag} {H : Hp} {v : V} {d : PyData}, Dp K H v d → d.hasDict = false := by
  intro K H v d h
  exact Dp.rec (motive_1 := fun _ d _ => d.hasDict = false) (motive_2 := fun _ ds _ => PyData.hasDictAll ds = false) rfl (fun _ => rfl) (fun _ => rfl) (fun _ => rfl)
    (fun _ _ ih => by simpa [PyData.hasDict] using ih) (fun _ _ ih => by simpa [PyData.hasDict] using ih) rfl (fun _ _ h1 h2 => by simp [PyData.hasDictAll, h1, h2]) h
theorem call_reprD {k : Nat} (hr : RoomG k X.A) : CallR X (.builtin "repr") (rRep X.K) := by
  intro pins s σ H xs us Q I r h
  obtain ⟨a, d, rfl, hd, hs, hdep, hsz, q⟩ := h
  obtain ⟨u, rfl, ru⟩ := vals1 r
  obtain rfl : u = Value.ref a := ru
  obtain ⟨as, rd⟩ := Dp.reads I d _ _ hd rfl
  refine repr_of_reads' rd hs (fun z => ?_) hr.2 (by have := hr.1.un; omega) (fun _ _ e => e) (fun h' u tk hk => ⟨.str d.shown, H, I.kept hk, ⟨u, rfl⟩, q⟩) hsz
  rw [noDict hd] at z
  cases z
end
end Own
namespace Own
open PySem PySem.Spec PyProof.Rows L2

/-- the law's call at the heap behind the top, H being what is tracked -/
theorem start_law {P : Program} {w : World} {K : PySem.W.Frag} {mg mb : Str → Option Value} {k : Nat} {fa a : Addr} {fd : FuncData} {x : Str} {sp : Sp} {s : Shared} {vs : List Value} {H : Hp}
    (KX : K.In s.heap) (hns : s.heap.Ns mainGlobals mg) (hb : s.heap.Ns builtinsNs mb) (hbb : ∀ x : Str, x ≠ "__name__" → mb x = bootBuiltins x) (hlim : s.heap.NoLimit) (hg : s.gens = #[])
    (ha : s.heap.get? a = some { cls := .type "list", data := .seq vs.toArray }) (hr : RoomG k callerA)
    (F : ∀ base : Heap, K.In base → base.Ns mainGlobals mg → FnG P w K mg base CX0 k fa fd [x] sp) (hbind : BindsTo s fd ⟨[.ref a], []⟩ [(x, .ref a)])
    (hsp : sp [.ref a] H (fun v _ => v = .bl true) fun _ _ _ => False) (hO : Only H) (hok : HOk P w H s.heap) (hA : ∀ b, H b ≠ none → b = a) (hK : H a ≠ none → K.lookup a = none) :
    codeAny (model P w) callerA (.call (.ref fa) ⟨[.ref a], []⟩) (fun r s' => r = .ok (.ret (.bool true)) ∧ OldK s.heap s'.heap ∧ s'.os = s.os ∧ AllBare s'.gens) s := by
  have isA : ∀ {b : Addr} {u : HO}, H b = some u → b = a := fun {b u} q => hA b (by rw [q]; exact fun z => nomatch z)
  have noA : ∀ {b : Addr} {o : Obj} {es : Array DictEntry} {ep : Nat}, s.heap.get? b = some o → o.data = .dict es ep → H b = none := by
    intro b o es ep e d
    cases q : H b with
    | none => rfl
    | some u =>
      have eb := isA q
      rw [eb, ha] at e
      have eo := Option.some.inj e
      rw [← eo] at d
      exact nomatch d
  have nsK : ∀ {b : Addr} {m : Str → Option Value}, s.heap.Ns b m → (hidT s.heap H).Ns b m := by
    rintro b m ⟨o, es, ep, e, d, r⟩
    exact ⟨o, es, ep, hidT_get e (noA e d), d, r⟩
  have inK : K.In (hidT s.heap H) := by
    intro b o e
    refine hidT_get (KX b o e) ?_
    cases q : H b with
    | none => rfl
    | some u =>
      have eb := isA q
      subst eb
      have z := hK (by rw [q]; exact fun z => nomatch z)
      rw [z] at e
      exact nomatch e
  obtain ⟨mc, l1, l2⟩ := hlim
  have e0 : Env0 P w K mg (hidT s.heap H) callerA [] s H :=
    ⟨rfl, ⟨inK, nsK hns, ⟨mb, nsK hb, hbb⟩, ⟨mc, nsK l1, l2⟩⟩, fun b o e => of_hidT e, Nat.le_of_eq (hidT_size _ _), trivial, fun b z => (List.not_mem_nil z).elim, hok, .of_eq hg⟩
  have run := (F _ inK (nsK hns)).go callerA [] s H ⟨[.ref a], []⟩ [.ref a] [.ref a] _ _ hr e0 hbind (.cons rfl .nil) hsp
  refine codeAny_mono run fun r s' h => ?_
  rcases r with e | fl
  · exact h.elim
  · cases fl with
    | ret u =>
      obtain ⟨v, H', os, bare, un, hok', r', q⟩ := h
      subst q
      have eu : u = Value.bool true := r'
      refine ⟨by rw [eu], OldK.of_keep fun b o e => ?_, os, bare⟩
      cases q : H b with
      | none => exact un.keep b o e q (fun z => (List.not_mem_nil z).elim) (by simp)
      | some u =>
        rcases hO b with z | ⟨ob, xs, z⟩
        · rw [q] at z; exact nomatch z
        · obtain ⟨e1, _⟩ := hok b _ z
          obtain ⟨e2, _⟩ := hok' b _ (un.frzs b ob _ z)
          rw [e] at e1
          rw [Option.some.inj e1]
          exact e2
    | next => exact h.elim
    | brk => exact h.elim
    | cont => exact h.elim

theorem walk_g {l : PySem.W.OpenLaw} {n k : Nat} {q : Program} {loose : List Str} {XP : (Str → Option Value) → Heap → Prop} {YP : World → Heap → Prop} {d : DefRec} {K : Params → PySem.W.Frag} {sp : PySem.W.Frag → Sp} {x : Str}
    (hn : l.most = some n) (hn2 : n ≤ sizeLine) (hdf : d.params.defaults = []) (hr : RoomG k callerA) (hY : ∀ (w : World) (h : Heap), YP w h → (K w.params).In h)
    (F : ∀ (w : World) (mg : Str → Option Value) (fa : Addr) (h : Heap), (K w.params).In h → h.Ns mainGlobals mg → mg d.name = some (.ref fa) →
      ∃ fd : FuncData, (∀ (s : Shared) (u : Value), BindsTo s fd ⟨[u], []⟩ [(x, u)]) ∧
        ∀ base : Heap, (K w.params).In base → base.Ns mainGlobals mg → FnG l.prog w (K w.params) mg base CX0 k fa fd [x] (sp (K w.params)))
    (hsp : ∀ (K : PySem.W.Frag) (H : Hp) (a : Addr) (ns : List Int), ns.length ≤ n → Only H → SqL K H a (ns.map V.int) → sp K [.ref a] H (fun v _ => v = .bl true) fun _ _ _ => False) :
    PySem.W.WalkO q loose XP YP l.row.toRowW d [] (fun f vs => PySem.call f vs) := by
  apply Att.attach_call hn hdf
  intro w s₀ s₁ mg mb fa o pm cd doc a vs ns G Y ho hd hcd hmg hobj hints hlen hg
  obtain ⟨fd, hb, hF⟩ := F w mg fa _ (hY w _ Y) G.T.g hmg
  have hl : ns.length ≤ sizeLine := Nat.le_trans hlen hn2
  have rv := vals_ints hints
  cases hk : (K w.params).lookup a with
  | none =>
    have hself : (fun b => if b = a then some (HO.frz { cls := .type "list", data := .seq vs.toArray } (.lst (ns.map V.int))) else none : Hp) a = some (.frz { cls := .type "list", data := .seq vs.toArray } (.lst (ns.map V.int))) := if_pos rfl
    have hO : Only (fun b => if b = a then some (HO.frz { cls := .type "list", data := .seq vs.toArray } (.lst (ns.map V.int))) else none) := fun b => by
      by_cases hb : b = a
      · exact Or.inr ⟨_, _, if_pos hb⟩
      · exact Or.inl (if_neg hb)
    have hA : ∀ b, (fun b => if b = a then some (HO.frz { cls := .type "list", data := .seq vs.toArray } (.lst (ns.map V.int))) else none : Hp) b ≠ none → b = a := fun b z => by
      by_cases hb : b = a
      · exact hb
      · exact (z (if_neg hb)).elim
    refine start_law (hY w _ Y) G.T.g G.T.b G.T.builtins G.T.nolimit hg hobj hr hF (hb _ _) (hsp _ _ _ _ hlen hO (.inl (.inr ⟨_, hself⟩))) hO (fun b u z => ?_) hA fun _ => hk
    have eb := hA b (fun y => nomatch z.symm.trans y)
    subst eb
    have eu := hself.symm.trans z
    rw [← Option.some.inj eu]
    exact ⟨hobj, by rw [List.length_map]; exact hl, vs, _, rv, hobj⟩
  | some o' =>
    have e := hY w _ Y a o' hk
    rw [hobj] at e
    rw [← Option.some.inj e] at hk
    have hO : Only (fun _ => none) := fun _ => Or.inl rfl
    refine start_law (H := fun _ => none) (hY w _ Y) G.T.g G.T.b G.T.builtins G.T.nolimit hg hobj hr hF (hb _ _) (hsp _ _ _ _ hlen hO (Or.inr ⟨_, vs.toArray, _, hk, rfl, rfl, rfl, ?_, by simpa using rv⟩)) hO (fun b u z => ?_) (fun b z => absurd rfl z) fun z => absurd rfl z
    · rw [List.size_toArray, hints.length]; exact hl
    · exact nomatch (show (none : Option HO) = some u from z)

/-- a def of the text -/
theorem def_ok {P : Program} {w : World} {K : PySem.W.Frag} {mg : Str → Option Value} {base : Heap} {x qual : Str} {st : Stmt} {f : Addr} {fd : FuncData} {N ps : List Str} {k : Nat} {sp : Sp} (F : Fun K x qual st f fd)
    (S : FnScope N ps (defScope st)) (len : ∀ vs H Q E, sp vs H Q E → vs.length = ps.length)
    (hbody : ∀ (cdv : Value) (A : Around) (outer : List Env) (s : Shared) (H : Hp) (vs : List V) (Q : VK) (E : XK), RoomG k (A.deeper (envOfC qual (defScope st) s.heap.objs.size f cdv)) → sp vs H Q E →
      ∃ t, PSs (cxOf CX0 P w K mg base N qual (defScope st) f cdv A outer s H E).nox (defBody st) t ∧ t { nx := fun _ H' => Q .non H', rt := Q } (start N vs) H) : FnG P w K mg base CX0 (k + 1) f fd ps sp :=
  ofFun (body := defBody st) (params := defArgs st) F.ex S len fun cdv A outer s H vs Q E hr hsp =>
    let ⟨t, h, q⟩ := hbody cdv A outer s H vs Q E hr hsp
    ⟨t, h.nox, q⟩
/-- so many by position, so many by name -/
def gK {α : Type} (n k : Nat) (us ws : List α) : List α := if us.length = n ∧ ws.length = k then us ++ ws else []
/-- how positions and keywords bind -/
theorem kb_mk {K : PySem.W.Frag} {x qual : Str} {st : Stmt} {f : Addr} {fd : FuncData} {ps ks : List Str} {n : Nat} (F : Fun K x qual st f fd) (hp : ps ≠ [])
    (h : ∀ (kV doc pm : Value) (an : Option Addr) (cdv ct : Value) (us ws : List Value), us.length = n → ws.length = ks.length → bindArgs (PySem.W.fnOf x qual (defArgs st) (defBody st) (defScope st) .none kV doc pm an cdv ct) ⟨us, ks.zip ws⟩ = pure (ps.zip (us ++ ws))) :
    KBinds K fd ps ks (gK n ks.length) (gK n ks.length) := by
  obtain ⟨oc, od, kV, doc, pm, an, cdv, ct, osl, rfl, lk, hcd⟩ := F.ex
  refine ⟨fun s us ws _ hl => ?_, fun {vs us zs ws} r1 r2 => ?_⟩
  · by_cases z : us.length = n ∧ ws.length = ks.length
    · rw [show gK n ks.length us ws = us ++ ws from if_pos z]
      exact .of_eq (h kV doc pm an cdv ct us ws z.1 z.2)
    · rw [show gK n ks.length us ws = [] from if_neg z] at hl
      exact (hp (List.length_eq_zero_iff.mp hl.symm)).elim
  · by_cases z : us.length = n ∧ ws.length = ks.length
    · rw [show gK n ks.length us ws = us ++ ws from if_pos z, show gK n ks.length vs zs = vs ++ zs from if_pos ⟨r1.length.trans z.1, r2.length.trans z.2⟩]
      exact r1.append r2
    · rw [show gK n ks.length us ws = [] from if_neg z, show gK n ks.length vs zs = [] from if_neg (fun y => z ⟨r1.length.symm.trans y.1, r2.length.symm.trans y.2⟩)]
      exact .nil
end Own
namespace Own
open PySem PySem.Spec PyProof.Rows L2

/-! ### what stays -/
/-- the heap without some addresses -/
def hid (ps : List Addr) (H : Hp) : Hp := fun b => if b ∈ ps then none else H b
theorem hid_some {ps : List Addr} {H : Hp} {b : Addr} {o : HO} (h : hid ps H b = some o) : b ∉ ps ∧ H b = some o := by
  unfold hid at h
  by_cases q : b ∈ ps
  · rw [if_pos q] at h; cases h
  · rw [if_neg q] at h; exact ⟨q, h⟩
theorem hid_of {ps : List Addr} {H : Hp} {b : Addr} {o : HO} (q : b ∉ ps) (h : H b = some o) : hid ps H b = some o := by
  unfold hid; rw [if_neg q]; exact h
theorem hid_none {ps : List Addr} {H : Hp} {b : Addr} (h : H b = none) : hid ps H b = none := by
  unfold hid; split <;> first | rfl | exact h
/-- all but some addresses stays -/
def But (ps : List Addr) (H H' : Hp) : Prop := ∀ b o, b ∉ ps → H b = some o → H' b = some o
theorem But.same {ps : List Addr} {H H' : Hp} (h : But ps H H') : Same (hid ps H) (hid ps H') := fun b o e => by
  obtain ⟨q, e⟩ := hid_some e
  exact hid_of q (h b o q e)
theorem But.refl (ps : List Addr) (H : Hp) : But ps H H := fun _ _ _ h => h
theorem But.trans {ps : List Addr} {H H1 H2 : Hp} (a : But ps H H1) (b : But ps H1 H2) : But ps H H2 := fun c o q e => b c o q (a c o q e)
theorem But.mono {ps qs : List Addr} {H H' : Hp} (a : But ps H H') (h : ∀ x, x ∈ ps → x ∈ qs) : But qs H H' := fun c o q e => a c o (fun z => q (h c z)) e
theorem But.of {ps : List Addr} {H H' : Hp} (a : Same H H') : But ps H H' := fun c o _ e => a c o e
theorem But.new {ps : List Addr} {H H' : Hp} {p : Addr} {o : HO} (a : But ps H H') (n : H' p = none) : But ps H (upd H' p o) := fun c u q e => by
  have z := a c u q e
  rw [upd_ne (ne_of_none z n)]; exact z
theorem But.put {ps : List Addr} {H H' : Hp} {p : Addr} {o : HO} (a : But ps H H') (n : p ∈ ps) : But ps H (upd H' p o) := fun c u q e => by
  rw [upd_ne (show c ≠ p from fun z => q (by rw [z]; exact n))]; exact a c u q e
theorem same_new {H : Hp} {p : Addr} (h : H p = none) (o : HO) : Same H (upd H p o) := fun b u q => by rw [upd_ne (ne_of_none q h)]; exact q
theorem hid_sub {ps qs : List Addr} {H : Hp} (h : ∀ x, x ∈ ps → x ∈ qs) : Same (hid qs H) (hid ps H) := fun b o e => by
  obtain ⟨q, e⟩ := hid_some e
  exact hid_of (fun z => q (h b z)) e
theorem hid_same (ps : List Addr) (H : Hp) : Same (hid ps H) H := fun b o e => (hid_some e).2
theorem Same.tup {K : PySem.W.Frag} {H H' : Hp} {a : Addr} {xs : List V} (e : Same H H') (h : SqT K H a xs) : SqT K H' a xs := by
  rcases h with (h | ⟨o, h⟩) | h
  · exact .inl (.inl (e _ _ h))
  · exact .inl (.inr ⟨o, e _ _ h⟩)
  · exact .inr h
section
variable {K : PySem.W.Frag} {H H' : Hp}
mutual
theorem dpSame (e : Same H H') : ∀ {d : PyData} {v : V}, Dp K H v d → Dp K H' v d
  | .none, _, h => by cases h; exact .non
  | .bool b, _, h => by cases h; exact .bl b
  | .int i, _, h => by cases h; exact .int i
  | .str x, _, h => by cases h; exact .str x
  | .list ds, _, h => by
    cases h with
    | lst hs ha => exact .lst (e.seq hs) (dpaSame e ha)
  | .tuple ds, _, h => by
    cases h with
    | tup hs ha => exact .tup (Same.tup e hs) (dpaSame e ha)
  | .dict _, _, h => by cases h
theorem dpaSame (e : Same H H') : ∀ {ds : List PyData} {vs : List V}, DpAll K H vs ds → DpAll K H' vs ds
  | [], _, h => by cases h; exact .nil
  | d :: ds, _, h => by
    cases h with
    | cons a b => exact .cons (dpSame e a) (dpaSame e b)
end
theorem strI {v : V} {x : Str} (h : Dp K H v (.str x)) : v = .str x := by cases h; rfl
theorem intI {v : V} {i : Int} (h : Dp K H v (.int i)) : v = .int i := by cases h; rfl
theorem tupI {v : V} {ds : List PyData} (h : Dp K H v (.tuple ds)) : ∃ a xs, v = .ref a ∧ SqT K H a xs ∧ DpAll K H xs ds := by
  cases h with
  | tup hs ha => exact ⟨_, _, rfl, hs, ha⟩
theorem lstI {v : V} {ds : List PyData} (h : Dp K H v (.list ds)) : ∃ a xs, v = .ref a ∧ SqL K H a xs ∧ DpAll K H xs ds := by
  cases h with
  | lst hs ha => exact ⟨_, _, rfl, hs, ha⟩
theorem consI {vs : List V} {d : PyData} {ds : List PyData} (h : DpAll K H vs (d :: ds)) : ∃ v ws, vs = v :: ws ∧ Dp K H v d ∧ DpAll K H ws ds := by
  cases h with
  | cons a b => exact ⟨_, _, rfl, a, b⟩
theorem nilI {vs : List V} (h : DpAll K H vs []) : vs = [] := by cases h; rfl
theorem snocI {vs : List V} {ds : List PyData} {v : V} {d : PyData} (a : DpAll K H vs ds) (b : Dp K H v d) : DpAll K H (vs ++ [v]) (ds ++ [d]) := by
  induction ds generalizing vs with
  | nil => cases a; exact .cons b .nil
  | cons e es ih =>
    cases a with
    | cons h t => exact .cons h (ih t)
/-- a tuple that was just laid -/
theorem newTup {p : Addr} {xs : List V} {ds : List PyData} {ps : List Addr} (np : H p = none) (pp : p ∉ ps) (h : DpAll K (hid ps H) xs ds) : Dp K (hid ps (upd H p (.tup xs))) (.ref p) (.tuple ds) := by
  refine .tup (.inl (.inl (hid_of pp upd_same))) (dpaSame (fun b o e => ?_) h)
  obtain ⟨q, e⟩ := hid_some e
  exact hid_of q (same_new np _ _ _ e)
theorem newLst {p : Addr} {xs : List V} {ds : List PyData} {ps : List Addr} (np : H p = none) (pp : p ∉ ps) (h : DpAll K (hid ps H) xs ds) : Dp K (hid ps (upd H p (.lst xs))) (.ref p) (.list ds) := by
  refine .lst (.inl (.inl (hid_of pp upd_same))) (dpaSame (fun b o e => ?_) h)
  obtain ⟨q, e⟩ := hid_some e
  exact hid_of q (same_new np _ _ _ e)
end

/-! ### names -/
def Nm (n : Nat) (x : Str) : Prop := 1 ≤ x.length ∧ x.length ≤ n ∧ ∀ c ∈ x.cps.toList, 97 ≤ c ∧ c ≤ 122
/-- a list of names -/
def Names (H : Hp) (K : PySem.W.Frag) (a : Addr) (n : Nat) (xs : List Str) : Prop := SqL K H a (xs.map V.str) ∧ ∀ x ∈ xs, Nm n x

/-! ### sizes -/
structure Sz (d : PyData) (n k : Nat) : Prop where
  sh : d.showable = true
  lv : d.leavesShort 8 = true
  bk : d.bulk ≤ n
  dp : d.depth ≤ k
theorem Sz.mono {d : PyData} {n k m j : Nat} (h : Sz d n k) (a : n ≤ m) (b : k ≤ j) : Sz d m j := ⟨h.sh, h.lv, Nat.le_trans h.bk a, Nat.le_trans h.dp b⟩
theorem Sz.fits {d : PyData} {n k : Nat} (h : Sz d n k) (a : n ≤ 2 ^ 20) : d.shown.length ≤ sizeLine := PyData.shown_fits_bulk (B := 8) (by decide) (by decide) h.lv (Nat.le_trans h.bk a)
theorem Sz.str {x : Str} {n : Nat} (h : Nm n x) : Sz (.str x) n 0 := by
  refine ⟨rfl, ?_, h.2.1, Nat.le_refl _⟩
  show (x.cps.toList.all fun c => decide (c < 16 ^ 8)) = true
  rw [List.all_eq_true]
  intro c hc
  have := h.2.2 c hc
  exact decide_eq_true (by omega)
structure SzAll (ds : List PyData) (n k : Nat) : Prop where
  sh : PyData.showableAll ds = true
  lv : PyData.leavesShortAll 8 ds = true
  bk : PyData.bulkAll ds ≤ n
  dp : PyData.depthAll ds ≤ k
theorem SzAll.nil : SzAll [] 0 0 := ⟨rfl, rfl, Nat.le_refl _, Nat.le_refl _⟩
theorem SzAll.cons {d : PyData} {ds : List PyData} {n k m j : Nat} (h : Sz d n k) (t : SzAll ds m j) : SzAll (d :: ds) (n + 1 + m) (max k j) := by
  refine ⟨?_, ?_, ?_, ?_⟩
  · show (PyData.showable d && PyData.showableAll ds) = true
    rw [h.sh, t.sh]; rfl
  · show (PyData.leavesShort 8 d && PyData.leavesShortAll 8 ds) = true
    rw [h.lv, t.lv]; rfl
  · show PyData.bulk d + 1 + PyData.bulkAll ds ≤ _
    have := h.bk; have := t.bk; omega
  · show max (PyData.depth d) (PyData.depthAll ds) ≤ _
    have := h.dp; have := t.dp; omega
theorem SzAll.tup {ds : List PyData} {n k : Nat} (h : SzAll ds n k) : Sz (.tuple ds) n (k + 1) := ⟨h.sh, h.lv, h.bk, Nat.succ_le_succ h.dp⟩
theorem SzAll.lst {ds : List PyData} {n k : Nat} (h : SzAll ds n k) : Sz (.list ds) n (k + 1) := ⟨h.sh, h.lv, h.bk, Nat.succ_le_succ h.dp⟩
theorem SzAll.all {ds : List PyData} {n k : Nat} (h : ∀ d ∈ ds, Sz d n k) : SzAll ds ((n + 1) * ds.length) k := by
  induction ds with
  | nil => exact ⟨rfl, rfl, Nat.zero_le _, Nat.zero_le _⟩
  | cons d ds ih =>
    have t := ih fun e he => h e (List.mem_cons_of_mem _ he)
    have q := SzAll.cons (h d List.mem_cons_self) t
    refine ⟨q.sh, q.lv, Nat.le_trans q.bk ?_, Nat.le_trans q.dp (by omega)⟩
    rw [List.length_cons, Nat.mul_add]; omega
end Own
namespace Toy
open PySem L2 Own
def top (i : Nat) : Stmt := PySem.Challenge.pw_toldatlast_k16_walk.main.body.getD i (.Pass ⟨0, 0, 0, 0⟩)
abbrev s_walk : Stmt := top 1
theorem sc_walk : FnScope ["told", "lot"] ["told", "lot"] (defScope s_walk) := ⟨rfl, rfl, rfl, by decide +kernel, rfl, by decide +kernel, by decide +kernel⟩
abbrev s_copied_told : Stmt := top 2
theorem sc_copied_told : FnScope ["told"] ["told"] (defScope s_copied_told) := ⟨rfl, rfl, rfl, by decide +kernel, rfl, by decide +kernel, by decide +kernel⟩
abbrev s__law_purse : Stmt := top 4
theorem sc__law_purse : FnScope ["script", "place", "cell"] ["script", "place"] (defScope s__law_purse) := ⟨rfl, rfl, rfl, by decide +kernel, rfl, by decide +kernel, by decide +kernel⟩
abbrev s__law_coin : Stmt := top 5
theorem sc__law_coin : FnScope ["purse", "many", "drawn", "stirred"] ["purse", "many"] (defScope s__law_coin) := ⟨rfl, rfl, rfl, by decide +kernel, rfl, by decide +kernel, by decide +kernel⟩
abbrev s__law_any_chain : Stmt := top 6
theorem sc__law_any_chain : FnScope ["purse", "titles", "most", "chain", "turn", "word"] ["purse", "titles", "most"] (defScope s__law_any_chain) := ⟨rfl, rfl, rfl, by decide +kernel, rfl, by decide +kernel, by decide +kernel⟩
abbrev s__law_any_told : Stmt := top 7
theorem sc__law_any_told : FnScope ["purse", "titles", "most", "way"] ["purse", "titles", "most"] (defScope s__law_any_told) := ⟨rfl, rfl, rfl, by decide +kernel, rfl, by decide +kernel, by decide +kernel⟩
abbrev s__law_any_tree : Stmt := top 8
theorem sc__law_any_tree : FnScope ["purse", "titles", "left", "deep", "title", "failing"] ["purse", "titles", "left", "deep"] (defScope s__law_any_tree) := ⟨rfl, rfl, rfl, by decide +kernel, rfl, by decide +kernel, by decide +kernel⟩
abbrev s__law_long_menu : Stmt := top 9
theorem sc__law_long_menu : FnScope ["purse", "many", "letters", "way", "words_here", "stem", "turn", "start", "rank", "size", "at"] ["purse", "many"] (defScope s__law_long_menu) := ⟨rfl, rfl, rfl, by decide +kernel, rfl, by decide +kernel, by decide +kernel⟩
abbrev s__law_full_tree : Stmt := top 10
theorem sc__law_full_tree : FnScope ["purse", "titles", "at", "failing"] ["purse", "titles", "at"] (defScope s__law_full_tree) := ⟨rfl, rfl, rfl, by decide +kernel, rfl, by decide +kernel, by decide +kernel⟩
abbrev s__law_led_to : Stmt := top 11
theorem sc__law_led_to : FnScope ["found", "some"] ["found", "some"] (defScope s__law_led_to) := ⟨rfl, rfl, rfl, by decide +kernel, rfl, by decide +kernel, by decide +kernel⟩
abbrev s__law_right : Stmt := top 12
theorem sc__law_right : FnScope ["purse", "titles", "size", "found", "ahead", "turn", "some", "title", "handed", "asked", "outcome", "chain"] ["purse"] (defScope s__law_right) := ⟨rfl, rfl, rfl, by decide +kernel, rfl, by decide +kernel, by decide +kernel⟩
abbrev s_law : Stmt := top 13
theorem sc_law : FnScope ["script", "spot"] ["script"] (defScope s_law) := ⟨rfl, rfl, rfl, by decide +kernel, rfl, by decide +kernel, by decide +kernel⟩
structure Txt (w : World) (K : PySem.W.Frag) (mg : Str → Option Value) where
  f_walk : Addr
  d_walk : FuncData
  F_walk : Fun K "walk" "walk" s_walk f_walk d_walk
  b_walk : Binds K d_walk ["told", "lot"] []
  m_walk : mg "walk" = some (.ref f_walk)
  f_copied_told : Addr
  d_copied_told : FuncData
  F_copied_told : Fun K "copied_told" "copied_told" s_copied_told f_copied_told d_copied_told
  b_copied_told : Binds K d_copied_told ["told"] []
  m_copied_told : mg "copied_told" = some (.ref f_copied_told)
  f__law_purse : Addr
  d__law_purse : FuncData
  F__law_purse : Fun K "_law_purse" "_law_purse" s__law_purse f__law_purse d__law_purse
  b__law_purse : Binds K d__law_purse ["script", "place"] []
  m__law_purse : mg "_law_purse" = some (.ref f__law_purse)
  f__law_coin : Addr
  d__law_coin : FuncData
  F__law_coin : Fun K "_law_coin" "_law_coin" s__law_coin f__law_coin d__law_coin
  b__law_coin : Binds K d__law_coin ["purse", "many"] []
  m__law_coin : mg "_law_coin" = some (.ref f__law_coin)
  f__law_any_chain : Addr
  d__law_any_chain : FuncData
  F__law_any_chain : Fun K "_law_any_chain" "_law_any_chain" s__law_any_chain f__law_any_chain d__law_any_chain
  b__law_any_chain : Binds K d__law_any_chain ["purse", "titles", "most"] []
  m__law_any_chain : mg "_law_any_chain" = some (.ref f__law_any_chain)
  f__law_any_told : Addr
  d__law_any_told : FuncData
  F__law_any_told : Fun K "_law_any_told" "_law_any_told" s__law_any_told f__law_any_told d__law_any_told
  b__law_any_told : Binds K d__law_any_told ["purse", "titles", "most"] []
  m__law_any_told : mg "_law_any_told" = some (.ref f__law_any_told)
  f__law_any_tree : Addr
  d__law_any_tree : FuncData
  F__law_any_tree : Fun K "_law_any_tree" "_law_any_tree" s__law_any_tree f__law_any_tree d__law_any_tree
  b__law_any_tree : Binds K d__law_any_tree ["purse", "titles", "left", "deep"] []
  m__law_any_tree : mg "_law_any_tree" = some (.ref f__law_any_tree)
  f__law_long_menu : Addr
  d__law_long_menu : FuncData
  F__law_long_menu : Fun K "_law_long_menu" "_law_long_menu" s__law_long_menu f__law_long_menu d__law_long_menu
  b__law_long_menu : Binds K d__law_long_menu ["purse", "many"] []
  m__law_long_menu : mg "_law_long_menu" = some (.ref f__law_long_menu)
  f__law_full_tree : Addr
  d__law_full_tree : FuncData
  F__law_full_tree : Fun K "_law_full_tree" "_law_full_tree" s__law_full_tree f__law_full_tree d__law_full_tree
  b__law_full_tree : Binds K d__law_full_tree ["purse", "titles", "at"] []
  m__law_full_tree : mg "_law_full_tree" = some (.ref f__law_full_tree)
  f__law_led_to : Addr
  d__law_led_to : FuncData
  F__law_led_to : Fun K "_law_led_to" "_law_led_to" s__law_led_to f__law_led_to d__law_led_to
  b__law_led_to : Binds K d__law_led_to ["found", "some"] []
  m__law_led_to : mg "_law_led_to" = some (.ref f__law_led_to)
  f__law_right : Addr
  d__law_right : FuncData
  F__law_right : Fun K "_law_right" "_law_right" s__law_right f__law_right d__law_right
  b__law_right : Binds K d__law_right ["purse"] []
  m__law_right : mg "_law_right" = some (.ref f__law_right)
  f_law : Addr
  d_law : FuncData
  F_law : Fun K "law" "law" s_law f_law d_law
  b_law : Binds K d_law ["script"] []
  m_law : mg "law" = some (.ref f_law)
  k_walk_told_lot : KBinds K d_walk ["told", "lot"] ["told", "lot"] (gK 0 2) (gK 0 2)
  z_abs : mg "abs" = none
  z_int : mg "int" = none
  z_len : mg "len" = none
  z_list : mg "list" = none
  z_max : mg "max" = none
  z_min : mg "min" = none
  z_range : mg "range" = none
  z_repr : mg "repr" = none

/-! ### what is told, trees -/
inductive Told : PyData → Prop
  | one (w : Str) : (w = "ended" ∨ w = "left") → Told (.tuple [.str w])
  | err (ds : List PyData) : ds.length ≤ 9 → (∀ d ∈ ds, ∃ a b : Str, d = .tuple [.str a, .str b] ∧ Nm 8 a ∧ Nm 8 b) → Told (.tuple [.str "error", .list ds])
inductive Tr : Nat → PyData → Nat → Prop
  | fin (n : Nat) (t : PyData) : Told t → Tr n (.tuple [.str "end", t]) 0
  | ask (n : Nat) (x : Str) (f g : PyData) (p q : Nat) : Nm 9 x → Tr n f p → Tr n g q → Tr (n + 1) (.tuple [.str "ask", .str x, f, g]) (1 + p + q)

section
variable {P : Program} {w : World} {K : PySem.W.Frag} {mg : Str → Option Value} {base : Heap}
theorem ee : (decide (V.str ("end" : Str) = V.str ("end" : Str))) = true := decide_eq_true rfl
theorem ae : (decide (V.str ("ask" : Str) = V.str ("end" : Str))) = false := by decide +kernel
theorem refOf {H : Hp} {v : V} {d : PyData} {n q : Nat} (h : Dp K H v d) (t : Tr n d q) : ∃ a, v = .ref a := by
  cases t with
  | fin _ => cases h with
    | tup => exact ⟨_, rfl⟩
  | ask => cases h with
    | tup => exact ⟨_, rfl⟩

/-! ### draws -/
/-- a purse, asked at most n times so far -/
def Pu (H : Hp) (p : Addr) (n : Nat) : Prop := ∃ a b c : Int, H p = some (.lst [.int a, .int b, .int c]) ∧ 0 ≤ b ∧ b < 10 ^ 25 ∧ 0 ≤ c ∧ c ≤ n
theorem Pu.mono {H : Hp} {p : Addr} {n m : Nat} (h : Pu H p n) (e : n ≤ m) : Pu H p m := by
  obtain ⟨a, b, c, h1, h2, h3, h4, h5⟩ := h
  exact ⟨a, b, c, h1, h2, h3, h4, by omega⟩
theorem Pu.put {H H' : Hp} {p : Addr} {n : Nat} {ps : List Addr} (h : Pu H p n) (e : But ps H H') (q : p ∉ ps) : Pu H' p n := by
  obtain ⟨a, b, c, h1, h2⟩ := h
  exact ⟨a, b, c, e _ _ q h1, h2⟩
def spPurse (K : PySem.W.Frag) : Sp := fun vs H Q _ => ∃ (a : Addr) (ns : List Int) (i : Int), vs = [.ref a, .int i] ∧ SqL K H a (ns.map V.int) ∧ ns.length ≤ 63 ∧ 0 ≤ i ∧ i < 100 ∧ ∀ p, H p = none → ∀ H', Same H H' → Pu H' p 0 → Q (.ref p) H'
def spCoin : Sp := fun vs H Q _ => ∃ (p : Addr) (m : Int) (n : Nat), vs = [.ref p, .int m] ∧ Pu H p n ∧ n < 10 ^ 20 ∧ 0 < m ∧ m < 10 ^ 25 ∧
  ∀ (r : Int) (H' : Hp), 0 ≤ r → r < m → But [p] H H' → Pu H' p (n + 1) → Q (.int r) H'
theorem ok_purse (T : Txt w K mg) : FnG P w K mg base CX0 1 T.f__law_purse T.d__law_purse ["script", "place"] (spPurse K) := by
  refine def_ok T.F__law_purse sc__law_purse (fun vs H Q E h => ?_) (fun cdv A outer s H vs Q E hr h => ?_)
  · obtain ⟨a, d, q, rfl, _⟩ := h
    rfl
  obtain ⟨a, ns, i, rfl, hS, hl, h0, h1, hq⟩ := h
  refine ⟨_, (pss_cons (ps_set (i := 2) sc__law_purse.nd rfl (by first | exact Or.inl rfl | exact Or.inr rfl) (pe_ifExp (pt_cmpR op_lt (pv 1) (pe_callB call_len_seq (by rfl) T.z_len (by decide +kernel) (pa_cons (pv 0) pa_nil)) (nomark _)) (pe_ix (r := rIxL K) ix_list (pv 0) (pv 1) (fun _ _ => rfl)) pe_int))
      (pss_one (ps_ret (pe_lst (pa_cons (pe_callB (call_max2 rfl) (by rfl) T.z_max (by decide +kernel) (pa_cons pe_int (pa_cons (pe_op op_sub (pe_callB call_abs (by rfl) T.z_abs (by decide +kernel) (pa_cons (pv 2) pa_nil)) (pe_op op_powB pe_int pe_int)) pa_nil))) (pa_cons (pe_op op_mod (pe_callTy call_int1 (by rfl) T.z_int (by decide +kernel) (pa_cons (pe_op op_add (pe_op op_add (pe_op op_mul (pv 2) pe_int) (pe_op op_mul (pv 1) pe_int)) pe_int) pa_nil)) (pe_op op_add (pe_op op_powB pe_int pe_int) pe_int)) (pa_cons pe_int pa_nil))))))), ?_⟩
  have hlen : (ns.map V.int).length = ns.length := List.length_map _
  refine ⟨_, rfl, _, rfl, a, _, rfl, .inl hS, _, _, rfl, rfl, _, rfl, ?_⟩
  refine ite2 (fun z => ?_) (fun z => ?_)
  · have z' : i < (((ns.map V.int).length : Nat) : Int) := of_decide_eq_true z
    rw [hlen] at z'
    have hk : i.toNat < ns.length := by omega
    refine ⟨_, rfl, _, rfl, a, _, i, .int ns[i.toNat], rfl, rfl, hS, at_of (j := i.toNat) (by omega) (by rw [List.getElem?_map, List.getElem?_eq_getElem hk]; rfl), ?_⟩
    refine ⟨_, rfl, _, rfl, _, _, rfl, rfl, ⟨by decide, by decide, by decide +kernel⟩, _, _, rfl, rfl, _, _, rfl, ?_⟩
    refine ⟨_, rfl, _, _, rfl, rfl, .inr ⟨by decide, by decide⟩, _, rfl, _, _, rfl, rfl, .inr ⟨by decide, by decide⟩, _, _, rfl, rfl, _, _, rfl, rfl, .inl ⟨_, rfl, ?_⟩⟩
    refine ⟨_, _, rfl, rfl, ⟨by decide, by decide, by decide +kernel⟩, _, _, rfl, rfl, _, _, rfl, rfl, (by show (0 : Int) < 10 ^ (24 : Int).toNat + 7; decide +kernel), ?_⟩
    refine ⟨(by show 3 ≤ sizeLine; decide), fun l hl2 => ?_⟩
    refine hq l hl2 _ (same_new hl2 _) ⟨_, _, _, upd_same, Int.emod_nonneg _ (by decide +kernel), Int.lt_trans (Int.emod_lt_of_pos _ (by decide +kernel)) (by decide +kernel), by decide, by decide⟩
  · skip
    refine ⟨_, rfl, _, rfl, _, _, rfl, rfl, ⟨by decide, by decide, by decide +kernel⟩, _, _, rfl, rfl, _, _, rfl, ?_⟩
    refine ⟨_, rfl, _, _, rfl, rfl, .inr ⟨by decide, by decide⟩, _, rfl, _, _, rfl, rfl, .inr ⟨by decide, by decide⟩, _, _, rfl, rfl, _, _, rfl, rfl, .inl ⟨_, rfl, ?_⟩⟩
    refine ⟨_, _, rfl, rfl, ⟨by decide, by decide, by decide +kernel⟩, _, _, rfl, rfl, _, _, rfl, rfl, (by show (0 : Int) < 10 ^ (24 : Int).toNat + 7; decide +kernel), ?_⟩
    refine ⟨(by show 3 ≤ sizeLine; decide), fun l hl2 => ?_⟩
    refine hq l hl2 _ (same_new hl2 _) ⟨_, _, _, upd_same, Int.emod_nonneg _ (by decide +kernel), Int.lt_trans (Int.emod_lt_of_pos _ (by decide +kernel)) (by decide +kernel), by decide, by decide⟩
theorem ok_coin (T : Txt w K mg) : FnG P w K mg base CX0 1 T.f__law_coin T.d__law_coin ["purse", "many"] spCoin := by
  refine def_ok T.F__law_coin sc__law_coin (fun vs H Q E h => ?_) (fun cdv A outer s H vs Q E hr h => ?_)
  · obtain ⟨a, d, q, rfl, _⟩ := h
    rfl
  obtain ⟨p, m, n, rfl, ⟨a, b, c, hp, b0, b1, c0, c1⟩, hn, m0, m1, hq⟩ := h
  refine ⟨_, (pss_cons (ps_if (pt_cmpR op_gt (pe_ix (r := rIxL K) ix_list (pv 0) pe_int (fun _ _ => rfl)) pe_int (nomark _))
      (pss_cons (ps_set (i := 2) sc__law_coin.nd rfl (by first | exact Or.inl rfl | exact Or.inr rfl) (pe_op op_mod (pe_callTy call_int1 (by rfl) T.z_int (by decide +kernel) (pa_cons (pe_ix (r := rIxL K) ix_list (pv 0) pe_int (fun _ _ => rfl)) pa_nil)) (pv 1)))
      (pss_cons (ps_asg (pe_op op_fdivW (pe_ix (r := rIxL K) ix_list (pv 0) pe_int (fun _ _ => rfl)) (pv 1)) (pg_sub (pv 0) pe_int set_list))
      (pss_one (ps_ret (pv 2)))))
      pss_nil)
      (pss_cons (ps_asg (pe_op op_add (pe_ix (r := rIxL K) ix_list (pv 0) pe_int (fun _ _ => rfl)) pe_int) (pg_sub (pv 0) pe_int set_list))
      (pss_cons (ps_set (i := 3) sc__law_coin.nd rfl (by first | exact Or.inl rfl | exact Or.inr rfl) (pe_op op_mod (pe_op op_powB (pe_callTy call_int1 (by rfl) T.z_int (by decide +kernel) (pa_cons (pe_op op_add (pe_ix (r := rIxL K) ix_list (pv 0) pe_int (fun _ _ => rfl)) (pe_op op_mul pe_int (pe_ix (r := rIxL K) ix_list (pv 0) pe_int (fun _ _ => rfl)))) pa_nil)) pe_int) (pe_op op_add (pe_op op_powB pe_int pe_int) pe_int)))
      (pss_cons (ps_set (i := 3) sc__law_coin.nd rfl (by first | exact Or.inl rfl | exact Or.inr rfl) (pe_op op_mod (pe_op op_powB (pe_callTy call_int1 (by rfl) T.z_int (by decide +kernel) (pa_cons (pe_op op_add (pv 3) (pe_op op_mul pe_int (pe_ix (r := rIxL K) ix_list (pv 0) pe_int (fun _ _ => rfl)))) pa_nil)) pe_int) (pe_op op_add (pe_op op_powB pe_int pe_int) pe_int)))
      (pss_one (ps_ret (pe_op op_mod (pe_callTy call_int1 (by rfl) T.z_int (by decide +kernel) (pa_cons (pe_op op_fdivW (pv 3) pe_int) pa_nil)) (pv 1)))))))), ?_⟩
  refine ⟨_, rfl, p, _, _, _, rfl, rfl, SqL.of hp, rfl, _, _, rfl, rfl, _, rfl, ?_⟩
  refine ite2 (fun z => ?_) (fun z => ?_)
  · have a0 : 0 < a := of_decide_eq_true z
    refine ⟨_, rfl, p, _, _, _, rfl, rfl, SqL.of hp, rfl, .inl ⟨_, rfl, ?_⟩⟩
    refine ⟨_, rfl, _, _, rfl, rfl, m0, ?_⟩
    refine ⟨_, rfl, p, _, _, _, rfl, rfl, SqL.of hp, rfl, ?_⟩
    refine ⟨_, rfl, _, _, rfl, rfl, ⟨m0, ?_⟩, ?_⟩
    · exact Nat.lt_trans ((Nat.log2_lt (by omega)).mpr (show m.natAbs < 2 ^ 100 by have : (2:Nat)^100 = 1267650600228229401496703205376 := by decide +kernel
                                                                                   omega)) (by decide)
    refine ⟨_, rfl, p, _, _, 0, rfl, rfl, hp, rfl, ?_⟩
    refine ⟨_, rfl, ?_⟩
    exact hq _ _ (Int.emod_nonneg _ (by omega)) (Int.emod_lt_of_pos _ m0) ((But.refl _ _).put (by simp)) ⟨_, _, _, upd_same, b0, b1, c0, by omega⟩
  · have big : (2 : Nat) ^ 1000 = 10715086071862673209484250490600018105614048117055336074437503883703510511249361224931983788156958581275946729175531468251871452856923140435984577574698574803934567774824230985421074605062371141877954182153046474983581941267398767559165543946077062914571196477686542167660429831652624386837205668069376 := by decide +kernel
    refine ⟨_, rfl, p, _, _, _, rfl, rfl, SqL.of hp, rfl, _, _, rfl, rfl, _, rfl, p, _, _, 2, rfl, rfl, hp, rfl, ?_⟩
    have hp1 : upd H p (.lst ([V.int a, V.int b, V.int c].set 2 (.int (c + 1)))) p = some (.lst [V.int a, V.int b, V.int (c + 1)]) := upd_same
    refine ⟨_, rfl, p, _, _, _, rfl, rfl, SqL.of hp1, rfl, _, rfl, p, _, _, _, rfl, rfl, SqL.of hp1, rfl, _, _, rfl, rfl, .inl ⟨by decide, by decide⟩, _, _, rfl, rfl, .inl ⟨_, rfl, ?_⟩⟩
    refine ⟨_, _, rfl, rfl, ⟨by decide, by decide, ?_⟩, ?_⟩
    · rw [big]; omega
    refine ⟨_, _, rfl, rfl, ⟨by decide, by decide, by decide +kernel⟩, _, _, rfl, rfl, _, _, rfl, rfl, (by show (0 : Int) < 10 ^ (25 : Int).toNat + 13; decide +kernel), ?_⟩
    have s0 : ∀ y : Int, 0 ≤ y % (10 ^ (25 : Int).toNat + 13) := fun y => Int.emod_nonneg _ (by decide +kernel)
    have s1 : ∀ y : Int, y % (10 ^ (25 : Int).toNat + 13) < 10 ^ 26 := fun y => Int.lt_trans (Int.emod_lt_of_pos _ (by decide +kernel)) (by decide +kernel)
    generalize hg : (b + 2038074743 * (c + 1)) ^ (3 : Int).toNat % (10 ^ (25 : Int).toNat + 13) = y
    have y0 : 0 ≤ y := by rw [← hg]; exact s0 _
    have y1 : y < 10 ^ 26 := by rw [← hg]; exact s1 _
    refine ⟨_, rfl, _, rfl, p, _, _, _, rfl, rfl, SqL.of hp1, rfl, _, _, rfl, rfl, .inl ⟨by decide, by decide⟩, _, _, rfl, rfl, .inl ⟨_, rfl, ?_⟩⟩
    refine ⟨_, _, rfl, rfl, ⟨by decide, by decide, ?_⟩, ?_⟩
    · rw [big]; omega
    refine ⟨_, _, rfl, rfl, ⟨by decide, by decide, by decide +kernel⟩, _, _, rfl, rfl, _, _, rfl, rfl, (by show (0 : Int) < 10 ^ (24 : Int).toNat + 7; decide +kernel), ?_⟩
    generalize (y + 982451653 * (c + 1)) ^ (2 : Int).toNat % (10 ^ (24 : Int).toNat + 7) = z'
    refine ⟨_, rfl, _, _, rfl, rfl, ⟨by decide, by decide +kernel⟩, .inl ⟨_, rfl, ?_⟩⟩
    refine ⟨_, rfl, _, _, rfl, rfl, m0, ?_⟩
    exact hq _ _ (Int.emod_nonneg _ (by omega)) (Int.emod_lt_of_pos _ m0) ((But.refl _ _).put (by simp)) ⟨_, _, _, upd_same, b0, b1, by omega, by omega⟩
end
end Toy
namespace Toy
open PySem L2 Own
section
variable {P : Program} {w : World} {K : PySem.W.Frag} {mg : Str → Option Value} {base : Heap}

theorem nm_of {x : Str} {n : Nat} (h : (decide (1 ≤ x.length) && decide (x.length ≤ n) && x.cps.toList.all (fun c => decide (97 ≤ c) && decide (c ≤ 122))) = true) : Nm n x := by
  simp only [Bool.and_eq_true, decide_eq_true_eq, List.all_eq_true] at h
  exact ⟨h.1.1, h.1.2, h.2⟩
theorem But.own {ps : List Addr} {H H' : Hp} {q : Addr} {o : HO} (a : But ps H H') (n : H q = none) : But ps H (upd H' q o) := fun c u z e => by
  rw [upd_ne (ne_of_none e n)]; exact a c u z e
theorem str_at {xs : List Str} {r : Int} (h0 : 0 ≤ r) (h1 : r < (((xs.map V.str).length : Nat) : Int)) : ∃ x, x ∈ xs ∧ atI (xs.map V.str) r = some (.str x) := by
  rw [List.length_map] at h1
  have hk : r.toNat < xs.length := by omega
  exact ⟨xs[r.toNat], List.getElem_mem hk, at_of (j := r.toNat) (by omega) (by rw [List.getElem?_map, List.getElem?_eq_getElem hk]; rfl)⟩
theorem Pu.ne {H : Hp} {p q : Addr} {n : Nat} (h : Pu H p n) (e : H q = none) : p ≠ q := by
  obtain ⟨_, _, _, e1, _⟩ := h
  exact ne_of_none e1 e
theorem Pu.new {H : Hp} {p q : Addr} {n : Nat} {o : HO} (h : Pu H p n) (e : H q = none) : Pu (upd H q o) p n := by
  have z := h.ne e
  obtain ⟨a, b, c, e1, e2⟩ := h
  exact ⟨a, b, c, by rw [upd_ne z]; exact e1, e2⟩
/-- a list of names, to be read while some addresses change -/
structure Ns (K : PySem.W.Frag) (H : Hp) (ps : List Addr) (ta : Addr) (n : Nat) (xs : List Str) : Prop where
  sq : SqL K (hid ps H) ta (xs.map V.str)
  pos : 0 < xs.length
  top : xs.length ≤ 100
  nm : ∀ x ∈ xs, Nm n x
theorem Ns.put {H H' : Hp} {ps qs : List Addr} {ta : Addr} {n : Nat} {xs : List Str} (h : Ns K H ps ta n xs) (b : But qs H H') (e : ∀ x, x ∈ qs → x ∈ ps) : Ns K H' ps ta n xs :=
  ⟨(b.mono e).same.seq h.sq, h.pos, h.top, h.nm⟩
theorem Ns.sub {H : Hp} {ps qs : List Addr} {ta : Addr} {n : Nat} {xs : List Str} (h : Ns K H ps ta n xs) (e : ∀ x, x ∈ qs → x ∈ ps) : Ns K H qs ta n xs :=
  ⟨(hid_sub e).seq h.sq, h.pos, h.top, h.nm⟩
theorem Ns.rd {H : Hp} {ps : List Addr} {ta : Addr} {n : Nat} {xs : List Str} (h : Ns K H ps ta n xs) : SqL K H ta (xs.map V.str) := (hid_same _ _).seq h.sq
theorem Ns.len {H : Hp} {ps : List Addr} {ta : Addr} {n : Nat} {xs : List Str} (h : Ns K H ps ta n xs) : 0 < (((xs.map V.str).length : Nat) : Int) ∧ (((xs.map V.str).length : Nat) : Int) < 10 ^ 25 := by
  rw [List.length_map]
  have := h.pos; have := h.top; omega
def Pr (d : PyData) : Prop := ∃ a b : Str, d = .tuple [.str a, .str b] ∧ Nm 8 a ∧ Nm 8 b
theorem newPr {H : Hp} {t : Addr} {a b : Str} {ps : List Addr} (nt : H t = none) (pt : t ∉ ps) : Dp K (hid ps (upd H t (.tup [.str a, .str b]))) (.ref t) (.tuple [.str a, .str b]) :=
  newTup nt pt (.cons (.str _) (.cons (.str _) .nil))
theorem nin1 {p q : Addr} (h : q ≠ p) : q ∉ [p] := by simpa using h
theorem nin2 {p l q : Addr} (h : q ≠ p) (g : q ≠ l) : q ∉ [p, l] := by simp [h, g]
/-- these stand -/
def Trk (ps : List Addr) (H : Hp) : Prop := ∀ q ∈ ps, ∃ o, H q = some o
theorem Trk.nin {ps : List Addr} {H : Hp} {t : Addr} (h : Trk ps H) (n : H t = none) : t ∉ ps := fun z => by
  obtain ⟨o, e⟩ := h t z
  exact nomatch e.symm.trans n
theorem Trk.put {ps : List Addr} {H H' : Hp} {p : Addr} {n : Nat} (h : Trk ps H) (b : But [p] H H') (u : Pu H' p n) : Trk ps H' := fun q z => by
  by_cases e : q = p
  · subst e
    obtain ⟨_, _, _, e, _⟩ := u
    exact ⟨_, e⟩
  · obtain ⟨o, e2⟩ := h q z
    exact ⟨o, b q o (nin1 e) e2⟩
theorem in1 {p : Addr} {ps : List Addr} (h : p ∈ ps) : ∀ x, x ∈ [p] → x ∈ ps := fun x hx => by rw [List.mem_singleton.mp hx]; exact h
theorem in1c {p L : Addr} {ps : List Addr} (h : p ∈ ps) : ∀ x, x ∈ [p] → x ∈ L :: ps := fun x hx => List.mem_cons_of_mem _ (in1 h x hx)
theorem ninc {L t : Addr} {ps : List Addr} (h : t ≠ L) (g : t ∉ ps) : t ∉ L :: ps := fun z => (List.mem_cons.mp z).elim h g
def spChain (K : PySem.W.Frag) : Sp := fun vs H Q _ => ∃ (ps : List Addr) (p ta : Addr) (m : Int) (n : Nat) (xs : List Str), vs = [.ref p, .ref ta, .int m] ∧ p ∈ ps ∧ Trk ps H ∧ Pu H p n ∧ n + 100 < 10 ^ 20 ∧ Ns K H ps ta 8 xs ∧ 1 ≤ m ∧ m ≤ 9 ∧
  ∀ (L : Addr) (H' : Hp) (ds : List PyData), But [p] H H' → Pu H' p (n + 30) → Dp K (hid ps H') (.ref L) (.list ds) → ds.length ≤ 9 → (∀ d ∈ ds, Pr d) → Q (.ref L) H'
theorem ok_chain (T : Txt w K mg) : FnG P w K mg base CX0 2 T.f__law_any_chain T.d__law_any_chain ["purse", "titles", "most"] (spChain K) := by
  refine def_ok T.F__law_any_chain sc__law_any_chain (fun vs H Q E h => ?_) (fun cdv A outer s H vs Q E hr h => ?_)
  · obtain ⟨ps, p, ta, m, n, xs, rfl, _⟩ := h
    rfl
  obtain ⟨ps, p, ta, m, n, xs, rfl, hps, hk, hp, hn, ht, m0, m1, hq⟩ := h
  have G__law_coin := ok_coin (P := P) (w := w) (base := base) T
  refine ⟨_, (pss_cons (ps_set (i := 3) sc__law_any_chain.nd rfl (by first | exact Or.inl rfl | exact Or.inr rfl) (pe_lst (pa_cons (pe_tup (pa_cons pe_str (pa_cons (pe_ix (r := rIxL K) ix_list (pv 1) (call_g G__law_coin (hr.mono (by omega)) rfl T.m__law_coin T.F__law_coin.kp T.b__law_coin .nil pass0 (pa_cons (pv 0) (pa_cons (pe_callB call_len_seq (by rfl) T.z_len (by decide +kernel) (pa_cons (pv 1) pa_nil)) pa_nil))) (fun _ _ => rfl)) pa_nil))) pa_nil)))
      (pss_cons (ps_for PassesOwn.never rfl (pi_range1 (by rfl) T.z_range (pa_cons (call_g G__law_coin (hr.mono (by omega)) rfl T.m__law_coin T.F__law_coin.kp T.b__law_coin .nil pass0 (pa_cons (pv 0) (pa_cons (pv 2) pa_nil))) pa_nil)) (pg_name (i := 4) sc__law_any_chain.nd rfl (by first | exact Or.inl rfl | exact Or.inr rfl))
      (pss_cons (ps_set (i := 5) sc__law_any_chain.nd rfl (by first | exact Or.inl rfl | exact Or.inr rfl) (pe_ix (r := rIxL K) ix_list (pe_lst (pa_cons pe_str (pa_cons pe_str pa_nil))) (call_g G__law_coin (hr.mono (by omega)) rfl T.m__law_coin T.F__law_coin.kp T.b__law_coin .nil pass0 (pa_cons (pv 0) (pa_cons pe_int pa_nil))) (fun _ _ => rfl)))
      (pss_one (ps_expr (pe_bm PySem.F.plainAttrs_list PySem.F.slot_list_append PySem.F.type_list_append mt_append (pv 3) (pa_cons (pe_tup (pa_cons (pv 5) (pa_cons (pe_ix (r := rIxL K) ix_list (pv 1) (call_g G__law_coin (hr.mono (by omega)) rfl T.m__law_coin T.F__law_coin.kp T.b__law_coin .nil pass0 (pa_cons (pv 0) (pa_cons (pe_callB call_len_seq (by rfl) T.z_len (by decide +kernel) (pa_cons (pv 1) pa_nil)) pa_nil))) (fun _ _ => rfl)) pa_nil))) pa_nil))))))
      (pss_one (ps_ret (pv 3))))), ?_⟩
  obtain ⟨l0, l1⟩ := ht.len
  refine ⟨_, rfl, _, rfl, _, rfl, ta, _, rfl, .inl ht.rd, p, _, n, rfl, hp, by omega, l0, l1, fun r1 H1 r10 r11 b1 u1 => ?_⟩
  have ht1 := ht.put b1 (in1 hps)
  obtain ⟨x1, hx1, at1⟩ := str_at r10 r11
  refine ⟨ta, _, _, _, rfl, rfl, ht1.rd, at1, (by show 2 ≤ sizeLine; decide), fun t nt => ⟨(by show 1 ≤ sizeLine; decide), fun L nL => ?_⟩⟩
  have npt : p ≠ t := u1.ne nt
  have u1' := u1.new (o := .tup [.str "told", .str x1]) nt
  have nLp : L ≠ p := (u1'.ne nL).symm
  have nL1 : H1 L = none := (same_new nt _).free nL
  have nL0 : H L = none := by
    cases z : H L with
    | none => rfl
    | some o => exact nomatch (b1 L o (nin1 nLp) z).symm.trans nL1
  have nt0 : t ≠ L := fun e => by rw [e, upd_same] at nL; exact nomatch nL
  have bb : But [p] H (upd (upd H1 t (.tup [.str "told", .str x1])) L (.lst [.ref t])) := (b1.new nt).new nL
  have u2 := u1'.new (o := .lst [.ref t]) nL
  have ht2 : Ns K (upd (upd H1 t (.tup [.str "told", .str x1])) L (.lst [.ref t])) ps ta 8 xs := ht.put bb (in1 hps)
  refine ⟨_, rfl, _, rfl, p, m, n + 1, rfl, u2, by omega, by omega, by omega, fun r2 H2 r20 r21 b2 u3 => ?_⟩
  refine ⟨r2, rfl, by omega, by omega, ?_⟩
  have hL2 : H2 L = some (.lst [.ref t]) := b2 _ _ (nin1 nLp) upd_same
  have hD0 : DpAll K (hid (L :: ps) H2) [.ref t] [.tuple [.str "told", .str x1]] := by
    refine dpaSame ((b2.mono (in1c hps)).same) (.cons ?_ .nil)
    refine dpSame ?_ (newPr (ps := L :: ps) nt (ninc nt0 ((hk.put b1 u1).nin nt)))
    exact (show But (L :: ps) _ _ from (But.refl _ _).put (by simp)).same
  refine for_range (lo := 0) (n := r2.toNat) (fun i σ H' => ∃ (v4 v5 : Option V) (ys : List V) (ds : List PyData), σ = [some (.ref p), some (.ref ta), some (.int m), some (.ref L), v4, v5] ∧ But [p] H H' ∧ Pu H' p (n + 2 + 2 * i) ∧ H' L = some (.lst ys) ∧
      DpAll K (hid (L :: ps) H') ys ds ∧ ds.length = i + 1 ∧ ys.length = i + 1 ∧ ∀ d ∈ ds, Pr d) ⟨none, none, _, _, rfl, bb.trans b2, u3, hL2, hD0, rfl, rfl, ?_⟩ ?_ ?_
  · intro d hd
    rw [List.mem_singleton.mp hd]
    exact ⟨_, _, rfl, nm_of (by decide +kernel), ht.nm _ hx1⟩
  · rintro i σ H3 hi ⟨v4, v5, ys, ds, rfl, b3, u4, hL3, hD3, z1, z2, hpr⟩
    have hi8 : i < 8 := by omega
    have ht3 := ht.put b3 (in1 hps)
    refine ⟨(by show 2 ≤ sizeLine; decide), fun W nW => ?_⟩
    have u5 := u4.new (o := .lst [.str "during", .str "from"]) nW
    have b5 : But [p] H (upd H3 W (.lst [.str "during", .str "from"])) := b3.new nW
    refine ⟨_, rfl, p, 2, _, rfl, u5, by omega, by decide, by decide, fun r3 H4 r30 r31 b4 u6 => ?_⟩
    have hW4 : H4 W = some (.lst [.str "during", .str "from"]) := b4 _ _ (nin1 (u4.ne nW).symm) upd_same
    have hL4 : H4 L = some (.lst ys) := b4 _ _ (nin1 nLp) (by rw [upd_ne (ne_of_none hL3 nW)]; exact hL3)
    have hD4 : DpAll K (hid (L :: ps) H4) ys ds := dpaSame ((((But.refl (L :: ps) H3).new nW).trans (b4.mono (in1c hps))).same) hD3
    obtain ⟨wd, hwd, atw⟩ := str_at (xs := ["during", "from"]) r30 r31
    have nmw : Nm 8 wd := by
      rcases List.mem_cons.mp hwd with rfl | hwd
      · exact nm_of (by decide +kernel)
      · rw [List.mem_singleton.mp hwd]; exact nm_of (by decide +kernel)
    refine ⟨W, _, _, _, rfl, rfl, SqL.of hW4, atw, ?_⟩
    have ht4 : Ns K H4 ps ta 8 xs := ht.put (b5.trans b4) (in1 hps)
    refine ⟨_, rfl, .inl ⟨rfl, _, SqL.of hL4⟩, _, rfl, _, rfl, _, rfl, _, rfl, ta, _, rfl, .inl ht4.rd, p, _, _, rfl, u6, by omega, l0, l1, fun r4 H5 r40 r41 b6 u7 => ?_⟩
    have ht5 := ht4.put b6 (in1 hps)
    obtain ⟨x2, hx2, at2⟩ := str_at r40 r41
    refine ⟨ta, _, _, _, rfl, rfl, ht5.rd, at2, (by show 2 ≤ sizeLine; decide), fun t2 nt2 => ?_⟩
    have hL5 : H5 L = some (.lst ys) := b6 _ _ (nin1 nLp) hL4
    have hD5 : DpAll K (hid (L :: ps) H5) ys ds := dpaSame ((b6.mono (in1c hps)).same) hD4
    have hL6 : upd H5 t2 (.tup [.str wd, .str x2]) L = some (.lst ys) := by rw [upd_ne (ne_of_none hL5 nt2)]; exact hL5
    refine ⟨L, ys, _, rfl, rfl, hL6, small1000 (by omega), ?_⟩
    have u8 := u7.new (o := .tup [.str wd, .str x2]) nt2
    refine ⟨_, _, _, ds ++ [.tuple [.str wd, .str x2]], rfl, But.own (((b5.trans b4).trans b6).new nt2) nL0, ?_, upd_same, ?_, ?_, ?_, ?_⟩
    · exact (u8.put (ps := [L]) ((But.refl _ _).put (by simp)) (nin1 nLp.symm)).mono (by omega)
    · have h1 : DpAll K (hid (L :: ps) (upd H5 t2 (.tup [.str wd, .str x2]))) ys ds := dpaSame ((But.refl (L :: ps) H5).new nt2).same hD5
      have h2 := newPr (K := K) (a := wd) (b := x2) (ps := L :: ps) nt2 (ninc (ne_of_none hL5 nt2).symm (((((hk.put b3 u4).put (But.new (But.refl _ _) nW) u5).put b4 u6).put b6 u7).nin nt2))
      exact dpaSame ((But.refl (L :: ps) _).put (by simp)).same (snocI h1 h2)
    · rw [List.length_append, z1, List.length_singleton]
    · rw [List.length_append, z2, List.length_singleton]
    · intro d hd
      rcases List.mem_append.mp hd with hd | hd
      · exact hpr d hd
      · rw [List.mem_singleton.mp hd]
        exact ⟨_, _, rfl, nmw, ht.nm _ hx2⟩
  · rintro σ H3 ⟨v4, v5, ys, ds, rfl, b3, u4, hL3, hD3, z1, z2, hpr⟩
    refine ⟨_, rfl, ?_⟩
    refine hq L H3 ds b3 (u4.mono (by omega)) (.lst (.inl (.inl (hid_of (hk.nin nL0) hL3))) (dpaSame (hid_sub (fun x hx => List.mem_cons_of_mem _ hx)) hD3)) (by omega) hpr

def spTold (K : PySem.W.Frag) : Sp := fun vs H Q _ => ∃ (ps : List Addr) (p ta : Addr) (m : Int) (n : Nat) (xs : List Str), vs = [.ref p, .ref ta, .int m] ∧ p ∈ ps ∧ Trk ps H ∧ Pu H p n ∧ n + 200 < 10 ^ 20 ∧ Ns K H ps ta 8 xs ∧ 1 ≤ m ∧ m ≤ 9 ∧
  ∀ (L : Addr) (H' : Hp) (d : PyData), But [p] H H' → Pu H' p (n + 40) → Dp K (hid ps H') (.ref L) d → Told d → Q (.ref L) H'
theorem ok_told (T : Txt w K mg) : FnG P w K mg base CX0 3 T.f__law_any_told T.d__law_any_told ["purse", "titles", "most"] (spTold K) := by
  refine def_ok T.F__law_any_told sc__law_any_told (fun vs H Q E h => ?_) (fun cdv A outer s H vs Q E hr h => ?_)
  · obtain ⟨ps, p, ta, m, n, xs, rfl, _⟩ := h
    rfl
  obtain ⟨ps, p, ta, m, n, xs, rfl, hps, hk, hp, hn, ht, m0, m1, hq⟩ := h
  have G__law_coin := ok_coin (P := P) (w := w) (base := base) T
  have G__law_any_chain := ok_chain (P := P) (w := w) (base := base) T
  refine ⟨_, (pss_cons (ps_set (i := 3) sc__law_any_told.nd rfl (by first | exact Or.inl rfl | exact Or.inr rfl) (call_g G__law_coin (hr.mono (by omega)) rfl T.m__law_coin T.F__law_coin.kp T.b__law_coin .nil pass0 (pa_cons (pv 0) (pa_cons pe_int pa_nil))))
      (pss_cons (ps_if (pt_cmpR op_lt (pv 3) pe_int (nomark _))
      (pss_one (ps_ret (pe_ix (r := rIxL K) ix_list (pe_lst (pa_cons (pe_tup (pa_cons pe_str pa_nil)) (pa_cons (pe_tup (pa_cons pe_str pa_nil)) pa_nil))) (pv 3) (fun _ _ => rfl))))
      pss_nil)
      (pss_one (ps_ret (pe_tup (pa_cons pe_str (pa_cons (call_g G__law_any_chain (hr.mono (by omega)) rfl T.m__law_any_chain T.F__law_any_chain.kp T.b__law_any_chain .nil pass0 (pa_cons (pv 0) (pa_cons (pv 1) (pa_cons (pv 2) pa_nil)))) pa_nil))))))), ?_⟩
  refine ⟨_, rfl, p, 5, n, rfl, hp, by omega, by decide, by decide, fun r1 H1 r10 r11 b1 u1 => ?_⟩
  refine ⟨_, rfl, _, _, rfl, rfl, _, rfl, ?_⟩
  refine ite2 (fun z => ?_) (fun z => ?_)
  · have z' : r1 < 2 := of_decide_eq_true z
    refine ⟨(by show 1 ≤ sizeLine; decide), fun t1 n1 => ⟨(by show 1 ≤ sizeLine; decide), fun t2 n2 => ⟨(by show 2 ≤ sizeLine; decide), fun l nl => ?_⟩⟩⟩
    have u2 := u1.new (o := .tup [.str "ended"]) n1
    have u3 := u2.new (o := .tup [.str "left"]) n2
    have u4 := u3.new (o := .lst [.ref t1, .ref t2]) nl
    have bb : But [p] H (upd (upd (upd H1 t1 (.tup [.str "ended"])) t2 (.tup [.str "left"])) l (.lst [.ref t1, .ref t2])) := ((b1.new n1).new n2).new nl
    have e2 : upd (upd (upd H1 t1 (.tup [.str "ended"])) t2 (.tup [.str "left"])) l (.lst [.ref t1, .ref t2]) t2 = some (.tup [.str "left"]) := by
      rw [upd_ne (ne_of_none upd_same nl)]; exact upd_same
    have e1 : upd (upd (upd H1 t1 (.tup [.str "ended"])) t2 (.tup [.str "left"])) l (.lst [.ref t1, .ref t2]) t1 = some (.tup [.str "ended"]) := by
      have q : upd (upd H1 t1 (.tup [.str "ended"])) t2 (.tup [.str "left"]) t1 = some (.tup [.str "ended"]) := by
        rw [upd_ne (ne_of_none upd_same n2)]; exact upd_same
      rw [upd_ne (ne_of_none q nl)]; exact q
    rcases (show r1 = 0 ∨ r1 = 1 by omega) with rfl | rfl
    · refine ⟨_, rfl, l, _, _, .ref t1, rfl, rfl, SqL.of upd_same, rfl, ?_⟩
      exact hq t1 _ _ bb (u4.mono (by omega)) (.tup (.inl (.inl (hid_of ((hk.put b1 u1).nin n1) e1))) (.cons (.str _) .nil)) (.one _ (Or.inl rfl))
    · refine ⟨_, rfl, l, _, _, .ref t2, rfl, rfl, SqL.of upd_same, rfl, ?_⟩
      exact hq t2 _ _ bb (u4.mono (by omega)) (.tup (.inl (.inl (hid_of (((hk.put b1 u1).put (But.new (But.refl _ _) n1) u2).nin n2) e2))) (.cons (.str _) .nil)) (.one _ (Or.inr rfl))
  · refine ⟨_, rfl, _, rfl, _, rfl, ps, p, ta, m, n + 1, xs, rfl, hps, hk.put b1 u1, u1, by omega, ht.put b1 (in1 hps), m0, m1, fun L H2 ds b2 u2 hd hl hds => ?_⟩
    refine ⟨(by show 2 ≤ sizeLine; decide), fun t nt => ?_⟩
    refine hq t _ _ ((b1.trans b2).new nt) ((u2.new nt).mono (by omega)) (newTup nt (((hk.put b1 u1).put b2 u2).nin nt) (.cons (.str _) (.cons hd .nil))) (.err _ hl hds)

def dr : Nat → Nat
  | 0 => 60
  | k + 1 => 2 * dr k + 60
def spTree (K : PySem.W.Frag) (k : Nat) : Sp := fun vs H Q _ => ∃ (p ta l : Addr) (c : Int) (n : Nat) (xs : List Str), vs = [.ref p, .ref ta, .ref l, .int k] ∧ Pu H p n ∧ n + dr k + 200 < 10 ^ 20 ∧ Ns K H [p, l] ta 8 xs ∧ H l = some (.lst [.int c]) ∧
  ∀ (L : Addr) (H' : Hp) (d : PyData) (q : Nat) (c' : Int), But [p, l] H H' → Pu H' p (n + dr k) → H' l = some (.lst [.int c']) → Dp K (hid [p, l] H') (.ref L) d → Tr k d q → Q (.ref L) H'
theorem dr_pos (k : Nat) : 60 ≤ dr k := by cases k <;> simp only [dr] <;> omega
theorem ok_tree (T : Txt w K mg) : ∀ k : Nat, FnG P w K mg base CX0 (k + 4) T.f__law_any_tree T.d__law_any_tree ["purse", "titles", "left", "deep"] (spTree K k) := by
  intro k
  have G__law_coin := ok_coin (P := P) (w := w) (base := base) T
  have G__law_any_told := ok_told (P := P) (w := w) (base := base) T
  have hdr := dr_pos
  induction k with
  | zero =>
    refine def_ok T.F__law_any_tree sc__law_any_tree (fun vs H Q E h => ?_) (fun cdv A outer s H vs Q E hr h => ?_)
    · obtain ⟨p, ta, l, c, n, xs, rfl, _⟩ := h
      rfl
    obtain ⟨p, ta, l, c, n, xs, rfl, u1, hn, ht1, el1, hq⟩ := h
    have G__law_any_tree : FnG P w K mg base CX0 0 T.f__law_any_tree T.d__law_any_tree ["purse", "titles", "left", "deep"] (fun _ _ _ _ => False) := ⟨fun _ _ _ _ h => h.elim, fun _ _ _ _ _ _ _ _ _ _ _ _ _ h => h.elim⟩
    refine ⟨_, (pss_cons (ps_if (PW.pt (pw_or (pt_cmpR op_eq (pv 3) pe_int (nomark _)) (pw_or (pt_cmpR op_eq (pe_ix (r := rIxL K) ix_list (pv 2) pe_int (fun _ _ => rfl)) pe_int (nomark _)) (pw_or1 (pt_cmpR op_eq (call_g G__law_coin (hr.mono (by omega)) rfl T.m__law_coin T.F__law_coin.kp T.b__law_coin .nil pass0 (pa_cons (pv 0) (pa_cons pe_int pa_nil))) pe_int (nomark _))))))
      (pss_one (ps_ret (pe_tup (pa_cons pe_str (pa_cons (call_g G__law_any_told (hr.mono (by omega)) rfl T.m__law_any_told T.F__law_any_told.kp T.b__law_any_told .nil pass0 (pa_cons (pv 0) (pa_cons (pv 1) (pa_cons pe_int pa_nil)))) pa_nil)))))
      pss_nil)
      (pss_cons (ps_asg (pe_op op_sub (pe_ix (r := rIxL K) ix_list (pv 2) pe_int (fun _ _ => rfl)) pe_int) (pg_sub (pv 2) pe_int set_list))
      (pss_cons (ps_set (i := 4) sc__law_any_tree.nd rfl (by first | exact Or.inl rfl | exact Or.inr rfl) (pe_ix (r := rIxL K) ix_list (pv 1) (call_g G__law_coin (hr.mono (by omega)) rfl T.m__law_coin T.F__law_coin.kp T.b__law_coin .nil pass0 (pa_cons (pv 0) (pa_cons (pe_callB call_len_seq (by rfl) T.z_len (by decide +kernel) (pa_cons (pv 1) pa_nil)) pa_nil))) (fun _ _ => rfl)))
      (pss_cons (ps_set (i := 5) sc__law_any_tree.nd rfl (by first | exact Or.inl rfl | exact Or.inr rfl) (call_g G__law_any_tree (hr.mono (by omega)) rfl T.m__law_any_tree T.F__law_any_tree.kp T.b__law_any_tree .nil pass0 (pa_cons (pv 0) (pa_cons (pv 1) (pa_cons (pv 2) (pa_cons (pe_op op_sub (pv 3) pe_int) pa_nil))))))
      (pss_one (ps_ret (pe_tup (pa_cons pe_str (pa_cons (pv 4) (pa_cons (pv 5) (pa_cons (call_g G__law_any_tree (hr.mono (by omega)) rfl T.m__law_any_tree T.F__law_any_tree.kp T.b__law_any_tree .nil pass0 (pa_cons (pv 0) (pa_cons (pv 1) (pa_cons (pv 2) (pa_cons (pe_op op_sub (pv 3) pe_int) pa_nil))))) pa_nil))))))))))), ?_⟩
    have hlp : l ≠ p := by
      obtain ⟨_, _, _, e, _⟩ := u1
      exact ne_of el1 e (fun z => nomatch z)
    have k1 : Trk [p, l] H := fun q z => by
      obtain ⟨_, _, _, e, _⟩ := u1
      rcases List.mem_cons.mp z with rfl | z
      · exact ⟨_, e⟩
      · rw [List.mem_singleton.mp z]; exact ⟨_, el1⟩
    have b1 := But.refl [p] H
    refine ⟨_, rfl, rfl, _, rfl, ?_⟩
    refine iteT ?_
    refine iteT ?_
    refine ⟨_, rfl, _, rfl, [p, l], p, ta, 9, _, xs, rfl, by simp, k1, u1, by omega, ht1, by decide, by decide, fun L H2 d b2 u2 hd hT => ?_⟩
    refine ⟨(by show 2 ≤ sizeLine; decide), fun t nt => ?_⟩
    have el2 : H2 l = some (.lst [.int c]) := b2 _ _ (nin1 hlp) el1
    have el3 : upd H2 t (.tup [.str "end", .ref L]) l = some (.lst [.int c]) := by rw [upd_ne (ne_of_none el2 nt)]; exact el2
    refine hq t _ _ 0 c (((b1.trans b2).new nt).mono (by simp)) ((u2.new nt).mono ?_) el3 (newTup nt (nin2 (u2.ne nt).symm (ne_of_none el2 nt).symm) (.cons (.str _) (.cons hd .nil))) (.fin _ _ hT)
    have := hdr 0
    omega
  | succ k ih =>
    refine def_ok T.F__law_any_tree sc__law_any_tree (fun vs H Q E h => ?_) (fun cdv A outer s H vs Q E hr h => ?_)
    · obtain ⟨p, ta, l, c, n, xs, rfl, _⟩ := h
      rfl
    obtain ⟨p, ta, l, c, n, xs, rfl, u0, hn, ht0, el0, hq⟩ := h
    have G__law_any_tree := ih
    refine ⟨_, (pss_cons (ps_if (PW.pt (pw_or (pt_cmpR op_eq (pv 3) pe_int (nomark _)) (pw_or (pt_cmpR op_eq (pe_ix (r := rIxL K) ix_list (pv 2) pe_int (fun _ _ => rfl)) pe_int (nomark _)) (pw_or1 (pt_cmpR op_eq (call_g G__law_coin (hr.mono (by omega)) rfl T.m__law_coin T.F__law_coin.kp T.b__law_coin .nil pass0 (pa_cons (pv 0) (pa_cons pe_int pa_nil))) pe_int (nomark _))))))
      (pss_one (ps_ret (pe_tup (pa_cons pe_str (pa_cons (call_g G__law_any_told (hr.mono (by omega)) rfl T.m__law_any_told T.F__law_any_told.kp T.b__law_any_told .nil pass0 (pa_cons (pv 0) (pa_cons (pv 1) (pa_cons pe_int pa_nil)))) pa_nil)))))
      pss_nil)
      (pss_cons (ps_asg (pe_op op_sub (pe_ix (r := rIxL K) ix_list (pv 2) pe_int (fun _ _ => rfl)) pe_int) (pg_sub (pv 2) pe_int set_list))
      (pss_cons (ps_set (i := 4) sc__law_any_tree.nd rfl (by first | exact Or.inl rfl | exact Or.inr rfl) (pe_ix (r := rIxL K) ix_list (pv 1) (call_g G__law_coin (hr.mono (by omega)) rfl T.m__law_coin T.F__law_coin.kp T.b__law_coin .nil pass0 (pa_cons (pv 0) (pa_cons (pe_callB call_len_seq (by rfl) T.z_len (by decide +kernel) (pa_cons (pv 1) pa_nil)) pa_nil))) (fun _ _ => rfl)))
      (pss_cons (ps_set (i := 5) sc__law_any_tree.nd rfl (by first | exact Or.inl rfl | exact Or.inr rfl) (call_g G__law_any_tree (hr.mono (by omega)) rfl T.m__law_any_tree T.F__law_any_tree.kp T.b__law_any_tree .nil pass0 (pa_cons (pv 0) (pa_cons (pv 1) (pa_cons (pv 2) (pa_cons (pe_op op_sub (pv 3) pe_int) pa_nil))))))
      (pss_one (ps_ret (pe_tup (pa_cons pe_str (pa_cons (pv 4) (pa_cons (pv 5) (pa_cons (call_g G__law_any_tree (hr.mono (by omega)) rfl T.m__law_any_tree T.F__law_any_tree.kp T.b__law_any_tree .nil pass0 (pa_cons (pv 0) (pa_cons (pv 1) (pa_cons (pv 2) (pa_cons (pe_op op_sub (pv 3) pe_int) pa_nil))))) pa_nil))))))))))), ?_⟩
    have hlp : l ≠ p := by
      obtain ⟨_, _, _, e, _⟩ := u0
      exact ne_of el0 e (fun z => nomatch z)
    have k0 : Trk [p, l] H := fun q z => by
      obtain ⟨_, _, _, e, _⟩ := u0
      rcases List.mem_cons.mp z with rfl | z
      · exact ⟨_, e⟩
      · rw [List.mem_singleton.mp z]; exact ⟨_, el0⟩
    have d0 := hdr k
    have dk : dr (k + 1) = 2 * dr k + 60 := rfl
    refine ⟨_, rfl, rfl, _, rfl, ?_⟩
    rw [show (decide (V.int ((k + 1 : Nat) : Int) = V.int 0)) = false from decide_eq_false (fun e => by have := V.int.inj e; omega)]
    refine iteF ?_
    refine ⟨_, rfl, l, _, _, .int c, rfl, rfl, SqL.of el0, rfl, rfl, _, rfl, ?_⟩
    refine ite2 (fun z => ?_) (fun z => ?_)
    · refine iteT ?_
      have b1 := But.refl [p] H
      have u1 := u0
      have k1 := k0
      have ht1 := ht0
      have el1 := el0
      refine ⟨_, rfl, _, rfl, [p, l], p, ta, 9, _, xs, rfl, by simp, k1, u1, by omega, ht1, by decide, by decide, fun L H2 d b2 u2 hd hT => ?_⟩
      refine ⟨(by show 2 ≤ sizeLine; decide), fun t nt => ?_⟩
      have el2 : H2 l = some (.lst [.int c]) := b2 _ _ (nin1 hlp) el1
      have el3 : upd H2 t (.tup [.str "end", .ref L]) l = some (.lst [.int c]) := by rw [upd_ne (ne_of_none el2 nt)]; exact el2
      refine hq t _ _ 0 c (((b1.trans b2).new nt).mono (by simp)) ((u2.new nt).mono ?_) el3 (newTup nt (nin2 (u2.ne nt).symm (ne_of_none el2 nt).symm) (.cons (.str _) (.cons hd .nil))) (.fin _ _ hT)
      omega
    · refine ⟨_, rfl, p, 5, n, rfl, u0, by omega, by decide, by decide, fun r1 H1 r10 r11 b1 u1 => ?_⟩
      have k1 := k0.put b1 u1
      have ht1 := ht0.put b1 (by simp)
      have el1 := b1 _ _ (nin1 hlp) el0
      refine ⟨rfl, _, rfl, ?_⟩
      refine ite2 (fun z => ?_) (fun z => ?_)
      · skip
        refine ⟨_, rfl, _, rfl, [p, l], p, ta, 9, _, xs, rfl, by simp, k1, u1, by omega, ht1, by decide, by decide, fun L H2 d b2 u2 hd hT => ?_⟩
        refine ⟨(by show 2 ≤ sizeLine; decide), fun t nt => ?_⟩
        have el2 : H2 l = some (.lst [.int c]) := b2 _ _ (nin1 hlp) el1
        have el3 : upd H2 t (.tup [.str "end", .ref L]) l = some (.lst [.int c]) := by rw [upd_ne (ne_of_none el2 nt)]; exact el2
        refine hq t _ _ 0 c (((b1.trans b2).new nt).mono (by simp)) ((u2.new nt).mono ?_) el3 (newTup nt (nin2 (u2.ne nt).symm (ne_of_none el2 nt).symm) (.cons (.str _) (.cons hd .nil))) (.fin _ _ hT)
        omega
      · obtain ⟨l0, l1⟩ := ht1.len
        refine ⟨_, rfl, l, _, _, .int c, rfl, rfl, SqL.of el1, rfl, _, _, rfl, rfl, _, rfl, l, _, _, 0, rfl, rfl, el1, rfl, ?_⟩
        have bw : But [l] H1 (upd H1 l (.lst ([V.int c].set 0 (.int (c - 1))))) := (But.refl _ _).put (by simp)
        have bw2 : But [p, l] H1 (upd H1 l (.lst ([V.int c].set 0 (.int (c - 1))))) := (But.refl _ _).put (by simp)
        have u2 : Pu (upd H1 l (.lst ([V.int c].set 0 (.int (c - 1))))) p (n + 1) := u1.put bw (nin1 hlp.symm)
        have ht2 := ht1.put bw (by simp)
        have el2 : upd H1 l (.lst ([V.int c].set 0 (.int (c - 1)))) l = some (.lst [.int (c - 1)]) := upd_same
        refine ⟨_, rfl, _, rfl, _, rfl, ta, _, rfl, .inl ht2.rd, p, _, _, rfl, u2, by omega, l0, l1, fun r2 H2 r20 r21 b2 u3 => ?_⟩
        have ht3 := ht2.put b2 (by simp)
        have el3 := b2 _ _ (nin1 hlp) el2
        obtain ⟨x, hx, atx⟩ := str_at r20 r21
        refine ⟨ta, _, _, _, rfl, rfl, ht3.rd, atx, ?_⟩
        refine ⟨_, rfl, _, rfl, _, rfl, _, rfl, _, _, rfl, rfl, p, ta, l, c - 1, n + 2, xs, ?_, u3, by omega, ht3, el3, fun L1 H3 d1 q1 c1 b3 u4 el4 hD1 hT1 => ?_⟩
        · have e : ((k + 1 : Nat) : Int) - 1 = (k : Int) := by omega
          show [V.ref p, V.ref ta, V.ref l, V.int (((k + 1 : Nat) : Int) - 1)] = _
          rw [e]
        have ht4 := ht3.put b3 (fun _ h => h)
        refine ⟨_, rfl, _, rfl, _, rfl, _, rfl, _, rfl, _, rfl, _, _, rfl, rfl, p, ta, l, c1, _, xs, ?_, u4, by omega, ht4, el4, fun L2 H4 d2 q2 c2 b4 u5 el5 hD2 hT2 => ?_⟩
        · have e : ((k + 1 : Nat) : Int) - 1 = (k : Int) := by omega
          show [V.ref p, V.ref ta, V.ref l, V.int (((k + 1 : Nat) : Int) - 1)] = _
          rw [e]
        refine ⟨(by show 4 ≤ sizeLine; decide), fun t nt => ?_⟩
        have el6 : upd H4 t (.tup [.str "ask", .str x, .ref L1, .ref L2]) l = some (.lst [.int c2]) := by rw [upd_ne (ne_of_none el5 nt)]; exact el5
        have bb : But [p, l] H H4 := ((((b1.mono (by simp)).trans bw2).trans (b2.mono (by simp))).trans b3).trans b4
        have hx9 : Nm 9 x := ⟨(ht0.nm x hx).1, Nat.le_trans (ht0.nm x hx).2.1 (by decide), (ht0.nm x hx).2.2⟩
        exact hq t _ _ _ c2 (bb.new nt) ((u5.new nt).mono (by omega)) el6 (newTup nt (nin2 (u5.ne nt).symm (ne_of_none el5 nt).symm) (.cons (.str _) (.cons (.str _) (.cons (dpSame b4.same hD1) (.cons hD2 .nil))))) (.ask _ _ _ _ _ _ hx9 hT1 hT2)
end
end Toy
namespace Toy
open PySem L2 Own
section
variable {P : Program} {w : World} {K : PySem.W.Frag} {mg : Str → Option Value} {base : Heap}

def alpha : Str := "abcdefghijklmnopqrstuvwxyz"
theorem alpha_len : alpha.cps.toList.length = 26 := by decide +kernel
theorem alpha_all : alpha.cps.toList.all (fun c => decide (97 ≤ c) && decide (c ≤ 122)) = true := by decide +kernel
theorem alpha_sz : alpha.length ≤ sizeLine := by decide +kernel
theorem alpha_at {r : Int} (h0 : 0 ≤ r) (h1 : r < 26) : ∃ c, atI alpha.cps.toList r = some c ∧ 97 ≤ c ∧ c ≤ 122 := by
  have hk : r.toNat < alpha.cps.toList.length := by rw [alpha_len]; omega
  refine ⟨alpha.cps.toList[r.toNat], ?_, ?_⟩
  · have e := atI_nat (xs := alpha.cps.toList) (List.getElem?_eq_getElem hk)
    rwa [show ((r.toNat : Nat) : Int) = r by omega] at e
  · have q := List.all_eq_true.mp alpha_all _ (List.getElem_mem hk)
    simpa using q
/-- letters alone -/
def Let (x : Str) : Prop := ∀ c ∈ x.cps.toList, 97 ≤ c ∧ c ≤ 122
theorem let_one {c : Nat} (h : 97 ≤ c ∧ c ≤ 122) : Let ⟨#[c]⟩ := fun d hd => by
  have : d = c := by simpa using hd
  rw [this]; exact h
theorem let_app {x y : Str} (h : Let x) (g : Let y) : Let (x ++ y) := fun c hc => by
  rw [show (x ++ y).cps.toList = x.cps.toList ++ y.cps.toList from TL.tl_append x y] at hc
  exact (List.mem_append.mp hc).elim (h c) (g c)
theorem let_cut {z : Str} (lo hi : Option Int) (h : Let z) : Let (cutS z lo hi) := fun c hc => h c (by
  have hc : c ∈ (z.cps.toList.drop (HT.sIx z.length 0 lo)).take (HT.sIx z.length z.length hi - HT.sIx z.length 0 lo) := hc
  exact List.mem_of_mem_drop (List.mem_of_mem_take hc))
theorem len_cut (z : Str) (lo hi : Option Int) : (cutS z lo hi).length = min (HT.sIx z.length z.length hi - HT.sIx z.length 0 lo) (z.length - HT.sIx z.length 0 lo) := by
  show ((z.cps.toList.drop _).take _).toArray.size = _
  rw [List.size_toArray, List.length_take, List.length_drop]
  rfl
theorem join_nil : ∀ (ys : List Str), (∀ y ∈ ys, y.length = 1 ∧ Let y) → (Txt.join "" ys).length = ys.length ∧ Let (Txt.join "" ys) := by
  intro ys
  rw [TL.join_eq]
  have key : ∀ ys : List Str, (∀ y ∈ ys, y.length = 1 ∧ Let y) → (TL.tl (Str.join "" ys)).length = ys.length ∧ ∀ c ∈ TL.tl (Str.join "" ys), 97 ≤ c ∧ c ≤ 122 := by
    intro ys
    induction ys with
    | nil => intro _; exact ⟨rfl, fun c hc => nomatch hc⟩
    | cons y r ih =>
      intro h
      obtain ⟨h1, h2⟩ := h y List.mem_cons_self
      cases r with
      | nil => exact ⟨h1, h2⟩
      | cons z r =>
        obtain ⟨i1, i2⟩ := ih (fun y hy => h y (List.mem_cons_of_mem _ hy))
        have e : TL.tl (Str.join "" (y :: z :: r)) = TL.tl y ++ TL.tl (Str.join "" (z :: r)) := by
          show TL.tl (y ++ "" ++ Str.join "" (z :: r)) = _
          rw [TL.tl_append, TL.tl_append, show TL.tl (Str.ofString "") = [] from rfl, List.append_nil]
        rw [e]
        refine ⟨?_, fun c hc => (List.mem_append.mp hc).elim (h2 c) (i2 c)⟩
        rw [List.length_append, i1, show (TL.tl y).length = 1 from h1, List.length_cons, List.length_cons, List.length_cons]
        omega
  intro h
  exact key ys h
def wordsL : List Str := ["step", "load", "during", "told", "from", "guard", "last", "on", "a", "b", "again", "leave", "ended"]
def spMenu (K : PySem.W.Frag) : Sp := fun vs H Q _ => ∃ (p : Addr) (m : Int) (n : Nat), vs = [.ref p, .int m] ∧ Pu H p n ∧ n + 100 < 10 ^ 20 ∧ 1 ≤ m ∧ m ≤ 8 ∧
  ∀ (L : Addr) (H' : Hp) (xs : List Str), But [p] H H' → Pu H' p (n + 20) → H L = none → H' L = some (.lst (xs.map V.str)) → (xs.length : Int) = m → (∀ x ∈ xs, Nm 8 x) → Q (.ref L) H'
def MI (H : Hp) (p W D : Addr) (n i : Nat) (H' : Hp) : Prop := ∃ xs : List Str, But [p] H H' ∧ Pu H' p n ∧ H' W = some (.lst (wordsL.map V.str)) ∧ H' D = some (.lst (xs.map V.str)) ∧ xs.length = i ∧ ∀ x ∈ xs, Nm 8 x
theorem MI.next {H H' : Hp} {p W D : Addr} {n i : Nat} (h : MI H p W D n i H') (n0 : H D = none) (pD : p ≠ D) (wD : W ≠ D) (hi : i < 100) {x : Str} (hx : Nm 8 x) :
    ∃ acc, H' D = some (.lst acc) ∧ acc.length < sizeLine ∧ MI H p W D n (i + 1) (upd H' D (.lst (acc ++ [.str x]))) := by
  obtain ⟨xs, b, u, e, d, z, a⟩ := h
  refine ⟨_, d, small1000 (by rw [List.length_map]; omega), xs ++ [x], But.own b n0, u.put (ps := [D]) ((But.refl _ _).put (by simp)) (nin1 pD), ?_, ?_, ?_, ?_⟩
  · rw [upd_ne wD]; exact e
  · rw [List.map_append]; exact upd_same
  · rw [List.length_append, z]; rfl
  · intro y hy
    rcases List.mem_append.mp hy with hy | hy
    · exact a y hy
    · rw [List.mem_singleton.mp hy]; exact hx
theorem words_nm : ∀ x ∈ wordsL, Nm 8 x := by
  intro x hx
  have key : (wordsL.all fun x => decide (1 ≤ x.length) && decide (x.length ≤ 8) && x.cps.toList.all (fun c => decide (97 ≤ c) && decide (c ≤ 122))) = true := by decide +kernel
  exact nm_of (List.all_eq_true.mp key x hx)
theorem nm_let {x : Str} {n : Nat} (h : Let x) (a : 1 ≤ x.length) (b : x.length ≤ n) : Nm n x := ⟨a, b, h⟩
theorem app_len (x y : Str) : (x ++ y).length = x.length + y.length := by
  have e : (TL.tl (x ++ y)).length = (TL.tl x).length + (TL.tl y).length := by rw [TL.tl_append, List.length_append]
  exact e
theorem sIx_pos {n d : Nat} {k : Int} (h : 0 ≤ k) : HT.sIx n d (some k) = min k.toNat n := by
  have q := HT.sIx_nat n d k.toNat
  rwa [show ((k.toNat : Nat) : Int) = k by omega] at q
theorem ok_menu (T : Txt w K mg) : FnG P w K mg base CX0 2 T.f__law_long_menu T.d__law_long_menu ["purse", "many"] (spMenu K) := by
  refine def_ok T.F__law_long_menu sc__law_long_menu (fun vs H Q E h => ?_) (fun cdv A outer s H vs Q E hr h => ?_)
  · obtain ⟨p, m, n, rfl, _⟩ := h
    rfl
  obtain ⟨p, m, n, rfl, hp, hn, m0, m1, hq⟩ := h
  have G__law_coin := ok_coin (P := P) (w := w) (base := base) T
  refine ⟨_, (pss_cons (ps_asg (pe_tup (pa_cons pe_str (pa_cons (call_g G__law_coin (hr.mono (by omega)) rfl T.m__law_coin T.F__law_coin.kp T.b__law_coin .nil pass0 (pa_cons (pv 0) (pa_cons pe_int pa_nil))) pa_nil))) (pg_tup (by rfl) (pgs_cons (pg_name (i := 2) sc__law_long_menu.nd rfl (by first | exact Or.inl rfl | exact Or.inr rfl)) (pgs_cons (pg_name (i := 3) sc__law_long_menu.nd rfl (by first | exact Or.inl rfl | exact Or.inr rfl)) pgs_nil))))
      (pss_cons (ps_set (i := 4) sc__law_long_menu.nd rfl (by first | exact Or.inl rfl | exact Or.inr rfl) (pe_lst (pa_cons pe_str (pa_cons pe_str (pa_cons pe_str (pa_cons pe_str (pa_cons pe_str (pa_cons pe_str (pa_cons pe_str (pa_cons pe_str (pa_cons pe_str (pa_cons pe_str (pa_cons pe_str (pa_cons pe_str (pa_cons pe_str pa_nil)))))))))))))))
      (pss_cons (ps_set (i := 5) sc__law_long_menu.nd rfl (by first | exact Or.inl rfl | exact Or.inr rfl) (pe_join pe_str (pe_lc (own := [("turn", 6)]) (g := gName 6) rfl sc__law_long_menu.nd (pi_range1 (by rfl) T.z_range (pa_cons pe_int pa_nil)) (blkOk_by (own := [("turn", 6)]) (N := ["purse", "many", "letters", "way", "words_here", "stem", "turn", "start", "rank", "size", "at"]) (sc := defScope s__law_long_menu) (by decide +kernel)) (fun _ _ _ _ _ => pg_name (i := 6) sc__law_long_menu.nd rfl (Or.inl rfl)) (fun _ _ _ _ _ => pts_nil) (fun _ _ _ _ _ => (pe_ix ix_str (pv 2) (call_g G__law_coin (hr.mono (by omega)) rfl T.m__law_coin T.F__law_coin.kp T.b__law_coin .nil pass0 (pa_cons (pv 0) (pa_cons pe_int pa_nil))) (fun _ _ => rfl))))))
      (pss_cons (ps_set (i := 7) sc__law_long_menu.nd rfl (by first | exact Or.inl rfl | exact Or.inr rfl) (call_g G__law_coin (hr.mono (by omega)) rfl T.m__law_coin T.F__law_coin.kp T.b__law_coin .nil pass0 (pa_cons (pv 0) (pa_cons pe_int pa_nil))))
      (pss_cons (ps_if (PW.pt (pw_and (pt_cmpR op_eq (pv 3) pe_int (nomark _)) (pw_and1 (pt_cmpR op_lt (pv 1) pe_int (nomark _)))))
      (pss_one (ps_ret (pe_lc (own := [("rank", 8)]) (g := gName 8) rfl sc__law_long_menu.nd (pi_range1 (by rfl) T.z_range (pa_cons (pv 1) pa_nil)) (blkOk_by (own := [("rank", 8)]) (N := ["purse", "many", "letters", "way", "words_here", "stem", "turn", "start", "rank", "size", "at"]) (sc := defScope s__law_long_menu) (by decide +kernel)) (fun _ _ _ _ _ => pg_name (i := 8) sc__law_long_menu.nd rfl (Or.inl rfl)) (fun _ _ _ _ _ => pts_nil) (fun _ _ _ _ _ => (pe_ix (r := rIxL K) ix_list (pv 4) (pe_op op_mod (pe_callTy call_int1 (by rfl) T.z_int (by decide +kernel) (pa_cons (pe_op op_add (pv 7) (pe_op op_mul pe_int (pv 8))) pa_nil)) pe_int) (fun _ _ => rfl))))))
      pss_nil)
      (pss_cons (ps_if (PW.pt (pw_and (pt_cmpR op_eq (pv 3) pe_int (nomark _)) (pw_and1 (pt_cmpR op_lt (pv 1) pe_int (nomark _)))))
      (pss_cons (ps_set (i := 9) sc__law_long_menu.nd rfl (by first | exact Or.inl rfl | exact Or.inr rfl) (pe_op op_add pe_int (pe_op op_mod (pe_callTy call_int1 (by rfl) T.z_int (by decide +kernel) (pa_cons (pv 7) pa_nil)) (pe_op op_sub pe_int (pv 1)))))
      (pss_one (ps_ret (pe_lc (own := [("rank", 8)]) (g := gName 8) rfl sc__law_long_menu.nd (pi_range1 (by rfl) T.z_range (pa_cons (pv 1) pa_nil)) (blkOk_by (own := [("rank", 8)]) (N := ["purse", "many", "letters", "way", "words_here", "stem", "turn", "start", "rank", "size", "at"]) (sc := defScope s__law_long_menu) (by decide +kernel)) (fun _ _ _ _ _ => pg_name (i := 8) sc__law_long_menu.nd rfl (Or.inl rfl)) (fun _ _ _ _ _ => pts_nil) (fun _ _ _ _ _ => (pe_slice sl_str (pv 5) po_none (po_some (pe_op op_add (pv 9) (pv 8)))))))))
      pss_nil)
      (pss_cons (ps_if (pt_cmpR op_eq (pv 3) pe_int (nomark _))
      (pss_cons (ps_set (i := 10) sc__law_long_menu.nd rfl (by first | exact Or.inl rfl | exact Or.inr rfl) (pe_op op_mod (pe_callTy call_int1 (by rfl) T.z_int (by decide +kernel) (pa_cons (pv 7) pa_nil)) pe_int))
      (pss_one (ps_ret (pe_lc (own := [("rank", 8)]) (g := gName 8) rfl sc__law_long_menu.nd (pi_range1 (by rfl) T.z_range (pa_cons (pv 1) pa_nil)) (blkOk_by (own := [("rank", 8)]) (N := ["purse", "many", "letters", "way", "words_here", "stem", "turn", "start", "rank", "size", "at"]) (sc := defScope s__law_long_menu) (by decide +kernel)) (fun _ _ _ _ _ => pg_name (i := 8) sc__law_long_menu.nd rfl (Or.inl rfl)) (fun _ _ _ _ _ => pts_nil) (fun _ _ _ _ _ => (pe_op op_add_str (pe_op op_add_str (pe_slice sl_str (pv 5) po_none (po_some (pv 10))) (pe_ix ix_str (pv 2) (pe_op op_mod (pe_callTy call_int1 (by rfl) T.z_int (by decide +kernel) (pa_cons (pe_op op_add (pv 7) (pv 8)) pa_nil)) pe_int) (fun _ _ => rfl))) (pe_slice sl_str (pv 5) (po_some (pe_op op_add (pv 10) pe_int)) po_none)))))))
      pss_nil)
      (pss_one (ps_ret (pe_lc (own := [("rank", 8)]) (g := gName 8) rfl sc__law_long_menu.nd (pi_range1 (by rfl) T.z_range (pa_cons (pv 1) pa_nil)) (blkOk_by (own := [("rank", 8)]) (N := ["purse", "many", "letters", "way", "words_here", "stem", "turn", "start", "rank", "size", "at"]) (sc := defScope s__law_long_menu) (by decide +kernel)) (fun _ _ _ _ _ => pg_name (i := 8) sc__law_long_menu.nd rfl (Or.inl rfl)) (fun _ _ _ _ _ => pts_nil) (fun _ _ _ _ _ => (pe_ix ix_str (pv 2) (pe_op op_mod (pe_callTy call_int1 (by rfl) T.z_int (by decide +kernel) (pa_cons (pe_op op_add (pv 7) (pv 8)) pa_nil)) pe_int) (fun _ _ => rfl))))))))))))), ?_⟩
  refine ⟨_, rfl, p, 4, n, rfl, hp, by omega, by decide, by decide, fun r1 H1 r10 r11 b1 u1 => ?_⟩
  refine ⟨(by show 2 ≤ sizeLine; decide), fun t nt => ?_⟩
  refine ⟨t, _, rfl, SqT.of upd_same, rfl, ?_⟩
  refine ⟨_, _, rfl, _, _, rfl, rfl, ?_⟩
  have u2 := u1.new (o := .tup [.str alpha, .int r1]) nt
  have b2 : But [p] H (upd H1 t (.tup [.str alpha, .int r1])) := b1.new nt
  refine ⟨(by show 13 ≤ sizeLine; decide), fun W nW => ?_⟩
  have u3 := u2.new (o := .lst (wordsL.map V.str)) nW
  have b3 : But [p] H (upd (upd H1 t (.tup [.str alpha, .int r1])) W (.lst (wordsL.map V.str))) := b2.new nW
  have nWp := (u2.ne nW).symm
  refine ⟨⟨_, rfl⟩, 8, rfl, by decide, by decide, fun D nD => ?_⟩
  have nDp := (u3.ne nD).symm
  have nDW : W ≠ D := ne_of_none upd_same nD
  have u4 := u3.new (o := .lst []) nD
  have b4 : But [p] H (upd (upd (upd H1 t (.tup [.str alpha, .int r1])) W (.lst (wordsL.map V.str))) D (.lst [])) := b3.new nD
  have n0 : H D = none := by
    cases z : H D with
    | none => rfl
    | some o => exact nomatch (b3 D o (nin1 nDp) z).symm.trans nD
  refine lc_range (lo := 0) (n := 8) (fun i H' => ∃ ys : List Str, But [p] H H' ∧ Pu H' p (n + 1 + i) ∧ H' W = some (.lst (wordsL.map V.str)) ∧ H' D = some (.lst (ys.map V.str)) ∧ ys.length = i ∧ ∀ y ∈ ys, y.length = 1 ∧ Let y) ⟨[], b4, u4, ?_, upd_same, rfl, fun _ h => nomatch h⟩ ?_ ?_
  · rw [upd_ne nDW]; exact upd_same
  · rintro i H5 hi ⟨ys, b5, u5, e5, d5, z5, y5⟩
    refine ⟨rfl, ?_⟩
    refine ⟨_, rfl, _, rfl, p, 26, _, rfl, u5, by omega, by decide, by decide, fun r H6 q0 q1 b6 u6 => ?_⟩
    obtain ⟨c, hc, hl⟩ := alpha_at q0 q1
    refine ⟨alpha, r, c, rfl, rfl, alpha_sz, hc, ys.map V.str, b6 _ _ (nin1 nDp) d5, small1000 (by rw [List.length_map]; omega), ?_⟩
    refine ⟨ys ++ [⟨#[c]⟩], But.own (b5.trans b6) n0, (u6.put (ps := [D]) ((But.refl _ _).put (by simp)) (nin1 nDp.symm)).mono (by omega), ?_, ?_, ?_, ?_⟩
    · rw [upd_ne nDW]; exact b6 _ _ (nin1 nWp) e5
    · rw [List.map_append]; exact upd_same
    · rw [List.length_append, z5]; rfl
    · intro y hy
      rcases List.mem_append.mp hy with hy | hy
      · exact y5 y hy
      · rw [List.mem_singleton.mp hy]; exact ⟨rfl, let_one hl⟩
  · rintro H5 ⟨ys, b5, u5, e5, d5, z5, y5⟩
    refine ⟨"", D, ys, rfl, rfl, .inl (SqL.of d5), ?_, ?_⟩
    · have key : ∀ zs : List Str, (∀ y ∈ zs, y.length = 1 ∧ Let y) → (zs.map (·.length)).sum = zs.length := by
        intro zs
        induction zs with
        | nil => intro _; rfl
        | cons z r ih =>
          intro h
          rw [List.map_cons, List.sum_cons, ih (fun y hy => h y (List.mem_cons_of_mem _ hy)), (h z List.mem_cons_self).1, List.length_cons]
          omega
      rw [key ys y5, z5, show (Str.ofString "").length = 0 from rfl]
      decide
    obtain ⟨st8, stL⟩ := join_nil ys y5
    rw [z5] at st8
    generalize Txt.join "" ys = stem at st8 stL
    refine ⟨_, rfl, p, 26, _, rfl, u5, by omega, by decide, by decide, fun start H6 s0 s1 b6 u6 => ?_⟩
    have b7 := b5.trans b6
    have e6 := b6 _ _ (nin1 nWp) e5
    refine ⟨_, rfl, rfl, _, rfl, ?_⟩
    refine ite2 (fun z => ?_) (fun z => ?_)
    · refine ⟨_, rfl, _, _, rfl, rfl, _, rfl, ?_⟩
      rw [show (decide (m < 14)) = true from decide_eq_true (by omega)]
      refine iteT ?_
      refine ⟨_, rfl, m, rfl, by omega, by omega, fun D2 nD2 => ?_⟩
      have pD2 := u6.ne nD2
      have wD2 := ne_of_none e6 nD2
      have nD0 : H D2 = none := by
        cases z : H D2 with
        | none => rfl
        | some o => exact nomatch (b7 D2 o (nin1 pD2.symm) z).symm.trans nD2
      refine lc_range (lo := 0) (n := m.toNat) (MI H p W D2 (n + 10)) ⟨[], b7.new nD2, (u6.new nD2).mono (by omega), ?_, upd_same, rfl, fun _ h => nomatch h⟩ ?_ ?_
      rotate_left
      rotate_left
      · rintro H7 ⟨xs, b8, u8, e8, d8, z8, a8⟩
        exact hq D2 H7 xs b8 (u8.mono (by omega)) nD0 d8 (by omega) a8
      · rw [upd_ne wD2]; exact e6
      · rintro i H7 hi hI
        have hI' := hI
        obtain ⟨xs, b8, u8, e8, d8, z8, a8⟩ := hI'
        refine ⟨rfl, ?_⟩
        refine ⟨_, rfl, _, rfl, _, rfl, _, _, rfl, rfl, .inl ⟨by decide, by decide⟩, _, _, rfl, rfl, .inl ⟨_, rfl, ?_⟩⟩
        refine ⟨_, _, rfl, rfl, (by show (0 : Int) < 13; decide), ?_⟩
        obtain ⟨x, hx, ax⟩ := str_at (xs := wordsL) (r := (start + 5 * (0 + (i : Int))) % 13) (Int.emod_nonneg _ (by decide)) (Int.emod_lt_of_pos _ (by decide))
        refine ⟨W, _, _, _, rfl, rfl, SqL.of e8, ax, ?_⟩
        exact hI.next nD0 pD2 wD2 (by omega) (words_nm x hx)
    · refine ⟨_, rfl, rfl, _, rfl, ?_⟩
      refine ite2 (fun z => ?_) (fun z => ?_)
      · refine ⟨_, rfl, _, _, rfl, rfl, _, rfl, ?_⟩
        rw [show (decide (m < 9)) = true from decide_eq_true (by omega)]
        refine iteT ?_
        refine ⟨_, rfl, .inl ⟨_, rfl, ?_⟩⟩
        refine ⟨_, rfl, _, _, rfl, rfl, _, _, rfl, rfl, (by show (0 : Int) < 9 - m; omega), _, _, rfl, rfl, ?_⟩
        have g0 := Int.emod_nonneg start (show 9 - m ≠ 0 by omega)
        have g1 := Int.emod_lt_of_pos start (show (0 : Int) < 9 - m by omega)
        refine ⟨_, rfl, m, rfl, by omega, by omega, fun D2 nD2 => ?_⟩
        have pD2 := u6.ne nD2
        have wD2 := ne_of_none e6 nD2
        have nD0 : H D2 = none := by
          cases z : H D2 with
          | none => rfl
          | some o => exact nomatch (b7 D2 o (nin1 pD2.symm) z).symm.trans nD2
        refine lc_range (lo := 0) (n := m.toNat) (MI H p W D2 (n + 10)) ⟨[], b7.new nD2, (u6.new nD2).mono (by omega), ?_, upd_same, rfl, fun _ h => nomatch h⟩ ?_ ?_
        rotate_left
        rotate_left
        · rintro H7 ⟨xs, b8, u8, e8, d8, z8, a8⟩
          exact hq D2 H7 xs b8 (u8.mono (by omega)) nD0 d8 (by omega) a8
        · rw [upd_ne wD2]; exact e6
        · rintro i H7 hi hI
          refine ⟨rfl, ?_⟩
          refine ⟨_, rfl, _, rfl, _, rfl, _, _, rfl, rfl, ?_⟩
          refine ⟨_, rfl, stem, rfl, (by rw [st8]; decide), ?_⟩
          refine hI.next nD0 pD2 wD2 (by omega) (nm_let (let_cut _ _ stL) ?_ ?_)
          · rw [len_cut, st8, HT.sIx_none, sIx_pos (by omega)]
            omega
          · exact Nat.le_trans (cutS_length _ _ _) (by rw [st8]; exact Nat.le_refl 8)
      · refine ⟨_, rfl, rfl, _, rfl, ?_⟩
        refine ite2 (fun z => ?_) (fun z => ?_)
        · refine ⟨_, rfl, .inl ⟨_, rfl, ?_⟩⟩
          refine ⟨_, _, rfl, rfl, (by show (0 : Int) < 8; decide), ?_⟩
          have g0 := Int.emod_nonneg start (show (8 : Int) ≠ 0 by decide)
          have g1 := Int.emod_lt_of_pos start (show (0 : Int) < 8 by decide)
          refine ⟨_, rfl, m, rfl, by omega, by omega, fun D2 nD2 => ?_⟩
          have pD2 := u6.ne nD2
          have wD2 := ne_of_none e6 nD2
          have nD0 : H D2 = none := by
            cases z : H D2 with
            | none => rfl
            | some o => exact nomatch (b7 D2 o (nin1 pD2.symm) z).symm.trans nD2
          refine lc_range (lo := 0) (n := m.toNat) (MI H p W D2 (n + 10)) ⟨[], b7.new nD2, (u6.new nD2).mono (by omega), ?_, upd_same, rfl, fun _ h => nomatch h⟩ ?_ ?_
          rotate_left
          rotate_left
          · rintro H7 ⟨xs, b8, u8, e8, d8, z8, a8⟩
            exact hq D2 H7 xs b8 (u8.mono (by omega)) nD0 d8 (by omega) a8
          · rw [upd_ne wD2]; exact e6
          · rintro i H7 hi hI
            refine ⟨rfl, ?_⟩
            refine ⟨_, rfl, _, rfl, _, rfl, stem, rfl, (by rw [st8]; decide), ?_⟩
            refine ⟨_, rfl, _, rfl, _, rfl, _, _, rfl, rfl, .inl ⟨_, rfl, ?_⟩⟩
            refine ⟨_, _, rfl, rfl, (by show (0 : Int) < 26; decide), ?_⟩
            obtain ⟨c, hc, hl⟩ := alpha_at (r := (start + (0 + (i : Int))) % 26) (Int.emod_nonneg _ (by decide)) (Int.emod_lt_of_pos _ (by decide))
            have z1 : (cutS stem none (some (start % 8))).length = (start % 8).toNat := by
              rw [len_cut, st8, HT.sIx_none, sIx_pos g0]
              omega
            have z2 : (cutS stem (some (start % 8 + 1)) none).length = 7 - (start % 8).toNat := by
              rw [len_cut, st8, HT.sIx_none, sIx_pos (by omega)]
              omega
            have z3 : (⟨#[c]⟩ : Str).length = 1 := rfl
            refine ⟨alpha, _, c, rfl, rfl, alpha_sz, hc, _, _, rfl, rfl, ?_, ?_⟩
            · exact Nat.le_of_lt (small1000 (by omega))
            refine ⟨_, rfl, _, rfl, _, _, rfl, rfl, _, rfl, stem, rfl, (by rw [st8]; decide), _, _, rfl, rfl, ?_, ?_⟩
            · exact Nat.le_of_lt (small1000 (by rw [app_len]; omega))
            refine hI.next nD0 pD2 wD2 (by omega) (nm_let (let_app (let_app (let_cut _ _ stL) (let_one hl)) (let_cut _ _ stL)) ?_ ?_)
            · rw [app_len, app_len]; omega
            · rw [app_len, app_len]; omega
        · skip
          refine ⟨_, rfl, m, rfl, by omega, by omega, fun D2 nD2 => ?_⟩
          have pD2 := u6.ne nD2
          have wD2 := ne_of_none e6 nD2
          have nD0 : H D2 = none := by
            cases z : H D2 with
            | none => rfl
            | some o => exact nomatch (b7 D2 o (nin1 pD2.symm) z).symm.trans nD2
          refine lc_range (lo := 0) (n := m.toNat) (MI H p W D2 (n + 10)) ⟨[], b7.new nD2, (u6.new nD2).mono (by omega), ?_, upd_same, rfl, fun _ h => nomatch h⟩ ?_ ?_
          rotate_left
          rotate_left
          · rintro H7 ⟨xs, b8, u8, e8, d8, z8, a8⟩
            exact hq D2 H7 xs b8 (u8.mono (by omega)) nD0 d8 (by omega) a8
          · rw [upd_ne wD2]; exact e6
          · rintro i H7 hi hI
            refine ⟨rfl, ?_⟩
            refine ⟨_, rfl, _, rfl, _, rfl, _, _, rfl, rfl, .inl ⟨_, rfl, ?_⟩⟩
            refine ⟨_, _, rfl, rfl, (by show (0 : Int) < 26; decide), ?_⟩
            obtain ⟨c, hc, hl⟩ := alpha_at (r := (start + (0 + (i : Int))) % 26) (Int.emod_nonneg _ (by decide)) (Int.emod_lt_of_pos _ (by decide))
            refine ⟨alpha, _, c, rfl, rfl, alpha_sz, hc, ?_⟩
            exact hI.next nD0 pD2 wD2 (by omega) (nm_let (let_one hl) (Nat.le_refl 1) (by show 1 ≤ 8; decide))
end
end Toy
namespace Toy
open PySem L2 Own
section
variable {P : Program} {w : World} {K : PySem.W.Frag} {mg : Str → Option Value} {base : Heap}

/-- where a lot leads -/
inductive Led (xs : List Str) : PyData → PyData → Prop
  | fin (t : PyData) : Led xs (.tuple [.str "end", t]) t
  | yes (x : Str) (f g t : PyData) : x ∈ xs → Led xs f t → Led xs (.tuple [.str "ask", .str x, f, g]) t
  | no (x : Str) (f g t : PyData) : x ∉ xs → Led xs g t → Led xs (.tuple [.str "ask", .str x, f, g]) t
theorem end_ask : ¬ ((Str.ofString "end") = (Str.ofString "ask")) := by decide +kernel
theorem led_one {n : Nat} {d : PyData} {q : Nat} (h : Tr n d q) (xs : List Str) : ∃ t, Told t ∧ ∀ u, Led xs d u ↔ u = t := by
  induction h with
  | fin n t h =>
    refine ⟨t, h, fun u => ⟨fun z => ?_, fun z => z ▸ .fin _⟩⟩
    cases z
    rfl
  | ask n x f g p q hx hf hg ihf ihg =>
    by_cases m : x ∈ xs
    · obtain ⟨t, ht, e⟩ := ihf
      refine ⟨t, ht, fun u => ⟨fun z => ?_, fun z => .yes _ _ _ _ m ((e u).mpr z)⟩⟩
      cases z with
      | yes _ _ _ _ _ z => exact (e u).mp z
      | no _ _ _ _ k _ => exact (k m).elim
    · obtain ⟨t, ht, e⟩ := ihg
      refine ⟨t, ht, fun u => ⟨fun z => ?_, fun z => .no _ _ _ _ m ((e u).mpr z)⟩⟩
      cases z with
      | yes _ _ _ _ k _ => exact (m k).elim
      | no _ _ _ _ _ z => exact (e u).mp z
theorem inV_str {x : Str} {xs : List Str} : inV (.str x) (xs.map V.str) = decide (x ∈ xs) := by
  unfold inV
  rw [Bool.eq_iff_iff, List.any_eq_true, decide_eq_true_eq]
  constructor
  · rintro ⟨y, hy, e⟩
    obtain ⟨z, hz, rfl⟩ := List.mem_map.mp hy
    have e : (z == x) = true := e
    rw [beq_iff_eq] at e
    rw [← e]; exact hz
  · intro h
    exact ⟨_, List.mem_map.mpr ⟨x, h, rfl⟩, beq_self_eq_true (α := Str) x⟩
theorem flat_strs (xs : List Str) : (xs.map V.str).all flatV = true := by
  rw [List.all_eq_true]
  intro y hy
  obtain ⟨z, _, rfl⟩ := List.mem_map.mp hy
  rfl
theorem told_ref {H : Hp} {v : V} {t : PyData} (h : Dp K H v t) (g : Told t) : ∃ a, v = .ref a := by
  cases g <;> cases h <;> exact ⟨_, rfl⟩
def spLed (K : PySem.W.Frag) (n : Nat) : Sp := fun vs H Q _ => ∃ (a sa : Addr) (d : PyData) (q : Nat) (xs : List Str), vs = [.ref a, .ref sa] ∧ Dp K H (.ref a) d ∧ Tr n d q ∧ SqL K H sa (xs.map V.str) ∧
  ∀ (r : Addr) (t : PyData), Dp K H (.ref r) t → Led xs d t → Told t → Q (.ref r) H
theorem ok_led (T : Txt w K mg) : ∀ n : Nat, FnG P w K mg base CX0 (n + 1) T.f__law_led_to T.d__law_led_to ["found", "some"] (spLed K n) := by
  intro n
  induction n with
  | zero =>
    refine def_ok T.F__law_led_to sc__law_led_to (fun vs H Q E h => ?_) (fun cdv A outer s H vs Q E hr h => ?_)
    · obtain ⟨a, sa, d, q, xs, rfl, _⟩ := h
      rfl
    obtain ⟨a, sa, d, q, xs, rfl, hd, ht, hS, hq⟩ := h
    cases ht with
    | fin _ t h1 =>
      obtain ⟨_, ys, e, hs, ha⟩ := tupI hd
      cases e
      obtain ⟨v1, w1, rfl, g1, ha1⟩ := consI ha
      cases (strI g1)
      obtain ⟨v2, w2, rfl, g2, ha2⟩ := consI ha1
      cases (nilI ha2)
      obtain ⟨r, rfl⟩ := told_ref g2 h1
      have G__law_led_to : FnG P w K mg base CX0 0 T.f__law_led_to T.d__law_led_to ["found", "some"] (fun _ _ _ _ => False) := ⟨fun _ _ _ _ h => h.elim, fun _ _ _ _ _ _ _ _ _ _ _ _ _ h => h.elim⟩
      refine ⟨_, (pss_cons (ps_if (pt_cmpR op_eq (pe_ix (r := rIxT K) ix_tup (pv 0) pe_int (fun _ _ => rfl)) pe_str (nomark _))
      (pss_one (ps_ret (pe_ix (r := rIxT K) ix_tup (pv 0) pe_int (fun _ _ => rfl))))
      pss_nil)
      (pss_one (ps_ret (call_g G__law_led_to (hr.mono (by omega)) rfl T.m__law_led_to T.F__law_led_to.kp T.b__law_led_to .nil pass0 (pa_cons (pe_ifExp (pt_cmpR (r := rIn K false) op_in_seq (pe_ix (r := rIxT K) ix_tup (pv 0) pe_int (fun _ _ => rfl)) (pv 1) (by rfl)) (pe_ix (r := rIxT K) ix_tup (pv 0) pe_int (fun _ _ => rfl)) (pe_ix (r := rIxT K) ix_tup (pv 0) pe_int (fun _ _ => rfl))) (pa_cons (pv 1) pa_nil)))))), ?_⟩
      refine ⟨_, rfl, _, _, _, .str "end", rfl, rfl, hs, rfl, rfl, _, rfl, ?_⟩
      refine iteT ?_
      exact ⟨_, rfl, _, _, _, _, rfl, rfl, hs, rfl, hq r t g2 (.fin t) h1⟩
  | succ n ih =>
    refine def_ok T.F__law_led_to sc__law_led_to (fun vs H Q E h => ?_) (fun cdv A outer s H vs Q E hr h => ?_)
    · obtain ⟨a, sa, d, q, xs, rfl, _⟩ := h
      rfl
    obtain ⟨a, sa, d, q, xs, rfl, hd, ht, hS, hq⟩ := h
    have G__law_led_to := ih
    refine ⟨_, (pss_cons (ps_if (pt_cmpR op_eq (pe_ix (r := rIxT K) ix_tup (pv 0) pe_int (fun _ _ => rfl)) pe_str (nomark _))
      (pss_one (ps_ret (pe_ix (r := rIxT K) ix_tup (pv 0) pe_int (fun _ _ => rfl))))
      pss_nil)
      (pss_one (ps_ret (call_g G__law_led_to (hr.mono (by omega)) rfl T.m__law_led_to T.F__law_led_to.kp T.b__law_led_to .nil pass0 (pa_cons (pe_ifExp (pt_cmpR (r := rIn K false) op_in_seq (pe_ix (r := rIxT K) ix_tup (pv 0) pe_int (fun _ _ => rfl)) (pv 1) (by rfl)) (pe_ix (r := rIxT K) ix_tup (pv 0) pe_int (fun _ _ => rfl)) (pe_ix (r := rIxT K) ix_tup (pv 0) pe_int (fun _ _ => rfl))) (pa_cons (pv 1) pa_nil)))))), ?_⟩
    cases ht with
    | fin _ t h1 =>
      obtain ⟨_, ys, e, hs, ha⟩ := tupI hd
      cases e
      obtain ⟨v1, w1, rfl, g1, ha1⟩ := consI ha
      cases (strI g1)
      obtain ⟨v2, w2, rfl, g2, ha2⟩ := consI ha1
      cases (nilI ha2)
      obtain ⟨r, rfl⟩ := told_ref g2 h1
      refine ⟨_, rfl, _, _, _, .str "end", rfl, rfl, hs, rfl, rfl, _, rfl, ?_⟩
      refine iteT ?_
      exact ⟨_, rfl, _, _, _, _, rfl, rfl, hs, rfl, hq r t g2 (.fin t) h1⟩
    | ask _ x f g p q hx hf hg =>
      obtain ⟨_, ys, e, hs, ha⟩ := tupI hd
      cases e
      obtain ⟨v1, w1, rfl, g1, ha1⟩ := consI ha
      cases (strI g1)
      obtain ⟨v2, w2, rfl, g2, ha2⟩ := consI ha1
      cases (strI g2)
      obtain ⟨v3, w3, rfl, g3, ha3⟩ := consI ha2
      obtain ⟨v4, w4, rfl, g4, ha4⟩ := consI ha3
      cases (nilI ha4)
      obtain ⟨f1, rfl⟩ := refOf g3 hf
      obtain ⟨f2, rfl⟩ := refOf g4 hg
      refine ⟨_, rfl, _, _, _, .str "ask", rfl, rfl, hs, rfl, rfl, _, rfl, ?_⟩
      refine iteF ?_
      refine ⟨_, rfl, _, _, _, _, rfl, rfl, hs, rfl, _, rfl, sa, _, rfl, .inl hS, rfl, flat_strs xs, _, rfl, ?_⟩
      show (if inV (.str x) (xs.map V.str) = true then _ else _)
      rw [inV_str]
      refine ite2 (fun z => ?_) (fun z => ?_)
      · have m : x ∈ xs := of_decide_eq_true z
        exact ⟨_, rfl, _, _, _, _, rfl, rfl, hs, rfl, _, rfl, f1, sa, f, _, xs, rfl, g3, hf, hS, fun r t a b c => hq r t a (.yes _ _ _ _ m b) c⟩
      · have m : x ∉ xs := fun y => z (decide_eq_true y)
        exact ⟨_, rfl, _, _, _, _, rfl, rfl, hs, rfl, _, rfl, f2, sa, g, _, xs, rfl, g4, hg, hS, fun r t a b c => hq r t a (.no _ _ _ _ m b) c⟩
/-- what is told, with a new list -/
def NewTold (K : PySem.W.Frag) (H H' : Hp) (r : Addr) (t : PyData) : Prop :=
  (∃ w : Str, t = .tuple [.str w] ∧ (w = "ended" ∨ w = "left") ∧ H' = H ∧ Dp K H (.ref r) t) ∨
  ∃ (ds : List PyData) (c : Addr) (vs : List V), t = .tuple [.str "error", .list ds] ∧ Same H H' ∧ H c = none ∧ H r = none ∧ H' r = some (.tup [.str "error", .ref c]) ∧ H' c = some (.lst vs) ∧ DpAll K H vs ds
def spAnew (K : PySem.W.Frag) : Sp := fun vs H Q _ => ∃ (a : Addr) (t : PyData), vs = [.ref a] ∧ Dp K H (.ref a) t ∧ Told t ∧ ∀ (r : Addr) (H' : Hp), NewTold K H H' r t → Q (.ref r) H'
theorem ok_anew (T : Txt w K mg) : FnG P w K mg base CX0 1 T.f_copied_told T.d_copied_told ["told"] (spAnew K) := by
  refine def_ok T.F_copied_told sc_copied_told (fun vs H Q E h => ?_) (fun cdv A outer s H vs Q E hr h => ?_)
  · obtain ⟨a, t, rfl, _⟩ := h
    rfl
  obtain ⟨a, t, rfl, hd, ht, hq⟩ := h
  refine ⟨_, (pss_cons (ps_if (pt_cmpR op_eq (pe_ix (r := rIxT K) ix_tup (pv 0) pe_int (fun _ _ => rfl)) pe_str (nomark _))
      (pss_one (ps_ret (pe_tup (pa_cons pe_str (pa_cons (pe_callTy call_list_of (by rfl) T.z_list (by decide +kernel) (pa_cons (pe_ix (r := rIxT K) ix_tup (pv 0) pe_int (fun _ _ => rfl)) pa_nil)) pa_nil)))))
      pss_nil)
      (pss_one (ps_ret (pv 0)))), ?_⟩
  cases ht with
  | one w hw =>
    have hd' := hd
    obtain ⟨_, ys, e, hs, ha⟩ := tupI hd
    cases e
    obtain ⟨v1, w1, rfl, g1, ha1⟩ := consI ha
    cases (strI g1)
    cases (nilI ha1)
    refine ⟨_, rfl, _, _, _, .str w, rfl, rfl, hs, rfl, rfl, _, rfl, ?_⟩
    have ne : (decide (V.str w = V.str "error")) = false := by
      rcases hw with rfl | rfl <;> decide +kernel
    rw [ne]
    refine iteF ?_
    exact ⟨_, rfl, hq a H (.inl ⟨w, rfl, hw, rfl, hd'⟩)⟩
  | err ds hl hds =>
    obtain ⟨_, ys, e, hs, ha⟩ := tupI hd
    cases e
    obtain ⟨v1, w1, rfl, g1, ha1⟩ := consI ha
    cases (strI g1)
    obtain ⟨v2, w2, rfl, g2, ha2⟩ := consI ha1
    cases (nilI ha2)
    obtain ⟨b, zs, rfl, hb, hz⟩ := lstI g2
    refine ⟨_, rfl, _, _, _, .str "error", rfl, rfl, hs, rfl, rfl, _, rfl, ?_⟩
    refine iteT ?_
    refine ⟨_, rfl, _, _, _, _, rfl, rfl, hs, rfl, b, zs, rfl, .inl hb, fun c nc => ?_⟩
    refine ⟨(by show 2 ≤ sizeLine; decide), fun r nr => ?_⟩
    refine hq r _ (.inr ⟨ds, c, zs, rfl, (same_new nc _).trans (same_new nr _), nc, (same_new nc _).free nr, upd_same, ?_, hz⟩)
    rw [upd_ne (ne_of_none upd_same nr)]
    exact upd_same
def spWalk (K : PySem.W.Frag) : Sp := fun vs H Q _ => ∃ (a sa : Addr) (d : PyData) (q : Nat) (xs : List Str), vs = [.ref a, .ref sa] ∧ Dp K H (.ref a) d ∧ Tr 10 d q ∧ SqL K H sa (xs.map V.str) ∧
  ∀ (r : Addr) (t : PyData) (H' : Hp), NewTold K H H' r t → Led xs d t → Told t → Q (.ref r) H'
theorem ok_walk (T : Txt w K mg) : FnG P w K mg base CX0 2 T.f_walk T.d_walk ["told", "lot"] (spWalk K) := by
  refine def_ok T.F_walk sc_walk (fun vs H Q E h => ?_) (fun cdv A outer s H vs Q E hr h => ?_)
  · obtain ⟨a, sa, d, q, xs, rfl, _⟩ := h
    rfl
  obtain ⟨a, sa, d, q, xs, rfl, hd, ht, hS, hq⟩ := h
  have G_copied_told := ok_anew (P := P) (w := w) (base := base) T
  refine ⟨_, (pss_cons (ps_while PassesOwn.never (pt_cmpR op_eq (pe_ix (r := rIxT K) ix_tup (pv 0) pe_int (fun _ _ => rfl)) pe_str (nomark _))
      (pss_one (ps_set (i := 0) sc_walk.nd rfl (by first | exact Or.inl rfl | exact Or.inr rfl) (pe_ifExp (pt_cmpR (r := rIn K false) op_in_seq (pe_ix (r := rIxT K) ix_tup (pv 0) pe_int (fun _ _ => rfl)) (pv 1) (by rfl)) (pe_ix (r := rIxT K) ix_tup (pv 0) pe_int (fun _ _ => rfl)) (pe_ix (r := rIxT K) ix_tup (pv 0) pe_int (fun _ _ => rfl))))))
      (pss_one (ps_ret (call_g G_copied_told (hr.mono (by omega)) rfl T.m_copied_told T.F_copied_told.kp T.b_copied_told .nil pass0 (pa_cons (pe_ix (r := rIxT K) ix_tup (pv 0) pe_int (fun _ _ => rfl)) pa_nil))))), ?_⟩
  refine ⟨fun m σ H' => H' = H ∧ ∃ (b : Addr) (e : PyData) (k : Nat), σ = [some (.ref b), some (.ref sa)] ∧ Dp K H (.ref b) e ∧ Tr m e k ∧ ∀ t, Led xs e t → Led xs d t, ⟨10, rfl, a, d, q, rfl, hd, ht, fun _ z => z⟩, ?_⟩
  rintro m σ H' ⟨rfl, b, e, k, rfl, hb, hT, hL⟩
  cases hT with
  | fin _ t h1 =>
    obtain ⟨_, ys, e, hs, ha⟩ := tupI hb
    cases e
    obtain ⟨v1, w1, rfl, g1, ha1⟩ := consI ha
    cases (strI g1)
    obtain ⟨v2, w2, rfl, g2, ha2⟩ := consI ha1
    cases (nilI ha2)
    obtain ⟨r, rfl⟩ := told_ref g2 h1
    refine ⟨_, rfl, _, _, _, .str "end", rfl, rfl, hs, rfl, rfl, _, rfl, ?_⟩
    have ne : (decide (V.str (Str.ofString "end") = V.str (Str.ofString "ask"))) = false := by decide +kernel
    rw [ne]
    refine iteF ?_
    exact ⟨_, rfl, _, _, _, _, rfl, rfl, hs, rfl, r, t, rfl, g2, h1, fun r' H2 z => hq r' t H2 z (hL t (.fin t)) h1⟩
  | ask m x f g p q hx hf hg =>
    obtain ⟨_, ys, e, hs, ha⟩ := tupI hb
    cases e
    obtain ⟨v1, w1, rfl, g1, ha1⟩ := consI ha
    cases (strI g1)
    obtain ⟨v2, w2, rfl, g2, ha2⟩ := consI ha1
    cases (strI g2)
    obtain ⟨v3, w3, rfl, g3, ha3⟩ := consI ha2
    obtain ⟨v4, w4, rfl, g4, ha4⟩ := consI ha3
    cases (nilI ha4)
    obtain ⟨f1, rfl⟩ := refOf g3 hf
    obtain ⟨f2, rfl⟩ := refOf g4 hg
    refine ⟨_, rfl, _, _, _, .str "ask", rfl, rfl, hs, rfl, rfl, _, rfl, ?_⟩
    refine iteT ?_
    refine ⟨fun σ' H2 => H2 = H' ∧ ∃ (b : Addr) (e : PyData) (k : Nat), σ' = [some (.ref b), some (.ref sa)] ∧ Dp K H' (.ref b) e ∧ Tr m e k ∧ ∀ t, Led xs e t → Led xs d t, fun σ' H2 z => ⟨m, Nat.lt_succ_self m, z⟩, ?_⟩
    refine ⟨_, rfl, _, _, _, _, rfl, rfl, hs, rfl, _, rfl, sa, _, rfl, .inl hS, rfl, flat_strs xs, _, rfl, ?_⟩
    show (if inV (.str x) (xs.map V.str) = true then _ else _)
    rw [inV_str]
    refine ite2 (fun z => ?_) (fun z => ?_)
    · have mm : x ∈ xs := of_decide_eq_true z
      exact ⟨_, rfl, _, _, _, _, rfl, rfl, hs, rfl, rfl, f1, f, _, rfl, g3, hf, fun t y => hL t (.yes _ _ _ _ mm y)⟩
    · have mm : x ∉ xs := fun y => z (decide_eq_true y)
      exact ⟨_, rfl, _, _, _, _, rfl, rfl, hs, rfl, rfl, f2, g, _, rfl, g4, hg, fun t y => hL t (.no _ _ _ _ mm y)⟩
def dt (k : Nat) : Nat := 10 * 2 ^ k
def spFullT (K : PySem.W.Frag) (k : Nat) : Sp := fun vs H Q _ => ∃ (p ta : Addr) (i : Int) (n : Nat) (xs : List Str), vs = [.ref p, .ref ta, .int i] ∧ Pu H p n ∧ n + dt k < 10 ^ 20 ∧ Ns K H [p] ta 8 xs ∧ 0 ≤ i ∧ i + k = xs.length ∧
  ∀ (r : Addr) (H' : Hp) (d : PyData) (q : Nat), But [p] H H' → Pu H' p (n + dt k) → Dp K (hid [p] H') (.ref r) d → Tr k d q → Q (.ref r) H'
theorem ok_fullT (T : Txt w K mg) : ∀ k : Nat, FnG P w K mg base CX0 (k + 2) T.f__law_full_tree T.d__law_full_tree ["purse", "titles", "at"] (spFullT K k) := by
  intro k
  have G__law_coin := ok_coin (P := P) (w := w) (base := base) T
  have tk : ∀ {p : Addr} {H' : Hp} {n : Nat}, Pu H' p n → Trk [p] H' := fun u q z => by
    obtain ⟨_, _, _, e, _⟩ := u
    rw [List.mem_singleton.mp z]; exact ⟨_, e⟩
  induction k with
  | zero =>
    refine def_ok T.F__law_full_tree sc__law_full_tree (fun vs H Q E h => ?_) (fun cdv A outer s H vs Q E hr h => ?_)
    · obtain ⟨p, ta, i, n, xs, rfl, _⟩ := h
      rfl
    obtain ⟨p, ta, i, n, xs, rfl, u0, hn, ht, i0, i1, hq⟩ := h
    have G__law_full_tree : FnG P w K mg base CX0 0 T.f__law_full_tree T.d__law_full_tree ["purse", "titles", "at"] (fun _ _ _ _ => False) := ⟨fun _ _ _ _ h => h.elim, fun _ _ _ _ _ _ _ _ _ _ _ _ _ h => h.elim⟩
    refine ⟨_, (pss_cons (ps_if (pt_cmpR op_eq (pv 2) (pe_callB call_len_seq (by rfl) T.z_len (by decide +kernel) (pa_cons (pv 1) pa_nil)) (nomark _))
      (pss_one (ps_ret (pe_tup (pa_cons pe_str (pa_cons (pe_tup (pa_cons pe_str (pa_cons (pe_lst (pa_cons (pe_tup (pa_cons pe_str (pa_cons (pe_ix (r := rIxL K) ix_list (pv 1) (call_g G__law_coin (hr.mono (by omega)) rfl T.m__law_coin T.F__law_coin.kp T.b__law_coin .nil pass0 (pa_cons (pv 0) (pa_cons (pe_callB call_len_seq (by rfl) T.z_len (by decide +kernel) (pa_cons (pv 1) pa_nil)) pa_nil))) (fun _ _ => rfl)) pa_nil))) pa_nil)) pa_nil))) pa_nil)))))
      pss_nil)
      (pss_cons (ps_set (i := 3) sc__law_full_tree.nd rfl (by first | exact Or.inl rfl | exact Or.inr rfl) (call_g G__law_full_tree (hr.mono (by omega)) rfl T.m__law_full_tree T.F__law_full_tree.kp T.b__law_full_tree .nil pass0 (pa_cons (pv 0) (pa_cons (pv 1) (pa_cons (pe_op op_add (pv 2) pe_int) pa_nil)))))
      (pss_one (ps_ret (pe_tup (pa_cons pe_str (pa_cons (pe_ix (r := rIxL K) ix_list (pv 1) (pv 2) (fun _ _ => rfl)) (pa_cons (pv 3) (pa_cons (call_g G__law_full_tree (hr.mono (by omega)) rfl T.m__law_full_tree T.F__law_full_tree.kp T.b__law_full_tree .nil pass0 (pa_cons (pv 0) (pa_cons (pv 1) (pa_cons (pe_op op_add (pv 2) pe_int) pa_nil)))) pa_nil))))))))), ?_⟩
    obtain ⟨l0, l1⟩ := ht.len
    have hlen : (((xs.map V.str).length : Nat) : Int) = i := by rw [List.length_map]; omega
    refine ⟨_, rfl, _, rfl, ta, _, rfl, .inl ht.rd, rfl, _, rfl, ?_⟩
    rw [decide_eq_true (by rw [hlen])]
    refine iteT ?_
    refine ⟨_, rfl, _, rfl, _, rfl, ta, _, rfl, .inl ht.rd, p, _, n, rfl, u0, by omega, l0, l1, fun r1 H1 r10 r11 b1 u1 => ?_⟩
    have ht1 := ht.put b1 (fun _ h => h)
    obtain ⟨x1, hx1, at1⟩ := str_at r10 r11
    refine ⟨ta, _, _, _, rfl, rfl, ht1.rd, at1, (by show 2 ≤ sizeLine; decide), fun t1 n1 => ⟨(by show 1 ≤ sizeLine; decide), fun t2 n2 => ⟨(by show 2 ≤ sizeLine; decide), fun t3 n3 => ⟨(by show 2 ≤ sizeLine; decide), fun t4 n4 => ?_⟩⟩⟩⟩
    have u2 := u1.new (o := .tup [.str "told", .str x1]) n1
    have u3 := u2.new (o := .lst [.ref t1]) n2
    have u4 := u3.new (o := .tup [.str "error", .ref t2]) n3
    have e1 := newPr (K := K) (a := "told") (b := x1) n1 ((tk u1).nin n1)
    have e2 := newLst n2 ((tk u2).nin n2) (.cons e1 .nil)
    have e3 := newTup n3 ((tk u3).nin n3) (.cons (.str "error") (.cons e2 .nil))
    have e4 := newTup n4 ((tk u4).nin n4) (.cons (.str "end") (.cons e3 .nil))
    refine hq t4 _ _ 0 ((((b1.new n1).new n2).new n3).new n4) ((u4.new n4).mono (by simp only [dt]; omega)) e4 (.fin _ _ (.err _ (by show 1 ≤ 9; decide) ?_))
    intro d hd
    rw [List.mem_singleton.mp hd]
    exact ⟨_, _, rfl, nm_of (by decide +kernel), ht.nm _ hx1⟩
  | succ k ih =>
    refine def_ok T.F__law_full_tree sc__law_full_tree (fun vs H Q E h => ?_) (fun cdv A outer s H vs Q E hr h => ?_)
    · obtain ⟨p, ta, i, n, xs, rfl, _⟩ := h
      rfl
    obtain ⟨p, ta, i, n, xs, rfl, u0, hn, ht, i0, i1, hq⟩ := h
    have G__law_full_tree := ih
    refine ⟨_, (pss_cons (ps_if (pt_cmpR op_eq (pv 2) (pe_callB call_len_seq (by rfl) T.z_len (by decide +kernel) (pa_cons (pv 1) pa_nil)) (nomark _))
      (pss_one (ps_ret (pe_tup (pa_cons pe_str (pa_cons (pe_tup (pa_cons pe_str (pa_cons (pe_lst (pa_cons (pe_tup (pa_cons pe_str (pa_cons (pe_ix (r := rIxL K) ix_list (pv 1) (call_g G__law_coin (hr.mono (by omega)) rfl T.m__law_coin T.F__law_coin.kp T.b__law_coin .nil pass0 (pa_cons (pv 0) (pa_cons (pe_callB call_len_seq (by rfl) T.z_len (by decide +kernel) (pa_cons (pv 1) pa_nil)) pa_nil))) (fun _ _ => rfl)) pa_nil))) pa_nil)) pa_nil))) pa_nil)))))
      pss_nil)
      (pss_cons (ps_set (i := 3) sc__law_full_tree.nd rfl (by first | exact Or.inl rfl | exact Or.inr rfl) (call_g G__law_full_tree (hr.mono (by omega)) rfl T.m__law_full_tree T.F__law_full_tree.kp T.b__law_full_tree .nil pass0 (pa_cons (pv 0) (pa_cons (pv 1) (pa_cons (pe_op op_add (pv 2) pe_int) pa_nil)))))
      (pss_one (ps_ret (pe_tup (pa_cons pe_str (pa_cons (pe_ix (r := rIxL K) ix_list (pv 1) (pv 2) (fun _ _ => rfl)) (pa_cons (pv 3) (pa_cons (call_g G__law_full_tree (hr.mono (by omega)) rfl T.m__law_full_tree T.F__law_full_tree.kp T.b__law_full_tree .nil pass0 (pa_cons (pv 0) (pa_cons (pv 1) (pa_cons (pe_op op_add (pv 2) pe_int) pa_nil)))) pa_nil))))))))), ?_⟩
    have hlen : (((xs.map V.str).length : Nat) : Int) = xs.length := by rw [List.length_map]
    have dd : dt (k + 1) = dt k + dt k := by simp only [dt, Nat.pow_succ]; omega
    refine ⟨_, rfl, _, rfl, ta, _, rfl, .inl ht.rd, rfl, _, rfl, ?_⟩
    rw [show (decide (V.int i = V.int (((xs.map V.str).length : Nat) : Int))) = false from decide_eq_false (fun e => by have := V.int.inj e; omega)]
    refine iteF ?_
    refine ⟨_, rfl, _, rfl, _, rfl, _, _, rfl, rfl, p, ta, i + 1, n, xs, rfl, u0, by omega, ht, by omega, by omega, fun r1 H1 d1 q1 b1 u1 D1 T1 => ?_⟩
    have ht1 := ht.put b1 (fun _ h => h)
    obtain ⟨x1, hx1, at1⟩ := str_at (xs := xs) (r := i) i0 (by omega)
    refine ⟨_, rfl, _, rfl, ta, _, _, _, rfl, rfl, ht1.rd, at1, _, rfl, _, rfl, _, rfl, _, rfl, _, _, rfl, rfl, p, ta, i + 1, _, xs, rfl, u1, by omega, ht1, by omega, by omega, fun r2 H2 d2 q2 b2 u2 D2 T2 => ?_⟩
    refine ⟨(by show 4 ≤ sizeLine; decide), fun t nt => ?_⟩
    have hx9 : Nm 9 x1 := ⟨(ht.nm x1 hx1).1, Nat.le_trans (ht.nm x1 hx1).2.1 (by decide), (ht.nm x1 hx1).2.2⟩
    exact hq t _ _ _ ((b1.trans b2).new nt) ((u2.new nt).mono (by omega)) (newTup nt ((tk u2).nin nt) (.cons (.str _) (.cons (.str _) (.cons (dpSame b2.same D1) (.cons D2 .nil))))) (.ask _ _ _ _ _ _ hx9 T1 T2)
end
end Toy
namespace Toy
open PySem L2 Own
section
variable {P : Program} {w : World} {K : PySem.W.Frag} {mg : Str → Option Value} {base : Heap}

def bB : Nat → Nat
  | 0 => 190
  | n + 1 => 2 * bB n + 16
theorem bB_ge (n : Nat) : 190 ≤ bB n := by
  induction n with
  | zero => exact Nat.le_refl _
  | succ n ih => simp only [bB]; omega
theorem told_sz {t : PyData} (h : Told t) : Sz t 181 3 := by
  cases h with
  | one w hw =>
    have hn : Nm 5 w := by rcases hw with rfl | rfl <;> exact nm_of (by decide +kernel)
    exact ((SzAll.cons (Sz.str hn) SzAll.nil).tup).mono (by decide) (by decide)
  | err ds hl hd =>
    have a : SzAll ds ((18 + 1) * ds.length) 1 := SzAll.all fun d z => by
      obtain ⟨x, y, rfl, hx, hy⟩ := hd d z
      exact ((SzAll.cons (Sz.str hx) (SzAll.cons (Sz.str hy) SzAll.nil)).tup).mono (by decide) (by decide)
    exact ((SzAll.cons (Sz.str (n := 5) (nm_of (by decide +kernel))) (SzAll.cons a.lst SzAll.nil)).tup).mono (by omega) (by decide)
theorem end_sz : Sz (.str "end") 3 0 := Sz.str (n := 3) (nm_of (by decide +kernel))
theorem ask_sz : Sz (.str "ask") 3 0 := Sz.str (n := 3) (nm_of (by decide +kernel))
theorem tr_sz {n : Nat} {d : PyData} {q : Nat} (h : Tr n d q) : Sz d (bB n) (n + 4) := by
  induction h with
  | fin n t h =>
    have hb := bB_ge n
    exact ((SzAll.cons end_sz (SzAll.cons (told_sz h) SzAll.nil)).tup).mono (by omega) (by omega)
  | ask n x f g p q hx hf hg ihf ihg =>
    exact ((SzAll.cons ask_sz (SzAll.cons (Sz.str hx) (SzAll.cons ihf (SzAll.cons ihg SzAll.nil)))).tup).mono (by simp only [bB]; omega) (by omega)
theorem Tr.mono {n : Nat} {d : PyData} {q : Nat} (h : Tr n d q) : ∀ {m : Nat}, n ≤ m → Tr m d q := by
  induction h with
  | fin n t h => intro m _; exact .fin m t h
  | ask n x f g p q hx hf hg ihf ihg =>
    intro m hm
    cases m with
    | zero => omega
    | succ m => exact .ask m x f g p q hx (ihf (by omega)) (ihg (by omega))
/-- a list of names as data -/
def namesD (xs : List Str) : PyData := .list (xs.map PyData.str)
theorem names_dp {H : Hp} {a : Addr} {xs : List Str} (h : SqL K H a (xs.map V.str)) : Dp K H (.ref a) (namesD xs) := by
  refine .lst h ?_
  clear h
  induction xs with
  | nil => exact .nil
  | cons x r ih => exact .cons (.str x) ih
theorem names_shaped {xs : List Str} (h : ∀ x ∈ xs, Let x) : SeqAt.shaped (namesD xs) = true := by
  have key : ∀ xs : List Str, (∀ x ∈ xs, Let x) → PyData.canLayAll0 (xs.map PyData.str) = true ∧ PyData.depthAll (xs.map PyData.str) = 0 := by
    intro xs
    induction xs with
    | nil => intro _; exact ⟨rfl, rfl⟩
    | cons x r ih =>
      intro h
      obtain ⟨a, b⟩ := ih fun y hy => h y (List.mem_cons_of_mem _ hy)
      refine ⟨?_, ?_⟩
      · show (PyData.canLay0 (.str x) && PyData.canLayAll0 (r.map PyData.str)) = true
        rw [a, Bool.and_true]
        show (x.cps.all fun c => decide (c < 0x110000)) = true
        rw [← Array.all_toList, List.all_eq_true]
        intro c hc
        have := h x List.mem_cons_self c hc
        exact decide_eq_true (by omega)
      · show max (PyData.depth (.str x)) (PyData.depthAll (r.map PyData.str)) = 0
        rw [b]; rfl
  obtain ⟨a, b⟩ := key xs h
  unfold SeqAt.shaped
  rw [Bool.and_eq_true]
  refine ⟨a, decide_eq_true ?_⟩
  show PyData.depthAll (xs.map PyData.str) + 1 ≤ 64
  rw [b]; decide
def spRight : Sp := fun vs H Q _ => ∃ (p : Addr), vs = [.ref p] ∧ Pu H p 0 ∧ ∀ H', But [p] H H' → Q (.bl true) H'
theorem dpaLen {H : Hp} : ∀ {ds : List PyData} {vs : List V}, DpAll K H vs ds → vs.length = ds.length
  | [], _, h => by cases nilI h; rfl
  | d :: ds, _, h => by
    obtain ⟨v, ws, rfl, _, h⟩ := consI h
    rw [List.length_cons, List.length_cons, dpaLen h]
theorem NewTold.facts {K : PySem.W.Frag} {H H' : Hp} {r : Addr} {t : PyData} (h : NewTold K H H' r t) : Same H H' ∧ Dp K H' (.ref r) t := by
  rcases h with ⟨w, rfl, _, rfl, hd⟩ | ⟨ds, c, vs, rfl, s, nc, nr, er, ec, hz⟩
  · exact ⟨Same.refl _, hd⟩
  · exact ⟨s, .tup (SqT.of er) (.cons (.str _) (.cons (.lst (SqL.of ec) (dpaSame s hz)) .nil))⟩
theorem cut_names (xs : List Str) (k : Int) (h : 0 ≤ k) : cutV (xs.map V.str) none (some k) = (xs.take k.toNat).map V.str := by
  unfold cutV
  rw [HT.sIx_none, List.drop_zero, Nat.sub_zero, sIx_pos h, List.length_map, ← List.map_take]
  congr 1
  by_cases z : k.toNat ≤ xs.length
  · rw [Nat.min_eq_left z]
  · rw [Nat.min_eq_right (by omega), List.take_of_length_le (Nat.le_refl _), List.take_of_length_le (by omega)]
theorem ok_right (T : Txt w K mg) : FnG P w K mg base CX0 20 T.f__law_right T.d__law_right ["purse"] spRight := by
  refine def_ok T.F__law_right sc__law_right (fun vs H Q E h => ?_) (fun cdv A outer s H vs Q E hr h => ?_)
  · obtain ⟨p, rfl, _⟩ := h
    rfl
  obtain ⟨p, rfl, u0, hq⟩ := h
  have G__law_coin := ok_coin (P := P) (w := w) (base := base) T
  have G__law_long_menu := ok_menu (P := P) (w := w) (base := base) T
  have G__law_full_tree := ok_fullT (P := P) (w := w) (base := base) T 8
  have G__law_any_tree := ok_tree (P := P) (w := w) (base := base) T 10
  have G_walk := ok_walk (P := P) (w := w) (base := base) T
  have G__law_led_to := ok_led (P := P) (w := w) (base := base) T 10
  refine ⟨_, (pss_cons (ps_set (i := 1) sc__law_right.nd rfl (by first | exact Or.inl rfl | exact Or.inr rfl) (call_g G__law_long_menu (hr.mono (by omega)) rfl T.m__law_long_menu T.F__law_long_menu.kp T.b__law_long_menu .nil pass0 (pa_cons (pv 0) (pa_cons pe_int pa_nil))))
      (pss_cons (ps_set (i := 2) sc__law_right.nd rfl (by first | exact Or.inl rfl | exact Or.inr rfl) (pe_op op_add pe_int (call_g G__law_coin (hr.mono (by omega)) rfl T.m__law_coin T.F__law_coin.kp T.b__law_coin .nil pass0 (pa_cons (pv 0) (pa_cons pe_int pa_nil)))))
      (pss_cons (ps_if (pt_cmpR op_eq (call_g G__law_coin (hr.mono (by omega)) rfl T.m__law_coin T.F__law_coin.kp T.b__law_coin .nil pass0 (pa_cons (pv 0) (pa_cons pe_int pa_nil))) pe_int (nomark _))
      (pss_one (ps_set (i := 3) sc__law_right.nd rfl (by first | exact Or.inl rfl | exact Or.inr rfl) (call_g G__law_full_tree (hr.mono (by omega)) rfl T.m__law_full_tree T.F__law_full_tree.kp T.b__law_full_tree .nil pass0 (pa_cons (pv 0) (pa_cons (pv 1) (pa_cons pe_int pa_nil))))))
      (pss_one (ps_set (i := 3) sc__law_right.nd rfl (by first | exact Or.inl rfl | exact Or.inr rfl) (call_g G__law_any_tree (hr.mono (by omega)) rfl T.m__law_any_tree T.F__law_any_tree.kp T.b__law_any_tree .nil pass0 (pa_cons (pv 0) (pa_cons (pe_slice sl_list (pv 1) po_none (po_some (pv 2))) (pa_cons (pe_lst (pa_cons (call_g G__law_coin (hr.mono (by omega)) rfl T.m__law_coin T.F__law_coin.kp T.b__law_coin .nil pass0 (pa_cons (pv 0) (pa_cons pe_int pa_nil))) pa_nil)) (pa_cons pe_int pa_nil))))))))
      (pss_cons (ps_set (i := 4) sc__law_right.nd rfl (by first | exact Or.inl rfl | exact Or.inr rfl) (pe_callB (call_reprD hr) (by rfl) T.z_repr (by decide +kernel) (pa_cons (pv 3) pa_nil)))
      (pss_cons (ps_for PassesOwn.never rfl (pi_range1 (by rfl) T.z_range (pa_cons pe_int pa_nil)) (pg_name (i := 5) sc__law_right.nd rfl (by first | exact Or.inl rfl | exact Or.inr rfl))
      (pss_cons (ps_setLc (i := 6) (own := [("title", 7)]) (g := gName 7) rfl sc__law_right.nd rfl rfl (sw_true rfl rfl rfl (by decide +kernel)) (pi_list (pv 1)) (blkOk_by (own := [("title", 7)]) (N := ["purse", "titles", "size", "found", "ahead", "turn", "some", "title", "handed", "asked", "outcome", "chain"]) (sc := defScope s__law_right) (by decide +kernel)) (fun _ _ _ _ _ => pg_name (i := 7) sc__law_right.nd rfl (Or.inl rfl)) (fun _ _ _ _ _ => (pts_one (pt_cmpR op_eq (call_g G__law_coin (hr.mono (by omega)) rfl T.m__law_coin T.F__law_coin.kp T.b__law_coin .nil pass0 (pa_cons (pv 0) (pa_cons pe_int pa_nil))) pe_int (nomark _)))) (fun _ _ _ _ _ => (pv 7)))
      (pss_cons (ps_set (i := 8) sc__law_right.nd rfl (by first | exact Or.inl rfl | exact Or.inr rfl) (pe_callTy call_list_of (by rfl) T.z_list (by decide +kernel) (pa_cons (pv 6) pa_nil)))
      (pss_one (ps_for PassesOwn.never rfl (pi_range1 (by rfl) T.z_range (pa_cons pe_int pa_nil)) (pg_name (i := 9) sc__law_right.nd rfl (by first | exact Or.inl rfl | exact Or.inr rfl))
      (pss_cons (ps_set (i := 10) sc__law_right.nd rfl (by first | exact Or.inl rfl | exact Or.inr rfl) (pe_ifExp (pt_cmpR op_eq (pv 9) pe_int (nomark _)) (call_gK0 G_walk (hr.mono (by omega)) rfl T.m_walk T.F_walk.kp (T.k_walk_told_lot) pass0 (pk_cons (pv 3) (pk_cons (pv 8) pk_nil))) (call_g G_walk (hr.mono (by omega)) rfl T.m_walk T.F_walk.kp T.b_walk .nil pass0 (pa_cons (pv 3) (pa_cons (pv 8) pa_nil)))))
      (pss_cons (ps_if (pt_cmpR op_ne (pe_callB (call_reprD hr) (by rfl) T.z_repr (by decide +kernel) (pa_cons (pv 10) pa_nil)) (pe_callB (call_reprD hr) (by rfl) T.z_repr (by decide +kernel) (pa_cons (call_g G__law_led_to (hr.mono (by omega)) rfl T.m__law_led_to T.F__law_led_to.kp T.b__law_led_to .nil pass0 (pa_cons (pv 3) (pa_cons (pv 6) pa_nil))) pa_nil)) (nomark _))
      (pss_one (ps_ret pe_bl))
      pss_nil)
      (pss_cons (ps_if (pt_cmpR op_eq (pe_ix (r := rIxT K) ix_tup (pv 10) pe_int (fun _ _ => rfl)) pe_str (nomark _))
      (pss_cons (ps_set (i := 11) sc__law_right.nd rfl (by first | exact Or.inl rfl | exact Or.inr rfl) (pe_ix (r := rIxT K) ix_tup (pv 10) pe_int (fun _ _ => rfl)))
      (pss_one (ps_expr (pe_bm PySem.F.plainAttrs_list PySem.F.slot_list_append PySem.F.type_list_append mt_append (pv 11) (pa_cons (pe_tup (pa_cons pe_str (pa_cons pe_str pa_nil))) pa_nil)))))
      pss_nil)
      (pss_one (ps_if (PW.pt (pw_or (pt_cmpR (op_neD hr.units) (pv 8) (pv 6) (nomark _)) (pw_or1 (pt_cmpR op_ne (pe_callB (call_reprD hr) (by rfl) T.z_repr (by decide +kernel) (pa_cons (pv 3) pa_nil)) (pv 4) (nomark _)))))
      (pss_one (ps_ret pe_bl))
      pss_nil))))))))))
      (pss_one (ps_ret pe_bl))))))), ?_⟩
  refine ⟨_, rfl, p, _, _, rfl, u0, by decide, by decide, by decide, fun L H2 xs b2 u2 nL eL zl nm => ?_⟩
  have pL : L ≠ p := fun z => by
    obtain ⟨_, _, _, e, _⟩ := u0
    rw [z, e] at nL
    exact nomatch nL
  have ht2 : Ns K H2 [p] L 8 xs := ⟨.inl (.inl (hid_of (nin1 pL) eL)), by omega, by omega, nm⟩
  refine ⟨_, rfl, p, 8, _, rfl, u2, by decide, by decide, by decide, fun r3 H3 r30 r31 b3 u3 => ⟨_, _, rfl, rfl, ?_⟩⟩
  refine ⟨_, rfl, p, 9, _, rfl, u3, by decide, by decide, by decide, fun r4 H4 r40 r41 b4 u4 => ⟨rfl, _, rfl, ?_⟩⟩
  have b4' := (b2.trans b3).trans b4
  have ht4 := (ht2.put b3 (fun _ h => h)).put b4 (fun _ h => h)
  have eL4 := (b3.trans b4) L _ (nin1 pL) eL
  refine ite2 (fun z => ?_) (fun z => ?_)
  · refine ⟨_, rfl, _, rfl, p, L, 0, _, xs, rfl, u4, by decide, ht4, by decide, by omega, fun f H9 d q b9' u9' D9 T9' => ?_⟩
    have T9 : Tr 10 d q := T9'.mono (by decide)
    have b9 := b4'.trans b9'
    have eL9 := b9' L _ (nin1 pL) eL4
    obtain ⟨N, hN1, u9⟩ : ∃ N, N < 10 ^ 10 ∧ Pu H9 p N := ⟨_, by decide, u9'⟩
    have sz := tr_sz T9
    have fits := sz.fits (by decide)
    refine ⟨_, rfl, f, d, rfl, dpSame (hid_same _ _) D9, sz.sh, Nat.le_trans sz.dp (by decide), fits, ?_⟩
    refine ⟨6, rfl, by decide, by decide, ?_⟩
    refine for_range (lo := 0) (n := 6) (fun i σ H' => ∃ v5 v6 v7 v8 v9 v10 v11 : Option V, σ = [some (.ref p), some (.ref L), some (.int (1 + r3)), some (.ref f), some (.str d.shown), v5, v6, v7, v8, v9, v10, v11] ∧ But [p] H H' ∧ Pu H' p (N + 8 * i) ∧
      Dp K (hid [p] H') (.ref f) d ∧ H' L = some (.lst (xs.map V.str))) ⟨none, none, none, none, none, none, none, rfl, b9, u9, D9, eL9⟩ ?_ ?_
    · rintro i σ Ha hi ⟨v5, v6, v7, v8, v9, v10, v11, rfl, ba, ua, Da, eLa⟩
      refine ⟨_, rfl, L, rfl, ⟨_, SqL.of eLa⟩, fun D nD => ?_⟩
      have pD := ua.ne nD
      have DL : L ≠ D := ne_of_none eLa nD
      have nD0 : H D = none := by
        cases z : H D with
        | none => rfl
        | some o => exact nomatch (ba D o (nin1 pD.symm) z).symm.trans nD
      refine lc_list (K := K) (a := L) (xs := xs.map V.str) (fun j Hb => ∃ ys : List Str, But [p] Ha Hb ∧ Pu Hb p (N + 8 * i + j) ∧ Hb D = some (.lst (ys.map V.str)) ∧ ys.length ≤ j ∧ ∀ y ∈ ys, y ∈ xs)
        ⟨[], (But.refl _ _).new nD, ua.new nD, upd_same, Nat.le_refl _, fun _ h => nomatch h⟩ ?_ ?_ ?_
      · rintro j Hb _ ⟨ys, bb, _⟩
        exact SqL.of (bb L _ (nin1 pL) eLa)
      · rintro j x Hb hx ⟨ys, bb, ub, eb, lb, mb⟩
        have hj : j < 8 := by
          have := (List.getElem?_eq_some_iff.mp hx).1
          rw [List.length_map] at this
          omega
        obtain ⟨y, hy, rfl⟩ := List.mem_map.mp (List.mem_of_getElem? hx)
        refine ⟨rfl, ?_⟩
        refine ⟨_, rfl, p, 2, _, rfl, ub, by omega, by decide, by decide, fun r Hc r0 r1 bc uc => ⟨rfl, _, rfl, ?_⟩⟩
        refine ite2 (fun z => ?_) (fun z => ?_)
        · refine ⟨_, rfl, ys.map V.str, bc D _ (nin1 pD.symm) eb, small1000 (by rw [List.length_map]; omega), ys ++ [y], But.own (bb.trans bc) nD, (uc.put (ps := [D]) ((But.refl _ _).put (by simp)) (nin1 pD)).mono (by omega), ?_, ?_, ?_⟩
          · rw [List.map_append]; exact upd_same
          · rw [List.length_append, List.length_singleton]; omega
          · intro u hu
            rcases List.mem_append.mp hu with hu | hu
            · exact mb u hu
            · rw [List.mem_singleton.mp hu]; exact hy
        · exact ⟨ys, bb.trans bc, uc.mono (by omega), bc D _ (nin1 pD.symm) eb, by omega, mb⟩
      · rintro Hb ⟨ys, bb, ub, eb, lb, mb⟩
        have nsh : SeqAt.shaped (namesD ys) = true := names_shaped fun y hy => (nm y (mb y hy)).2.2
        refine ⟨_, rfl, D, _, rfl, .inl (SqL.of eb), fun Hd nHd => ?_⟩
        have pHd := ub.ne nHd
        have DHd : D ≠ Hd := ne_of_none eb nHd
        have LHd : L ≠ Hd := ne_of_none (bb L _ (nin1 pL) eLa) nHd
        have nHd0 : H Hd = none := by
          cases z : H Hd with
          | none => rfl
          | some o => exact nomatch ((ba.trans bb) Hd o (nin1 pHd.symm) z).symm.trans nHd
        refine ⟨2, rfl, by decide, by decide, ?_⟩
        refine for_range (lo := 0) (n := 2) (fun j σ Hc => ∃ v9 v10 v11 : Option V, σ = [some (.ref p), some (.ref L), some (.int (1 + r3)), some (.ref f), some (.str d.shown), some (.int (0 + i)), some (.ref D), v7, some (.ref Hd), v9, v10, v11] ∧ But [p] H Hc ∧ Pu Hc p (N + 8 * i + 8) ∧
          Dp K (hid [p] Hc) (.ref f) d ∧ Hc L = some (.lst (xs.map V.str)) ∧ Hc D = some (.lst (ys.map V.str)) ∧ Hc Hd = some (.lst (ys.map V.str))) ⟨v9, v10, v11, rfl, (ba.trans bb).new nHd, (ub.new nHd).mono ?_, dpSame (But.same (bb.new nHd)) Da, ?_, ?_, upd_same⟩ ?_ ?_
        · rw [List.length_map]; omega
        · rw [upd_ne LHd]; exact bb L _ (nin1 pL) eLa
        · rw [upd_ne DHd]; exact eb
        · rintro j σ Hc hj ⟨v9, v10, v11, rfl, bc, uc, Dc, eLc, eDc, eHc⟩
          have Dc' := dpSame (hid_same _ _) Dc
          refine ⟨_, rfl, rfl, _, rfl, ?_⟩
          obtain ⟨tt, htt, uniq⟩ := led_one T9 ys
          refine ite2 (fun z => ?_) (fun z => ?_)
          · refine ⟨_, rfl, _, rfl, f, Hd, d, q, ys, rfl, Dc', T9, SqL.of eHc, fun r t H3 hN hLed hTold => ?_⟩
            have et : t = tt := (uniq t).mp hLed
            subst et
            obtain ⟨s3, Dr⟩ := hN.facts
            have tz := told_sz hTold
            refine ⟨_, rfl, r, t, rfl, Dr, tz.sh, Nat.le_trans tz.dp (by decide), tz.fits (by decide), ?_⟩
            refine ⟨_, rfl, _, rfl, f, D, d, q, ys, rfl, dpSame s3 Dc', T9, SqL.of (s3 _ _ eDc), fun r2 t2 h2 hLed2 hT2 => ?_⟩
            have et2 : t2 = t := (uniq t2).mp hLed2
            subst et2
            refine ⟨r2, t2, rfl, h2, tz.sh, Nat.le_trans tz.dp (by decide), tz.fits (by decide), rfl, _, rfl, ?_⟩
            refine iteNS rfl ?_
            rcases hN with ⟨w, rfl, hw, rfl, hd1⟩ | ⟨ds, c, vs, rfl, _, nc, nr, er, ec, hz⟩
            · obtain ⟨_, zs, e, hs, ha⟩ := tupI hd1
              cases e
              obtain ⟨w1, w2, rfl, g1, ha1⟩ := consI ha
              cases (strI g1)
              cases (nilI ha1)
              refine ⟨_, rfl, _, _, _, .str w, rfl, rfl, hs, rfl, rfl, _, rfl, ?_⟩
              have ne : (decide (V.str w = V.str "error")) = false := by
                rcases hw with rfl | rfl <;> decide +kernel
              rw [ne]
              refine iteF ?_
              have b5 := bc
              have u5 := uc
              have D5 := Dc
              have eL5 := eLc
              have eD5 := eDc
              have eH5 := eHc
              refine ⟨_, rfl, _, rfl, namesD ys, namesD ys, names_dp (SqL.of eH5), names_dp (SqL.of eD5), nsh, nsh, _, rfl, ?_⟩
              rw [SeqAt.eqv_refl _ (SeqAt.canLay_of_shaped nsh)]
              refine ⟨_, rfl, f, d, rfl, dpSame (hid_same _ _) D5, sz.sh, Nat.le_trans sz.dp (by decide), fits, _, rfl, rfl, _, rfl, ?_⟩
              refine iteNS rfl ?_
              exact ⟨_, _, _, rfl, b5, u5, D5, eL5, eD5, eH5⟩
            · refine ⟨_, rfl, r, _, _, .str "error", rfl, rfl, SqT.of er, rfl, rfl, _, rfl, ?_⟩
              refine iteT ?_
              refine ⟨_, rfl, r, _, _, .ref c, rfl, rfl, SqT.of er, rfl, ?_⟩
              refine ⟨_, rfl, .inl ⟨rfl, _, SqL.of ec⟩, (by show 2 ≤ sizeLine; decide), fun t7 n7 => ?_⟩
              have ec7 : upd H3 t7 (.tup [.str "from", .str "x"]) c = some (.lst vs) := by rw [upd_ne (ne_of_none ec n7)]; exact ec
              refine ⟨c, vs, _, rfl, rfl, ec7, ?_, ?_⟩
              · have hv : vs.length = ds.length := dpaLen hz
                cases hTold with
                | err _ hl _ => exact small1000 (by omega)
              have bx : But [p] Hc (upd (upd H3 t7 (.tup [.str "from", .str "x"])) c (.lst (vs ++ [.ref t7]))) := But.own ((But.of s3).new n7) nc
              have cp : p ≠ c := uc.ne nc
              have b5 := bc.trans bx
              have u5 : Pu (upd (upd H3 t7 (.tup [.str "from", .str "x"])) c (.lst (vs ++ [.ref t7]))) p (N + 8 * i + 8) := by
                obtain ⟨A1, A2, A3, e1, e2⟩ := uc
                refine ⟨A1, A2, A3, ?_, e2⟩
                rw [upd_ne cp, upd_ne (ne_of_none (s3 _ _ e1) n7)]
                exact s3 _ _ e1
              have D5 := dpSame (But.same bx) Dc
              have eL5 := bx L _ (nin1 pL) eLc
              have eD5 := bx D _ (nin1 pD.symm) eDc
              have eH5 := bx Hd _ (nin1 pHd.symm) eHc
              refine ⟨_, rfl, _, rfl, namesD ys, namesD ys, names_dp (SqL.of eH5), names_dp (SqL.of eD5), nsh, nsh, _, rfl, ?_⟩
              rw [SeqAt.eqv_refl _ (SeqAt.canLay_of_shaped nsh)]
              refine ⟨_, rfl, f, d, rfl, dpSame (hid_same _ _) D5, sz.sh, Nat.le_trans sz.dp (by decide), fits, _, rfl, rfl, _, rfl, ?_⟩
              refine iteNS rfl ?_
              exact ⟨_, _, _, rfl, b5, u5, D5, eL5, eD5, eH5⟩
          · refine ⟨_, rfl, _, rfl, f, Hd, d, q, ys, rfl, Dc', T9, SqL.of eHc, fun r t H3 hN hLed hTold => ?_⟩
            have et : t = tt := (uniq t).mp hLed
            subst et
            obtain ⟨s3, Dr⟩ := hN.facts
            have tz := told_sz hTold
            refine ⟨_, rfl, r, t, rfl, Dr, tz.sh, Nat.le_trans tz.dp (by decide), tz.fits (by decide), ?_⟩
            refine ⟨_, rfl, _, rfl, f, D, d, q, ys, rfl, dpSame s3 Dc', T9, SqL.of (s3 _ _ eDc), fun r2 t2 h2 hLed2 hT2 => ?_⟩
            have et2 : t2 = t := (uniq t2).mp hLed2
            subst et2
            refine ⟨r2, t2, rfl, h2, tz.sh, Nat.le_trans tz.dp (by decide), tz.fits (by decide), rfl, _, rfl, ?_⟩
            refine iteNS rfl ?_
            rcases hN with ⟨w, rfl, hw, rfl, hd1⟩ | ⟨ds, c, vs, rfl, _, nc, nr, er, ec, hz⟩
            · obtain ⟨_, zs, e, hs, ha⟩ := tupI hd1
              cases e
              obtain ⟨w1, w2, rfl, g1, ha1⟩ := consI ha
              cases (strI g1)
              cases (nilI ha1)
              refine ⟨_, rfl, _, _, _, .str w, rfl, rfl, hs, rfl, rfl, _, rfl, ?_⟩
              have ne : (decide (V.str w = V.str "error")) = false := by
                rcases hw with rfl | rfl <;> decide +kernel
              rw [ne]
              refine iteF ?_
              have b5 := bc
              have u5 := uc
              have D5 := Dc
              have eL5 := eLc
              have eD5 := eDc
              have eH5 := eHc
              refine ⟨_, rfl, _, rfl, namesD ys, namesD ys, names_dp (SqL.of eH5), names_dp (SqL.of eD5), nsh, nsh, _, rfl, ?_⟩
              rw [SeqAt.eqv_refl _ (SeqAt.canLay_of_shaped nsh)]
              refine ⟨_, rfl, f, d, rfl, dpSame (hid_same _ _) D5, sz.sh, Nat.le_trans sz.dp (by decide), fits, _, rfl, rfl, _, rfl, ?_⟩
              refine iteNS rfl ?_
              exact ⟨_, _, _, rfl, b5, u5, D5, eL5, eD5, eH5⟩
            · refine ⟨_, rfl, r, _, _, .str "error", rfl, rfl, SqT.of er, rfl, rfl, _, rfl, ?_⟩
              refine iteT ?_
              refine ⟨_, rfl, r, _, _, .ref c, rfl, rfl, SqT.of er, rfl, ?_⟩
              refine ⟨_, rfl, .inl ⟨rfl, _, SqL.of ec⟩, (by show 2 ≤ sizeLine; decide), fun t7 n7 => ?_⟩
              have ec7 : upd H3 t7 (.tup [.str "from", .str "x"]) c = some (.lst vs) := by rw [upd_ne (ne_of_none ec n7)]; exact ec
              refine ⟨c, vs, _, rfl, rfl, ec7, ?_, ?_⟩
              · have hv : vs.length = ds.length := dpaLen hz
                cases hTold with
                | err _ hl _ => exact small1000 (by omega)
              have bx : But [p] Hc (upd (upd H3 t7 (.tup [.str "from", .str "x"])) c (.lst (vs ++ [.ref t7]))) := But.own ((But.of s3).new n7) nc
              have cp : p ≠ c := uc.ne nc
              have b5 := bc.trans bx
              have u5 : Pu (upd (upd H3 t7 (.tup [.str "from", .str "x"])) c (.lst (vs ++ [.ref t7]))) p (N + 8 * i + 8) := by
                obtain ⟨A1, A2, A3, e1, e2⟩ := uc
                refine ⟨A1, A2, A3, ?_, e2⟩
                rw [upd_ne cp, upd_ne (ne_of_none (s3 _ _ e1) n7)]
                exact s3 _ _ e1
              have D5 := dpSame (But.same bx) Dc
              have eL5 := bx L _ (nin1 pL) eLc
              have eD5 := bx D _ (nin1 pD.symm) eDc
              have eH5 := bx Hd _ (nin1 pHd.symm) eHc
              refine ⟨_, rfl, _, rfl, namesD ys, namesD ys, names_dp (SqL.of eH5), names_dp (SqL.of eD5), nsh, nsh, _, rfl, ?_⟩
              rw [SeqAt.eqv_refl _ (SeqAt.canLay_of_shaped nsh)]
              refine ⟨_, rfl, f, d, rfl, dpSame (hid_same _ _) D5, sz.sh, Nat.le_trans sz.dp (by decide), fits, _, rfl, rfl, _, rfl, ?_⟩
              refine iteNS rfl ?_
              exact ⟨_, _, _, rfl, b5, u5, D5, eL5, eD5, eH5⟩
        · rintro σ Hc ⟨v9, v10, v11, rfl, bc, uc, Dc, eLc, eDc, eHc⟩
          exact ⟨_, _, _, _, _, _, _, rfl, bc, uc.mono (by omega), Dc, eLc⟩
    · rintro σ Ha ⟨v5, v6, v7, v8, v9, v10, v11, rfl, ba, ua, Da, eLa⟩
      exact hq Ha ba
  · refine ⟨_, rfl, _, rfl, _, rfl, _, rfl, L, _, rfl, SqL.of eL4, fun S nS => ?_⟩
    have pS := u4.ne nS
    have SL : L ≠ S := ne_of_none eL4 nS
    have nS0 : H S = none := by
      cases z : H S with
      | none => rfl
      | some o => exact nomatch (b4' S o (nin1 pS.symm) z).symm.trans nS
    refine ⟨_, rfl, p, 31, _, rfl, u4.new nS, by decide, by decide, by decide, fun r5 H5 r50 r51 b5 u5 => ?_⟩
    refine ⟨(by show 1 ≤ sizeLine; decide), fun l nl => ?_⟩
    have eS5 : H5 S = some (.lst ((xs.take (1 + r3).toNat).map V.str)) := by
      rw [← cut_names _ _ (by omega)]
      exact b5 S _ (nin1 pS.symm) upd_same
    have Sl : S ≠ l := ne_of_none eS5 nl
    have eS6 : upd H5 l (.lst [.int r5]) S = some (.lst ((xs.take (1 + r3).toNat).map V.str)) := by rw [upd_ne Sl]; exact eS5
    have b6 : But [p] H (upd H5 l (.lst [.int r5])) := ((b4'.new nS).trans b5).new nl
    have eL5 := b5 L _ (nin1 pL) (by rw [upd_ne SL]; exact eL4)
    have lL : L ≠ l := ne_of_none eL5 nl
    have eL6 : upd H5 l (.lst [.int r5]) L = some (.lst (xs.map V.str)) := by rw [upd_ne lL]; exact eL5
    have nl0 : H l = none := by
      cases z : H l with
      | none => rfl
      | some o => exact nomatch (((b4'.new nS).trans b5) l o (nin1 (u5.ne nl).symm) z).symm.trans nl
    have ltk : (xs.take (1 + r3).toNat).length = min (1 + r3).toNat xs.length := List.length_take
    refine ⟨p, S, l, r5, _, xs.take (1 + r3).toNat, rfl, u5.new nl, by decide, ⟨.inl (.inl (hid_of (nin2 pS.symm Sl) eS6)), by rw [ltk]; omega, by rw [ltk]; omega, fun x hx => nm x (List.mem_of_mem_take hx)⟩, upd_same, fun f H9 d q c' b9' u9' el9 D9' T9 => ?_⟩
    have b9 : But [p] H H9 := fun b o z e => b9' b o (nin2 (by simpa using z) (ne_of_none e nl0)) (b6 b o z e)
    have D9 := dpSame (hid_sub (show ∀ x, x ∈ [p] → x ∈ [p, l] by simp)) D9'
    have eL9 := b9' L _ (nin2 pL lL) eL6
    obtain ⟨N, hN1, u9⟩ : ∃ N, N < 10 ^ 10 ∧ Pu H9 p N := ⟨_, by decide, u9'⟩
    have sz := tr_sz T9
    have fits := sz.fits (by decide)
    refine ⟨_, rfl, f, d, rfl, dpSame (hid_same _ _) D9, sz.sh, Nat.le_trans sz.dp (by decide), fits, ?_⟩
    refine ⟨6, rfl, by decide, by decide, ?_⟩
    refine for_range (lo := 0) (n := 6) (fun i σ H' => ∃ v5 v6 v7 v8 v9 v10 v11 : Option V, σ = [some (.ref p), some (.ref L), some (.int (1 + r3)), some (.ref f), some (.str d.shown), v5, v6, v7, v8, v9, v10, v11] ∧ But [p] H H' ∧ Pu H' p (N + 8 * i) ∧
      Dp K (hid [p] H') (.ref f) d ∧ H' L = some (.lst (xs.map V.str))) ⟨none, none, none, none, none, none, none, rfl, b9, u9, D9, eL9⟩ ?_ ?_
    · rintro i σ Ha hi ⟨v5, v6, v7, v8, v9, v10, v11, rfl, ba, ua, Da, eLa⟩
      refine ⟨_, rfl, L, rfl, ⟨_, SqL.of eLa⟩, fun D nD => ?_⟩
      have pD := ua.ne nD
      have DL : L ≠ D := ne_of_none eLa nD
      have nD0 : H D = none := by
        cases z : H D with
        | none => rfl
        | some o => exact nomatch (ba D o (nin1 pD.symm) z).symm.trans nD
      refine lc_list (K := K) (a := L) (xs := xs.map V.str) (fun j Hb => ∃ ys : List Str, But [p] Ha Hb ∧ Pu Hb p (N + 8 * i + j) ∧ Hb D = some (.lst (ys.map V.str)) ∧ ys.length ≤ j ∧ ∀ y ∈ ys, y ∈ xs)
        ⟨[], (But.refl _ _).new nD, ua.new nD, upd_same, Nat.le_refl _, fun _ h => nomatch h⟩ ?_ ?_ ?_
      · rintro j Hb _ ⟨ys, bb, _⟩
        exact SqL.of (bb L _ (nin1 pL) eLa)
      · rintro j x Hb hx ⟨ys, bb, ub, eb, lb, mb⟩
        have hj : j < 8 := by
          have := (List.getElem?_eq_some_iff.mp hx).1
          rw [List.length_map] at this
          omega
        obtain ⟨y, hy, rfl⟩ := List.mem_map.mp (List.mem_of_getElem? hx)
        refine ⟨rfl, ?_⟩
        refine ⟨_, rfl, p, 2, _, rfl, ub, by omega, by decide, by decide, fun r Hc r0 r1 bc uc => ⟨rfl, _, rfl, ?_⟩⟩
        refine ite2 (fun z => ?_) (fun z => ?_)
        · refine ⟨_, rfl, ys.map V.str, bc D _ (nin1 pD.symm) eb, small1000 (by rw [List.length_map]; omega), ys ++ [y], But.own (bb.trans bc) nD, (uc.put (ps := [D]) ((But.refl _ _).put (by simp)) (nin1 pD)).mono (by omega), ?_, ?_, ?_⟩
          · rw [List.map_append]; exact upd_same
          · rw [List.length_append, List.length_singleton]; omega
          · intro u hu
            rcases List.mem_append.mp hu with hu | hu
            · exact mb u hu
            · rw [List.mem_singleton.mp hu]; exact hy
        · exact ⟨ys, bb.trans bc, uc.mono (by omega), bc D _ (nin1 pD.symm) eb, by omega, mb⟩
      · rintro Hb ⟨ys, bb, ub, eb, lb, mb⟩
        have nsh : SeqAt.shaped (namesD ys) = true := names_shaped fun y hy => (nm y (mb y hy)).2.2
        refine ⟨_, rfl, D, _, rfl, .inl (SqL.of eb), fun Hd nHd => ?_⟩
        have pHd := ub.ne nHd
        have DHd : D ≠ Hd := ne_of_none eb nHd
        have LHd : L ≠ Hd := ne_of_none (bb L _ (nin1 pL) eLa) nHd
        have nHd0 : H Hd = none := by
          cases z : H Hd with
          | none => rfl
          | some o => exact nomatch ((ba.trans bb) Hd o (nin1 pHd.symm) z).symm.trans nHd
        refine ⟨2, rfl, by decide, by decide, ?_⟩
        refine for_range (lo := 0) (n := 2) (fun j σ Hc => ∃ v9 v10 v11 : Option V, σ = [some (.ref p), some (.ref L), some (.int (1 + r3)), some (.ref f), some (.str d.shown), some (.int (0 + i)), some (.ref D), v7, some (.ref Hd), v9, v10, v11] ∧ But [p] H Hc ∧ Pu Hc p (N + 8 * i + 8) ∧
          Dp K (hid [p] Hc) (.ref f) d ∧ Hc L = some (.lst (xs.map V.str)) ∧ Hc D = some (.lst (ys.map V.str)) ∧ Hc Hd = some (.lst (ys.map V.str))) ⟨v9, v10, v11, rfl, (ba.trans bb).new nHd, (ub.new nHd).mono ?_, dpSame (But.same (bb.new nHd)) Da, ?_, ?_, upd_same⟩ ?_ ?_
        · rw [List.length_map]; omega
        · rw [upd_ne LHd]; exact bb L _ (nin1 pL) eLa
        · rw [upd_ne DHd]; exact eb
        · rintro j σ Hc hj ⟨v9, v10, v11, rfl, bc, uc, Dc, eLc, eDc, eHc⟩
          have Dc' := dpSame (hid_same _ _) Dc
          refine ⟨_, rfl, rfl, _, rfl, ?_⟩
          obtain ⟨tt, htt, uniq⟩ := led_one T9 ys
          refine ite2 (fun z => ?_) (fun z => ?_)
          · refine ⟨_, rfl, _, rfl, f, Hd, d, q, ys, rfl, Dc', T9, SqL.of eHc, fun r t H3 hN hLed hTold => ?_⟩
            have et : t = tt := (uniq t).mp hLed
            subst et
            obtain ⟨s3, Dr⟩ := hN.facts
            have tz := told_sz hTold
            refine ⟨_, rfl, r, t, rfl, Dr, tz.sh, Nat.le_trans tz.dp (by decide), tz.fits (by decide), ?_⟩
            refine ⟨_, rfl, _, rfl, f, D, d, q, ys, rfl, dpSame s3 Dc', T9, SqL.of (s3 _ _ eDc), fun r2 t2 h2 hLed2 hT2 => ?_⟩
            have et2 : t2 = t := (uniq t2).mp hLed2
            subst et2
            refine ⟨r2, t2, rfl, h2, tz.sh, Nat.le_trans tz.dp (by decide), tz.fits (by decide), rfl, _, rfl, ?_⟩
            refine iteNS rfl ?_
            rcases hN with ⟨w, rfl, hw, rfl, hd1⟩ | ⟨ds, c, vs, rfl, _, nc, nr, er, ec, hz⟩
            · obtain ⟨_, zs, e, hs, ha⟩ := tupI hd1
              cases e
              obtain ⟨w1, w2, rfl, g1, ha1⟩ := consI ha
              cases (strI g1)
              cases (nilI ha1)
              refine ⟨_, rfl, _, _, _, .str w, rfl, rfl, hs, rfl, rfl, _, rfl, ?_⟩
              have ne : (decide (V.str w = V.str "error")) = false := by
                rcases hw with rfl | rfl <;> decide +kernel
              rw [ne]
              refine iteF ?_
              have b5 := bc
              have u5 := uc
              have D5 := Dc
              have eL5 := eLc
              have eD5 := eDc
              have eH5 := eHc
              refine ⟨_, rfl, _, rfl, namesD ys, namesD ys, names_dp (SqL.of eH5), names_dp (SqL.of eD5), nsh, nsh, _, rfl, ?_⟩
              rw [SeqAt.eqv_refl _ (SeqAt.canLay_of_shaped nsh)]
              refine ⟨_, rfl, f, d, rfl, dpSame (hid_same _ _) D5, sz.sh, Nat.le_trans sz.dp (by decide), fits, _, rfl, rfl, _, rfl, ?_⟩
              refine iteNS rfl ?_
              exact ⟨_, _, _, rfl, b5, u5, D5, eL5, eD5, eH5⟩
            · refine ⟨_, rfl, r, _, _, .str "error", rfl, rfl, SqT.of er, rfl, rfl, _, rfl, ?_⟩
              refine iteT ?_
              refine ⟨_, rfl, r, _, _, .ref c, rfl, rfl, SqT.of er, rfl, ?_⟩
              refine ⟨_, rfl, .inl ⟨rfl, _, SqL.of ec⟩, (by show 2 ≤ sizeLine; decide), fun t7 n7 => ?_⟩
              have ec7 : upd H3 t7 (.tup [.str "from", .str "x"]) c = some (.lst vs) := by rw [upd_ne (ne_of_none ec n7)]; exact ec
              refine ⟨c, vs, _, rfl, rfl, ec7, ?_, ?_⟩
              · have hv : vs.length = ds.length := dpaLen hz
                cases hTold with
                | err _ hl _ => exact small1000 (by omega)
              have bx : But [p] Hc (upd (upd H3 t7 (.tup [.str "from", .str "x"])) c (.lst (vs ++ [.ref t7]))) := But.own ((But.of s3).new n7) nc
              have cp : p ≠ c := uc.ne nc
              have b5 := bc.trans bx
              have u5 : Pu (upd (upd H3 t7 (.tup [.str "from", .str "x"])) c (.lst (vs ++ [.ref t7]))) p (N + 8 * i + 8) := by
                obtain ⟨A1, A2, A3, e1, e2⟩ := uc
                refine ⟨A1, A2, A3, ?_, e2⟩
                rw [upd_ne cp, upd_ne (ne_of_none (s3 _ _ e1) n7)]
                exact s3 _ _ e1
              have D5 := dpSame (But.same bx) Dc
              have eL5 := bx L _ (nin1 pL) eLc
              have eD5 := bx D _ (nin1 pD.symm) eDc
              have eH5 := bx Hd _ (nin1 pHd.symm) eHc
              refine ⟨_, rfl, _, rfl, namesD ys, namesD ys, names_dp (SqL.of eH5), names_dp (SqL.of eD5), nsh, nsh, _, rfl, ?_⟩
              rw [SeqAt.eqv_refl _ (SeqAt.canLay_of_shaped nsh)]
              refine ⟨_, rfl, f, d, rfl, dpSame (hid_same _ _) D5, sz.sh, Nat.le_trans sz.dp (by decide), fits, _, rfl, rfl, _, rfl, ?_⟩
              refine iteNS rfl ?_
              exact ⟨_, _, _, rfl, b5, u5, D5, eL5, eD5, eH5⟩
          · refine ⟨_, rfl, _, rfl, f, Hd, d, q, ys, rfl, Dc', T9, SqL.of eHc, fun r t H3 hN hLed hTold => ?_⟩
            have et : t = tt := (uniq t).mp hLed
            subst et
            obtain ⟨s3, Dr⟩ := hN.facts
            have tz := told_sz hTold
            refine ⟨_, rfl, r, t, rfl, Dr, tz.sh, Nat.le_trans tz.dp (by decide), tz.fits (by decide), ?_⟩
            refine ⟨_, rfl, _, rfl, f, D, d, q, ys, rfl, dpSame s3 Dc', T9, SqL.of (s3 _ _ eDc), fun r2 t2 h2 hLed2 hT2 => ?_⟩
            have et2 : t2 = t := (uniq t2).mp hLed2
            subst et2
            refine ⟨r2, t2, rfl, h2, tz.sh, Nat.le_trans tz.dp (by decide), tz.fits (by decide), rfl, _, rfl, ?_⟩
            refine iteNS rfl ?_
            rcases hN with ⟨w, rfl, hw, rfl, hd1⟩ | ⟨ds, c, vs, rfl, _, nc, nr, er, ec, hz⟩
            · obtain ⟨_, zs, e, hs, ha⟩ := tupI hd1
              cases e
              obtain ⟨w1, w2, rfl, g1, ha1⟩ := consI ha
              cases (strI g1)
              cases (nilI ha1)
              refine ⟨_, rfl, _, _, _, .str w, rfl, rfl, hs, rfl, rfl, _, rfl, ?_⟩
              have ne : (decide (V.str w = V.str "error")) = false := by
                rcases hw with rfl | rfl <;> decide +kernel
              rw [ne]
              refine iteF ?_
              have b5 := bc
              have u5 := uc
              have D5 := Dc
              have eL5 := eLc
              have eD5 := eDc
              have eH5 := eHc
              refine ⟨_, rfl, _, rfl, namesD ys, namesD ys, names_dp (SqL.of eH5), names_dp (SqL.of eD5), nsh, nsh, _, rfl, ?_⟩
              rw [SeqAt.eqv_refl _ (SeqAt.canLay_of_shaped nsh)]
              refine ⟨_, rfl, f, d, rfl, dpSame (hid_same _ _) D5, sz.sh, Nat.le_trans sz.dp (by decide), fits, _, rfl, rfl, _, rfl, ?_⟩
              refine iteNS rfl ?_
              exact ⟨_, _, _, rfl, b5, u5, D5, eL5, eD5, eH5⟩
            · refine ⟨_, rfl, r, _, _, .str "error", rfl, rfl, SqT.of er, rfl, rfl, _, rfl, ?_⟩
              refine iteT ?_
              refine ⟨_, rfl, r, _, _, .ref c, rfl, rfl, SqT.of er, rfl, ?_⟩
              refine ⟨_, rfl, .inl ⟨rfl, _, SqL.of ec⟩, (by show 2 ≤ sizeLine; decide), fun t7 n7 => ?_⟩
              have ec7 : upd H3 t7 (.tup [.str "from", .str "x"]) c = some (.lst vs) := by rw [upd_ne (ne_of_none ec n7)]; exact ec
              refine ⟨c, vs, _, rfl, rfl, ec7, ?_, ?_⟩
              · have hv : vs.length = ds.length := dpaLen hz
                cases hTold with
                | err _ hl _ => exact small1000 (by omega)
              have bx : But [p] Hc (upd (upd H3 t7 (.tup [.str "from", .str "x"])) c (.lst (vs ++ [.ref t7]))) := But.own ((But.of s3).new n7) nc
              have cp : p ≠ c := uc.ne nc
              have b5 := bc.trans bx
              have u5 : Pu (upd (upd H3 t7 (.tup [.str "from", .str "x"])) c (.lst (vs ++ [.ref t7]))) p (N + 8 * i + 8) := by
                obtain ⟨A1, A2, A3, e1, e2⟩ := uc
                refine ⟨A1, A2, A3, ?_, e2⟩
                rw [upd_ne cp, upd_ne (ne_of_none (s3 _ _ e1) n7)]
                exact s3 _ _ e1
              have D5 := dpSame (But.same bx) Dc
              have eL5 := bx L _ (nin1 pL) eLc
              have eD5 := bx D _ (nin1 pD.symm) eDc
              have eH5 := bx Hd _ (nin1 pHd.symm) eHc
              refine ⟨_, rfl, _, rfl, namesD ys, namesD ys, names_dp (SqL.of eH5), names_dp (SqL.of eD5), nsh, nsh, _, rfl, ?_⟩
              rw [SeqAt.eqv_refl _ (SeqAt.canLay_of_shaped nsh)]
              refine ⟨_, rfl, f, d, rfl, dpSame (hid_same _ _) D5, sz.sh, Nat.le_trans sz.dp (by decide), fits, _, rfl, rfl, _, rfl, ?_⟩
              refine iteNS rfl ?_
              exact ⟨_, _, _, rfl, b5, u5, D5, eL5, eD5, eH5⟩
        · rintro σ Hc ⟨v9, v10, v11, rfl, bc, uc, Dc, eLc, eDc, eHc⟩
          exact ⟨_, _, _, _, _, _, _, rfl, bc, uc.mono (by omega), Dc, eLc⟩
    · rintro σ Ha ⟨v5, v6, v7, v8, v9, v10, v11, rfl, ba, ua, Da, eLa⟩
      exact hq Ha ba
def spLaw (K : PySem.W.Frag) : Sp := fun vs H Q _ => ∃ (a : Addr) (ns : List Int), vs = [.ref a] ∧ SqL K H a (ns.map V.int) ∧ ns.length ≤ 63 ∧ ∀ H', Q (.bl true) H'
theorem ok_law (T : Txt w K mg) : FnG P w K mg base CX0 30 T.f_law T.d_law ["script"] (spLaw K) := by
  refine def_ok T.F_law sc_law (fun vs H Q E h => ?_) (fun cdv A outer s H vs Q E hr h => ?_)
  · obtain ⟨a, ns, rfl, _⟩ := h
    rfl
  obtain ⟨a, ns, rfl, hS, hl, hq⟩ := h
  have G__law_purse := ok_purse (P := P) (w := w) (base := base) T
  have G__law_right := ok_right (P := P) (w := w) (base := base) T
  refine ⟨_, (pss_cons (ps_for PassesOwn.never rfl (pi_range1 (by rfl) T.z_range (pa_cons (pe_callB (call_max2 rfl) (by rfl) T.z_max (by decide +kernel) (pa_cons pe_int (pa_cons (pe_callB (call_min2 rfl) (by rfl) T.z_min (by decide +kernel) (pa_cons pe_int (pa_cons (pe_callB call_len_seq (by rfl) T.z_len (by decide +kernel) (pa_cons (pv 0) pa_nil)) pa_nil))) pa_nil))) pa_nil)) (pg_name (i := 1) sc_law.nd rfl (by first | exact Or.inl rfl | exact Or.inr rfl))
      (pss_one (ps_if (pt_not (pt_val (call_g G__law_right (hr.mono (by omega)) rfl T.m__law_right T.F__law_right.kp T.b__law_right .nil pass0 (pa_cons (call_g G__law_purse (hr.mono (by omega)) rfl T.m__law_purse T.F__law_purse.kp T.b__law_purse .nil pass0 (pa_cons (pv 0) (pa_cons (pv 1) pa_nil))) pa_nil))))
      (pss_one (ps_ret pe_bl))
      pss_nil)))
      (pss_one (ps_ret pe_bl))), ?_⟩
  have hlen : (ns.map V.int).length = ns.length := List.length_map _
  refine ⟨_, rfl, a, _, rfl, .inl hS, _, _, rfl, _, _, rfl, ?_⟩
  have key : ∀ N : Int, N = (if (if (((ns.map V.int).length : Nat) : Int) < 8 then (((ns.map V.int).length : Nat) : Int) else 8) > 1 then (if (((ns.map V.int).length : Nat) : Int) < 8 then (((ns.map V.int).length : Nat) : Int) else 8) else 1) → 0 ≤ N ∧ N ≤ 8 := by
    intro N e
    split at e <;> split at e <;> omega
  obtain ⟨g0, g1⟩ := key _ rfl
  generalize (if (if (((ns.map V.int).length : Nat) : Int) < 8 then (((ns.map V.int).length : Nat) : Int) else 8) > 1 then (if (((ns.map V.int).length : Nat) : Int) < 8 then (((ns.map V.int).length : Nat) : Int) else 8) else 1) = N at *
  refine ⟨N, rfl, by omega, by omega, ?_⟩
  refine for_range (lo := 0) (n := N.toNat) (fun i σ H' => Same H H' ∧ ∃ v : Option V, σ = [some (.ref a), v]) ⟨Same.refl _, none, rfl⟩ ?_ ?_
  · rintro i σ H1 hi ⟨s1, v, rfl⟩
    refine ⟨_, rfl, _, rfl, a, ns, _, rfl, s1.seq hS, hl, by omega, by omega, fun p np H2 s2 u2 => ?_⟩
    refine ⟨p, rfl, u2, fun H3 b3 => ⟨_, rfl, ?_⟩⟩
    refine ⟨fun b o e => ?_, _, rfl⟩
    have e1 := s1 _ _ e
    exact b3 b o (nin1 (ne_of_none e1 np)) (s2 _ _ e1)
  · rintro σ H1 ⟨s1, v, rfl⟩
    exact hq H1
theorem all_mk {l : PySem.W.OpenLaw} {w : World} {K : PySem.W.Frag} {h : Heap} {mg : Str → Option Value} {fa : Addr} {f1 f2 f3 f4 f5 f6 f7 f8 f9 f10 f11 f12 : Addr} {od1 an1 od2 an2 od3 an3 od4 an4 od5 an5 od6 an6 od7 an7 od8 an8 od9 an9 od10 an10 od11 an11 od12 an12 : Option Addr} {sl1 sl2 sl3 sl4 sl5 sl6 sl7 sl8 sl9 sl10 sl11 sl12 : Array (Option Value)} {oc1 kV1 dc1 pm1 cd1 ct1 oc2 kV2 dc2 pm2 cd2 ct2 oc3 kV3 dc3 pm3 cd3 ct3 oc4 kV4 dc4 pm4 cd4 ct4 oc5 kV5 dc5 pm5 cd5 ct5 oc6 kV6 dc6 pm6 cd6 ct6 oc7 kV7 dc7 pm7 cd7 ct7 oc8 kV8 dc8 pm8 cd8 ct8 oc9 kV9 dc9 pm9 cd9 ct9 oc10 kV10 dc10 pm10 cd10 ct10 oc11 kV11 dc11 pm11 cd11 ct11 oc12 kV12 dc12 pm12 cd12 ct12 : Value} (X : K.In h) (G : h.Ns mainGlobals mg) (hfa : mg "law" = some (.ref fa))
    (a1 : PySem.W.nsIn K mainGlobals "walk" = some (some (.ref f1)))
    (l1 : K.lookup f1 = some ⟨oc1, od1, .func (PySem.W.fnOf "walk" "walk" (defArgs s_walk) (defBody s_walk) (defScope s_walk) .none kV1 dc1 pm1 an1 cd1 ct1), sl1⟩)
    (c1 : PySem.W.codeIn K cd1 "walk" = true)
    (k1 : PySem.W.keepIn K (.ref f1) = true)
    (a2 : PySem.W.nsIn K mainGlobals "copied_told" = some (some (.ref f2)))
    (l2 : K.lookup f2 = some ⟨oc2, od2, .func (PySem.W.fnOf "copied_told" "copied_told" (defArgs s_copied_told) (defBody s_copied_told) (defScope s_copied_told) .none kV2 dc2 pm2 an2 cd2 ct2), sl2⟩)
    (c2 : PySem.W.codeIn K cd2 "copied_told" = true)
    (k2 : PySem.W.keepIn K (.ref f2) = true)
    (a3 : PySem.W.nsIn K mainGlobals "_law_purse" = some (some (.ref f3)))
    (l3 : K.lookup f3 = some ⟨oc3, od3, .func (PySem.W.fnOf "_law_purse" "_law_purse" (defArgs s__law_purse) (defBody s__law_purse) (defScope s__law_purse) .none kV3 dc3 pm3 an3 cd3 ct3), sl3⟩)
    (c3 : PySem.W.codeIn K cd3 "_law_purse" = true)
    (k3 : PySem.W.keepIn K (.ref f3) = true)
    (a4 : PySem.W.nsIn K mainGlobals "_law_coin" = some (some (.ref f4)))
    (l4 : K.lookup f4 = some ⟨oc4, od4, .func (PySem.W.fnOf "_law_coin" "_law_coin" (defArgs s__law_coin) (defBody s__law_coin) (defScope s__law_coin) .none kV4 dc4 pm4 an4 cd4 ct4), sl4⟩)
    (c4 : PySem.W.codeIn K cd4 "_law_coin" = true)
    (k4 : PySem.W.keepIn K (.ref f4) = true)
    (a5 : PySem.W.nsIn K mainGlobals "_law_any_chain" = some (some (.ref f5)))
    (l5 : K.lookup f5 = some ⟨oc5, od5, .func (PySem.W.fnOf "_law_any_chain" "_law_any_chain" (defArgs s__law_any_chain) (defBody s__law_any_chain) (defScope s__law_any_chain) .none kV5 dc5 pm5 an5 cd5 ct5), sl5⟩)
    (c5 : PySem.W.codeIn K cd5 "_law_any_chain" = true)
    (k5 : PySem.W.keepIn K (.ref f5) = true)
    (a6 : PySem.W.nsIn K mainGlobals "_law_any_told" = some (some (.ref f6)))
    (l6 : K.lookup f6 = some ⟨oc6, od6, .func (PySem.W.fnOf "_law_any_told" "_law_any_told" (defArgs s__law_any_told) (defBody s__law_any_told) (defScope s__law_any_told) .none kV6 dc6 pm6 an6 cd6 ct6), sl6⟩)
    (c6 : PySem.W.codeIn K cd6 "_law_any_told" = true)
    (k6 : PySem.W.keepIn K (.ref f6) = true)
    (a7 : PySem.W.nsIn K mainGlobals "_law_any_tree" = some (some (.ref f7)))
    (l7 : K.lookup f7 = some ⟨oc7, od7, .func (PySem.W.fnOf "_law_any_tree" "_law_any_tree" (defArgs s__law_any_tree) (defBody s__law_any_tree) (defScope s__law_any_tree) .none kV7 dc7 pm7 an7 cd7 ct7), sl7⟩)
    (c7 : PySem.W.codeIn K cd7 "_law_any_tree" = true)
    (k7 : PySem.W.keepIn K (.ref f7) = true)
    (a8 : PySem.W.nsIn K mainGlobals "_law_long_menu" = some (some (.ref f8)))
    (l8 : K.lookup f8 = some ⟨oc8, od8, .func (PySem.W.fnOf "_law_long_menu" "_law_long_menu" (defArgs s__law_long_menu) (defBody s__law_long_menu) (defScope s__law_long_menu) .none kV8 dc8 pm8 an8 cd8 ct8), sl8⟩)
    (c8 : PySem.W.codeIn K cd8 "_law_long_menu" = true)
    (k8 : PySem.W.keepIn K (.ref f8) = true)
    (a9 : PySem.W.nsIn K mainGlobals "_law_full_tree" = some (some (.ref f9)))
    (l9 : K.lookup f9 = some ⟨oc9, od9, .func (PySem.W.fnOf "_law_full_tree" "_law_full_tree" (defArgs s__law_full_tree) (defBody s__law_full_tree) (defScope s__law_full_tree) .none kV9 dc9 pm9 an9 cd9 ct9), sl9⟩)
    (c9 : PySem.W.codeIn K cd9 "_law_full_tree" = true)
    (k9 : PySem.W.keepIn K (.ref f9) = true)
    (a10 : PySem.W.nsIn K mainGlobals "_law_led_to" = some (some (.ref f10)))
    (l10 : K.lookup f10 = some ⟨oc10, od10, .func (PySem.W.fnOf "_law_led_to" "_law_led_to" (defArgs s__law_led_to) (defBody s__law_led_to) (defScope s__law_led_to) .none kV10 dc10 pm10 an10 cd10 ct10), sl10⟩)
    (c10 : PySem.W.codeIn K cd10 "_law_led_to" = true)
    (k10 : PySem.W.keepIn K (.ref f10) = true)
    (a11 : PySem.W.nsIn K mainGlobals "_law_right" = some (some (.ref f11)))
    (l11 : K.lookup f11 = some ⟨oc11, od11, .func (PySem.W.fnOf "_law_right" "_law_right" (defArgs s__law_right) (defBody s__law_right) (defScope s__law_right) .none kV11 dc11 pm11 an11 cd11 ct11), sl11⟩)
    (c11 : PySem.W.codeIn K cd11 "_law_right" = true)
    (k11 : PySem.W.keepIn K (.ref f11) = true)
    (a12 : PySem.W.nsIn K mainGlobals "law" = some (some (.ref f12)))
    (l12 : K.lookup f12 = some ⟨oc12, od12, .func (PySem.W.fnOf "law" "law" (defArgs s_law) (defBody s_law) (defScope s_law) .none kV12 dc12 pm12 an12 cd12 ct12), sl12⟩)
    (c12 : PySem.W.codeIn K cd12 "law" = true)
    (k12 : PySem.W.keepIn K (.ref f12) = true)
    (z_abs : PySem.W.nsIn K mainGlobals "abs" = some none)
    (z_int : PySem.W.nsIn K mainGlobals "int" = some none)
    (z_len : PySem.W.nsIn K mainGlobals "len" = some none)
    (z_list : PySem.W.nsIn K mainGlobals "list" = some none)
    (z_max : PySem.W.nsIn K mainGlobals "max" = some none)
    (z_min : PySem.W.nsIn K mainGlobals "min" = some none)
    (z_range : PySem.W.nsIn K mainGlobals "range" = some none)
    (z_repr : PySem.W.nsIn K mainGlobals "repr" = some none) :
    ∃ fd : FuncData, (∀ (s : Shared) (v : Value), BindsTo s fd ⟨[v], []⟩ [("script", v)]) ∧ ∀ base : Heap, K.In base → base.Ns mainGlobals mg → FnG l.prog w K mg base CX0 30 fa fd ["script"] (spLaw K) := by
  have e := hfa.symm.trans (PySem.W.mg_of X G a12)
  cases e
  have F1 := fun_mk (st := s_walk) l1 c1 k1
  have b1 := F1.binds (ps := ["told", "lot"]) fun _ _ _ _ _ _ us hl => match us, hl with | [_, _], _ => rfl
  have F2 := fun_mk (st := s_copied_told) l2 c2 k2
  have b2 := F2.binds (ps := ["told"]) fun _ _ _ _ _ _ us hl => match us, hl with | [_], _ => rfl
  have F3 := fun_mk (st := s__law_purse) l3 c3 k3
  have b3 := F3.binds (ps := ["script", "place"]) fun _ _ _ _ _ _ us hl => match us, hl with | [_, _], _ => rfl
  have F4 := fun_mk (st := s__law_coin) l4 c4 k4
  have b4 := F4.binds (ps := ["purse", "many"]) fun _ _ _ _ _ _ us hl => match us, hl with | [_, _], _ => rfl
  have F5 := fun_mk (st := s__law_any_chain) l5 c5 k5
  have b5 := F5.binds (ps := ["purse", "titles", "most"]) fun _ _ _ _ _ _ us hl => match us, hl with | [_, _, _], _ => rfl
  have F6 := fun_mk (st := s__law_any_told) l6 c6 k6
  have b6 := F6.binds (ps := ["purse", "titles", "most"]) fun _ _ _ _ _ _ us hl => match us, hl with | [_, _, _], _ => rfl
  have F7 := fun_mk (st := s__law_any_tree) l7 c7 k7
  have b7 := F7.binds (ps := ["purse", "titles", "left", "deep"]) fun _ _ _ _ _ _ us hl => match us, hl with | [_, _, _, _], _ => rfl
  have F8 := fun_mk (st := s__law_long_menu) l8 c8 k8
  have b8 := F8.binds (ps := ["purse", "many"]) fun _ _ _ _ _ _ us hl => match us, hl with | [_, _], _ => rfl
  have F9 := fun_mk (st := s__law_full_tree) l9 c9 k9
  have b9 := F9.binds (ps := ["purse", "titles", "at"]) fun _ _ _ _ _ _ us hl => match us, hl with | [_, _, _], _ => rfl
  have F10 := fun_mk (st := s__law_led_to) l10 c10 k10
  have b10 := F10.binds (ps := ["found", "some"]) fun _ _ _ _ _ _ us hl => match us, hl with | [_, _], _ => rfl
  have F11 := fun_mk (st := s__law_right) l11 c11 k11
  have b11 := F11.binds (ps := ["purse"]) fun _ _ _ _ _ _ us hl => match us, hl with | [_], _ => rfl
  have F12 := fun_mk (st := s_law) l12 c12 k12
  have b12 := F12.binds (ps := ["script"]) fun _ _ _ _ _ _ us hl => match us, hl with | [_], _ => rfl
  let T : Txt w K mg := ⟨_, _, F1, b1, PySem.W.mg_of X G a1, _, _, F2, b2, PySem.W.mg_of X G a2, _, _, F3, b3, PySem.W.mg_of X G a3, _, _, F4, b4, PySem.W.mg_of X G a4, _, _, F5, b5, PySem.W.mg_of X G a5, _, _, F6, b6, PySem.W.mg_of X G a6, _, _, F7, b7, PySem.W.mg_of X G a7, _, _, F8, b8, PySem.W.mg_of X G a8, _, _, F9, b9, PySem.W.mg_of X G a9, _, _, F10, b10, PySem.W.mg_of X G a10, _, _, F11, b11, PySem.W.mg_of X G a11, _, _, F12, b12, PySem.W.mg_of X G a12, kb_mk F1 (by decide) (fun _ _ _ _ _ _ us ws hu hw => match us, ws, hu, hw with | [], [_, _], _, _ => rfl), PySem.W.mg_none_of X G z_abs, PySem.W.mg_none_of X G z_int, PySem.W.mg_none_of X G z_len, PySem.W.mg_none_of X G z_list, PySem.W.mg_none_of X G z_max, PySem.W.mg_none_of X G z_min, PySem.W.mg_none_of X G z_range, PySem.W.mg_none_of X G z_repr⟩
  exact ⟨_, fun s v => .of_eq rfl, fun base _ _ => ok_law T⟩
theorem walk {l : PySem.W.OpenLaw} {q : Program} {loose : List Str} {XP : (Str → Option Value) → Heap → Prop} {YP : World → Heap → Prop} {d : DefRec} {K : Params → PySem.W.Frag} (hn : l.most = some 63) (hdf : d.params.defaults = [])
    (hY : ∀ (w : World) (h : Heap), YP w h → (K w.params).In h)
    (F : ∀ (w : World) (mg : Str → Option Value) (fa : Addr) (h : Heap), (K w.params).In h → h.Ns mainGlobals mg → mg d.name = some (.ref fa) →
      ∃ fd : FuncData, (∀ (s : Shared) (u : Value), BindsTo s fd ⟨[u], []⟩ [("script", u)]) ∧ ∀ base : Heap, (K w.params).In base → base.Ns mainGlobals mg → FnG l.prog w (K w.params) mg base CX0 30 fa fd ["script"] (spLaw (K w.params))) :
    PySem.W.WalkO q loose XP YP l.row.toRowW d [] (fun f vs => PySem.call f vs) :=
  walk_g (n := 63) (k := 30) (x := "script") (sp := spLaw) hn (by decide) hdf ⟨⟨rfl, by decide, by decide⟩, rfl⟩ hY F (fun _ _ a ns hl _ hS => ⟨a, ns, rfl, hS, hl, fun _ => rfl⟩)
end
end Toy
open PySem PySem.W PyProof.Rows in
set_option maxRecDepth 100000 in
set_option maxHeartbeats 0 in
theorem PySem.Challenge.cw_toldatlast_k16_walk_holds : PySem.Challenge.rw_toldatlast_k16_walk.Holds := by
  w_on; o_law; k_head; (case hw => w_witness2)
  k_fill
  refine Toy.walk (l := PySem.Challenge.rw_toldatlast_k16_walk) rfl rfl (fun w h Y => PySem.W.kIn_of Y) ?F
  case F =>
    intro w mg fa h KX G hmg
    refine' Toy.all_mk KX G hmg ?a1 ?l1 ?c1 ?k1 ?a2 ?l2 ?c2 ?k2 ?a3 ?l3 ?c3 ?k3 ?a4 ?l4 ?c4 ?k4 ?a5 ?l5 ?c5 ?k5 ?a6 ?l6 ?c6 ?k6 ?a7 ?l7 ?c7 ?k7 ?a8 ?l8 ?c8 ?k8 ?a9 ?l9 ?c9 ?k9 ?a10 ?l10 ?c10 ?k10 ?a11 ?l11 ?c11 ?k11 ?a12 ?l12 ?c12 ?k12 ?z_abs ?z_int ?z_len ?z_list ?z_max ?z_min ?z_range ?z_repr
    (case a1 => k_is)
    (case l1 => k_is)
    (case c1 => k_is)
    (case k1 => k_is)
    (case a2 => k_is)
    (case l2 => k_is)
    (case c2 => k_is)
    (case k2 => k_is)
    (case a3 => k_is)
    (case l3 => k_is)
    (case c3 => k_is)
    (case k3 => k_is)
    (case a4 => k_is)
    (case l4 => k_is)
    (case c4 => k_is)
    (case k4 => k_is)
    (case a5 => k_is)
    (case l5 => k_is)
    (case c5 => k_is)
    (case k5 => k_is)
    (case a6 => k_is)
    (case l6 => k_is)
    (case c6 => k_is)
    (case k6 => k_is)
    (case a7 => k_is)
    (case l7 => k_is)
    (case c7 => k_is)
    (case k7 => k_is)
    (case a8 => k_is)
    (case l8 => k_is)
    (case c8 => k_is)
    (case k8 => k_is)
    (case a9 => k_is)
    (case l9 => k_is)
    (case c9 => k_is)
    (case k9 => k_is)
    (case a10 => k_is)
    (case l10 => k_is)
    (case c10 => k_is)
    (case k10 => k_is)
    (case a11 => k_is)
    (case l11 => k_is)
    (case c11 => k_is)
    (case k11 => k_is)
    (case a12 => k_is)
    (case l12 => k_is)
    (case c12 => k_is)
    (case k12 => k_is)
    (case z_abs => k_is)
    (case z_int => k_is)
    (case z_len => k_is)
    (case z_list => k_is)
    (case z_max => k_is)
    (case z_min => k_is)
    (case z_range => k_is)
    (case z_repr => k_is)
#print axioms PySem.Challenge.cw_toldatlast_k16_walk_holds
