import PyProof.Rows.All
import Wide.All
import OpenK.AllK
import Wide.FinOn
import HandS.Base
import HandS.Call
import HandS.List
import HandS.Comp
import HandS.Iter
import HandS.Text
import HandS.Ends
import HandS.Words
import HandS.WordsList
import PyProof.ReprBulk
import HandS.Set
import HandS.SetBool
import HandS.More
import PyProof.Rows.SetFrom
import PyProof.Rows.TupMore
import HandS.ForMost
import HandS.Small
import HandS.MakeKwOnly
import HandS.IsInst
import HandS.Wide
import HandS.Property
import HandS.DictComp
import HandS.Flow
import HandS.Walk
import HandS.Style
import HandS.NoneIn
import PySem.Challenge.RW_toldatlast_k02_rows_without_guards
set_option Elab.async false
set_option linter.all false
set_option maxRecDepth 100000
set_option maxHeartbeats 8000000
/-! own rules: defs whose frame stands in no repr (so that repr of data is known), powers, keywords alone -/
namespace Own
open PySem PySem.Spec PyProof.Rows L2

/-- room, and nothing is being shown around -/
def RoomG (k : Nat) (A : Around) : Prop := Room k A ∧ A.guards = some []
theorem RoomG.mono {j k : Nat} {A : Around} (r : RoomG k A) (h : j ≤ k) : RoomG j A := ⟨r.1.mono h, r.2⟩
theorem RoomG.units {k : Nat} {A : Around} (r : RoomG k A) : A.units + 64 < cLine := by have := r.1.un; omega

structure FnG (P : Program) (w : World) (K : PySem.W.Frag) (mg : Str → Option Value) (base : Heap) (CX : CXT) (k : Nat) (f : Addr) (fd : FuncData)
    (ps : List Str) (sp : Sp) : Prop where
  len : ∀ vs H Q E, sp vs H Q E → vs.length = ps.length
  go : ∀ (A : Around) (outer : List Env) (s : Shared) (H : Hp) (args : Args) (us : List Value) (vs : List V) (Q : VK) (E : XK),
    RoomG k A → Env0 P w K mg base A outer s H → BindsTo s fd args (ps.zip us) → Vals vs us → sp vs H Q E →
    codeAny (model P w) A (.call (.ref f) args) (CR CX outer P w H s Q E) s
section
variable {P : Program} {w : World} {K : PySem.W.Frag} {mg : Str → Option Value} {base : Heap} {CX : CXT} {j k : Nat} {f : Addr} {fd : FuncData} {ps : List Str} {sp sp' : Sp}
theorem FnG.mono (F : FnG P w K mg base CX j f fd ps sp) (h : j ≤ k) : FnG P w K mg base CX k f fd ps sp :=
  ⟨F.len, fun A o s H args us vs Q E hr => F.go A o s H args us vs Q E (hr.mono h)⟩
theorem FnG.imp (F : FnG P w K mg base CX k f fd ps sp) (h : ∀ vs H Q E, sp' vs H Q E → sp vs H Q E) : FnG P w K mg base CX k f fd ps sp' :=
  ⟨fun vs H Q E q => F.len vs H Q E (h _ _ _ _ q), fun A o s H args us vs Q E hr he hb hv hs => F.go A o s H args us vs Q E hr he hb hv (h _ _ _ _ hs)⟩
end

/-- a def by its body, nothing being shown around it -/
theorem fnG {CX : CXT} {P : Program} {w : World} {K : PySem.W.Frag} {mg : Str → Option Value} {base : Heap} {k : Nat} {f : Addr} {name qual : Str} {params : Arguments} {body : List Stmt}
    {scope : Scope} {dV kV doc pm cdv ct oc : Value} {an od : Option Addr} {osl : Array (Option Value)} {N ps : List Str} {sp : Sp}
    (lk : K.lookup f = some ⟨oc, od, .func (PySem.W.fnOf name qual params body scope dV kV doc pm an cdv ct), osl⟩) (hcd : PySem.W.codeIn K cdv qual = true) (S : FnScope N ps scope)
    (len : ∀ vs H Q E, sp vs H Q E → vs.length = ps.length)
    (hbody : ∀ (A : Around) (outer : List Env) (s : Shared) (H : Hp) (vs : List V) (Q : VK) (E : XK), RoomG k (A.deeper (envOfC qual scope s.heap.objs.size f cdv)) → sp vs H Q E →
      ∃ t, PSs (cxOf CX P w K mg base N qual scope f cdv A outer s H E) body t ∧ t { nx := fun _ H' => Q .non H', rt := Q } (start N vs) H) :
    FnG P w K mg base CX (k + 1) f (PySem.W.fnOf name qual params body scope dV kV doc pm an cdv ct) ps sp := by
  constructor
  · exact len
  intro A outer s H args us vs Q E hr e0 hb r hsp
  have hl := len _ _ _ _ hsp
  have KX : K.In s.heap := e0.mod.kin.keeps fun b o e => (e0.bs b o e).1
  have lim : s.heap.NoLimit := e0.mod.nolimit.keeps fun b o e => (e0.bs b o e).1
  have hk : ∀ y ∈ ps.zip us, scope.names.lookup y.1 = some .local ∨
      (scope.names.lookup y.1 = some .cell ∧ ((cellsFrom (s.heap.objs.size + 1) scope.names []).lookup y.1).isSome = true) := by
    rintro ⟨n, v⟩ hy
    rcases S.par n (List.of_mem_zip hy).1 with q | q
    · exact Or.inl q
    · exact Or.inr ⟨q, PySem.W.cellsFrom_some _ _ _ (Or.inl q)⟩
  apply codeAny_call_function hr.1.depth (KX _ _ lk) rfl S.co S.gen rfl (PySem.W.codeRec_of KX hcd)
  apply hb
  apply wpAny_newFunctionEnv_cells S.kind hk
  intro env he s1 x
  subst he
  refine ⟨lim.keeps x.toInCall.keep, codeAny_func ?_⟩
  obtain ⟨t, ht, hq⟩ := hbody A outer s H vs Q E ⟨hr.1.deeper _, hr.2⟩ hsp
  have I := inv_start (CX := CX) (E := E) (qual := qual) (f := f) (cd := cdv) S hr.1.hd e0 hl r x
  refine wpAny_mono (ht.run [] s1 (start N vs) H _ I hq) (fun fl s' hs => ?_) (fun e s' hs => hs)
  cases fl with
  | next =>
    obtain ⟨σ', H', J, q⟩ := hs
    exact ⟨V.non, H', J.os, J.bare, J.base, J.hok, rfl, q⟩
  | ret u =>
    obtain ⟨v, σ', H', J, rv, q⟩ := hs
    exact ⟨v, H', J.os, J.bare, J.base, J.hok, rv, q⟩
  | brk =>
    obtain ⟨_, _, _, q⟩ := hs
    cases q
  | cont =>
    obtain ⟨_, _, _, q⟩ := hs
    cases q
theorem ofFun {CX : CXT} {P : Program} {w : World} {K : PySem.W.Frag} {mg : Str → Option Value} {base : Heap} {x qual : Str} {f : Addr} {fd : FuncData} {params : Arguments} {body : List Stmt} {scope : Scope}
    {N ps : List Str} {k : Nat} {sp : Sp}
    (F : ∃ (oc : Value) (od : Option Addr) (kV doc pm : Value) (an : Option Addr) (cdv ct : Value) (osl : Array (Option Value)),
      fd = PySem.W.fnOf x qual params body scope .none kV doc pm an cdv ct ∧ K.lookup f = some ⟨oc, od, .func fd, osl⟩ ∧ PySem.W.codeIn K cdv qual = true)
    (S : FnScope N ps scope) (len : ∀ vs H Q E, sp vs H Q E → vs.length = ps.length)
    (hbody : ∀ (cdv : Value) (A : Around) (outer : List Env) (s : Shared) (H : Hp) (vs : List V) (Q : VK) (E : XK), RoomG k (A.deeper (envOfC qual scope s.heap.objs.size f cdv)) → sp vs H Q E →
      ∃ t, PSs (cxOf CX P w K mg base N qual scope f cdv A outer s H E) body t ∧ t { nx := fun _ H' => Q .non H', rt := Q } (start N vs) H) : FnG P w K mg base CX (k + 1) f fd ps sp := by
  obtain ⟨oc, od, kV, doc, pm, an, cdv, ct, osl, rfl, lk, hcd⟩ := F
  exact fnG lk hcd S len fun A outer s H vs Q E hr h => hbody cdv A outer s H vs Q E hr h

section
variable {X : Cx} {CX : CXT} {k : Nat} {f C : Addr} {fd : FuncData} {ps ks : List Str} {sp : Sp} {E : XK} {x : Str} {p pos : Pos} {e : Expr} {es : List Expr} {kws : List Keyword} {t tk : TA}
  {g : List Value → List Value → List Value} {gV : List V → List V → List V} {dvs : List V} {ds : List Value}
theorem res_of {pins : List (Addr × Obj)} {σ : L2.St} {H : Hp} {s : Shared} {Q : VK} {r : Result} {s' : Shared} (I : Inv X pins σ H s) (hx : Passes CX X E) (h : CR CX X.stack X.prog X.w H s Q E r s') :
    match r with
    | .ok (.ret u) => EP X pins σ Q u s'
    | .ok _ => False
    | .error e => X.xe e s' := by
  cases r with
  | error e => exact hx pins σ H s e s' I h
  | ok fl =>
    cases fl with
    | ret u => exact I.after h
    | next => exact h
    | brk => exact h
    | cont => exact h
theorem goG {pins : List (Addr × Obj)} {σ : L2.St} {H : Hp} {s : Shared} {Q : VK} {us : List Value} {vs : List V} (F : FnG X.prog X.w X.K X.mg X.base CX k f fd ps sp) (hr : RoomG k X.A) (hb : Binds X.K fd ps ds)
    (hd : Vals dvs ds) (hx : Passes CX X E) (I : Inv X pins σ H s) (r : Vals vs us) (h : sp (vs ++ dvs) H Q E) : wpAny (model X.prog X.w) X.A (call (.ref f) us) (EP X pins σ Q) X.xe s := by
  have r2 : Vals (vs ++ dvs) (us ++ ds) := r.append hd
  refine wpAny_call (codeAny_mono (F.go X.A X.stack s H ⟨us, []⟩ (us ++ ds) (vs ++ dvs) Q E hr I.env0 (hb s us I.kIn ?_) r2 h) fun r s' hq => ?_)
  · rw [← r2.length]; exact F.len _ _ _ _ h
  · have z := res_of I hx hq
    cases r with
    | error e => exact z
    | ok fl => cases fl <;> first | exact z | exact z.elim
theorem call_g (F : FnG X.prog X.w X.K X.mg X.base CX k f fd ps sp) (hr : RoomG k X.A) (hg : Gl X x) (hm : X.mg x = some (.ref f)) (hk : PySem.W.keepIn X.K (.ref f) = true) (hb : Binds X.K fd ps ds) (hd : Vals dvs ds)
    (hx : Passes CX X E) (ha : PA X (e :: es) t) (hdb : (x == ("__debug__" : Str)) = false := by decide) (he : starEach (e :: es) X.env = (false, eval e X.env) :: starEach es X.env := by rfl)
    (hpl : (backTo pos (starEach es X.env)).any (·.1) = false := by rfl) : PE X (.Call (.Name x p) (e :: es) [] pos) (tCall sp dvs E t) := by
  constructor
  intro pins s σ H Q I h
  apply wpAny_Call_Name_kw (ld_glob I hg hm ?_ hdb)
  apply PySem.W.callWith_K (h₀ := X.base) I.ok.mod.kin hk ?_ he hpl
  exact thn (ha.run pos pins s σ H _ I h) fun us s1 ⟨vs, H1, I1, r, q⟩ => ⟨I1.kIn, goG F hr hb hd hx I1 r q⟩
theorem goK {pins : List (Addr × Obj)} {σ : L2.St} {H : Hp} {s : Shared} {Q : VK} {us ws : List Value} {vs zs : List V} (F : FnG X.prog X.w X.K X.mg X.base CX k f fd ps sp) (hr : RoomG k X.A)
    (hb : KBinds X.K fd ps ks g gV) (hx : Passes CX X E) (I : Inv X pins σ H s) (r : Vals vs us) (rz : Vals zs ws) (h : sp (gV vs zs) H Q E) :
    wpAny (model X.prog X.w) X.A (call (.ref f) us (ks.zip ws)) (EP X pins σ Q) X.xe s := by
  have r2 := hb.rel r rz
  refine wpAny_call (codeAny_mono (F.go X.A X.stack s H ⟨us, ks.zip ws⟩ (g us ws) (gV vs zs) Q E hr I.env0 (hb.to s us ws I.kIn ?_) r2 h) fun r s' hq => ?_)
  · rw [← r2.length]; exact F.len _ _ _ _ h
  · have z := res_of I hx hq
    cases r with
    | error e => exact z
    | ok fl => cases fl <;> first | exact z | exact z.elim
theorem call_gK (F : FnG X.prog X.w X.K X.mg X.base CX k f fd ps sp) (hr : RoomG k X.A) (hg : Gl X x) (hm : X.mg x = some (.ref f)) (hk : PySem.W.keepIn X.K (.ref f) = true) (hb : KBinds X.K fd ps ks g gV) (hx : Passes CX X E)
    (ha : PA X (e :: es) t) (hkw : PK X kws tk) (hall : (backToKw pos (keywordEach kws X.env)).all (·.1.isSome) = true := by rfl) (hks : (backToKw pos (keywordEach kws X.env)).filterMap (·.1) = ks := by rfl)
    (hdb : (x == ("__debug__" : Str)) = false := by decide) (he : starEach (e :: es) X.env = (false, eval e X.env) :: starEach es X.env := by rfl)
    (hpl : ((backTo pos (starEach (e :: es) X.env)).any (·.1) || (backToKw pos (keywordEach kws X.env)).any (·.1.isNone)) = false := by rfl) :
    PE X (.Call (.Name x p) (e :: es) kws pos) (tCallK sp gV E t tk) := by
  constructor
  intro pins s σ H Q I h
  apply wpAny_Call_Name_kw (ld_glob I hg hm ?_ hdb)
  apply PySem.W.callWith_KW (h₀ := X.base) I.ok.mod.kin hk hall ?_ hpl he
  refine thn (ha.run pos pins s σ H _ I h) fun us s1 ⟨vs, H1, I1, r, q⟩ => thn (hkw.run pos pins s1 σ H1 _ I1 q) fun ws s2 ⟨zs, H2, I2, rz, q2⟩ => ⟨I2.kIn, ?_⟩
  subst hks
  exact goK F hr hb hx I2 r rz q2
theorem call_gK0 (F : FnG X.prog X.w X.K X.mg X.base CX k f fd ps sp) (hr : RoomG k X.A) (hg : Gl X x) (hm : X.mg x = some (.ref f)) (hk : PySem.W.keepIn X.K (.ref f) = true) (hb : KBinds X.K fd ps ks g gV) (hx : Passes CX X E)
    (hkw : PK X kws tk) (hall : (backToKw pos (keywordEach kws X.env)).all (·.1.isSome) = true := by rfl) (hks : (backToKw pos (keywordEach kws X.env)).filterMap (·.1) = ks := by rfl)
    (hdb : (x == ("__debug__" : Str)) = false := by decide)
    (hpl : ((backTo pos (starEach [] X.env)).any (·.1) || (backToKw pos (keywordEach kws X.env)).any (·.1.isNone)) = false := by rfl) :
    PE X (.Call (.Name x p) [] kws pos) (tCallK sp gV E tNil tk) := by
  constructor
  intro pins s σ H Q I h
  apply wpAny_Call_Name_kw (ld_glob I hg hm ?_ hdb)
  apply PySem.W.callWith_KW0 (h₀ := X.base) I.ok.mod.kin hk hall ?_ hpl
  refine thn (hkw.run pos pins s σ H _ I h) fun ws s2 ⟨zs, H2, I2, rz, q2⟩ => ⟨I2.kIn, ?_⟩
  subst hks
  exact goK F hr hb hx I2 .nil rz q2
end

/-! ### powers, repr -/
def CPowB (i j : Int) : Prop := 0 ≤ j ∧ j ≤ 64 ∧ i.natAbs < 2 ^ 1000
section
variable {X : Cx}
theorem op_powB : OpR X (binaryOp .Pow) (rI CPowB fun i j => .int (i ^ j.toNat)) := opI fun i j _ _ _ _ _ hc q => by
  obtain ⟨h0, h1, h2⟩ := hc
  refine pow_int h0 ?_ q
  have e : Builtin.Int.intBits i ≤ 1000 := by
    unfold Builtin.Int.intBits
    split
    · omega
    · have : i.natAbs.log2 < 1000 := by
        rename_i hz
        have z : i.natAbs ≠ 0 := by
          intro q
          exact hz (by have : i = 0 := by omega
                       simp [this])
        exact (Nat.log2_lt z).mpr h2
      omega
  have e2 : (Builtin.Int.intBits i : Int) ≤ 1000 := by omega
  have : (Builtin.Int.intBits i : Int) * j ≤ 1000 * 64 := Int.mul_le_mul e2 h1 h0 (by decide)
  have e3 : (2 : Int) ^ 27 = 134217728 := by decide
  rw [e3]
  exact Int.le_trans this (by decide)
/-- repr of data: a list, a tuple -/
def rRep (K : PySem.W.Frag) : List V → Hp → VK → Prop := fun xs H Q => ∃ (a : Addr) (d : PyData), xs = [.ref a] ∧ Dp K H (.ref a) d ∧ d.showable = true ∧ d.depth ≤ 60 ∧ d.shown.length ≤ sizeLine ∧ Q (.str d.shown) H
theorem noDict : ∀ {K : PySem.W.Frag} {H : Hp} {v : V} {d : PyData}, Dp K H v d → d.hasDict = false := by
  intro K H v d h
  exact Dp.rec (motive_1 := fun _ d _ => d.hasDict = false) (motive_2 := fun _ ds _ => PyData.hasDictAll ds = false) rfl (fun _ => rfl) (fun _ => rfl) (fun _ => rfl)
    (fun _ _ ih => by simpa [PyData.hasDict] using ih) (fun _ _ ih => by simpa [PyData.hasDict] using ih) rfl (fun _ _ h1 h2 => by simp [PyData.hasDictAll, h1, h2]) h
theorem call_reprD {k : Nat} (hr : RoomG k X.A) : CallR X (.builtin "repr") (rRep X.K) := by
  intro pins s σ H xs us Q I r h
  obtain ⟨a, d, rfl, hd, hs, hdep, hsz, q⟩ := h
  obtain ⟨u, rfl, ru⟩ := vals1 r
  obtain rfl : u = Value.ref a := ru
  obtain ⟨as, rd⟩ := Dp.reads I d _ _ hd rfl
  refine repr_of_reads' rd hs (fun z => ?_) hr.2 (by have := hr.1.un; omega) (fun _ _ e => e) (fun h' u tk hk => ⟨.str d.shown, H, I.kept hk, ⟨u, rfl⟩, q⟩) hsz
  rw [noDict hd] at z
  cases z
end
end Own
namespace Own
open PySem PySem.Spec PyProof.Rows L2

/-- the law's call at the heap behind the top, H being what is tracked -/
theorem start_law {P : Program} {w : World} {K : PySem.W.Frag} {mg mb : Str → Option Value} {k : Nat} {fa a : Addr} {fd : FuncData} {x : Str} {sp : Sp} {s : Shared} {vs : List Value} {H : Hp}
    (KX : K.In s.heap) (hns : s.heap.Ns mainGlobals mg) (hb : s.heap.Ns builtinsNs mb) (hbb : ∀ x : Str, x ≠ "__name__" → mb x = bootBuiltins x) (hlim : s.heap.NoLimit) (hg : s.gens = #[])
    (ha : s.heap.get? a = some { cls := .type "list", data := .seq vs.toArray }) (hr : RoomG k callerA)
    (F : ∀ base : Heap, K.In base → base.Ns mainGlobals mg → FnG P w K mg base CX0 k fa fd [x] sp) (hbind : BindsTo s fd ⟨[.ref a], []⟩ [(x, .ref a)])
    (hsp : sp [.ref a] H (fun v _ => v = .bl true) fun _ _ _ => False) (hO : Only H) (hok : HOk P w H s.heap) (hA : ∀ b, H b ≠ none → b = a) (hK : H a ≠ none → K.lookup a = none) :
    codeAny (model P w) callerA (.call (.ref fa) ⟨[.ref a], []⟩) (fun r s' => r = .ok (.ret (.bool true)) ∧ OldK s.heap s'.heap ∧ s'.os = s.os ∧ AllBare s'.gens) s := by
  have isA : ∀ {b : Addr} {u : HO}, H b = some u → b = a := fun {b u} q => hA b (by rw [q]; exact fun z => nomatch z)
  have noA : ∀ {b : Addr} {o : Obj} {es : Array DictEntry} {ep : Nat}, s.heap.get? b = some o → o.data = .dict es ep → H b = none := by
    intro b o es ep e d
    cases q : H b with
    | none => rfl
    | some u =>
      have eb := isA q
      rw [eb, ha] at e
      have eo := Option.some.inj e
      rw [← eo] at d
      exact nomatch d
  have nsK : ∀ {b : Addr} {m : Str → Option Value}, s.heap.Ns b m → (hidT s.heap H).Ns b m := by
    rintro b m ⟨o, es, ep, e, d, r⟩
    exact ⟨o, es, ep, hidT_get e (noA e d), d, r⟩
  have inK : K.In (hidT s.heap H) := by
    intro b o e
    refine hidT_get (KX b o e) ?_
    cases q : H b with
    | none => rfl
    | some u =>
      have eb := isA q
      subst eb
      have z := hK (by rw [q]; exact fun z => nomatch z)
      rw [z] at e
      exact nomatch e
  obtain ⟨mc, l1, l2⟩ := hlim
  have e0 : Env0 P w K mg (hidT s.heap H) callerA [] s H :=
    ⟨rfl, ⟨inK, nsK hns, ⟨mb, nsK hb, hbb⟩, ⟨mc, nsK l1, l2⟩⟩, fun b o e => of_hidT e, Nat.le_of_eq (hidT_size _ _), trivial, fun b z => (List.not_mem_nil z).elim, hok, .of_eq hg⟩
  have run := (F _ inK (nsK hns)).go callerA [] s H ⟨[.ref a], []⟩ [.ref a] [.ref a] _ _ hr e0 hbind (.cons rfl .nil) hsp
  refine codeAny_mono run fun r s' h => ?_
  rcases r with e | fl
  · exact h.elim
  · cases fl with
    | ret u =>
      obtain ⟨v, H', os, bare, un, hok', r', q⟩ := h
      subst q
      have eu : u = Value.bool true := r'
      refine ⟨by rw [eu], OldK.of_keep fun b o e => ?_, os, bare⟩
      cases q : H b with
      | none => exact un.keep b o e q (fun z => (List.not_mem_nil z).elim) (by simp)
      | some u =>
        rcases hO b with z | ⟨ob, xs, z⟩
        · rw [q] at z; exact nomatch z
        · obtain ⟨e1, _⟩ := hok b _ z
          obtain ⟨e2, _⟩ := hok' b _ (un.frzs b ob _ z)
          rw [e] at e1
          rw [Option.some.inj e1]
          exact e2
    | next => exact h.elim
    | brk => exact h.elim
    | cont => exact h.elim

theorem walk_g {l : PySem.W.OpenLaw} {n k : Nat} {q : Program} {loose : List Str} {XP : (Str → Option Value) → Heap → Prop} {YP : World → Heap → Prop} {d : DefRec} {K : Params → PySem.W.Frag} {sp : PySem.W.Frag → Sp} {x : Str}
    (hn : l.most = some n) (hn2 : n ≤ sizeLine) (hdf : d.params.defaults = []) (hr : RoomG k callerA) (hY : ∀ (w : World) (h : Heap), YP w h → (K w.params).In h)
    (F : ∀ (w : World) (mg : Str → Option Value) (fa : Addr) (h : Heap), (K w.params).In h → h.Ns mainGlobals mg → mg d.name = some (.ref fa) →
      ∃ fd : FuncData, (∀ (s : Shared) (u : Value), BindsTo s fd ⟨[u], []⟩ [(x, u)]) ∧
        ∀ base : Heap, (K w.params).In base → base.Ns mainGlobals mg → FnG l.prog w (K w.params) mg base CX0 k fa fd [x] (sp (K w.params)))
    (hsp : ∀ (K : PySem.W.Frag) (H : Hp) (a : Addr) (ns : List Int), ns.length ≤ n → Only H → SqL K H a (ns.map V.int) → sp K [.ref a] H (fun v _ => v = .bl true) fun _ _ _ => False) :
    PySem.W.WalkO q loose XP YP l.row.toRowW d [] (fun f vs => PySem.call f vs) := by
  apply Att.attach_call hn hdf
  intro w s₀ s₁ mg mb fa o pm cd doc a vs ns G Y ho hd hcd hmg hobj hints hlen hg
  obtain ⟨fd, hb, hF⟩ := F w mg fa _ (hY w _ Y) G.T.g hmg
  have hl : ns.length ≤ sizeLine := Nat.le_trans hlen hn2
  have rv := vals_ints hints
  cases hk : (K w.params).lookup a with
  | none =>
    have hself : (fun b => if b = a then some (HO.frz { cls := .type "list", data := .seq vs.toArray } (.lst (ns.map V.int))) else none : Hp) a = some (.frz { cls := .type "list", data := .seq vs.toArray } (.lst (ns.map V.int))) := if_pos rfl
    have hO : Only (fun b => if b = a then some (HO.frz { cls := .type "list", data := .seq vs.toArray } (.lst (ns.map V.int))) else none) := fun b => by
      by_cases hb : b = a
      · exact Or.inr ⟨_, _, if_pos hb⟩
      · exact Or.inl (if_neg hb)
    have hA : ∀ b, (fun b => if b = a then some (HO.frz { cls := .type "list", data := .seq vs.toArray } (.lst (ns.map V.int))) else none : Hp) b ≠ none → b = a := fun b z => by
      by_cases hb : b = a
      · exact hb
      · exact (z (if_neg hb)).elim
    refine start_law (hY w _ Y) G.T.g G.T.b G.T.builtins G.T.nolimit hg hobj hr hF (hb _ _) (hsp _ _ _ _ hlen hO (.inl (.inr ⟨_, hself⟩))) hO (fun b u z => ?_) hA fun _ => hk
    have eb := hA b (fun y => nomatch z.symm.trans y)
    subst eb
    have eu := hself.symm.trans z
    rw [← Option.some.inj eu]
    exact ⟨hobj, by rw [List.length_map]; exact hl, vs, _, rv, hobj⟩
  | some o' =>
    have e := hY w _ Y a o' hk
    rw [hobj] at e
    rw [← Option.some.inj e] at hk
    have hO : Only (fun _ => none) := fun _ => Or.inl rfl
    refine start_law (H := fun _ => none) (hY w _ Y) G.T.g G.T.b G.T.builtins G.T.nolimit hg hobj hr hF (hb _ _) (hsp _ _ _ _ hlen hO (Or.inr ⟨_, vs.toArray, _, hk, rfl, rfl, rfl, ?_, by simpa using rv⟩)) hO (fun b u z => ?_) (fun b z => absurd rfl z) fun z => absurd rfl z
    · rw [List.size_toArray, hints.length]; exact hl
    · exact nomatch (show (none : Option HO) = some u from z)

/-- a def of the text -/
theorem def_ok {P : Program} {w : World} {K : PySem.W.Frag} {mg : Str → Option Value} {base : Heap} {x qual : Str} {st : Stmt} {f : Addr} {fd : FuncData} {N ps : List Str} {k : Nat} {sp : Sp} (F : Fun K x qual st f fd)
    (S : FnScope N ps (defScope st)) (len : ∀ vs H Q E, sp vs H Q E → vs.length = ps.length)
    (hbody : ∀ (cdv : Value) (A : Around) (outer : List Env) (s : Shared) (H : Hp) (vs : List V) (Q : VK) (E : XK), RoomG k (A.deeper (envOfC qual (defScope st) s.heap.objs.size f cdv)) → sp vs H Q E →
      ∃ t, PSs (cxOf CX0 P w K mg base N qual (defScope st) f cdv A outer s H E).nox (defBody st) t ∧ t { nx := fun _ H' => Q .non H', rt := Q } (start N vs) H) : FnG P w K mg base CX0 (k + 1) f fd ps sp :=
  ofFun (body := defBody st) (params := defArgs st) F.ex S len fun cdv A outer s H vs Q E hr hsp =>
    let ⟨t, h, q⟩ := hbody cdv A outer s H vs Q E hr hsp
    ⟨t, h.nox, q⟩
/-- so many by position, so many by name -/
def gK {α : Type} (n k : Nat) (us ws : List α) : List α := if us.length = n ∧ ws.length = k then us ++ ws else []
/-- how positions and keywords bind -/
theorem kb_mk {K : PySem.W.Frag} {x qual : Str} {st : Stmt} {f : Addr} {fd : FuncData} {ps ks : List Str} {n : Nat} (F : Fun K x qual st f fd) (hp : ps ≠ [])
    (h : ∀ (kV doc pm : Value) (an : Option Addr) (cdv ct : Value) (us ws : List Value), us.length = n → ws.length = ks.length → bindArgs (PySem.W.fnOf x qual (defArgs st) (defBody st) (defScope st) .none kV doc pm an cdv ct) ⟨us, ks.zip ws⟩ = pure (ps.zip (us ++ ws))) :
    KBinds K fd ps ks (gK n ks.length) (gK n ks.length) := by
  obtain ⟨oc, od, kV, doc, pm, an, cdv, ct, osl, rfl, lk, hcd⟩ := F.ex
  refine ⟨fun s us ws _ hl => ?_, fun {vs us zs ws} r1 r2 => ?_⟩
  · by_cases z : us.length = n ∧ ws.length = ks.length
    · rw [show gK n ks.length us ws = us ++ ws from if_pos z]
      exact .of_eq (h kV doc pm an cdv ct us ws z.1 z.2)
    · rw [show gK n ks.length us ws = [] from if_neg z] at hl
      exact (hp (List.length_eq_zero_iff.mp hl.symm)).elim
  · by_cases z : us.length = n ∧ ws.length = ks.length
    · rw [show gK n ks.length us ws = us ++ ws from if_pos z, show gK n ks.length vs zs = vs ++ zs from if_pos ⟨r1.length.trans z.1, r2.length.trans z.2⟩]
      exact r1.append r2
    · rw [show gK n ks.length us ws = [] from if_neg z, show gK n ks.length vs zs = [] from if_neg (fun y => z ⟨r1.length.symm.trans y.1, r2.length.symm.trans y.2⟩)]
      exact .nil
end Own
namespace Own
open PySem PySem.Spec PyProof.Rows L2

/-! ### what stays -/
/-- the heap without some addresses -/
def hid (ps : List Addr) (H : Hp) : Hp := fun b => if b ∈ ps then none else H b
theorem hid_some {ps : List Addr} {H : Hp} {b : Addr} {o : HO} (h : hid ps H b = some o) : b ∉ ps ∧ H b = some o := by
  unfold hid at h
  by_cases q : b ∈ ps
  · rw [if_pos q] at h; cases h
  · rw [if_neg q] at h; exact ⟨q, h⟩
theorem hid_of {ps : List Addr} {H : Hp} {b : Addr} {o : HO} (q : b ∉ ps) (h : H b = some o) : hid ps H b = some o := by
  unfold hid; rw [if_neg q]; exact h
theorem hid_none {ps : List Addr} {H : Hp} {b : Addr} (h : H b = none) : hid ps H b = none := by
  unfold hid; split <;> first | rfl | exact h
/-- all but some addresses stays -/
def But (ps : List Addr) (H H' : Hp) : Prop := ∀ b o, b ∉ ps → H b = some o → H' b = some o
theorem But.same {ps : List Addr} {H H' : Hp} (h : But ps H H') : Same (hid ps H) (hid ps H') := fun b o e => by
  obtain ⟨q, e⟩ := hid_some e
  exact hid_of q (h b o q e)
theorem But.refl (ps : List Addr) (H : Hp) : But ps H H := fun _ _ _ h => h
theorem But.trans {ps : List Addr} {H H1 H2 : Hp} (a : But ps H H1) (b : But ps H1 H2) : But ps H H2 := fun c o q e => b c o q (a c o q e)
theorem But.mono {ps qs : List Addr} {H H' : Hp} (a : But ps H H') (h : ∀ x, x ∈ ps → x ∈ qs) : But qs H H' := fun c o q e => a c o (fun z => q (h c z)) e
theorem But.of {ps : List Addr} {H H' : Hp} (a : Same H H') : But ps H H' := fun c o _ e => a c o e
theorem But.new {ps : List Addr} {H H' : Hp} {p : Addr} {o : HO} (a : But ps H H') (n : H' p = none) : But ps H (upd H' p o) := fun c u q e => by
  have z := a c u q e
  rw [upd_ne (ne_of_none z n)]; exact z
theorem But.put {ps : List Addr} {H H' : Hp} {p : Addr} {o : HO} (a : But ps H H') (n : p ∈ ps) : But ps H (upd H' p o) := fun c u q e => by
  rw [upd_ne (show c ≠ p from fun z => q (by rw [z]; exact n))]; exact a c u q e
theorem same_new {H : Hp} {p : Addr} (h : H p = none) (o : HO) : Same H (upd H p o) := fun b u q => by rw [upd_ne (ne_of_none q h)]; exact q
theorem hid_sub {ps qs : List Addr} {H : Hp} (h : ∀ x, x ∈ ps → x ∈ qs) : Same (hid qs H) (hid ps H) := fun b o e => by
  obtain ⟨q, e⟩ := hid_some e
  exact hid_of (fun z => q (h b z)) e
theorem hid_same (ps : List Addr) (H : Hp) : Same (hid ps H) H := fun b o e => (hid_some e).2
theorem Same.tup {K : PySem.W.Frag} {H H' : Hp} {a : Addr} {xs : List V} (e : Same H H') (h : SqT K H a xs) : SqT K H' a xs := by
  rcases h with (h | ⟨o, h⟩) | h
  · exact .inl (.inl (e _ _ h))
  · exact .inl (.inr ⟨o, e _ _ h⟩)
  · exact .inr h
section
variable {K : PySem.W.Frag} {H H' : Hp}
mutual
theorem dpSame (e : Same H H') : ∀ {d : PyData} {v : V}, Dp K H v d → Dp K H' v d
  | .none, _, h => by cases h; exact .non
  | .bool b, _, h => by cases h; exact .bl b
  | .int i, _, h => by cases h; exact .int i
  | .str x, _, h => by cases h; exact .str x
  | .list ds, _, h => by
    cases h with
    | lst hs ha => exact .lst (e.seq hs) (dpaSame e ha)
  | .tuple ds, _, h => by
    cases h with
    | tup hs ha => exact .tup (Same.tup e hs) (dpaSame e ha)
  | .dict _, _, h => by cases h
theorem dpaSame (e : Same H H') : ∀ {ds : List PyData} {vs : List V}, DpAll K H vs ds → DpAll K H' vs ds
  | [], _, h => by cases h; exact .nil
  | d :: ds, _, h => by
    cases h with
    | cons a b => exact .cons (dpSame e a) (dpaSame e b)
end
theorem strI {v : V} {x : Str} (h : Dp K H v (.str x)) : v = .str x := by cases h; rfl
theorem intI {v : V} {i : Int} (h : Dp K H v (.int i)) : v = .int i := by cases h; rfl
theorem tupI {v : V} {ds : List PyData} (h : Dp K H v (.tuple ds)) : ∃ a xs, v = .ref a ∧ SqT K H a xs ∧ DpAll K H xs ds := by
  cases h with
  | tup hs ha => exact ⟨_, _, rfl, hs, ha⟩
theorem lstI {v : V} {ds : List PyData} (h : Dp K H v (.list ds)) : ∃ a xs, v = .ref a ∧ SqL K H a xs ∧ DpAll K H xs ds := by
  cases h with
  | lst hs ha => exact ⟨_, _, rfl, hs, ha⟩
theorem consI {vs : List V} {d : PyData} {ds : List PyData} (h : DpAll K H vs (d :: ds)) : ∃ v ws, vs = v :: ws ∧ Dp K H v d ∧ DpAll K H ws ds := by
  cases h with
  | cons a b => exact ⟨_, _, rfl, a, b⟩
theorem nilI {vs : List V} (h : DpAll K H vs []) : vs = [] := by cases h; rfl
theorem snocI {vs : List V} {ds : List PyData} {v : V} {d : PyData} (a : DpAll K H vs ds) (b : Dp K H v d) : DpAll K H (vs ++ [v]) (ds ++ [d]) := by
  induction ds generalizing vs with
  | nil => cases a; exact .cons b .nil
  | cons e es ih =>
    cases a with
    | cons h t => exact .cons h (ih t)
/-- a tuple that was just laid -/
theorem newTup {p : Addr} {xs : List V} {ds : List PyData} {ps : List Addr} (np : H p = none) (pp : p ∉ ps) (h : DpAll K (hid ps H) xs ds) : Dp K (hid ps (upd H p (.tup xs))) (.ref p) (.tuple ds) := by
  refine .tup (.inl (.inl (hid_of pp upd_same))) (dpaSame (fun b o e => ?_) h)
  obtain ⟨q, e⟩ := hid_some e
  exact hid_of q (same_new np _ _ _ e)
theorem newLst {p : Addr} {xs : List V} {ds : List PyData} {ps : List Addr} (np : H p = none) (pp : p ∉ ps) (h : DpAll K (hid ps H) xs ds) : Dp K (hid ps (upd H p (.lst xs))) (.ref p) (.list ds) := by
  refine .lst (.inl (.inl (hid_of pp upd_same))) (dpaSame (fun b o e => ?_) h)
  obtain ⟨q, e⟩ := hid_some e
  exact hid_of q (same_new np _ _ _ e)
end

/-! ### names -/
def Nm (n : Nat) (x : Str) : Prop := 1 ≤ x.length ∧ x.length ≤ n ∧ ∀ c ∈ x.cps.toList, 97 ≤ c ∧ c ≤ 122
/-- a list of names -/
def Names (H : Hp) (K : PySem.W.Frag) (a : Addr) (n : Nat) (xs : List Str) : Prop := SqL K H a (xs.map V.str) ∧ ∀ x ∈ xs, Nm n x

/-! ### sizes -/
structure Sz (d : PyData) (n k : Nat) : Prop where
  sh : d.showable = true
  lv : d.leavesShort 8 = true
  bk : d.bulk ≤ n
  dp : d.depth ≤ k
theorem Sz.mono {d : PyData} {n k m j : Nat} (h : Sz d n k) (a : n ≤ m) (b : k ≤ j) : Sz d m j := ⟨h.sh, h.lv, Nat.le_trans h.bk a, Nat.le_trans h.dp b⟩
theorem Sz.fits {d : PyData} {n k : Nat} (h : Sz d n k) (a : n ≤ 2 ^ 20) : d.shown.length ≤ sizeLine := PyData.shown_fits_bulk (B := 8) (by decide) (by decide) h.lv (Nat.le_trans h.bk a)
theorem Sz.str {x : Str} {n : Nat} (h : Nm n x) : Sz (.str x) n 0 := by
  refine ⟨rfl, ?_, h.2.1, Nat.le_refl _⟩
  show (x.cps.toList.all fun c => decide (c < 16 ^ 8)) = true
  rw [List.all_eq_true]
  intro c hc
  have := h.2.2 c hc
  exact decide_eq_true (by omega)
structure SzAll (ds : List PyData) (n k : Nat) : Prop where
  sh : PyData.showableAll ds = true
  lv : PyData.leavesShortAll 8 ds = true
  bk : PyData.bulkAll ds ≤ n
  dp : PyData.depthAll ds ≤ k
theorem SzAll.nil : SzAll [] 0 0 := ⟨rfl, rfl, Nat.le_refl _, Nat.le_refl _⟩
theorem SzAll.cons {d : PyData} {ds : List PyData} {n k m j : Nat} (h : Sz d n k) (t : SzAll ds m j) : SzAll (d :: ds) (n + 1 + m) (max k j) := by
  refine ⟨?_, ?_, ?_, ?_⟩
  · show (PyData.showable d && PyData.showableAll ds) = true
    rw [h.sh, t.sh]; rfl
  · show (PyData.leavesShort 8 d && PyData.leavesShortAll 8 ds) = true
    rw [h.lv, t.lv]; rfl
  · show PyData.bulk d + 1 + PyData.bulkAll ds ≤ _
    have := h.bk; have := t.bk; omega
  · show max (PyData.depth d) (PyData.depthAll ds) ≤ _
    have := h.dp; have := t.dp; omega
theorem SzAll.tup {ds : List PyData} {n k : Nat} (h : SzAll ds n k) : Sz (.tuple ds) n (k + 1) := ⟨h.sh, h.lv, h.bk, Nat.succ_le_succ h.dp⟩
theorem SzAll.lst {ds : List PyData} {n k : Nat} (h : SzAll ds n k) : Sz (.list ds) n (k + 1) := ⟨h.sh, h.lv, h.bk, Nat.succ_le_succ h.dp⟩
theorem SzAll.all {ds : List PyData} {n k : Nat} (h : ∀ d ∈ ds, Sz d n k) : SzAll ds ((n + 1) * ds.length) k := by
  induction ds with
  | nil => exact ⟨rfl, rfl, Nat.zero_le _, Nat.zero_le _⟩
  | cons d ds ih =>
    have t := ih fun e he => h e (List.mem_cons_of_mem _ he)
    have q := SzAll.cons (h d List.mem_cons_self) t
    refine ⟨q.sh, q.lv, Nat.le_trans q.bk ?_, Nat.le_trans q.dp (by omega)⟩
    rw [List.length_cons, Nat.mul_add]; omega
end Own
/-! own: sets of texts, comprehensions of them, sorted of them -/
namespace OwnS
open PySem PySem.Spec PyProof.Rows L2

def kS (e : Int × Value) : Str := match e.2 with
  | .str x _ => x
  | _ => Str.empty
def Txt1 (w : World) (e : Int × Value) : Prop := ∃ k tk, e.2 = Value.str k tk ∧ e.1 = hashStr w k
theorem txt1_key {e : Int × Value} {k : Str} {tk : Tok} (h : e.2 = Value.str k tk) : kS e = k := by unfold kS; rw [h]
theorem isOf (P : Program) (w : World) (k : Str) (tk : Tok) : (strKind P w).is k (.str k tk) = true := by
  show Value.isStrOf k (.str k tk) = true
  simp [Value.isStrOf]
theorem txt1_is {P : Program} {w : World} {e : Int × Value} (g : Txt1 w e) (k : Str) : (strKind P w).is k e.2 = true ↔ kS e = k := by
  obtain ⟨k0, tk, h1, _⟩ := g
  rw [txt1_key h1, h1]
  constructor
  · intro h
    exact ((strKind P w).inj _ _ _ h (isOf P w k0 tk)).symm
  · rintro rfl
    exact isOf P w _ tk
theorem txt1_elems {P : Program} {w : World} {l : List (Int × Value)} (g : ∀ e ∈ l, Txt1 w e) : ElemsOf (strKind P w) l := by
  intro e he
  obtain ⟨k, tk, h1, h2⟩ := g e he
  refine ⟨⟨k, ?_, h2⟩, ?_⟩
  · rw [h1]; exact isOf P w k tk
  · rw [h1]; rfl
theorem txt1_mem {P : Program} {w : World} {l : List (Int × Value)} (g : ∀ e ∈ l, Txt1 w e) (k : Str) : (k ∈ l.map kS) ↔ ∃ e ∈ l, (strKind P w).is k e.2 = true := by
  simp only [List.mem_map]
  constructor <;> rintro ⟨e, he, q⟩
  · exact ⟨e, he, (txt1_is (g e he) k).mpr q⟩
  · exact ⟨e, he, (txt1_is (g e he) k).mp q⟩
/-- a table of texts, each once, that may be walked: xs its texts as they lie -/
structure Tab (w : World) (es : Array (Int × Value)) (t : SetTable) (xs : List Str) : Prop where
  good : ∀ e ∈ es.toList, Txt1 w e
  keys : (es.toList.map kS).Perm xs
  nd : xs.Nodup
  room : es.size < scanBound
  fits : t.fits es.size = true
  ris : Ris t.place.toList
  led : w.params.followText "set-order" = true ∨ t.led = true
theorem Tab.size {w : World} {es : Array (Int × Value)} {t : SetTable} {xs : List Str} (T : Tab w es t xs) : es.size = xs.length := by
  rw [← Array.length_toList, ← T.keys.length_eq, List.length_map]
/-- the set of the texts xs at a -/
def TSet (w : World) (h : Heap) (a : Addr) (xs : List Str) : Prop := ∃ o es ep t, h.get? a = some o ∧ o.ExactSet ∧ o.data = .set es ep t ∧ Tab w es t xs
section
variable {P : Program} {w : World} {A : Around} {E : Value → Shared → Prop} {s : Shared} {a : Addr} {xs : List Str}
theorem TSet.mem {h : Heap} {k : Str} (R : TSet w h a xs) : h.SetOf (strKind P w) a (fun j => decide (j ∈ xs)) xs.length := by
  obtain ⟨o, es, ep, t, ho, hx, hd, T⟩ := R
  refine ⟨o, es, ep, t, ho, hx, hd, txt1_elems T.good, fun j => ?_, T.room, T.fits, T.size⟩
  rw [decide_eq_true_eq, ← T.keys.mem_iff]
  exact txt1_mem T.good j
theorem TSet.move {h h' : Heap} (R : TSet w h a xs) (k : ∀ o, h.get? a = some o → h'.get? a = some o) : TSet w h' a xs := by
  obtain ⟨o, es, ep, t, ho, r⟩ := R
  exact ⟨o, es, ep, t, k o ho, r⟩
/-- behind the laying of one more: the store, and the table made greater where it is too full -/
theorem add_store {g : Bool → Sem Unit} (hg : ∀ (b : Bool) (s₁ : Shared) (Q' : Unit → Shared → Prop), Q' () s₁ → wpAny (model P w) A (g b) Q' E s₁) {o : Obj} {es : Array (Int × Value)} {ep : Nat} {t : SetTable}
    (ho : s.heap.get? a = some o) (hx : o.ExactSet) (hd : o.data = .set es ep t) {es1 : Array (Int × Value)} {t2 : SetTable} {ys : List Str} (T : Tab w es1 t2 ys) {wasDummy : Bool} {R : Option Bool → Shared → Prop}
    (hR : ∀ h', Heap.SameBut a s.heap h' → TSet w h' a ys → R (some true) { s with heap := h' }) :
    wpAny (model P w) A (do
        storeSet a es1 t2
        if (!wasDummy && t2.tooFull) = true then do
            g (relayAll t2 es1 (SetTable.grown es1.size)).2.2
            storeSet a (relayAll t2 es1 (SetTable.grown es1.size)).1 (relayAll t2 es1 (SetTable.grown es1.size)).2.1
            pure (some true)
          else pure (some true)) R E s := by
  apply wpAny_bind
  refine wpAny_storeSet_of ho hd ?_ (fits_of_scanBound T.room)
  have b1 := Heap.SameBut.update s.heap a (Obj.putSet es1 t2)
  have o1 := PpSet.storeB_at (es' := es1) (t' := t2) ho hd
  split
  · obtain ⟨pm, f3, r3, l3⟩ : (relayAll t2 es1 (SetTable.grown es1.size)).1.toList.Perm es1.toList ∧ _ ∧ _ ∧ _ :=
      ⟨relayAll_perm t2 es1 (SetTable.grown es1.size), relayAll_fits t2 es1 (SetTable.grown es1.size), relayAll_ris t2 es1 (SetTable.grown es1.size), relayAll_led t2 es1 (SetTable.grown es1.size)⟩
    generalize relayAll t2 es1 (SetTable.grown es1.size) = Z at pm f3 r3 l3 ⊢
    obtain ⟨es2, t3, gave⟩ := Z
    have sz : es2.size = es1.size := by
      have := pm.length_eq
      simpa using this
    apply wpAny_bind
    apply hg
    apply wpAny_bind
    refine wpAny_storeSet_of o1 rfl ?_ (fits_of_scanBound (by show es2.size < _; rw [sz]; exact T.room))
    apply wpAny_pure
    refine hR _ (b1.trans (Heap.SameBut.update _ a _)) ⟨_, es2, _, t3, PpSet.storeB_at (es' := es2) (t' := t3) o1 rfl, hx, rfl, ?_⟩
    exact ⟨fun e he => T.good e (pm.mem_iff.mp he), (pm.map kS).trans T.keys, T.nd, by rw [sz]; exact T.room, f3, r3, T.led.imp id fun z => l3.trans z⟩
  · apply wpAny_pure
    exact hR _ b1 ⟨_, es1, _, t2, o1, hx, rfl, T⟩
theorem add_hashed {k : Str} {tk : Tok} {Q : Bool → Shared → Prop} (R : TSet w s.heap a xs) (room : xs.length + 1 < scanBound)
    (hQ : ∀ h' b, Heap.SameBut a s.heap h' → TSet w h' a (if k ∈ xs then xs else k :: xs) → Q b { s with heap := h' }) :
    wpAny (model P w) A (setAddHashed a (.str k tk) ((strKind P w).hash k)) Q E s := by
  obtain ⟨o, es, ep, t, ho, hx, hd, T⟩ := R
  have sc : (Value.str k tk).scannable = true := rfl
  have el : ElemsOf (strKind P w) es.toList := txt1_elems T.good
  unfold setAddHashed setAddHashedIn
  apply wpAny_holding
  apply wpAny_bind
  apply wpAny_setState_of ho hd T.fits
  dsimp only
  rw [byScan_of sc T.room el]
  simp only [↓reduceIte]
  unfold setAddByScan
  apply wpAny_bind
  apply wpAny_bind
  apply wpAny_rule
  apply wpAny_bind
  apply wpAny_setScan_of (isOf P w k tk) ho hd T.fits el
  cases hf : List.findIdx? (fun e => (strKind P w).is k e.2) es.toList with
  | some j =>
    dsimp only
    obtain ⟨hj, pj, _⟩ := List.findIdx?_eq_some_iff_getElem.mp hf
    have hk : k ∈ xs := T.keys.mem_iff.mp ((txt1_mem T.good k).mpr ⟨_, List.getElem_mem hj, pj⟩)
    apply wpAny_pure
    apply wpAny_pure
    have q := hQ s.heap false (Heap.SameBut.refl a s.heap)
    rw [if_pos hk] at q
    exact q ⟨o, es, ep, t, ho, hx, hd, T⟩
  | none =>
    dsimp only
    have hk : k ∉ xs := fun z => by
      obtain ⟨e, he, q⟩ := (txt1_mem (P := P) T.good k).mp (T.keys.mem_iff.mpr z)
      have c := List.findIdx?_eq_none_iff.mp hf e he
      rw [q] at c
      exact nomatch c
    have gives : ∀ (b : Bool) (s₁ : Shared) (Q' : Unit → Shared → Prop), Q' () s₁ → wpAny (model P w) A (match b with | true => rule "set.scan.the-table-gave-way" | false => pure ()) Q' E s₁ := by
      intro b s₁ Q' q
      cases b
      · exact wpAny_pure q
      · exact wpAny_rule q
    obtain ⟨pm, f1, r1, l1⟩ : (layNew t es ((strKind P w).hash k) (.str k tk)).1.toList.Perm (es.push ((strKind P w).hash k, .str k tk)).toList ∧ _ ∧ _ ∧ _ :=
      ⟨layNew_perm t es ((strKind P w).hash k) (.str k tk), layNew_fits t es ((strKind P w).hash k) (.str k tk), layNew_ris t es ((strKind P w).hash k) (.str k tk) T.ris, layNew_led t es ((strKind P w).hash k) (.str k tk)⟩
    generalize layNew t es ((strKind P w).hash k) (.str k tk) = Z at pm f1 r1 l1 ⊢
    obtain ⟨es1, t1, wasDummy, gave⟩ := Z
    dsimp only at pm f1 r1 l1 ⊢
    rw [Array.toList_push] at pm
    have pc : es1.toList.Perm (((strKind P w).hash k, Value.str k tk) :: es.toList) := pm.trans (List.perm_append_singleton _ _)
    have T1 : ∀ t' : SetTable, t'.fits es1.size = true → Ris t'.place.toList → t'.led = t1.led → Tab w es1 t' (k :: xs) := fun t' ff rr ll => by
      refine ⟨fun e he => ?_, ?_, List.nodup_cons.mpr ⟨hk, T.nd⟩, ?_, ff, rr, T.led.imp id fun z => ll.trans (l1.trans z)⟩
      · rcases List.mem_cons.mp (pc.mem_iff.mp he) with z | z
        · exact ⟨k, tk, by rw [z], by rw [z]; rfl⟩
        · exact T.good e z
      · have q := pc.map kS
        exact q.trans (List.Perm.cons _ T.keys)
      · have := pc.length_eq
        rw [List.length_cons, Array.length_toList, Array.length_toList, T.size] at this
        omega
    have fin : ∀ (h' : Heap), Heap.SameBut a s.heap h' → TSet w h' a (k :: xs) → Q true { s with heap := h' } := fun h' sb r => by
      have q := hQ h' true sb
      rw [if_neg hk] at q
      exact q r
    apply wpAny_bind
    apply gives
    split
    · apply wpAny_bind
      rw [hashByValue_scannable 8 sc]
      apply wpAny_pure
      refine add_store gives ho hx hd (T1 _ ?_ ?_ ?_) fun h' sb r => wpAny_pure (fin h' sb r)
      · first | (split <;> first | exact f1 | exact SetTable.fits_plain_off f1) | exact f1
      · first | (split <;> exact r1) | exact r1
      · first | (split <;> rfl) | rfl
    · apply wpAny_bind
      apply wpAny_pure
      simp only [↓reduceIte]
      exact add_store gives ho hx hd (T1 _ f1 r1 rfl) fun h' sb r => wpAny_pure (fin h' sb r)
theorem add_call {k : Str} {tk : Tok} {Q : Value → Shared → Prop} (R : TSet w s.heap a xs) (room : xs.length + 1 < scanBound)
    (hQ : ∀ h', Heap.SameBut a s.heap h' → TSet w h' a (if k ∈ xs then xs else k :: xs) → Q .none { s with heap := h', toks := s.toks + 1 }) :
    wpAny (model P w) A (call (.builtin "set.add") [.ref a, .str k tk]) Q E s := by
  have hS := TSet.mem (P := P) (k := k) R
  refine wpAny_call_entry F.slot_set_add hS.typeIs F.entry_set_add ?_ (F.args_set_add_2 _ _)
  unfold Builtin.«set.add» Builtin.Frozenset.oneOther
  simp only [List.isEmpty_nil, bind_assoc]
  unfold Builtin.Frozenset.addrOf setAdd
  apply wpAny_bind
  apply wpAny_pure
  try dsimp only
  apply wpAny_bind
  apply wpAny_pure
  try dsimp only
  apply wpAny_bind
  apply wpAny_holding
  apply wpAny_bind
  apply (strKind P w).pyHash (isOf P w k tk)
  refine add_hashed (s := { s with toks := s.toks + 1 }) R room fun h' b sb r => ?_
  show wpAny _ _ (ret Value.none) _ _ _
  exact wpAny_pure ⟨_, rfl, hQ h' sb r⟩
theorem fresh_set (w : World) (h : Heap) : TSet w (h.push { cls := .type "set", dict := none, data := .set #[] 0 (.fresh 0 0 (!w.params.followText "set-order")) }) h.objs.size [] := by
  refine ⟨_, #[], 0, _, Heap.get?_push_size _ rfl, ⟨rfl, rfl, rfl⟩, rfl, ⟨fun e he => by simp at he, by simp, List.nodup_nil, by decide, by rfl, List.Pairwise.nil, ?_⟩⟩
  show _ ∨ (!w.params.followText "set-order") = true
  cases w.params.followText "set-order"
  · exact Or.inr rfl
  · exact Or.inl rfl
theorem strs_of : ∀ (l : List Value), (∀ v ∈ l, ∃ k tk, v = Value.str k tk) → StrsAre l (l.map fun v => kS (0, v))
  | [], _ => .nil
  | v :: l, h => by
    obtain ⟨k, tk, rfl⟩ := h v List.mem_cons_self
    exact .cons k tk (strs_of l fun u hu => h u (List.mem_cons_of_mem _ hu))
end
section
variable {P : Program} {w : World} {A : Around} {E : Value → Shared → Prop} {s : Shared} {a : Addr} {xs : List Str}
theorem sorted_run {Q : Value → Shared → Prop} (R : TSet w s.heap a xs) (hh : A.handled = none) (h64 : xs.length < 64)
    (hQ : ∀ s' p (out : Array Value) (c : Nat) (ys : List Str), (∀ b o, s.heap.get? b = some o → s'.heap.get? b = some o) → s'.gens = s.gens → s'.os = s.os → s.heap.objs.size ≤ p →
      s'.heap.get? p = some (seqObj "list" out c) → StrsAre out.toList ys → ys.Perm xs → sortedS ys = true → Q (.ref p) s') :
    wpAny (model P w) A (call (.builtin "sorted") [.ref a]) Q E s := by
  obtain ⟨o, es, ep, t, ho, hx, hd, T⟩ := R
  refine Calls.call_function_entry kind_sorted plain_sorted entry_sorted (args_sorted1 _) ?_
  unfold Builtin.«sorted»
  refine wpAny_bind (m := checkCount "sorted" 1 1 _) (wpAny_pure ?_)
  apply wpAny_bind
  refine collect_set (A := A.in1) hh ⟨o, ho, hx.1, hd⟩ T.fits T.room T.ris T.led fun s1 vs k1 hz g1 o1 pm => ?_
  have ln : vs.length = xs.length := by
    have := pm.length_eq
    rw [List.length_map] at this
    rw [this]
    exact Array.length_toList.trans T.size
  have hS := strs_of vs fun v hv => by
    obtain ⟨e, he, q⟩ := List.mem_map.mp (pm.mem_iff.mp hv)
    obtain ⟨k, tk, h1, _⟩ := T.good e he
    exact ⟨k, tk, q.symm.trans h1⟩
  have pk : (vs.map fun v => kS (0, v)).Perm xs := by
    have q := pm.map fun v => kS (0, v)
    rw [List.map_map] at q
    exact q.trans T.keys
  apply wpAny_bind
  apply wpAny_newList
  · have hoL : (s1.heap.push (seqObj "list" vs.toArray 0)).get? s1.heap.objs.size = some (seqObj "list" vs.toArray 0) := Heap.get?_push_size _ rfl
    apply wpAny_bind
    apply wpAny_holding
    refine wpAny_call_entry slot_list_sort ⟨_, hoL, rfl⟩ entry_list_sort
      (list_sort_treeK strKind_oneLt hoL hS.keysOf (fun v₁ v₂ rest e => keyKind_strs (by rw [← e]; exact hS)) (by rw [ln]; exact h64) fun st' hp hs => ?_) (args_list_sort _)
    obtain ⟨ys, q1, q2, q3⟩ := sorted_out_str hS hp hs
    obtain ⟨c, hc⟩ := sortedHeap_at (vs := vs) (out := (arrOf st').map (·.2)) hoL
    refine ⟨_, rfl, wpAny_pure ⟨_, rfl, hQ _ s1.heap.objs.size _ c ys (fun b u e => ?_) g1 o1 hz hc q1 (q2.trans pk) q3⟩⟩
    have q := k1 b u e
    have lt := Heap.lt_size q
    show (sortedHeap (s1.heap.push (seqObj "list" vs.toArray 0)) s1.heap.objs.size vs _).get? b = some u
    rw [sortedHeap_old (Nat.ne_of_lt lt) (by rw [size_push']; exact Nat.lt_succ_of_lt lt)]
    exact Heap.get?_push_of_some _ q
  · rw [ln, sizeLine_eq]; omega
end
/-! ### tracked -/
def SO (w : World) (a : Addr) (xs : List Str) : HO := .ext fun h => TSet w h a xs
theorem so_ok {w : World} {P : Program} {H : Hp} {h : Heap} {a : Addr} {xs : List Str} (R : TSet w h a xs) : ObjOk P w H h a (SO w a xs) := by
  have ⟨o, _, _, _, ho, _⟩ := R
  exact ⟨R, ⟨o, ho⟩, fun h1 h2 p k => TSet.move p k⟩
section
variable {X : Cx}
theorem so_get {pins : List (Addr × Obj)} {σ : L2.St} {H : Hp} {s : Shared} {a : Addr} {xs : List Str} (I : Inv X pins σ H s) (ha : H a = some (SO X.w a xs)) : TSet X.w s.heap a xs := (I.hok a _ ha).1
theorem so_add {pins : List (Addr × Obj)} {σ : L2.St} {H : Hp} {s : Shared} {E : Value → Shared → Prop} {D : Addr} {xs : List Str} {k : Str} {tk : Tok} {Q : Value → Shared → Prop} (I : Inv X pins σ H s) (hD : H D = some (SO X.w D xs))
    (room : xs.length + 1 < scanBound) (h : ∀ s', Inv X pins σ (upd H D (SO X.w D (if k ∈ xs then xs else k :: xs))) s' → Q .none s') : wpAny (model X.prog X.w) X.A (call (.builtin "set.add") [.ref D, .str k tk]) Q E s := by
  refine add_call (so_get I hD) room fun h' sb new => ?_
  have he : ∃ u, h'.get? D = some u := by
    have ⟨o, _, _, _, ho, _⟩ := new
    exact ⟨o, ho⟩
  exact h _ (I.write (e := D) (t' := s.toks + 1) (by rw [hD]; trivial) (.inl rfl) (fun b u hb hu => (sb.2 b hb).trans hu) he (so_ok new))
/-- sorted of a set of fewer than 64 texts -/
def rSortedT (w : World) : List V → Hp → VK → Prop := fun vs H Q => ∃ (a : Addr) (xs : List Str), vs = [V.ref a] ∧ H a = some (SO w a xs) ∧ xs.length < 64 ∧
  ∀ (ys : List Str) (p : Addr), ys.Perm xs → sortedS ys = true → H p = none → Q (.ref p) (upd H p (.lst (ys.map V.str)))
theorem cr_sortedT (hc : X.calm = true) : CallR X (.builtin "sorted") (rSortedT X.w) := by
  intro pins s σ H vs us Q I r h
  obtain ⟨a, xs, rfl, ha, h64, q⟩ := h
  rw [Vals.ref1 r]
  refine sorted_run (so_get I ha) (I.ok.hd hc) h64 fun s' p out c ys k g o hp hg hS hm hs => ?_
  have hn : H p = none := I.hok.fresh hp
  have hlen : (ys.map V.str).length ≤ sizeLine := by rw [List.length_map, hm.length_eq, sizeLine_eq]; omega
  have J : Inv X pins σ (upd H p (.lst (ys.map V.str))) { s with heap := s'.heap, gens := s'.gens, drawn := s'.drawn, toks := s'.toks } :=
    I.call (ch := []) (Un.laid k hp hn) (I.hok.laid k hp ⟨hlen, out.toList, c, vals_of_strs hS, hg⟩) (by rw [g]; exact I.bare) (fun _ z => nomatch z)
  have e : s' = { s with heap := s'.heap, gens := s'.gens, drawn := s'.drawn, toks := s'.toks } := by
    obtain ⟨_, _, _, _, _⟩ := s'
    obtain ⟨_, _, _, _, _⟩ := s
    cases o
    rfl
  rw [e]
  exact ⟨.ref p, _, J, rfl, q ys p hm hs hn⟩
end
end OwnS
/-! own: {e for x in xs if t} and {e for x in xs if t for y in ys if u}, e a text -/
namespace OwnS
open PySem PySem.Spec PyProof.Rows L2

section
variable {P : Program} {w : World} {A : Around} {R : Result → Shared → Prop} {s : Shared} {elt ta ia tb ib : Expr} {fa fb : List Expr} {scope : Scope} {pos : Pos} {it acc : Value} {env : Env}
/-- the tests of a clause -/
def oks (ifs : List Expr) (env : Env) : Sem Bool := forIn ifs true fun c r => if r = true then do let ok ← isTrue c env (eval c env); pure (ForInStep.yield ok) else pure (ForInStep.yield r)
abbrev S2 (elt ta ia tb ib : Expr) (fa fb : List Expr) (scope : Scope) (pos : Pos) : Expr := .SetComp elt [⟨ta, ia, fa, 0⟩, ⟨tb, ib, fb, 0⟩] scope pos
theorem turn_a : compTurn (S2 elt ta ia tb ib fa fb scope pos) 0 it acc env = (do
      standAt ia.pos
      match ← pyNext it with
      | none => pure (.done .next)
      | some v =>
        letOwnedTupleGo ta it v
        assign ta env v
        let ok ← oks fa env
        if ok then
          let x ← eval ib env
          standAt ib.pos
          let x ← foldedSetIterable ib env x
          let _ ← runOwn (.compStart (S2 elt ta ia tb ib fa fb scope pos) 1 (← holding [x] (pyIter x)) acc env) env
        again (.compLoop (S2 elt ta ia tb ib fa fb scope pos) 0 it acc env)) := by rfl
theorem turn_b : compTurn (S2 elt ta ia tb ib fa fb scope pos) 1 it acc env = (do
      standAt ib.pos
      match ← pyNext it with
      | none => pure (.done .next)
      | some v =>
        letOwnedTupleGo tb it v
        assign tb env v
        let ok ← oks fb env
        if ok then
          (do let v ← eval elt env; standAt elt.pos; let _ ← call (.builtin "set.add") [acc, v])
        again (.compLoop (S2 elt ta ia tb ib fa fb scope pos) 1 it acc env)) := by rfl
/-- what is wanted where something is raised -/
abbrev Rz (P : Program) (w : World) (A : Around) (env : Env) (R : Result → Shared → Prop) : Value → Shared → Prop := notedBy (model P w) A env fun e s' => R (.error e) s'
theorem loop_a (hs : ∀ x, foldedSetIterable ib env x = pure x) (I : Nat → Shared → Prop)
    (turn : ∀ n s, I n s → wpAny (model P w) A (pyNext it) (fun r s₁ => match r with
      | none => R (.ok .next) s₁
      | some v => wpAny (model P w) A (letOwnedTupleGo ta it v) (fun _ s₂ => wpAny (model P w) A (assign ta env v) (fun _ s₃ => wpAny (model P w) A (oks fa env) (fun ok s₄ =>
            if ok = true then wpAny (model P w) A (eval ib env) (fun x s₅ => wpAny (model P w) A (pyIter x) (fun jt s₆ =>
              codeAny (model P w) A (.compStart (S2 elt ta ia tb ib fa fb scope pos) 1 jt acc env) (fun r s' => match r with
                | .ok _ => ∃ m, m < n ∧ I m s'
                | .error _ => False) s₆) (Rz P w A env R) s₅) (Rz P w A env R) s₄
            else ∃ m, m < n ∧ I m s₄) (Rz P w A env R) s₃) (Rz P w A env R) s₂) (Rz P w A env R) s₁) (Rz P w A env R) s)
    (n : Nat) (h : I n s) : codeAny (model P w) A (.compLoop (S2 elt ta ia tb ib fa fb scope pos) 0 it acc env) R s := by
  apply codeAny_loop rfl I _ n h
  intro n s hI
  show wpAny _ A ((compTurn (S2 elt ta ia tb ib fa fb scope pos) 0 it acc env).onRaise (fun x => do noteFrame x env; theTreesLotGoes x)) _ _ s
  apply wpAny_noted
  rw [turn_a]
  apply wpAny_bind
  apply wpAny_standAt
  apply wpAny_bind
  refine wpAny_mono (turn n s hI) (fun r s₁ h₁ => ?_) (fun _ _ z => z)
  cases r with
  | none => exact wpAny_pure h₁
  | some v =>
    apply wpAny_bind
    refine wpAny_mono h₁ (fun _ s₂ h₂ => ?_) (fun _ _ z => z)
    apply wpAny_bind
    refine wpAny_mono h₂ (fun _ s₃ h₃ => ?_) (fun _ _ z => z)
    apply wpAny_bind
    refine wpAny_mono h₃ (fun ok s₄ h₄ => ?_) (fun _ _ z => z)
    cases ok
    · exact wpAny_pure ⟨rfl, h₄⟩
    · apply wpAny_bind
      refine wpAny_mono h₄ (fun x s₅ h₅ => ?_) (fun _ _ z => z)
      apply wpAny_bind
      apply wpAny_standAt
      apply wpAny_bind
      apply wpAny_of_eq (hs x)
      apply wpAny_bind
      apply wpAny_holding
      refine wpAny_mono h₅ (fun jt s₆ h₆ => ?_) (fun _ _ z => z)
      refine wpAny_bind (wpAny_runOwn ?_)
      rw [Around.mark_none]
      refine codeAny_mono h₆ fun r s' hr => ?_
      rcases r with e | f
      · exact hr.elim
      · first
          | exact wpAny_pure ⟨rfl, hr⟩
          | exact wpAny_bind (wpAny_pure (wpAny_pure ⟨rfl, hr⟩))
theorem loop_b (I : Nat → Shared → Prop)
    (turn : ∀ n s, I n s → wpAny (model P w) A (pyNext it) (fun r s₁ => match r with
      | none => R (.ok .next) s₁
      | some v => wpAny (model P w) A (letOwnedTupleGo tb it v) (fun _ s₂ => wpAny (model P w) A (assign tb env v) (fun _ s₃ => wpAny (model P w) A (oks fb env) (fun ok s₄ =>
            if ok = true then wpAny (model P w) A (eval elt env) (fun x s₅ => wpAny (model P w) A (call (.builtin "set.add") [acc, x]) (fun _ s₆ => ∃ m, m < n ∧ I m s₆) (Rz P w A env R) s₅) (Rz P w A env R) s₄
            else ∃ m, m < n ∧ I m s₄) (Rz P w A env R) s₃) (Rz P w A env R) s₂) (Rz P w A env R) s₁) (Rz P w A env R) s)
    (n : Nat) (h : I n s) : codeAny (model P w) A (.compLoop (S2 elt ta ia tb ib fa fb scope pos) 1 it acc env) R s := by
  apply codeAny_loop rfl I _ n h
  intro n s hI
  show wpAny _ A ((compTurn (S2 elt ta ia tb ib fa fb scope pos) 1 it acc env).onRaise (fun x => do noteFrame x env; theTreesLotGoes x)) _ _ s
  apply wpAny_noted
  rw [turn_b]
  apply wpAny_bind
  apply wpAny_standAt
  apply wpAny_bind
  refine wpAny_mono (turn n s hI) (fun r s₁ h₁ => ?_) (fun _ _ z => z)
  cases r with
  | none => exact wpAny_pure h₁
  | some v =>
    apply wpAny_bind
    refine wpAny_mono h₁ (fun _ s₂ h₂ => ?_) (fun _ _ z => z)
    apply wpAny_bind
    refine wpAny_mono h₂ (fun _ s₃ h₃ => ?_) (fun _ _ z => z)
    apply wpAny_bind
    refine wpAny_mono h₃ (fun ok s₄ h₄ => ?_) (fun _ _ z => z)
    cases ok
    · exact wpAny_pure ⟨rfl, h₄⟩
    · apply wpAny_bind
      apply wpAny_bind
      refine wpAny_mono h₄ (fun x s₅ h₅ => ?_) (fun _ _ z => z)
      apply wpAny_bind
      apply wpAny_standAt
      apply wpAny_bind
      exact wpAny_mono h₅ (fun _ s₆ h₆ => wpAny_pure (wpAny_pure ⟨rfl, h₆⟩)) (fun _ _ z => z)
/-- the start of a clause's loop -/
theorem begin_b (h0 : codeAny (model P w) A (.compLoop (S2 elt ta ia tb ib fa fb scope pos) 1 it acc env) R s)
    (h : wpAny (model P w) A (pyIter it) (fun jt s' => codeAny (model P w) A (.compLoop (S2 elt ta ia tb ib fa fb scope pos) 1 jt acc env) R s') (Rz P w A env R) s) :
    codeAny (model P w) A (.compStart (S2 elt ta ia tb ib fa fb scope pos) 1 it acc env) R s := by
  apply codeAny_of_tree
  show wpAny _ _ ((compStart (S2 elt ta ia tb ib fa fb scope pos) 1 it acc env).onRaise (fun x => do noteFrame x env; standAt theWindowsPlace)) _ _ s
  apply wpAny_notedAt
  unfold compStart
  show wpAny _ _ (ask >>= _) _ _ s
  apply wpAny_bind
  apply wpAny_askSetting
  apply wpAny_ite
  split
  · first
      | exact wpAny_bind (wpAny_pure (wpAny_pure (And.intro rfl h0)))
      | exact wpAny_pure (And.intro rfl h0)
  · first
      | exact wpAny_bind (wpAny_rule (wpAny_bind (wpAny_standAt (wpAny_bind (wpAny_mono h (fun jt s' z => wpAny_pure (And.intro rfl z)) fun _ _ z => z)))))
      | (refine wpAny_bind (wpAny_rule ?_); show wpAny _ _ (standAt ib.pos >>= _) _ _ s; exact wpAny_bind (wpAny_standAt (wpAny_bind (wpAny_mono h (fun jt s' z => wpAny_pure (And.intro rfl z)) fun _ _ z => z))))
end
end OwnS
namespace OwnS
open PySem PySem.Spec PyProof.Rows L2
abbrev Sl := List (Option V)
section
variable {X : Cx}
/-- one text more in the set at D -/
def Put (w : World) (D : Addr) (y : V) (H : Hp) (N : Hp → Prop) : Prop := ∃ (k : Str) (xs : List Str), y = .str k ∧ H D = some (SO w D xs) ∧ xs.length + 1 < scanBound ∧ N (upd H D (SO w D (if k ∈ xs then xs else k :: xs)))
/-- a walk's turns, W by the turn, what is left and the heap: the end reached by z, a turn by st -/
def Goes (J : It) (W : Nat → Nat → Hp → Prop) (z : Hp → Prop) (st : (Hp → Prop) → V → Hp → Prop) : Prop :=
  ∀ i m H, W i m H → (J.stop i H ∧ z H) ∨ (J.go i H ∧ ∃ N : Hp → Prop, (∀ H', N H' → ∃ m', m' < m ∧ W (i + 1) m' H') ∧ ∀ x H', J.yld i H x H' → st N x H')
def tS1 (w : World) (wi : TI) (g : TG) (tt : TT) (te : TE) (vs : List Nat) : TE := fun σ H Q => wi σ H fun J H1 => ∀ D, H1 D = none → ∃ W : Nat → Nat → Hp → Prop, (∃ m, W 0 m (upd H1 D (SO w D []))) ∧
  Goes J W (fun H => Q (.ref D) H) fun N x H => g x (wipe σ vs) H fun σ2 H2 => wipe σ2 vs = wipe σ vs ∧ tt σ2 H2 fun b H3 => if b = true then te σ2 H3 fun y H4 => Put w D y H4 N else N H3
def tS2 (w : World) (wi : TI) (g : TG) (tt : TT) (wj : TI) (gj : TG) (tj : TT) (te : TE) (vs us : List Nat) : TE := fun σ H Q => wi σ H fun J H1 => ∀ D, H1 D = none → ∃ W : Nat → Nat → Hp → Prop, (∃ m, W 0 m (upd H1 D (SO w D []))) ∧
  Goes J W (fun H => Q (.ref D) H) fun N x H => g x (wipe σ vs) H fun σ2 H2 => wipe σ2 vs = wipe σ vs ∧ tt σ2 H2 fun b H3 => if b = true then wj σ2 H3 fun J1 H4 => ∃ W1 : Nat → Nat → Hp → Prop, (∃ m, W1 0 m H4) ∧
    Goes J1 W1 N (fun N1 x1 H5 => gj x1 (wipe σ2 us) H5 fun σ3 H6 => wipe σ3 us = wipe σ2 us ∧ tj σ3 H6 fun b1 H7 => if b1 = true then te σ3 H7 fun y H8 => Put w D y H8 N1 else N1 H7)
    else N H3
theorem put_ok {pins : List (Addr × Obj)} {σ : Sl} {H : Hp} {s : Shared} {E : Value → Shared → Prop} {D : Addr} {y : V} {v : Value} {N : Hp → Prop} {Q : Value → Shared → Prop} (I : Inv X pins σ H s) (r : RelV y v) (p : Put X.w D y H N)
    (h : ∀ s' H', Inv X pins σ H' s' → N H' → Q .none s') : wpAny (model X.prog X.w) X.A (call (.builtin "set.add") [.ref D, v]) Q E s := by
  obtain ⟨k, xs, rfl, hD, room, n⟩ := p
  obtain ⟨tk, rfl⟩ := r
  exact so_add I hD room fun s' I' => h s' _ I' n
variable {elt tg iter tg1 iter1 : Expr} {ifs ifs1 : List Expr} {scope : Scope} {own : List (Str × Nat)} {vs1 : List Nat} {pos : Pos} {wi wi1 : TI} {g g1 : TG} {tt tt1 : TT} {te : TE}
theorem pe_s1 (hc : X.calm = true) (hN : X.N.Nodup) (hi : PI X tg iter wi) (ok : BlkOk X.N X.env.scope scope own)
    (hg : ∀ (s : Shared) (H : Hp) (C : Addr) (cl : List (Str × Addr)) (fp : List Addr), PG (X.blk s H scope (compEnvC scope cl C X.env) fp) tg g)
    (ht : ∀ (s : Shared) (H : Hp) (C : Addr) (cl : List (Str × Addr)) (fp : List Addr), PTs (X.blk s H scope (compEnvC scope cl C X.env) fp) ifs tt)
    (he : ∀ (s : Shared) (H : Hp) (C : Addr) (cl : List (Str × Addr)) (fp : List Addr), PE (X.blk s H scope (compEnvC scope cl C X.env) fp) elt te) (hs : ∀ x, foldedSetIterable iter X.env x = pure x := by intro _; rfl) :
    PE X (.SetComp elt [⟨tg, iter, ifs, 0⟩] scope pos) (tS1 X.w wi g tt te (own.map (·.2))) := by
  constructor
  intro pins s σ H Q I h
  rw [PpSet.eval_SetComp]
  have hfree : ∀ y ∈ scope.names, y.2 = .free → ∃ c, X.env.cells.lookup y.1 = some c := by
    intro y hy e
    exact (ok.free y hy e).elim (fun k => I.ok.has _ (.inl k)) (fun k => I.ok.has _ (.inr k))
  refine wpAny_comprehension_free (use := none) rfl hs (closure_ok hfree) ok.kind (fun y hy e => by rw [ok.uniq y hy, e]) (thn (hi.run pins s σ H _ I h) fun xv s1 hx => thn hx fun itv s2 h2 => ?_)
  obtain ⟨it, fp, tn, J, H2, e, I2, T, st2, f2, q⟩ := h2
  subst e
  refine PpSet.newSet_ok (newEnv_comp ?_)
  generalize hD : s2.heap.objs.size = D
  have nD : H2 D = none := I2.hok.fresh (Nat.le_of_eq hD)
  obtain ⟨W, ⟨m0, w0⟩, turn⟩ := q D nD
  generalize hs3 : ({ s2 with heap := s2.heap.push { cls := .type "set", dict := none, data := .set #[] 0 (.fresh 0 0 (!X.w.params.followText "set-order")) } } : Shared) = s3
  have h3 : s3.heap = s2.heap.push { cls := .type "set", dict := none, data := .set #[] 0 (.fresh 0 0 (!X.w.params.followText "set-order")) } := by rw [← hs3]
  have up : ∀ b o, s2.heap.get? b = some o → s3.heap.get? b = some o := fun b o e => by rw [h3]; exact Heap.get?_push_of_some _ e
  have I3 : Inv X pins σ (upd H2 D (SO X.w D [])) s3 := by
    rw [← hs3]
    refine I2.laid (t' := s2.toks) (fun b o e => Heap.get?_push_of_some _ e) (Nat.le_of_eq hD) ?_
    rw [← hD]
    exact so_ok (fresh_set X.w s2.heap)
  have f3 : ∀ b ∈ fp, FpOk X pins (upd H2 D (SO X.w D [])) b ∧ b < s3.heap.objs.size := fun b hb => by
    obtain ⟨o, e, _⟩ := T.obj _ _ st2 b hb
    have lt := Heap.lt_size e
    refine ⟨⟨?_, (f2 b hb).2⟩, by rw [h3, Heap.size_push]; exact Nat.lt_succ_of_lt lt⟩
    rw [upd_ne (by rw [← hD]; exact Nat.ne_of_lt lt)]
    exact (f2 b hb).1
  have I4 := block_start I3 ok hN f3
  generalize hcl : cellsFrom (s3.heap.objs.size + 1) scope.names (cloFrom X.env.cells scope.names []) = cl at I4
  have pg := hg s3 (upd H2 D (SO X.w D [])) s3.heap.objs.size cl fp
  have pt := ht s3 (upd H2 D (SO X.w D [])) s3.heap.objs.size cl fp
  have pe := he s3 (upd H2 D (SO X.w D [])) s3.heap.objs.size cl fp
  show codeAny _ _ (.compStart (.SetComp elt [⟨tg, iter, ifs, 0⟩] scope pos) 0 (.ref it) (.ref D) (compEnvC scope cl s3.heap.objs.size X.env)) (compPost (model X.prog X.w) X.A X.xe none _ (.ref D) s3.heap.objs.size) { s3 with heap := pushCells (s3.heap.push { cls := .type "dict", data := .dict #[] }) scope.names }
  have nfp : ∀ b ∈ fp, (upd H2 D (SO X.w D [])) b = none := fun b hb => (f3 b hb).1.1
  generalize hce : compEnvC scope cl s3.heap.objs.size X.env = ce at I4 pg pt pe ⊢
  have cL : ce.locals = s3.heap.objs.size := by subst hce; rfl
  generalize upd H2 D (SO X.w D []) = H3 at I3 I4 pg pt pe w0 nfp f3
  generalize hs4 : ({ s3 with heap := pushCells (s3.heap.push { cls := .type "dict", data := .dict #[] }) scope.names } : Shared) = s4 at I4 ⊢
  have st3 : tn 0 s3.heap := T.keep _ _ _ st2 fun b _ o e => up b o e
  have st4 : tn 0 s4.heap := T.keep _ _ _ st3 fun b _ o e => by rw [← hs4]; exact pushCells_keeps _ _ _ _ (Heap.get?_push_of_some _ e)
  have stat : ∀ {σ' : Sl} {H' : Hp} {s' : Shared}, Inv (X.blk s3 H3 scope ce fp) [] σ' H' s' → (∀ b ∈ fp, H' b = none) → ∀ b ∈ fp, FpOk (X.blk s3 H3 scope ce fp) [] H' b := by
    intro σ' H' s' I' hn b hb
    exact ⟨hn b hb, (I'.ok.exf b hb).1, I'.ok.exfs b hb, .inl hb, fun x c e => (I'.ok.exf b hb).2 x c e, fun p hp => (List.not_mem_nil (show p ∈ ([] : List (Addr × Obj)) from hp)).elim⟩
  have loop : codeAny (model X.prog X.w) X.A (.compLoop (.SetComp elt [⟨tg, iter, ifs, 0⟩] scope pos) 0 (.ref it) (.ref D) ce) (compPost (model X.prog X.w) X.A X.xe none (EP X pins σ Q) (.ref D) s3.heap.objs.size) s4 := by
    refine PpSet.compLoopS_any (fun n s' => ∃ i H', Inv (X.blk s3 H3 scope ce fp) [] (wipe σ (own.map (·.2))) H' s' ∧ tn i s'.heap ∧ (∀ b ∈ fp, H' b = none) ∧ W i n H') ?_ m0 ⟨0, H3, I4, st4, nfp, w0⟩
    rintro n s5 ⟨i, H5, I5, st5, n5, w5⟩
    rcases turn i n H5 w5 with ⟨stop, qq⟩ | ⟨go, N, hN', step⟩
    · refine thnF (T.done (X.blk s3 H3 scope ce fp) rfl rfl rfl hc i [] s5 _ H5 (fun _ _ => False) I5 (stat I5 n5) st5 stop) fun r s6 ⟨hr, I6⟩ => ?_
      subst hr
      have I7 : Inv X pins σ H5 s6 := I3.call' (ch := fp) I6.os I6.base I6.hok I6.bare fun b hb => ⟨(f3 b hb).1.2.2.2.1, (f3 b hb).1.2.1, (f3 b hb).1.2.2.2.2.1, (f3 b hb).1.2.2.2.2.2⟩
      have nC : H5 s3.heap.objs.size = none := by
        have z : H5 ce.locals = none := I6.free
        rwa [cL] at z
      obtain ⟨m, hn, _⟩ := I6.loc
      have hn : s6.heap.Ns ce.locals m := hn
      rw [cL] at hn
      obtain ⟨z0, z1, z2, z3, z4, z5⟩ := I3.fpOk (Nat.le_refl _) nC
      exact ⟨m, hn, fun h'' sb => ⟨.ref D, H5, I7.turned (t' := s6.toks) (fun b o hb e => (sb.2 b hb).trans e) z0 z1 z3 z4 z5, rfl, qq⟩⟩
    · refine thnF (T.item (X.blk s3 H3 scope ce fp) rfl rfl rfl hc i [] s5 _ H5 (fun _ _ => False) I5 (stat I5 n5) st5 go) fun r s6 ⟨u, hr, h6⟩ => ?_
      subst hr
      refine thnF h6 fun _ s7 ⟨x, H7, I7, r7, y7, st7, n7⟩ => ?_
      have I7' := I7.pinned (stat I7 n7) (T.obj _ _ st7)
      refine thnF (pg.run _ s7 _ H7 x u _ I7' r7 (step x H7 y7)) fun _ s8 ⟨σ8, H8, I8, hw8, q8⟩ => ?_
      refine thnF (pt.run _ s8 σ8 H8 _ I8 q8) fun b s9 ⟨H9, I9, q9⟩ => ?_
      have fin : ∀ {s' : Shared} {H' : Hp}, Inv (X.blk s3 H3 scope ce fp) ([] ++ pinsAt fp s7.heap) σ8 H' s' → N H' → ∃ m, m < n ∧ ∃ i H', Inv (X.blk s3 H3 scope ce fp) [] (wipe σ (own.map (·.2))) H' s' ∧ tn i s'.heap ∧ (∀ b ∈ fp, H' b = none) ∧ W i m H' := by
        intro s' H' I' nx
        obtain ⟨m', hm, w'⟩ := hN' H' nx
        have pin : ∀ b ∈ fp, ∀ o, s7.heap.get? b = some o → s'.heap.get? b = some o ∧ H' b = none := fun b hb o e =>
          let z := I'.pin (b, o) (List.mem_append_right _ (List.mem_append_right _ (mem_pinsAt hb e)))
          ⟨z.1, z.2.1⟩
        refine ⟨m', hm, i + 1, H', (I'.unpinned (pins := [])).weak (by rw [← hw8, wipe_length]) (fun j v e => ?_), T.keep _ _ _ st7 fun b hb o e => (pin b hb o e).1, fun b hb => ?_, w'⟩
        · rw [← hw8] at e
          exact (wipe_some e).1
        · obtain ⟨o, e, _⟩ := T.obj _ _ st7 b hb
          exact (pin b hb o e).2
      cases b with
      | false =>
        simp only [Bool.false_eq_true, if_false] at q9 ⊢
        exact fin I9 q9
      | true =>
        simp only [if_true] at q9 ⊢
        refine thnF (pe.run _ s9 σ8 H9 _ I9 q9) fun z s10 ⟨yv, H10, I10, r10, p10⟩ => ?_
        exact put_ok (X := X.blk s3 H3 scope ce fp) I10 r10 p10 fun s11 H11 I11 nx => fin I11 nx
  exact PpSet.codeAny_compStart_set loop (T.self X.A 0 _ _ _ st4 loop)
theorem pe_s2 (hc : X.calm = true) (hN : X.N.Nodup) (hi : PI X tg iter wi) (ok : BlkOk X.N X.env.scope scope own) (hv : ∀ i ∈ vs1, i ∈ own.map (·.2))
    (hg : ∀ (s : Shared) (H : Hp) (C : Addr) (cl : List (Str × Addr)) (fp : List Addr), PG (X.blk s H scope (compEnvC scope cl C X.env) fp) tg g)
    (ht : ∀ (s : Shared) (H : Hp) (C : Addr) (cl : List (Str × Addr)) (fp : List Addr), PTs (X.blk s H scope (compEnvC scope cl C X.env) fp) ifs tt)
    (he : ∀ (s : Shared) (H : Hp) (C : Addr) (cl : List (Str × Addr)) (fp : List Addr), PE (X.blk s H scope (compEnvC scope cl C X.env) fp) elt te) (hs : ∀ x, foldedSetIterable iter X.env x = pure x := by intro _; rfl)
    (hi1 : ∀ (s : Shared) (H : Hp) (C : Addr) (cl : List (Str × Addr)) (fp : List Addr), PI (X.blk s H scope (compEnvC scope cl C X.env) fp) tg1 iter1 wi1)
    (hg1 : ∀ (s : Shared) (H : Hp) (C : Addr) (cl : List (Str × Addr)) (fp : List Addr), PG (X.blk s H scope (compEnvC scope cl C X.env) fp) tg1 g1)
    (ht1 : ∀ (s : Shared) (H : Hp) (C : Addr) (cl : List (Str × Addr)) (fp : List Addr), PTs (X.blk s H scope (compEnvC scope cl C X.env) fp) ifs1 tt1) (hs1 : ∀ env x, foldedSetIterable iter1 env x = pure x := by intro _ _; rfl) :
    PE X (.SetComp elt [⟨tg, iter, ifs, 0⟩, ⟨tg1, iter1, ifs1, 0⟩] scope pos) (tS2 X.w wi g tt wi1 g1 tt1 te (own.map (·.2)) vs1) := by
  constructor
  intro pins s σ H Q I h
  rw [PpSet.eval_SetComp]
  have hfree : ∀ y ∈ scope.names, y.2 = .free → ∃ c, X.env.cells.lookup y.1 = some c := by
    intro y hy e
    exact (ok.free y hy e).elim (fun k => I.ok.has _ (.inl k)) (fun k => I.ok.has _ (.inr k))
  refine wpAny_comprehension_free (use := none) rfl hs (closure_ok hfree) ok.kind (fun y hy e => by rw [ok.uniq y hy, e]) (thn (hi.run pins s σ H _ I h) fun xv s1 hx => thn hx fun itv s2 h2 => ?_)
  obtain ⟨it, fp, tn, J, H2, e, I2, T, st2, f2, q⟩ := h2
  subst e
  refine PpSet.newSet_ok (newEnv_comp ?_)
  generalize hD : s2.heap.objs.size = D
  have nD : H2 D = none := I2.hok.fresh (Nat.le_of_eq hD)
  obtain ⟨W, ⟨m0, w0⟩, turn⟩ := q D nD
  generalize hs3 : ({ s2 with heap := s2.heap.push { cls := .type "set", dict := none, data := .set #[] 0 (.fresh 0 0 (!X.w.params.followText "set-order")) } } : Shared) = s3
  have h3 : s3.heap = s2.heap.push { cls := .type "set", dict := none, data := .set #[] 0 (.fresh 0 0 (!X.w.params.followText "set-order")) } := by rw [← hs3]
  have up : ∀ b o, s2.heap.get? b = some o → s3.heap.get? b = some o := fun b o e => by rw [h3]; exact Heap.get?_push_of_some _ e
  have I3 : Inv X pins σ (upd H2 D (SO X.w D [])) s3 := by
    rw [← hs3]
    refine I2.laid (t' := s2.toks) (fun b o e => Heap.get?_push_of_some _ e) (Nat.le_of_eq hD) ?_
    rw [← hD]
    exact so_ok (fresh_set X.w s2.heap)
  have f3 : ∀ b ∈ fp, FpOk X pins (upd H2 D (SO X.w D [])) b ∧ b < s3.heap.objs.size := fun b hb => by
    obtain ⟨o, e, _⟩ := T.obj _ _ st2 b hb
    have lt := Heap.lt_size e
    refine ⟨⟨?_, (f2 b hb).2⟩, by rw [h3, Heap.size_push]; exact Nat.lt_succ_of_lt lt⟩
    rw [upd_ne (by rw [← hD]; exact Nat.ne_of_lt lt)]
    exact (f2 b hb).1
  have I4 := block_start I3 ok hN f3
  generalize hcl : cellsFrom (s3.heap.objs.size + 1) scope.names (cloFrom X.env.cells scope.names []) = cl at I4
  have pg := hg s3 (upd H2 D (SO X.w D [])) s3.heap.objs.size cl fp
  have pt := ht s3 (upd H2 D (SO X.w D [])) s3.heap.objs.size cl fp
  have pe := he s3 (upd H2 D (SO X.w D [])) s3.heap.objs.size cl fp
  have pj := hi1 s3 (upd H2 D (SO X.w D [])) s3.heap.objs.size cl fp
  have pk := hg1 s3 (upd H2 D (SO X.w D [])) s3.heap.objs.size cl fp
  have pl := ht1 s3 (upd H2 D (SO X.w D [])) s3.heap.objs.size cl fp
  show codeAny _ _ (.compStart (.SetComp elt [⟨tg, iter, ifs, 0⟩, ⟨tg1, iter1, ifs1, 0⟩] scope pos) 0 (.ref it) (.ref D) (compEnvC scope cl s3.heap.objs.size X.env)) (compPost (model X.prog X.w) X.A X.xe none _ (.ref D) s3.heap.objs.size) { s3 with heap := pushCells (s3.heap.push { cls := .type "dict", data := .dict #[] }) scope.names }
  have nfp : ∀ b ∈ fp, (upd H2 D (SO X.w D [])) b = none := fun b hb => (f3 b hb).1.1
  generalize hce : compEnvC scope cl s3.heap.objs.size X.env = ce at I4 pg pt pe pj pk pl ⊢
  have cL : ce.locals = s3.heap.objs.size := by subst hce; rfl
  generalize upd H2 D (SO X.w D []) = H3 at I3 I4 pg pt pe pj pk pl w0 nfp f3
  generalize hs4 : ({ s3 with heap := pushCells (s3.heap.push { cls := .type "dict", data := .dict #[] }) scope.names } : Shared) = s4 at I4 ⊢
  have st3 : tn 0 s3.heap := T.keep _ _ _ st2 fun b _ o e => up b o e
  have st4 : tn 0 s4.heap := T.keep _ _ _ st3 fun b _ o e => by rw [← hs4]; exact pushCells_keeps _ _ _ _ (Heap.get?_push_of_some _ e)
  have stat : ∀ {σ' : Sl} {H' : Hp} {s' : Shared}, Inv (X.blk s3 H3 scope ce fp) [] σ' H' s' → (∀ b ∈ fp, H' b = none) → ∀ b ∈ fp, FpOk (X.blk s3 H3 scope ce fp) [] H' b := by
    intro σ' H' s' I' hn b hb
    exact ⟨hn b hb, (I'.ok.exf b hb).1, I'.ok.exfs b hb, .inl hb, fun x c e => (I'.ok.exf b hb).2 x c e, fun p hp => (List.not_mem_nil (show p ∈ ([] : List (Addr × Obj)) from hp)).elim⟩
  have loop : codeAny (model X.prog X.w) X.A (.compLoop (.SetComp elt [⟨tg, iter, ifs, 0⟩, ⟨tg1, iter1, ifs1, 0⟩] scope pos) 0 (.ref it) (.ref D) ce) (compPost (model X.prog X.w) X.A X.xe none (EP X pins σ Q) (.ref D) s3.heap.objs.size) s4 := by
    refine loop_a (hs1 ce) (fun n s' => ∃ i H', Inv (X.blk s3 H3 scope ce fp) [] (wipe σ (own.map (·.2))) H' s' ∧ tn i s'.heap ∧ (∀ b ∈ fp, H' b = none) ∧ W i n H') ?_ m0 ⟨0, H3, I4, st4, nfp, w0⟩
    rintro n s5 ⟨i, H5, I5, st5, n5, w5⟩
    rcases turn i n H5 w5 with ⟨stop, qq⟩ | ⟨go, N, hN', step⟩
    · refine thnF (T.done (X.blk s3 H3 scope ce fp) rfl rfl rfl hc i [] s5 _ H5 (fun _ _ => False) I5 (stat I5 n5) st5 stop) fun r s6 ⟨hr, I6⟩ => ?_
      subst hr
      have I7 : Inv X pins σ H5 s6 := I3.call' (ch := fp) I6.os I6.base I6.hok I6.bare fun b hb => ⟨(f3 b hb).1.2.2.2.1, (f3 b hb).1.2.1, (f3 b hb).1.2.2.2.2.1, (f3 b hb).1.2.2.2.2.2⟩
      have nC : H5 s3.heap.objs.size = none := by
        have z : H5 ce.locals = none := I6.free
        rwa [cL] at z
      obtain ⟨m, hn, _⟩ := I6.loc
      have hn : s6.heap.Ns ce.locals m := hn
      rw [cL] at hn
      obtain ⟨z0, z1, z2, z3, z4, z5⟩ := I3.fpOk (Nat.le_refl _) nC
      exact ⟨m, hn, fun h'' sb => ⟨.ref D, H5, I7.turned (t' := s6.toks) (fun b o hb e => (sb.2 b hb).trans e) z0 z1 z3 z4 z5, rfl, qq⟩⟩
    · refine thnF (T.item (X.blk s3 H3 scope ce fp) rfl rfl rfl hc i [] s5 _ H5 (fun _ _ => False) I5 (stat I5 n5) st5 go) fun r s6 ⟨u, hr, h6⟩ => ?_
      subst hr
      refine thnF h6 fun _ s7 ⟨x, H7, I7, r7, y7, st7, n7⟩ => ?_
      have I7' := I7.pinned (stat I7 n7) (T.obj _ _ st7)
      refine thnF (pg.run _ s7 _ H7 x u _ I7' r7 (step x H7 y7)) fun _ s8 ⟨σ8, H8, I8, hw8, q8⟩ => ?_
      refine thnF (pt.run _ s8 σ8 H8 _ I8 q8) fun b s9 ⟨H9, I9, q9⟩ => ?_
      have fin : ∀ {σ9 : Sl} {s' : Shared} {H' : Hp}, Inv (X.blk s3 H3 scope ce fp) ([] ++ pinsAt fp s7.heap) σ9 H' s' → (wipe σ (own.map (·.2))).length = σ9.length → (∀ (j : Nat) v, (wipe σ (own.map (·.2)))[j]? = some (some v) → σ9[j]? = some (some v)) → N H' →
          ∃ m, m < n ∧ ∃ i H', Inv (X.blk s3 H3 scope ce fp) [] (wipe σ (own.map (·.2))) H' s' ∧ tn i s'.heap ∧ (∀ b ∈ fp, H' b = none) ∧ W i m H' := by
        intro σ9 s' H' I' hl hk nx
        obtain ⟨m', hm, w'⟩ := hN' H' nx
        have pin : ∀ b ∈ fp, ∀ o, s7.heap.get? b = some o → s'.heap.get? b = some o ∧ H' b = none := fun b hb o e =>
          let z := I'.pin (b, o) (List.mem_append_right _ (List.mem_append_right _ (mem_pinsAt hb e)))
          ⟨z.1, z.2.1⟩
        refine ⟨m', hm, i + 1, H', (I'.unpinned (pins := [])).weak hl hk, T.keep _ _ _ st7 fun b hb o e => (pin b hb o e).1, fun b hb => ?_, w'⟩
        obtain ⟨o, e, _⟩ := T.obj _ _ st7 b hb
        exact (pin b hb o e).2
      have l8 : (wipe σ (own.map (·.2))).length = σ8.length := by rw [← hw8, wipe_length]
      have k8 : ∀ (j : Nat) v, (wipe σ (own.map (·.2)))[j]? = some (some v) → σ8[j]? = some (some v) := by
        intro j v e
        rw [← hw8] at e
        exact (wipe_some e).1
      have k9 : ∀ (j : Nat) v, (wipe σ (own.map (·.2)))[j]? = some (some v) → (wipe σ8 vs1)[j]? = some (some v) := by
        intro j v e
        rw [← hw8] at e
        obtain ⟨e1, e2⟩ := wipe_some e
        rw [wipe_out fun z => e2 (hv j z)]
        exact e1
      cases b with
      | false =>
        simp only [Bool.false_eq_true, if_false] at q9 ⊢
        exact fin I9 l8 k8 q9
      | true =>
        simp only [if_true] at q9 ⊢
        refine thnF (pj.run _ s9 σ8 H9 _ I9 q9) fun xv s10 hx => thnF hx fun itv s11 h11 => ?_
        obtain ⟨it1, fp1, tn1, J1, H11, e1, I11, T1, st11, f11, W1, ⟨m1, w1⟩, turn1⟩ := h11
        subst e1
        have stat1 : ∀ {H' : Hp}, (∀ b ∈ fp1, H' b = none) → ∀ b ∈ fp1, FpOk (X.blk s3 H3 scope ce fp) ([] ++ pinsAt fp s7.heap) H' b := fun hn b hb => ⟨hn b hb, (f11 b hb).2⟩
        have loop1 : codeAny (model X.prog X.w) X.A (.compLoop (.SetComp elt [⟨tg, iter, ifs, 0⟩, ⟨tg1, iter1, ifs1, 0⟩] scope pos) 1 (.ref it1) (.ref D) ce)
            (fun r s' => match r with
              | .ok _ => ∃ m, m < n ∧ ∃ i H', Inv (X.blk s3 H3 scope ce fp) [] (wipe σ (own.map (·.2))) H' s' ∧ tn i s'.heap ∧ (∀ b ∈ fp, H' b = none) ∧ W i m H'
              | .error _ => False) s11 := by
          refine loop_b (fun k s' => ∃ j H', Inv (X.blk s3 H3 scope ce fp) ([] ++ pinsAt fp s7.heap) (wipe σ8 vs1) H' s' ∧ tn1 j s'.heap ∧ (∀ b ∈ fp1, H' b = none) ∧ W1 j k H') ?_ m1
            ⟨0, H11, I11.weak (wipe_length _ _) (fun j v e => (wipe_some e).1), st11, fun b hb => (f11 b hb).1, w1⟩
          rintro k s12 ⟨j, H12, I12, st12, n12, w12⟩
          rcases turn1 j k H12 w12 with ⟨stop1, nx1⟩ | ⟨go1, N1, hN1, step1⟩
          · refine thnF (T1.done (X.blk s3 H3 scope ce fp) rfl rfl rfl hc j _ s12 (wipe σ8 vs1) H12 (fun _ _ => False) I12 (stat1 n12) st12 stop1) fun r s13 ⟨hr, I13⟩ => ?_
            subst hr
            exact fin I13 (l8.trans (wipe_length σ8 vs1).symm) k9 nx1
          · refine thnF (T1.item (X.blk s3 H3 scope ce fp) rfl rfl rfl hc j _ s12 (wipe σ8 vs1) H12 (fun _ _ => False) I12 (stat1 n12) st12 go1) fun r s13 ⟨u1, hr, h13⟩ => ?_
            subst hr
            refine thnF h13 fun _ s14 ⟨x1, H14, I14, r14, y14, st14, n14⟩ => ?_
            have I14' := I14.pinned (stat1 n14) (T1.obj _ _ st14)
            refine thnF (pk.run _ s14 (wipe σ8 vs1) H14 x1 u1 _ I14' r14 (step1 x1 H14 y14)) fun _ s15 ⟨σ15, H15, I15, hw15, q15⟩ => ?_
            refine thnF (pl.run _ s15 σ15 H15 _ I15 q15) fun b1 s16 ⟨H16, I16, q16⟩ => ?_
            have fin1 : ∀ {s' : Shared} {H' : Hp}, Inv (X.blk s3 H3 scope ce fp) (([] ++ pinsAt fp s7.heap) ++ pinsAt fp1 s14.heap) σ15 H' s' → N1 H' →
                ∃ m, m < k ∧ ∃ j H', Inv (X.blk s3 H3 scope ce fp) ([] ++ pinsAt fp s7.heap) (wipe σ8 vs1) H' s' ∧ tn1 j s'.heap ∧ (∀ b ∈ fp1, H' b = none) ∧ W1 j m H' := by
              intro s' H' I' nx
              obtain ⟨m', hm, w'⟩ := hN1 H' nx
              have pin : ∀ b ∈ fp1, ∀ o, s14.heap.get? b = some o → s'.heap.get? b = some o ∧ H' b = none := fun b hb o e =>
                let z := I'.pin (b, o) (List.mem_append_right _ (List.mem_append_right _ (mem_pinsAt hb e)))
                ⟨z.1, z.2.1⟩
              refine ⟨m', hm, j + 1, H', I'.unpinned.weak (by rw [← hw15, wipe_length]) (fun j v e => by rw [← hw15] at e; exact (wipe_some e).1), T1.keep _ _ _ st14 fun b hb o e => (pin b hb o e).1, fun b hb => ?_, w'⟩
              obtain ⟨o, e, _⟩ := T1.obj _ _ st14 b hb
              exact (pin b hb o e).2
            cases b1 with
            | false =>
              simp only [Bool.false_eq_true, if_false] at q16 ⊢
              exact fin1 I16 q16
            | true =>
              simp only [if_true] at q16 ⊢
              refine thnF (pe.run _ s16 σ15 H16 _ I16 q16) fun z s17 ⟨yv, H17, I17, r17, p17⟩ => ?_
              exact put_ok (X := X.blk s3 H3 scope ce fp) I17 r17 p17 fun s18 H18 I18 nx => fin1 I18 nx
        exact begin_b loop1 (T1.self X.A 0 _ _ _ st11 loop1)
  exact PpSet.codeAny_compStart_set loop (T.self X.A 0 _ _ _ st4 loop)
end
end OwnS
/-! own: set(xs) of a list of texts -/
namespace OwnS
open PySem PySem.Spec PyProof.Rows L2
/-- the texts of a list, each once, as they are put in -/
def once : List Str → List Str → List Str
  | acc, [] => acc
  | acc, k :: r => once (if k ∈ acc then acc else k :: acc) r
theorem once_mem : ∀ (xs acc : List Str) (k : Str), k ∈ once acc xs ↔ k ∈ acc ∨ k ∈ xs
  | [], acc, k => by simp [once]
  | x :: r, acc, k => by
    unfold once
    rw [once_mem r]
    by_cases h : x ∈ acc
    · rw [if_pos h, List.mem_cons]
      constructor
      · rintro (a | a)
        · exact .inl a
        · exact .inr (.inr a)
      · rintro (a | rfl | a)
        · exact .inl a
        · exact .inl h
        · exact .inr a
    · rw [if_neg h, List.mem_cons, List.mem_cons]
      constructor
      · rintro ((rfl | a) | a)
        · exact .inr (.inl rfl)
        · exact .inl a
        · exact .inr (.inr a)
      · rintro (a | rfl | a)
        · exact .inl (.inr a)
        · exact .inl (.inl rfl)
        · exact .inr a
theorem once_nodup : ∀ (xs acc : List Str), acc.Nodup → (once acc xs).Nodup
  | [], _, h => h
  | x :: r, acc, h => by
    unfold once
    refine once_nodup r _ ?_
    by_cases g : x ∈ acc
    · rw [if_pos g]; exact h
    · rw [if_neg g]; exact List.nodup_cons.mpr ⟨g, h⟩
theorem once_len : ∀ (xs acc : List Str), (once acc xs).length ≤ acc.length + xs.length
  | [], _ => Nat.le_refl _
  | x :: r, acc => by
    unfold once
    have := once_len r (if x ∈ acc then acc else x :: acc)
    by_cases g : x ∈ acc
    · rw [if_pos g] at this ⊢; rw [List.length_cons]; omega
    · rw [if_neg g, List.length_cons] at this; rw [if_neg g, List.length_cons]; omega
theorem code_led {P : Program} {w : World} {A : Around} {E : Value → Shared → Prop} {s : Shared} (a : Value) {Q : Value → Shared → Prop}
    (h : Q (.ref s.heap.objs.size) { s with heap := s.heap.push { cls := .type "set", dict := none, data := .set #[] 0 (.fresh 0 0 (!w.params.followText "set-order")) } }) :
    codeAny (model P w) A (.call (.builtin "set.__new__") ⟨[.type "set", a], []⟩) (wants Q E) s := by
  apply codeAny_of_tree
  show wpAny _ A.in1 (do checkBuiltinCall "set.__new__" ⟨[.type "set", a], []⟩; again (.builtin "set.__new__" ⟨[.type "set", a], []⟩)) _ _ s
  refine wpAny_bind (wpAny_of_eq (F.newCall_set_1 a) (wpAny_pure ⟨plainId_quiet F.plain_set_new _, codeAny_builtin F.entry_set_new ?_⟩))
  rw [Around.under_plainId F.plain_set_new _]
  unfold Builtin.«set.__new__» Builtin.Frozenset.newClass
  have hsub := sub_set_self
  obtain ⟨hp, g, d, tk, os⟩ := s
  dsimp only
  wp_walk
  refine wpAny_askSetting (wpAny_pure ?_)
  dsimp only
  simp only [newObj]
  refine wpAny_bind (wpAny_alloc (wpAny_pure ?_))
  exact wpAny_pure h
section
variable {prog : Program} {w : World} {A : Around} {R : Result → Shared → Prop} {I : Addr} {fp wr : List Addr} {G : Array GenState → Array GenState → Prop} {n : Nat} {P : Nat → Value → Prop} {St : Nat → Shared → Prop}
theorem put_all (W : WalksS prog w A.in1 I fp wr G n P St) (S : Addr) (hSf : S ∉ fp) (xs : List Str) (hn : xs.length = n) (hsz : n < scanBound) (hval : ∀ i v, P i v → ∃ t, v = .str (xs.getD i Str.empty) t) :
    ∀ (k i : Nat) (s : Shared) (acc : List Str), n - i = k → i ≤ n → St i s → acc.length ≤ i → TSet w s.heap S acc →
      (∀ s', Moved (S :: wr) G s s' → TSet w s'.heap S (once acc (xs.drop i)) → R (.ok (.ret .none)) s') → codeAny (model prog w) A (.builtin "set.update.loop" ⟨[.ref S, .ref I], []⟩) R s := by
  have hSw : S ∉ wr := fun h => hSf (W.sub _ h)
  have hsub : ∀ b ∈ wr, b ∈ S :: wr := fun b hb => List.mem_cons_of_mem _ hb
  intro k
  induction k with
  | zero =>
    intro i s acc hk hi hst hl hS hR
    obtain rfl : i = n := by omega
    apply codeAny_builtin PyProof.Rows.F.entry_set_update_loop
    rw [Around.under_plainId PyProof.Rows.F.plain_set_update_loop _]
    show wpAny _ A.in1 (pyNext (.ref I) >>= _) _ _ s
    refine wpAny_bind (W.done s _ _ hst fun s' hm => ?_)
    show wpAny _ A.in1 (ret Value.none) _ _ s'
    apply wpAny_pure
    refine hR s' (hm.mono hsub) ?_
    rw [List.drop_of_length_le (by omega)]
    exact hS.move fun o e => hm.heap S _ hSw e
  | succ k ih =>
    intro i s acc hk hi hst hl hS hR
    have lt : i < n := by omega
    apply codeAny_builtin PyProof.Rows.F.entry_set_update_loop
    rw [Around.under_plainId PyProof.Rows.F.plain_set_update_loop _]
    show wpAny _ A.in1 (pyNext (.ref I) >>= _) _ _ s
    refine wpAny_bind (W.item i s _ _ lt hst fun v s' hP hst' hm => ?_)
    obtain ⟨t, rfl⟩ := hval i v hP
    have hS' : TSet w s'.heap S acc := hS.move fun o e => hm.heap S _ hSw e
    show wpAny _ A.in1 (holding [Value.str (xs.getD i Str.empty) t] (setAdd S (.str (xs.getD i Str.empty) t)) >>= _) _ _ s'
    apply wpAny_bind
    apply wpAny_holding
    unfold setAdd
    apply wpAny_holding
    apply wpAny_bind
    apply (PySem.strKind prog w).pyHash (k := xs.getD i Str.empty) (isOf _ _ _ _)
    refine add_hashed (s := { s' with toks := s'.toks + 1 }) hS' (by omega) fun h' b sb r => ?_
    have ed : xs.drop i = xs.getD i Str.empty :: xs.drop (i + 1) := by
      rw [List.drop_eq_getElem_cons (by omega : i < xs.length), List.getD_eq_getElem?_getD, List.getElem?_eq_getElem (by omega : i < xs.length)]
      rfl
    refine wpAny_pure ⟨plainId_quiet PyProof.Rows.F.plain_set_update_loop _, ih (i + 1) _ _ (by omega) lt (W.frame _ s' _ _ hst' (Nat.le_succ _) fun c hc o e => ?_) ?_ r fun s'' hm'' hS'' => ?_⟩
    · rw [sb.2 c (fun z : c = S => hSf (by rw [← z]; exact hc))]; exact e
    · split
      · omega
      · rw [List.length_cons]; omega
    · refine hR s'' (Moved.trans W.gtrans ((hm.mono hsub).then_heap (Nat.le_succ _) fun c o hc e => ?_) hm'') ?_
      · rw [sb.2 c (fun z : c = S => hc (by rw [z]; exact List.mem_cons_self))]; exact e
      · rw [ed]
        exact hS''
end
section
variable {prog : Program} {w : World} {A : Around} {E : Value → Shared → Prop} {s : Shared}
theorem set_list {l : Addr} {items : Array Value} {xs : List Str} {Q : Value → Shared → Prop} (hh : A.handled = none) (hl : s.heap.IsList l items) (hi : PyProof.Rows.StrsAre items.toList xs) (hn1 : xs.length < scanBound)
    (h : ∀ (h' : Heap) (tk : Nat), TSet w h' s.heap.objs.size (once [] xs) → (∀ b o, b < s.heap.objs.size → s.heap.get? b = some o → h'.get? b = some o) → Q (.ref s.heap.objs.size) { s with heap := h', toks := tk }) :
    wpAny (model prog w) A (call (.type "set") [.ref l]) Q E s := by
  obtain ⟨c, tl, hmro⟩ := PySem.F.called_set.mro
  have hmade := PySem.F.called_set.made
  have hsub := PySem.F.called_set.sub
  refine wpAny_call (codeAny_of_tree ?_)
  show wpAny _ _ (callAny (.type "set") _) _ _ _
  refine wpAny_pure ⟨Code.quiet_builtin _ (by decide +kernel), codeAny_builtin PySem.F.entry_type_call ?_⟩
  rw [Around.under_plain (weight_type_call_type "set" [.ref l] []) rfl]
  have h1 := PySem.F.called_set.notType
  have h2 := PySem.F.called_set.canCreate
  have hct := PySem.F.typeCall_set_1 (.ref l)
  repeat (any_goals (first | assumption | wp_step))
  have fresh1 := fresh_set w s.heap
  generalize hld : (!w.params.followText "set-order") = led at fresh1
  refine codeAny_mono (code_led (.ref l) (E := E) (Q := fun obj s₁ => obj = .ref s.heap.objs.size ∧ s₁ = { s with heap := s.heap.push { cls := .type "set", dict := none, data := .set #[] 0 (.fresh 0 0 led) } }) ⟨rfl, by rw [hld]⟩) fun r s₁ hr => ?_
  rcases r with e | fl
  · exact hr
  cases fl with
  | ret obj =>
    obtain ⟨rfl, rfl⟩ := hr
    have hS : (s.heap.push { cls := .type "set", dict := none, data := .set #[] 0 (.fresh 0 0 led) }).get? s.heap.objs.size = some { cls := .type "set", dict := none, data := .set #[] 0 (.fresh 0 0 led) } := Heap.get?_push_size _ rfl
    have hT : Shared.TypeIs { s with heap := s.heap.push { cls := .type "set", dict := none, data := .set #[] 0 (.fresh 0 0 led) } } (.ref s.heap.objs.size) "set" := ⟨_, hS, rfl⟩
    have hli := PySem.F.called_set.init.lookup
    have hbi := PySem.F.called_set.init.bind (.ref s.heap.objs.size)
    repeat (any_goals (first | assumption | wp_step))
    refine codeAny_mono (codeAny_call_builtin (R := wants (fun r s₂ => r = .none ∧ ∃ h' tk, s₂ = { s with heap := h', toks := tk } ∧ TSet w h' s.heap.objs.size (once [] xs) ∧
        (∀ b o, b < s.heap.objs.size → s.heap.get? b = some o → h'.get? b = some o)) E) PySem.F.called_set.init.plain PySem.F.entry_set_init (check_set_init_1 hT ?_)) fun r₂ s₂ hr₂ => ?_
    · obtain ⟨ol, hol, hcl, nl, hdl⟩ := hl
      obtain ⟨ocls, odict, odata, oslots⟩ := ol
      simp only at hcl hdl
      subst hcl
      subst hdl
      have hol' : (s.heap.push { cls := .type "set", dict := none, data := .set #[] 0 (.fresh 0 0 led) }).get? l = some { cls := .type "list", dict := odict, data := .seq items nl, slots := oslots } := Heap.get?_push_of_some _ hol
      have hsls := PySem.F.sub_list_set
      have hslf := PySem.F.sub_list_frozenset
      have hne : (Value.type "list" == Value.type "dict") = false := by decide
      have hl1 : (s.heap.push { cls := .type "set", dict := none, data := .set #[] 0 (.fresh 0 0 led) }).IsList l items := ⟨_, hol', rfl, nl, rfl⟩
      unfold Builtin.«set.__init__» noKeywords Builtin.Frozenset.updateFrom
      generalize hPI : pyIter = PI
      wp_walk
      subst hPI
      refine wpAny_pyIter_list hl1 ?_
      refine wpAny_bind (wpAny_runValue ?_)
      have hlS : l < s.heap.objs.size := Heap.lt_size hol
      have hh3 : A.in1.in1.in1.handled = none := by simp [hh]
      have hneI : l ≠ (s.heap.push { cls := .type "set", dict := none, data := .set #[] 0 (.fresh 0 0 led) }).objs.size := by
        rw [Heap.size_push]; exact Nat.ne_of_lt (Nat.lt_succ_of_lt hlS)
      have hSf : s.heap.objs.size ∉ [(s.heap.push { cls := .type "set", dict := none, data := .set #[] 0 (.fresh 0 0 led) }).objs.size, l] := by
        rw [Heap.size_push]; simp only [List.mem_cons, List.mem_singleton, List.not_mem_nil, or_false, not_or]
        exact ⟨Nat.ne_of_lt (Nat.lt_succ_self _), Nat.ne_of_gt hlS⟩
      have hsz : xs.length = items.size := by rw [← StrsAre.len_eq hi, Array.length_toList]
      have hval : ∀ (i : Nat) (v : Value), items[i]? = some v → ∃ t, v = .str (xs.getD i Str.empty) t := by
        have key : ∀ {us : List Value} {ys : List Str}, StrsAre us ys → ∀ (i : Nat) (v : Value), us[i]? = some v → ∃ t, v = .str (ys.getD i Str.empty) t := by
          intro us ys hr
          induction hr with
          | nil => intro i v e; simp at e
          | cons x t _ ih =>
            intro i v e
            cases i with
            | zero => simp at e; exact ⟨t, by rw [← e]; rfl⟩
            | succ i =>
              simp only [List.getElem?_cons_succ] at e
              obtain ⟨t', q⟩ := ih i v e
              exact ⟨t', by rw [q]; rfl⟩
        exact fun i v hv => key hi i v (by rw [Array.getElem?_toList]; exact hv)
      refine put_all ((Walks.list hh3 _ l hneI items).toS) s.heap.objs.size hSf xs hsz (by rw [← hsz]; exact hn1) hval (items.size - 0) 0 _ [] (by omega) (Nat.zero_le _)
        ⟨⟨_, Heap.get?_push_size _ rfl, rfl, rfl⟩, (hl1.push _)⟩ (Nat.le_refl _) (fresh1.move fun o e => Heap.get?_push_of_some _ e) ?hR
      case hR =>
        intro s' hm hS'
        obtain ⟨h', g', d', tk', os'⟩ := s'
        obtain rfl : g' = s.gens := hm.gens
        obtain rfl : d' = s.drawn := hm.drawn
        obtain rfl : os' = s.os := hm.os
        show wpAny _ _ _ _ _ _
        apply wpAny_pure
        show wpAny _ _ (ret Value.none) _ _ _
        refine wpAny_pure ⟨rfl, h', tk', rfl, hS', fun b o hb e => ?_⟩
        have hb1 : b ≠ s.heap.objs.size := Nat.ne_of_lt hb
        have hb2 : b ≠ (s.heap.push { cls := .type "set", dict := none, data := .set #[] 0 (.fresh 0 0 led) }).objs.size := by
          rw [Heap.size_push]; exact Nat.ne_of_lt (Nat.lt_succ_of_lt hb)
        exact hm.heap b o (by simp only [List.mem_cons, List.mem_singleton, List.not_mem_nil, or_false, not_or]; exact ⟨hb1, hb2⟩) (Heap.get?_push_of_some _ (Heap.get?_push_of_some _ e))
    · rcases r₂ with e | fl₂
      · exact hr₂
      cases fl₂ with
      | ret r =>
        obtain ⟨rfl, h', tk, rfl, hS', hk'⟩ := hr₂
        repeat (any_goals (first | assumption | wp_step))
        exact h _ _ hS' hk'
      | _ => exact hr₂.elim
  | _ => exact hr.elim
end
section
variable {X : Cx}
theorem cr_setL (hc : X.calm = true) : CallR X (.type "set") (fun vs H Q => ∃ (a : Addr) (xs : List Str), vs = [V.ref a] ∧ SqL X.K H a (xs.map V.str) ∧ xs.length < scanBound ∧ ∀ p, H p = none → Q (.ref p) (upd H p (SO X.w p (once [] xs)))) := by
  intro pins s σ H vs us Q I r h
  obtain ⟨a, xs, rfl, hs, hb, q⟩ := h
  obtain ⟨its, rv, hl, _⟩ := I.list hs
  rw [Vals.ref1 r]
  refine set_list (I.ok.hd hc) hl.isList (by simpa using rv.strs) hb fun h' tk R k => ?_
  have J : Inv X pins σ (upd H s.heap.objs.size (SO X.w s.heap.objs.size (once [] xs))) { s with heap := h', toks := tk } :=
    I.laid (t' := tk) (fun b u e => k b u (Heap.lt_size e) e) (Nat.le_refl _) (so_ok R)
  exact ⟨.ref _, _, J, rfl, q _ (I.hok.fresh (Nat.le_refl _))⟩
end
end OwnS
/-! own: bool(a tuple); d.get(k), d a dict of texts that stands at the module's top -/
namespace OwnQ
open PySem PySem.Spec PyProof.Rows L2
open PySem.Sem (wp)
theorem meets_boolT (l : Addr) (items : Array Value) (hfit : (items.size : Int) < 2 ^ 63) :
    Meets (Builtin.«bool.__new__» ⟨[.type "bool", .ref l], []⟩) (fun _ R s => IsTup s.heap l items ∧ R (.ok (.ret (.bool (!items.isEmpty)))) { s with toks := s.toks + 1 + 1 }) :=
  Meets.of_wp fun prog w A R s hs => by
    obtain ⟨hl, hs⟩ := hs
    obtain ⟨hp, g, d, tk, os⟩ := s
    have f1 := F.conv_sub_bool
    repeat (any_goals (first | assumption | (with_reducible refine truthy_tuple hl hfit ?_) | wp_step))
    all_goals first | exact ⟨_, rfl, hs⟩ | exact hs | skip
section
variable {X : Cx}
theorem call_boolT : CallR X (.type "bool") (fun xs H Q => ∃ (a : Addr) (zs : List V), xs = [.ref a] ∧ SqT X.K H a zs ∧ Q (.bl (!zs.isEmpty)) H) := by
  intro pins s σ H xs us Q I r h
  obtain ⟨a, zs, rfl, hq, q⟩ := h
  obtain rfl := Vals.ref1 r
  obtain ⟨its, rv, pl, hz⟩ := I.tuple hq
  have hl := line63
  have hlen := rv.length
  refine call_bool_1 (meets_boolT a its.toArray (by simp only [List.size_toArray]; omega)) ⟨pl, rfl, ?_⟩
  refine ⟨.bl (!zs.isEmpty), H, I.tok _, ?_, q⟩
  show Value.bool _ = Value.bool _
  congr 1
  cases rv <;> rfl
/-- d.get(k) -/
def tKGet (K : PySem.W.Frag) (d : Addr) (to te : TE) : TE := fun σ H Q => to σ H fun x H1 => x = .ref d ∧ te σ H1 fun y H2 => ∃ (z : Str) (r : Option Value) (v : V), y = .str z ∧ PySem.W.nsIn K d z = some r ∧ RelV v (r.getD .none) ∧ Q v H2
theorem pe_kget {o e : Expr} {apos cpos : Pos} {to te : TE} {d : Addr} {es : Array DictEntry} {n : Nat} (D : KDict X.K X.w d es n) (ho : PE X o to) (he : PE X e te)
    (hb : attributeBase o "get" X.env (eval o X.env) = eval o X.env := by rfl)
    (hf : ((backTo cpos (starEach [e] X.env)).all (fun x => !x.1) && (backToKw cpos (keywordEach [] X.env)).all (fun x => x.1.isSome)
      && decide (([e] : List Expr).length + ([] : List Keyword).length + (if ([] : List Keyword).isEmpty then 0 else 1) < 30)) = true := by rfl)
    (hl : (apos.endLine == cpos.line) = true := by rfl) (ht : backTo cpos (starEach [e] X.env) = [(false, eval e X.env)] := by rfl) : PE X (.Call (.Attribute o "get" apos) [e] [] cpos) (tKGet X.K d to te) := by
  constructor
  intro pins s σ H Q I h
  refine wpAny_Call_method hb hf hl PySem.F.plainAttrs_dict PySem.F.slot_dict_get PySem.F.type_dict_get (thn (ho.run pins s σ H _ I h) fun u s1 ⟨x, H1, I1, rx, ex, q1⟩ => ?_)
  subst ex
  obtain rfl : u = Value.ref d := rx
  refine ⟨kd_type D I1, fun b q => ?_, ?_⟩
  · cases q
    exact ⟨_, I1.kIn _ _ D.at_, rfl⟩
  rw [ht]
  refine Calls.callWith_builtin rfl (Calls.evalArgs_plain (Calls.spliced_cons (thn (he.run pins s1 σ H1 _ I1 q1) fun iv s2 ⟨y, H2, I2, ry, z, r, v, ey, hz, rv, q2⟩ => Calls.spliced_nil ?_)))
  subst ey
  obtain ⟨t, rfl⟩ := ry
  have M := PySem.W.mapOf_K (prog := X.prog) (w := X.w) I2.kIn D.at_ D.lit
  refine call_meetsIn PySem.F.slot_dict_get M.typeIs PySem.F.entry_dict_get (PySem.F.args_dict_get_2 _ _) (meets_dict_get (PySem.strKind X.prog X.w) d (PySem.strKind_is X.prog X.w z t) D.low) ⟨_, M, ?_⟩
  rw [PySem.W.find_K D.at_ hz]
  exact ⟨v, H2, I2.tok _, rv, q2⟩
end
end OwnQ
/-! own: o.m(k = v) of an own class's instance -/
namespace OwnP
open PySem PySem.Spec PyProof.Rows L2 Own
section
variable {X : Cx} {CX : CXT} {k : Nat} {f C : Addr} {fd : FuncData} {ps ks : List Str} {sp : Sp} {E : XK} {m : Str} {pos apos : Pos} {o : Expr} {kws : List Keyword} {ta : TE} {tk : TA} {pl : Sem Bool}
  {g : List Value → List Value → List Value} {gV : List V → List V → List V}
theorem goKn {n : Nat} {pins : List (Addr × Obj)} {σ : L2.St} {H : Hp} {s : Shared} {Q : VK} {us ws : List Value} {vs zs : List V} (F : FnOk X.prog X.w X.K X.mg X.base CX k f fd ps sp) (hr : Room k X.A)
    (hb : KBn X.K fd ps n ks g gV) (hx : Passes CX X E) (I : Inv X pins σ H s) (r : Vals vs us) (rz : Vals zs ws) (l1 : us.length = n) (l2 : ws.length = ks.length) (h : sp (gV vs zs) H Q E) :
    wpAny (model X.prog X.w) X.A (call (.ref f) us (ks.zip ws)) (EP X pins σ Q) X.xe s := by
  refine wpAny_call (codeAny_mono (F.run X.A X.stack s H ⟨us, ks.zip ws⟩ (g us ws) (gV vs zs) Q E hr I.env0 (hb.to s us ws I.kIn l1 l2) (hb.rel r rz) h) fun r s' hq => ?_)
  have z := res_of I hx hq
  cases r with
  | error e => exact z
  | ok fl => cases fl <;> first | exact z | exact z.elim
def tMethK (C : Addr) (m : Str) (n : Nat) (sp : Sp) (gV : List V → List V → List V) (E : XK) (ta : TE) (tk : TA) : TE := fun σ H Q => ta σ H fun x H1 => ∃ a dx fs, x = .ref a ∧ H1 a = some (.ins C dx fs) ∧ fs.lookup m = none ∧
  tk σ H1 fun zs H2 => zs.length = n ∧ sp (gV [.ref a] zs) H2 Q E
theorem pe_methK0 (he : PE X o ta) (c : Cls X.K C) (hm : Meth X.K C m f) (F : FnOk X.prog X.w X.K X.mg X.base CX k f fd ps sp) (hr : Room k X.A) (hb : KBn X.K fd ps 1 ks g gV) (hx : Passes CX X E) (hkw : PK X kws tk)
    (hall : (backToKw pos (keywordEach kws X.env)).all (·.1.isSome) = true := by rfl) (hks : (backToKw pos (keywordEach kws X.env)).filterMap (·.1) = ks := by rfl)
    (hpl : ((backTo pos (starEach [] X.env)).any (·.1) || (backToKw pos (keywordEach kws X.env)).any (·.1.isNone)) = false := by rfl)
    (ht : eval ((o.Attribute m apos).Call [] kws pos) X.env = (do
      let ov ← eval o X.env
      standAt apos.atName
      let __x ← holding [ov] (getMethod ov m pl)
      match __x with
        | (f, first) => callWith pos f first (backTo pos (starEach [] X.env)) (backToKw pos (keywordEach kws X.env))) := by rfl) :
    PE X (.Call (.Attribute o m apos) [] kws pos) (tMethK C m ks.length sp gV E ta tk) := by
  constructor
  intro pins s σ H Q I h
  refine W.methodCall_KW (thn (he.run pins s σ H _ I h) fun u s1 ⟨x, H1, I1, rx, a, dx, fs, ex, ea, l, q⟩ => ?_) ht
  subst ex
  obtain rfl : u = Value.ref a := rx
  refine getmeth_ok I1 ea c hm l ?_
  apply W.callWith_KW0 (h₀ := X.base) I.ok.mod.kin hm.kp hall ?_ hpl
  refine thn (hkw.run pos pins s1 σ H1 _ I1 q) fun ws s2 ⟨zs, H2, I2, rz, hl, q2⟩ => ⟨I2.kIn, ?_⟩
  subst hks
  exact goKn (vs := [.ref a]) F hr hb hx I2 (.cons (show RelV (V.ref a) (Value.ref a) from rfl) .nil) rz rfl (rz.length.symm.trans hl) q2
end
/-- so many by position (self among them), so many by name -/
theorem kbn_mk {K : PySem.W.Frag} {x qual : Str} {st : Stmt} {f : Addr} {fd : FuncData} {ps ks : List Str} {n : Nat} (F : Fun K x qual st f fd)
    (h : ∀ (kV doc pm : Value) (an : Option Addr) (cdv ct : Value) (us ws : List Value), us.length = n → ws.length = ks.length → bindArgs (PySem.W.fnOf x qual (defArgs st) (defBody st) (defScope st) .none kV doc pm an cdv ct) ⟨us, ks.zip ws⟩ = pure (ps.zip (us ++ ws))) :
    KBn K fd ps n ks (fun us ws => us ++ ws) (fun us ws => us ++ ws) := by
  obtain ⟨oc, od, kV, doc, pm, an, cdv, ct, osl, rfl, lk, hcd⟩ := F.ex
  exact ⟨fun s us ws _ l1 l2 => .of_eq (h kV doc pm an cdv ct us ws l1 l2), fun r1 r2 => r1.append r2⟩
end OwnP
/-! values by data: what is shared (never written again), what one place alone holds -/
namespace OwnD
open PySem PySem.Spec PyProof.Rows L2 Own

/-- a purse, asked at most n times so far -/
def Pu (H : Hp) (p : Addr) (n : Nat) : Prop := ∃ a b c : Int, H p = some (.lst [.int a, .int b, .int c]) ∧ 0 ≤ b ∧ b < 10 ^ 25 ∧ 0 ≤ c ∧ c ≤ n
inductive D where
  | fz (d : PyData)
  | dct (kvs : List (Str × PyData))
  | ob (c : Nat) (ns : List Str) (es : List PyData)
  | own (xs : List D)
  | tup (xs : List D)
  | pur (n : Nat)
  | obj (c : Nat) (ns : List Str) (xs : List D)
  | set (xs : List Str)
  | odc (kvs : List (Str × PyData))
  | ptr (u : V)
  | hole
instance : Inhabited D := ⟨.hole⟩
structure Zx where
  w : World
  K : PySem.W.Frag
  cls : Nat → Addr
abbrev Mu := Addr → Nat
mutual
/-- data whose lists are plain ones -/
inductive Dq (K : PySem.W.Frag) (F : Hp) : V → PyData → Prop
  | non : Dq K F .non .none
  | bl (b : Bool) : Dq K F (.bl b) (.bool b)
  | int (i : Int) : Dq K F (.int i) (.int i)
  | str (x : Str) : Dq K F (.str x) (.str x)
  | lst {a : Addr} {xs : List V} {ds : List PyData} : F a = some (.lst xs) → DqAll K F xs ds → Dq K F (.ref a) (.list ds)
  | tup {a : Addr} {xs : List V} {ds : List PyData} : SqT K F a xs → DqAll K F xs ds → Dq K F (.ref a) (.tuple ds)
inductive DqAll (K : PySem.W.Frag) (F : Hp) : List V → List PyData → Prop
  | nil : DqAll K F [] []
  | cons {v : V} {vs : List V} {d : PyData} {ds : List PyData} : Dq K F v d → DqAll K F vs ds → DqAll K F (v :: vs) (d :: ds)
end
section
variable {K : PySem.W.Frag} {H H' : Hp}
mutual
theorem dqSame (e : Same H H') : ∀ {d : PyData} {v : V}, Dq K H v d → Dq K H' v d
  | .none, _, h => by cases h; exact .non
  | .bool b, _, h => by cases h; exact .bl b
  | .int i, _, h => by cases h; exact .int i
  | .str x, _, h => by cases h; exact .str x
  | .list ds, _, h => by
    cases h with
    | lst hs ha => exact .lst (e _ _ hs) (dqaSame e ha)
  | .tuple ds, _, h => by
    cases h with
    | tup hs ha => exact .tup (Same.tup e hs) (dqaSame e ha)
  | .dict _, _, h => by cases h
theorem dqaSame (e : Same H H') : ∀ {ds : List PyData} {vs : List V}, DqAll K H vs ds → DqAll K H' vs ds
  | [], _, h => by cases h; exact .nil
  | d :: ds, _, h => by
    cases h with
    | cons a b => exact .cons (dqSame e a) (dqaSame e b)
end
mutual
theorem Dq.dp : ∀ {d : PyData} {v : V}, Dq K H v d → Dp K H v d
  | .none, _, h => by cases h; exact .non
  | .bool b, _, h => by cases h; exact .bl b
  | .int i, _, h => by cases h; exact .int i
  | .str x, _, h => by cases h; exact .str x
  | .list ds, _, h => by
    cases h with
    | lst hs ha => exact .lst (.inl (.inl hs)) (DqAll.dp ha)
  | .tuple ds, _, h => by
    cases h with
    | tup hs ha => exact .tup hs (DqAll.dp ha)
  | .dict _, _, h => by cases h
theorem DqAll.dp : ∀ {ds : List PyData} {vs : List V}, DqAll K H vs ds → DpAll K H vs ds
  | [], _, h => by cases h; exact .nil
  | d :: ds, _, h => by
    cases h with
    | cons a b => exact .cons (Dq.dp a) (DqAll.dp b)
end
theorem DqAll.len : ∀ {ds : List PyData} {vs : List V}, DqAll K H vs ds → vs.length = ds.length
  | [], _, h => by cases h; rfl
  | d :: ds, _, h => by
    cases h with
    | cons a b => rw [List.length_cons, List.length_cons, DqAll.len b]
theorem DqAll.get : ∀ {ds : List PyData} {vs : List V} {i : Nat} {d : PyData}, DqAll K H vs ds → ds[i]? = some d → ∃ v, vs[i]? = some v ∧ Dq K H v d
  | [], _, _, _, h, e => by simp at e
  | d :: ds, _, 0, _, h, e => by
    cases h with
    | cons a b => cases e; exact ⟨_, rfl, a⟩
  | d :: ds, _, i + 1, _, h, e => by
    cases h with
    | cons a b =>
      obtain ⟨v, h1, h2⟩ := DqAll.get (i := i) b (by simpa using e)
      exact ⟨v, by simpa using h1, h2⟩
end
/-- an instance that nobody writes -/
def Ob (K : PySem.W.Frag) (C : Addr) (F : Hp) (v : V) (ns : List Str) (es : List PyData) : Prop := ∃ a dx vs, v = .ref a ∧ F a = some (.ins C dx (ns.zip vs)) ∧ vs.length = ns.length ∧ DqAll K F vs es
/-- the entries of a dict -/
def Dks (K : PySem.W.Frag) (F : Hp) (ks : List (Key × V)) (kvs : List (Str × PyData)) : Prop := ks.map (·.1) = kvs.map (fun p => (Sum.inr p.1 : Key)) ∧ DqAll K F (ks.map (·.2)) (kvs.map (·.2))
/-- a dict with text keys -/
def Dk (K : PySem.W.Frag) (F : Hp) (v : V) (kvs : List (Str × PyData)) : Prop := ∃ a ks, v = .ref a ∧ F a = some (.dK ks) ∧ Dks K F ks kvs
section
variable (Z : Zx) (F H : Hp)
mutual
def R : D → V → Mu → Prop
  | .fz d, v, μ => Dq Z.K F v d ∧ ∀ a, μ a = 0
  | .dct kvs, v, μ => Dk Z.K F v kvs ∧ ∀ a, μ a = 0
  | .ob c ns es, v, μ => Ob Z.K (Z.cls c) F v ns es ∧ ∀ a, μ a = 0
  | .own ds, v, μ => ∃ a vs ν, v = .ref a ∧ H a = some (.lst vs) ∧ RA ds vs ν ∧ ∀ b, μ b = ν b + (if b = a then 1 else 0)
  | .tup ds, v, μ => ∃ a vs ν, v = .ref a ∧ H a = some (.tup vs) ∧ RA ds vs ν ∧ ∀ b, μ b = ν b + (if b = a then 1 else 0)
  | .pur n, v, μ => ∃ p, v = .ref p ∧ Pu H p n ∧ ∀ b, μ b = (if b = p then 1 else 0)
  | .obj c ns ds, v, μ => ∃ a dx vs ν, v = .ref a ∧ H a = some (.ins (Z.cls c) dx (ns.zip vs)) ∧ vs.length = ns.length ∧ RA ds vs ν ∧ ∀ b, μ b = ν b + (if b = a then 1 else 0)
  | .set xs, v, μ => ∃ p, v = .ref p ∧ H p = some (OwnS.SO Z.w p xs) ∧ ∀ b, μ b = (if b = p then 1 else 0)
  | .odc kvs, v, μ => ∃ p ks, v = .ref p ∧ H p = some (.dK ks) ∧ Dks Z.K F ks kvs ∧ ∀ b, μ b = (if b = p then 1 else 0)
  | .ptr u, v, μ => v = u ∧ ∀ a, μ a = 0
  | .hole, _, μ => ∀ a, μ a = 0
def RA : List D → List V → Mu → Prop
  | [], vs, μ => vs = [] ∧ ∀ a, μ a = 0
  | d :: ds, vs, μ => ∃ v ws μ1 μ2, vs = v :: ws ∧ R d v μ1 ∧ RA ds ws μ2 ∧ ∀ a, μ a = μ1 a + μ2 a
end
def RO (d : D) (o : Option V) (μ : Mu) : Prop := (d = .hole ∧ ∀ a, μ a = 0) ∨ ∃ v, o = some v ∧ R Z F H d v μ
def RS : List D → List (Option V) → Mu → Prop
  | [], σ, μ => σ = [] ∧ ∀ a, μ a = 0
  | d :: δ, σ, μ => ∃ o σ' μ1 μ2, σ = o :: σ' ∧ RO Z F H d o μ1 ∧ RS δ σ' μ2 ∧ ∀ a, μ a = μ1 a + μ2 a
end
section
variable {Z : Zx} {F F' H H' : Hp}
theorem Dk.same {K : PySem.W.Frag} {v : V} {kvs : List (Str × PyData)} (s : Same F F') (h : Dk K F v kvs) : Dk K F' v kvs := by
  obtain ⟨a, ks, e, h1, h2, h3⟩ := h
  exact ⟨a, ks, e, s _ _ h1, h2, dqaSame s h3⟩
theorem Dks.same {K : PySem.W.Frag} {ks : List (Key × V)} {kvs : List (Str × PyData)} (s : Same F F') (h : Dks K F ks kvs) : Dks K F' ks kvs := ⟨h.1, dqaSame s h.2⟩
theorem Ob.same {K : PySem.W.Frag} {C : Addr} {v : V} {ns : List Str} {es : List PyData} (s : Same F F') (h : Ob K C F v ns es) : Ob K C F' v ns es := by
  obtain ⟨a, dx, vs, e, h1, h2, h3⟩ := h
  exact ⟨a, dx, vs, e, s _ _ h1, h2, dqaSame s h3⟩
theorem Pu.eq {p : Addr} {n : Nat} (h : Pu H p n) (e : H' p = H p) : Pu H' p n := by
  obtain ⟨a, b, c, h1, h2⟩ := h
  exact ⟨a, b, c, e.trans h1, h2⟩
mutual
theorem R.mono (s : Same F F') : ∀ {d : D} {v : V} {μ : Mu}, R Z F H d v μ → (∀ a, μ a ≠ 0 → H' a = H a) → R Z F' H' d v μ
  | .fz d, v, μ, h, _ => by rw [R] at h ⊢; exact ⟨dqSame s h.1, h.2⟩
  | .dct d, v, μ, h, _ => by rw [R] at h ⊢; exact ⟨h.1.same s, h.2⟩
  | .ob c ns es, v, μ, h, _ => by rw [R] at h ⊢; exact ⟨h.1.same s, h.2⟩
  | .own ds, v, μ, h, k => by
    rw [R] at h ⊢
    obtain ⟨a, vs, ν, e, h1, h2, h3⟩ := h
    exact ⟨a, vs, ν, e, (k a (by rw [h3 a, if_pos rfl]; omega)).trans h1, RA.mono s h2 fun b hb => k b (by rw [h3 b]; omega), h3⟩
  | .tup ds, v, μ, h, k => by
    rw [R] at h ⊢
    obtain ⟨a, vs, ν, e, h1, h2, h3⟩ := h
    exact ⟨a, vs, ν, e, (k a (by rw [h3 a, if_pos rfl]; omega)).trans h1, RA.mono s h2 fun b hb => k b (by rw [h3 b]; omega), h3⟩
  | .pur n, v, μ, h, k => by
    rw [R] at h ⊢
    obtain ⟨p, e, h1, h2⟩ := h
    exact ⟨p, e, h1.eq (k p (by rw [h2 p, if_pos rfl]; omega)), h2⟩
  | .obj c ns ds, v, μ, h, k => by
    rw [R] at h ⊢
    obtain ⟨a, dx, vs, ν, e, h1, h0, h2, h3⟩ := h
    exact ⟨a, dx, vs, ν, e, (k a (by rw [h3 a, if_pos rfl]; omega)).trans h1, h0, RA.mono s h2 fun b hb => k b (by rw [h3 b]; omega), h3⟩
  | .set xs, v, μ, h, k => by
    rw [R] at h ⊢
    obtain ⟨p, e, h1, h2⟩ := h
    exact ⟨p, e, (k p (by rw [h2 p, if_pos rfl]; omega)).trans h1, h2⟩
  | .odc xs, v, μ, h, k => by
    rw [R] at h ⊢
    obtain ⟨p, ks, e, h1, h3, h2⟩ := h
    exact ⟨p, ks, e, (k p (by rw [h2 p, if_pos rfl]; omega)).trans h1, h3.same s, h2⟩
  | .ptr u, v, μ, h, _ => by rw [R] at h ⊢; exact h
  | .hole, v, μ, h, _ => by rw [R] at h ⊢; exact h
theorem RA.mono (s : Same F F') : ∀ {ds : List D} {vs : List V} {μ : Mu}, RA Z F H ds vs μ → (∀ a, μ a ≠ 0 → H' a = H a) → RA Z F' H' ds vs μ
  | [], vs, μ, h, _ => by rw [RA] at h ⊢; exact h
  | d :: ds, vs, μ, h, k => by
    rw [RA] at h ⊢
    obtain ⟨v, ws, μ1, μ2, e, h1, h2, h3⟩ := h
    exact ⟨v, ws, μ1, μ2, e, R.mono s h1 fun a ha => k a (by rw [h3 a]; omega), RA.mono s h2 fun a ha => k a (by rw [h3 a]; omega), h3⟩
end
mutual
theorem R.live : ∀ {d : D} {v : V} {μ : Mu}, R Z F H d v μ → ∀ a, μ a ≠ 0 → H a ≠ none
  | .fz d, v, μ, h, a, n => by rw [R] at h; exact absurd (h.2 a) n
  | .dct d, v, μ, h, a, n => by rw [R] at h; exact absurd (h.2 a) n
  | .ob c ns es, v, μ, h, a, n => by rw [R] at h; exact absurd (h.2 a) n
  | .own ds, v, μ, h, a, n => by
    rw [R] at h
    obtain ⟨b, vs, ν, e, h1, h2, h3⟩ := h
    by_cases z : a = b
    · rw [z, h1]; exact fun y => nomatch y
    · rw [h3 a, if_neg z] at n; exact RA.live h2 a (by omega)
  | .tup ds, v, μ, h, a, n => by
    rw [R] at h
    obtain ⟨b, vs, ν, e, h1, h2, h3⟩ := h
    by_cases z : a = b
    · rw [z, h1]; exact fun y => nomatch y
    · rw [h3 a, if_neg z] at n; exact RA.live h2 a (by omega)
  | .pur k, v, μ, h, a, n => by
    rw [R] at h
    obtain ⟨p, e, ⟨_, _, _, h1, _⟩, h2⟩ := h
    by_cases z : a = p
    · rw [z, h1]; exact fun y => nomatch y
    · rw [h2 a, if_neg z] at n; exact absurd rfl n
  | .obj c ns ds, v, μ, h, a, n => by
    rw [R] at h
    obtain ⟨b, dx, vs, ν, e, h1, h0, h2, h3⟩ := h
    by_cases z : a = b
    · rw [z, h1]; exact fun y => nomatch y
    · rw [h3 a, if_neg z] at n; exact RA.live h2 a (by omega)
  | .set xs, v, μ, h, a, n => by
    rw [R] at h
    obtain ⟨p, e, h1, h2⟩ := h
    by_cases z : a = p
    · rw [z, h1]; exact fun y => nomatch y
    · rw [h2 a, if_neg z] at n; exact absurd rfl n
  | .odc xs, v, μ, h, a, n => by
    rw [R] at h
    obtain ⟨p, ks, e, h1, h3, h2⟩ := h
    by_cases z : a = p
    · rw [z, h1]; exact fun y => nomatch y
    · rw [h2 a, if_neg z] at n; exact absurd rfl n
  | .ptr u, v, μ, h, a, n => by rw [R] at h; exact absurd (h.2 a) n
  | .hole, v, μ, h, a, n => by rw [R] at h; exact absurd (h a) n
theorem RA.live : ∀ {ds : List D} {vs : List V} {μ : Mu}, RA Z F H ds vs μ → ∀ a, μ a ≠ 0 → H a ≠ none
  | [], vs, μ, h, a, n => by rw [RA] at h; exact absurd (h.2 a) n
  | d :: ds, vs, μ, h, a, n => by
    rw [RA] at h
    obtain ⟨v, ws, μ1, μ2, e, h1, h2, h3⟩ := h
    rw [h3 a] at n
    by_cases z : μ1 a = 0
    · exact RA.live h2 a (by omega)
    · exact R.live h1 a z
end
mutual
def D.py : D → Option PyData
  | .fz d => some d
  | .own ds => (pyAll ds).map .list
  | .tup ds => (pyAll ds).map .tuple
  | .dct _ => none
  | .ob _ _ _ => none
  | .pur _ => none
  | .obj _ _ _ => none
  | .set _ => none
  | .odc _ => none
  | .ptr _ => none
  | .hole => none
def pyAll : List D → Option (List PyData)
  | [] => some []
  | d :: ds => match d.py, pyAll ds with
    | some e, some es => some (e :: es)
    | _, _ => none
end
theorem pyAll_cons {d : D} {ds : List D} {es : List PyData} (h : pyAll (d :: ds) = some es) : ∃ e r, es = e :: r ∧ d.py = some e ∧ pyAll ds = some r := by
  rw [pyAll] at h
  cases h1 : d.py with
  | none => rw [h1] at h; cases h
  | some e =>
    cases h2 : pyAll ds with
    | none => rw [h1, h2] at h; cases h
    | some r => rw [h1, h2] at h; cases h; exact ⟨e, r, rfl, rfl, rfl⟩
mutual
theorem R.dp {G : Hp} (s : Same F G) : ∀ {d : D} {v : V} {μ : Mu} {e : PyData}, R Z F H d v μ → (∀ a, μ a ≠ 0 → G a = H a) → d.py = some e → Dq Z.K G v e
  | .fz d, v, μ, e, h, k, q => by rw [R] at h; rw [D.py] at q; cases q; exact dqSame s h.1
  | .own ds, v, μ, e, h, k, q => by
    rw [R] at h
    obtain ⟨a, vs, ν, rfl, h1, h2, h3⟩ := h
    rw [D.py] at q
    cases z : pyAll ds with
    | none => rw [z] at q; cases q
    | some es =>
      rw [z] at q; cases q
      exact .lst ((k a (by rw [h3 a, if_pos rfl]; omega)).trans h1) (RA.dp s h2 (fun b hb => k b (by rw [h3 b]; omega)) z)
  | .tup ds, v, μ, e, h, k, q => by
    rw [R] at h
    obtain ⟨a, vs, ν, rfl, h1, h2, h3⟩ := h
    rw [D.py] at q
    cases z : pyAll ds with
    | none => rw [z] at q; cases q
    | some es =>
      rw [z] at q; cases q
      exact .tup (.inl (.inl ((k a (by rw [h3 a, if_pos rfl]; omega)).trans h1))) (RA.dp s h2 (fun b hb => k b (by rw [h3 b]; omega)) z)
  | .dct _, _, _, _, _, _, q => by rw [D.py] at q; cases q
  | .ob _ _ _, _, _, _, _, _, q => by rw [D.py] at q; cases q
  | .pur _, _, _, _, _, _, q => by rw [D.py] at q; cases q
  | .obj _ _ _, _, _, _, _, _, q => by rw [D.py] at q; cases q
  | .set _, _, _, _, _, _, q => by rw [D.py] at q; cases q
  | .odc _, _, _, _, _, _, q => by rw [D.py] at q; cases q
  | .ptr _, _, _, _, _, _, q => by rw [D.py] at q; cases q
  | .hole, _, _, _, _, _, q => by rw [D.py] at q; cases q
theorem RA.dp {G : Hp} (s : Same F G) : ∀ {ds : List D} {vs : List V} {μ : Mu} {es : List PyData}, RA Z F H ds vs μ → (∀ a, μ a ≠ 0 → G a = H a) → pyAll ds = some es → DqAll Z.K G vs es
  | [], vs, μ, es, h, k, q => by rw [RA] at h; rw [pyAll] at q; cases q; rw [h.1]; exact .nil
  | d :: ds, vs, μ, es, h, k, q => by
    rw [RA] at h
    obtain ⟨v, ws, μ1, μ2, rfl, h1, h2, h3⟩ := h
    obtain ⟨e, r, rfl, q1, q2⟩ := pyAll_cons q
    exact .cons (R.dp s h1 (fun a ha => k a (by rw [h3 a]; omega)) q1) (RA.dp s h2 (fun a ha => k a (by rw [h3 a]; omega)) q2)
end
end

/-! ### the state -/
/-- a def's entry: what was shared, the heap, what was handed in to be written, the slots that stay -/
structure Ent where
  F0 : Hp
  H0 : Hp
  A : Addr → Prop
  pin : List (Option V)
structure Wd (E : Ent) (F H : Hp) (τ : Mu) : Prop where
  sub : Same F H
  one : ∀ a, τ a ≤ 1
  mine : ∀ a, τ a ≠ 0 → F a = none ∧ (E.A a ∨ E.H0 a = none)
  fr : ∀ b o, E.H0 b = some o → ¬ E.A b → H b = some o
  frF : ∀ b, E.H0 b ≠ none → ¬ E.A b → F b = E.F0 b
abbrev Pend := List (V × D)
def Rel (Z : Zx) (E : Ent) (ps : Pend) (δ : List D) (σ : L2.St) (H : Hp) : Prop :=
  ∃ F μ ν, Wd E F H (fun a => μ a + ν a) ∧ RS Z F H δ σ μ ∧ RA Z F H (ps.map (·.2)) (ps.map (·.1)) ν ∧ ∀ (j : Nat) (v : V), E.pin[j]? = some (some v) → σ[j]? = some (some v)
section
variable {Z : Zx} {F F' H H' : Hp} {E : Ent} {ps : Pend} {δ : List D} {σ : L2.St}
theorem RS.mono (s : Same F F') : ∀ {δ : List D} {σ : L2.St} {μ : Mu}, RS Z F H δ σ μ → (∀ a, μ a ≠ 0 → H' a = H a) → RS Z F' H' δ σ μ
  | [], σ, μ, h, _ => h
  | d :: δ, σ, μ, h, k => by
    obtain ⟨o, σ', μ1, μ2, e, h1, h2, h3⟩ := h
    refine ⟨o, σ', μ1, μ2, e, ?_, RS.mono s h2 fun a ha => k a (by rw [h3 a]; omega), h3⟩
    rcases h1 with h1 | ⟨v, e, h1⟩
    · exact .inl h1
    · exact .inr ⟨v, e, h1.mono s fun a ha => k a (by rw [h3 a]; omega)⟩
theorem RS.live : ∀ {δ : List D} {σ : L2.St} {μ : Mu}, RS Z F H δ σ μ → ∀ a, μ a ≠ 0 → H a ≠ none
  | [], σ, μ, h, a, n => absurd (h.2 a) n
  | d :: δ, σ, μ, h, a, n => by
    obtain ⟨o, σ', μ1, μ2, e, h1, h2, h3⟩ := h
    rw [h3 a] at n
    by_cases z : μ1 a = 0
    · exact RS.live h2 a (by omega)
    · rcases h1 with h1 | ⟨v, e, h1⟩
      · exact absurd (h1.2 a) z
      · exact h1.live a z
theorem RS.len : ∀ {δ : List D} {σ : L2.St} {μ : Mu}, RS Z F H δ σ μ → δ.length = σ.length
  | [], σ, μ, h => by have e : σ = [] := h.1; subst e; rfl
  | d :: δ, σ, μ, h => by
    obtain ⟨o, σ', μ1, μ2, e, h1, h2, h3⟩ := h
    rw [e, List.length_cons, List.length_cons, RS.len h2]
/-- a slot and the rest -/
theorem RS.split : ∀ {δ : List D} {σ : L2.St} {μ : Mu} (i : Nat), RS Z F H δ σ μ → i < δ.length →
    ∃ (o : Option V) (μ1 μ2 : Mu), σ[i]? = some o ∧ RO Z F H (δ.getD i .hole) o μ1 ∧ (∀ a, μ a = μ1 a + μ2 a) ∧ ∀ {F' H' : Hp} {d' : D} {o' : Option V} {μ' : Mu}, Same F F' → (∀ a, μ2 a ≠ 0 → H' a = H a) → RO Z F' H' d' o' μ' → RS Z F' H' (δ.set i d') (σ.set i o') (fun a => μ' a + μ2 a)
  | [], σ, μ, i, h, hi => absurd hi (by simp)
  | d :: δ, σ, μ, 0, h, hi => by
    obtain ⟨o, σ', μ1, μ2, e, h1, h2, h3⟩ := h
    subst e
    exact ⟨o, μ1, μ2, rfl, h1, h3, fun {F' H' d' o' μ'} s k h' => ⟨o', σ', μ', μ2, rfl, h', h2.mono s k, fun _ => rfl⟩⟩
  | d :: δ, σ, μ, i + 1, h, hi => by
    obtain ⟨o, σ', μ1, μ2, e, h1, h2, h3⟩ := h
    subst e
    obtain ⟨o2, μ3, μ4, e2, h4, h5, h6⟩ := RS.split i h2 (by simpa using hi)
    refine ⟨o2, μ3, fun a => μ1 a + μ4 a, by simpa using e2, by simpa using h4, fun a => by have := h3 a; have := h5 a; show μ a = μ3 a + (μ1 a + μ4 a); omega, fun {F' H' d' o' μ'} s k h' => ?_⟩
    refine ⟨o, σ'.set i o', μ1, fun a => μ' a + μ4 a, by simp, ?_, h6 s (fun a ha => k a (by show μ1 a + μ4 a ≠ 0; omega)) h', fun a => by show μ' a + (μ1 a + μ4 a) = μ1 a + (μ' a + μ4 a); omega⟩
    rcases h1 with h1 | ⟨v, e, h1⟩
    · exact .inl h1
    · exact .inr ⟨v, e, h1.mono s fun a ha => k a (by show μ1 a + μ4 a ≠ 0; omega)⟩
end
end OwnD
namespace OwnD
open PySem PySem.Spec PyProof.Rows L2 Own
/-- what an expression gives: a thing of its own, or what a slot holds -/
inductive W where
  | tmp (d : D)
  | slot (i : Nat)
def vw (w : W) (δ : List D) : D := match w with
  | .tmp d => d
  | .slot i => δ.getD i .hole
def pnd : List W → List V → Pend → Pend
  | .tmp d :: ws, v :: vs, ps => pnd ws vs ((v, d) :: ps)
  | .slot _ :: ws, _ :: vs, ps => pnd ws vs ps
  | _, _, ps => ps
def slo : List W → List V → List (Option V) → Prop
  | .tmp _ :: ws, _ :: vs, σ => slo ws vs σ
  | .slot i :: ws, v :: vs, σ => σ[i]? = some (some v) ∧ slo ws vs σ
  | _, _, _ => True
def RelW (Z : Zx) (E : Ent) (ws : List W) (vs : List V) (ps : Pend) (δ : List D) (σ : L2.St) (H : Hp) : Prop := vs.length = ws.length ∧ slo ws vs σ ∧ Rel Z E (pnd ws vs ps) δ σ H
section
variable {Z : Zx} {F F' H H' : Hp} {E : Ent} {ps : Pend} {δ : List D} {σ : L2.St} {ws : List W} {vs : List V} {w : W} {v : V} {d : D} {τ τ' : Mu}
theorem RelW.nil (h : Rel Z E ps δ σ H) : RelW Z E [] [] ps δ σ H := ⟨rfl, trivial, h⟩
theorem RelW.cons (h : RelW Z E [w] [v] ps δ σ H) {δ' : List D} {H' : Hp} (q : RelW Z E ws vs (pnd [w] [v] ps) δ' σ H') : RelW Z E (w :: ws) (v :: vs) ps δ' σ H' := by
  obtain ⟨a, b, c⟩ := q
  refine ⟨by rw [List.length_cons, List.length_cons, a], ?_, ?_⟩
  · cases w with
    | tmp d => exact b
    | slot i => exact ⟨h.2.1.1, b⟩
  · cases w with
    | tmp d => exact c
    | slot i => exact c
theorem RelW.rel (h : RelW Z E [w] [v] ps δ σ H) : Rel Z E (pnd [w] [v] ps) δ σ H := h.2.2
theorem RelW.of (h : Rel Z E ((v, d) :: ps) δ σ H) : RelW Z E [.tmp d] [v] ps δ σ H := ⟨rfl, trivial, h⟩
theorem Wd.le (h : Wd E F H τ) (k : ∀ a, τ' a ≤ τ a) : Wd E F H τ' :=
  ⟨h.sub, fun a => Nat.le_trans (k a) (h.one a), fun a n => h.mine a (by have := k a; omega), h.fr, h.frF⟩
theorem Wd.eq (h : Wd E F H τ) (k : ∀ a, τ' a = τ a) : Wd E F H τ' := h.le fun a => Nat.le_of_eq (k a)
theorem Wd.alloc {p : Addr} {o : HO} (h : Wd E F H τ) (np : H p = none) (t0 : τ p = 0) (k : ∀ a, τ' a ≤ τ a + (if a = p then 1 else 0)) : Wd E F (upd H p o) τ' := by
  refine ⟨fun b u e => ?_, fun a => ?_, fun a n => ?_, fun b u e na => ?_, h.frF⟩
  · have z := h.sub b u e
    rw [upd_ne (ne_of_none z np)]; exact z
  · have := k a; have := h.one a
    by_cases z : a = p
    · subst z; rw [if_pos rfl] at *; omega
    · rw [if_neg z] at *; omega
  · by_cases z : a = p
    · subst z
      refine ⟨?_, ?_⟩
      · cases e : F a with
        | none => rfl
        | some o => exact nomatch (h.sub a o e).symm.trans np
      · cases e : E.H0 a with
        | none => exact .inr rfl
        | some o => exact .inl (Classical.byContradiction fun na => nomatch (h.fr a o e na).symm.trans np)
    · have := k a; rw [if_neg z] at this
      exact h.mine a (by omega)
  · have z := h.fr b u e na
    rw [upd_ne (ne_of_none z np)]; exact z
theorem Wd.put {a : Addr} {o : HO} (h : Wd E F H τ) (n : τ a ≠ 0) : Wd E F (upd H a o) τ := by
  obtain ⟨m1, m2⟩ := h.mine a n
  refine ⟨fun b u e => ?_, h.one, h.mine, fun b u e na => ?_, h.frF⟩
  · rw [upd_ne (fun z => by rw [z, m1] at e; cases e)]; exact h.sub b u e
  · rw [upd_ne (fun z => by
      rw [z] at e na
      rcases m2 with m | m
      · exact na m
      · rw [m] at e; cases e)]; exact h.fr b u e na
/-- what was one's own is shared from now on -/
noncomputable def fzH (F H : Hp) (μ : Mu) : Hp := fun b => if μ b = 0 then F b else H b
theorem fzH_sub (h : Wd E F H τ) (μ : Mu) (k : ∀ a, μ a ≤ τ a) : Same F (fzH F H μ) := fun b o e => by
  unfold fzH
  by_cases z : μ b = 0
  · rw [if_pos z]; exact e
  · rw [if_neg z]; exact h.sub b o e
theorem Wd.freeze {μ : Mu} (h : Wd E F H τ) (k : ∀ a, τ' a + μ a ≤ τ a) : Wd E (fzH F H μ) H τ' := by
  refine ⟨fun b o e => ?_, fun a => ?_, fun a n => ?_, h.fr, fun b n na => ?_⟩
  · unfold fzH at e
    by_cases z : μ b = 0
    · rw [if_pos z] at e; exact h.sub b o e
    · rw [if_neg z] at e; exact e
  · have := k a; have := h.one a; omega
  · have := k a; have := h.one a
    obtain ⟨m1, m2⟩ := h.mine a (by omega)
    refine ⟨?_, m2⟩
    unfold fzH
    rw [if_pos (by omega)]; exact m1
  · unfold fzH
    by_cases z : μ b = 0
    · rw [if_pos z]; exact h.frF b n na
    · rw [if_neg z]
      have := k b
      obtain ⟨m1, m2⟩ := h.mine b (by omega)
      rcases m2 with m | m
      · exact absurd m na
      · exact absurd m n
/-- taking one away -/
theorem Rel.drop (h : Rel Z E ((v, d) :: ps) δ σ H) : Rel Z E ps δ σ H := by
  obtain ⟨F, μ, ν, w1, s1, r1, pn⟩ := h
  rw [List.map_cons, List.map_cons, RA] at r1
  obtain ⟨_, _, μ1, μ2, e, r2, r3, r4⟩ := r1
  cases e
  exact ⟨F, μ, μ2, w1.le fun a => by have := r4 a; show μ a + μ2 a ≤ μ a + ν a; omega, s1, r3, pn⟩
theorem Rel.drops : ∀ {ws : List W} {vs : List V} {ps : Pend}, Rel Z E (pnd ws vs ps) δ σ H → Rel Z E ps δ σ H
  | [], _, _, h => by simpa [pnd] using h
  | .tmp d :: ws, [], _, h => by simpa [pnd] using h
  | .slot i :: ws, [], _, h => by simpa [pnd] using h
  | .tmp d :: ws, v :: vs, ps, h => (Rel.drops (ws := ws) (vs := vs) (ps := (v, d) :: ps) h).drop
  | .slot i :: ws, v :: vs, ps, h => Rel.drops (ws := ws) (vs := vs) (ps := ps) h
theorem RelW.drop (h : RelW Z E ws vs ps δ σ H) : Rel Z E ps δ σ H := h.2.2.drops
/-- a value that stands in no object -/
def Sc (v : V) (e : PyData) : Prop := ∀ (K : PySem.W.Frag) (F : Hp), Dq K F v e
theorem RA.z : RA Z F H [] [] (fun _ => 0) := by rw [RA]; exact ⟨rfl, fun _ => rfl⟩
theorem RA.push {μ1 μ2 : Mu} {ds : List D} (h : R Z F H d v μ1) (t : RA Z F H ds vs μ2) : RA Z F H (d :: ds) (v :: vs) (fun a => μ1 a + μ2 a) := by
  rw [RA]; exact ⟨v, vs, μ1, μ2, rfl, h, t, fun _ => rfl⟩
theorem Rel.push (h : Rel Z E ps δ σ H) (k : ∀ F, Same F H → R Z F H d v (fun _ => 0)) : Rel Z E ((v, d) :: ps) δ σ H := by
  obtain ⟨F, μ, ν, w1, s1, r1, pn⟩ := h
  exact ⟨F, μ, fun a => 0 + ν a, w1.eq fun a => by show μ a + (0 + ν a) = μ a + ν a; omega, s1, RA.push (k F w1.sub) r1, pn⟩
theorem R.fz {e : PyData} (h : Dq Z.K F v e) : R Z F H (.fz e) v (fun _ => 0) := by rw [R]; exact ⟨h, fun _ => rfl⟩
theorem Rel.pushSc {e : PyData} (h : Rel Z E ps δ σ H) (k : Sc v e) : Rel Z E ((v, .fz e) :: ps) δ σ H := h.push fun F _ => R.fz (k Z.K F)
theorem RA.mem {ds : List D} : ∀ {ps : Pend} {μ : Mu}, RA Z F H (ps.map (·.2)) (ps.map (·.1)) μ → (v, d) ∈ ps → ∃ μ1, R Z F H d v μ1 ∧ ∀ a, μ1 a ≤ μ a
  | [], _, _, h => nomatch h
  | p :: ps, μ, h, hm => by
    rw [List.map_cons, List.map_cons, RA] at h
    obtain ⟨_, _, μ1, μ2, e, r2, r3, r4⟩ := h
    cases e
    rcases List.mem_cons.mp hm with e | hm
    · subst e; exact ⟨μ1, r2, fun a => by have := r4 a; omega⟩
    · obtain ⟨μ3, q1, q2⟩ := RA.mem (ds := ds) r3 hm
      exact ⟨μ3, q1, fun a => by have := r4 a; have := q2 a; omega⟩
theorem pnd_mem : ∀ {ws : List W} {vs : List V} {ps : Pend} {p : V × D}, p ∈ ps → p ∈ pnd ws vs ps
  | [], vs, ps, p, h => by simpa [pnd] using h
  | .tmp d :: ws, [], ps, p, h => by simpa [pnd] using h
  | .slot i :: ws, [], ps, p, h => by simpa [pnd] using h
  | .tmp d :: ws, v :: vs, ps, p, h => pnd_mem (ws := ws) (vs := vs) (List.mem_cons_of_mem _ h)
  | .slot i :: ws, v :: vs, ps, p, h => pnd_mem (ws := ws) (vs := vs) h
theorem pnd_at : ∀ {ws : List W} {vs : List V} {ps : Pend} {k : Nat}, ws[k]? = some (.tmp d) → vs[k]? = some v → (v, d) ∈ pnd ws vs ps
  | [], vs, ps, k, h, _ => by simp at h
  | w :: ws, [], ps, k, _, h => by simp at h
  | w :: ws, u :: vs, ps, 0, h, h' => by
    cases h; cases h'
    exact pnd_mem (ws := ws) (vs := vs) List.mem_cons_self
  | .tmp e :: ws, u :: vs, ps, k + 1, h, h' => pnd_at (ws := ws) (vs := vs) (k := k) (by simpa using h) (by simpa using h')
  | .slot i :: ws, u :: vs, ps, k + 1, h, h' => pnd_at (ws := ws) (vs := vs) (k := k) (by simpa using h) (by simpa using h')
theorem slo_at : ∀ {ws : List W} {vs : List V} {k i : Nat}, slo ws vs σ → ws[k]? = some (.slot i) → vs[k]? = some v → σ[i]? = some (some v)
  | [], vs, k, _, _, h, _ => by simp at h
  | w :: ws, [], k, _, _, _, h => by simp at h
  | .tmp e :: ws, u :: vs, 0, i, s, h, h' => by cases h
  | .slot j :: ws, u :: vs, 0, i, s, h, h' => by cases h; cases h'; exact s.1
  | .tmp e :: ws, u :: vs, k + 1, i, s, h, h' => slo_at (ws := ws) (vs := vs) (k := k) s (by simpa using h) (by simpa using h')
  | .slot j :: ws, u :: vs, k + 1, i, s, h, h' => slo_at (ws := ws) (vs := vs) (k := k) s.2 (by simpa using h) (by simpa using h')
theorem getD_len {α : Type} {l : List α} {i : Nat} {d : α} (h : ¬ i < l.length) : l.getD i d = d := by
  rw [List.getD_eq_getElem?_getD, List.getElem?_eq_none (by omega)]; rfl
theorem R.hole : R Z F H .hole v (fun _ => 0) := by rw [R]; exact fun _ => rfl
/-- what an operand is, over the one shared part -/
theorem see_core {k : Nat} {μ ν : Mu} (hs : slo ws vs σ) (s1 : RS Z F H δ σ μ) (r1 : RA Z F H ((pnd ws vs ps).map (·.2)) ((pnd ws vs ps).map (·.1)) ν) (e1 : ws[k]? = some w) (e2 : vs[k]? = some v) :
    ∃ μ1, R Z F H (vw w δ) v μ1 ∧ ∀ a, μ1 a ≤ μ a + ν a := by
  cases w with
  | tmp d =>
    obtain ⟨μ1, q1, q2⟩ := RA.mem (ds := []) r1 (pnd_at (ps := ps) e1 e2)
    exact ⟨μ1, q1, fun a => by have := q2 a; omega⟩
  | slot i =>
    have hv := slo_at hs e1 e2
    by_cases hi : i < δ.length
    · obtain ⟨o, μ1, μ2, e, ro, hm, _⟩ := s1.split i hi
      rw [hv] at e; cases e
      rcases ro with ⟨h0, h1⟩ | ⟨v', e', h1⟩
      · show ∃ μ1, R Z F H (δ.getD i .hole) v μ1 ∧ _
        rw [h0]; exact ⟨_, R.hole, fun a => Nat.zero_le _⟩
      · cases e'; exact ⟨μ1, h1, fun a => by have := hm a; omega⟩
    · show ∃ μ1, R Z F H (δ.getD i .hole) v μ1 ∧ _
      rw [getD_len hi]; exact ⟨_, R.hole, fun a => Nat.zero_le _⟩
/-- .. over the heap: what is data is read as data -/
theorem RelW.see {k : Nat} (h : RelW Z E ws vs ps δ σ H) (e1 : ws[k]? = some w) (e2 : vs[k]? = some v) : ∃ F μ, Same F H ∧ R Z F H (vw w δ) v μ := by
  obtain ⟨_, hs, F, μ, ν, w1, s1, r1, pn⟩ := h
  obtain ⟨μ1, q, _⟩ := see_core hs s1 r1 e1 e2
  exact ⟨F, μ1, w1.sub, q⟩
theorem RelW.dq {k : Nat} {e : PyData} (h : RelW Z E ws vs ps δ σ H) (e1 : ws[k]? = some w) (e2 : vs[k]? = some v) (q : (vw w δ).py = some e) : Dq Z.K H v e := by
  obtain ⟨F, μ, s, r⟩ := h.see e1 e2
  exact r.dp s (fun _ _ => rfl) q
theorem RelW.dq0 {w1 : W} {x : V} {e : PyData} (h : RelW Z E (w1 :: ws) (x :: vs) ps δ σ H) (q : (vw w1 δ).py = some e) : Dq Z.K H x e := h.dq (k := 0) rfl rfl q
theorem RelW.dq1 {w1 w2 : W} {x y : V} {e : PyData} (h : RelW Z E (w1 :: w2 :: ws) (x :: y :: vs) ps δ σ H) (q : (vw w2 δ).py = some e) : Dq Z.K H y e := h.dq (k := 1) rfl rfl q
/-- the operands go, the rest stays over the same shared part -/
theorem pnd_rest : ∀ {ws : List W} {vs : List V} {ps : Pend} {ν : Mu}, RA Z F H ((pnd ws vs ps).map (·.2)) ((pnd ws vs ps).map (·.1)) ν → ∃ ν', RA Z F H (ps.map (·.2)) (ps.map (·.1)) ν' ∧ ∀ a, ν' a ≤ ν a := by
  intro ws
  induction ws with
  | nil => intro vs ps ν r; exact ⟨ν, by simpa [pnd] using r, fun _ => Nat.le_refl _⟩
  | cons w ws ih =>
    intro vs ps ν r
    cases vs with
    | nil => exact ⟨ν, by cases w <;> simpa [pnd] using r, fun _ => Nat.le_refl _⟩
    | cons v vs =>
      cases w with
      | slot i => exact ih (vs := vs) (ps := ps) r
      | tmp d =>
        obtain ⟨ν', q1, q2⟩ := ih (vs := vs) (ps := (v, d) :: ps) r
        rw [List.map_cons, List.map_cons, RA] at q1
        obtain ⟨_, _, μ1, μ2, e, r2, r3, r4⟩ := q1
        cases e
        exact ⟨μ2, r3, fun a => by have := r4 a; have := q2 a; omega⟩
/-- a part of an operand, which nothing owns -/
theorem RelW.part {k : Nat} {u : V} {g : D} (h : RelW Z E ws vs ps δ σ H) (e1 : ws[k]? = some w) (e2 : vs[k]? = some v) (hg : ∀ F μ, Same F H → R Z F H (vw w δ) v μ → R Z F H g u (fun _ => 0)) : RelW Z E [.tmp g] [u] ps δ σ H := by
  obtain ⟨_, hs, F, μ, ν, w1, s1, r1, pn⟩ := h
  obtain ⟨μ1, r, _⟩ := see_core hs s1 r1 e1 e2
  obtain ⟨ν', q1, q2⟩ := pnd_rest r1
  exact RelW.of ⟨F, μ, fun a => 0 + ν' a, w1.le fun a => by have := q2 a; show μ a + (0 + ν' a) ≤ μ a + ν a; omega, s1, RA.push (hg F μ1 w1.sub r) q1, pn⟩
/-- taking what a slot holds -/
def tk (w : W) (δ : List D) : D × List D := match w with
  | .tmp d => (d, δ)
  | .slot i => (δ.getD i .hole, δ.set i .hole)
theorem Rel.slotOut {i : Nat} (h : Rel Z E ps δ σ H) (hv : σ[i]? = some (some v)) : Rel Z E ((v, δ.getD i .hole) :: ps) (δ.set i .hole) σ H := by
  obtain ⟨F, μ, ν, w1, s1, r1, pn⟩ := h
  by_cases hi : i < δ.length
  · obtain ⟨o, μ1, μ2, e, ro, hm, hput⟩ := s1.split i hi
    rw [hv] at e; cases e
    have hs := hput (F' := F) (H' := H) (d' := .hole) (o' := some v) (μ' := fun _ => 0) (fun _ _ e => e) (fun _ _ => rfl) (.inl ⟨rfl, fun _ => rfl⟩)
    have es : σ.set i (some v) = σ := by
      refine List.ext_getElem? fun j => ?_
      by_cases hj : i = j
      · subst hj
        have := (List.getElem?_eq_some_iff.mp hv).1
        rw [List.getElem?_set_self this, hv]
      · rw [List.getElem?_set_ne hj]
    rw [es] at hs
    rcases ro with ⟨h0, h1⟩ | ⟨v', e', h1⟩
    · rw [h0]
      exact ⟨F, _, fun a => 0 + ν a, w1.le fun a => by have := hm a; show (0 + μ2 a) + (0 + ν a) ≤ μ a + ν a; omega, hs, RA.push R.hole r1, pn⟩
    · cases e'
      exact ⟨F, _, fun a => μ1 a + ν a, w1.le fun a => by have := hm a; show (0 + μ2 a) + (μ1 a + ν a) ≤ μ a + ν a; omega, hs, RA.push h1 r1, pn⟩
  · rw [getD_len hi, List.set_eq_of_length_le (by omega)]
    exact ⟨F, μ, fun a => 0 + ν a, w1.le fun a => by show μ a + (0 + ν a) ≤ μ a + ν a; omega, s1, RA.push R.hole r1, pn⟩
theorem RelW.take (h : RelW Z E [w] [v] ps δ σ H) : Rel Z E ((v, (tk w δ).1) :: ps) (tk w δ).2 σ H := by
  cases w with
  | tmp d => exact h.2.2
  | slot i => exact Rel.slotOut h.2.2 h.2.1.1
/-- a thing is shared from now on, where it is data -/
def fzD (d : D) : D := match d with
  | .odc kvs => .dct kvs
  | .obj c ns ds => match pyAll ds with
    | some es => .ob c ns es
    | none => .obj c ns ds
  | d => match d.py with
    | some e => .fz e
    | none => d
theorem R.freezes {μ : Mu} {e : PyData} (s : Same F H) (h : R Z F H d v μ) (q : d.py = some e) : Dq Z.K (fzH F H μ) v e := by
  refine dqSame (H := fzH F H μ) (fun _ _ e => e) (R.dp (G := fzH F H μ) (fun b o e => ?_) h (fun a n => ?_) q)
  · unfold fzH
    by_cases z : μ b = 0
    · rw [if_pos z]; exact e
    · rw [if_neg z]; exact s b o e
  · unfold fzH; rw [if_neg n]
theorem fzD_or (d : D) : fzD d = d ∨ (∃ e, d.py = some e ∧ fzD d = .fz e) ∨ (∃ kvs, d = .odc kvs ∧ fzD d = .dct kvs) ∨ ∃ c ns ds es, d = .obj c ns ds ∧ pyAll ds = some es ∧ fzD d = .ob c ns es := by
  cases d with
  | odc kvs => exact .inr (.inr (.inl ⟨kvs, rfl, rfl⟩))
  | obj c ns ds =>
    unfold fzD
    dsimp only
    split
    · rename_i es q; exact .inr (.inr (.inr ⟨c, ns, ds, es, rfl, q, rfl⟩))
    · exact .inl rfl
  | _ =>
    unfold fzD
    dsimp only
    split
    · rename_i e q; exact .inr (.inl ⟨e, q, rfl⟩)
    · exact .inl rfl
theorem Dks.frz {K : PySem.W.Frag} {ks : List (Key × V)} {kvs : List (Str × PyData)} (s : Same F F') (h : Dks K F ks kvs) : Dks K F' ks kvs := h.same s
/-- what becomes of a thing that is shared -/
theorem R.shares {μ : Mu} (s : Same F H) (sf : Same F (fzH F H μ)) (h : R Z F H d v μ) (q : fzD d ≠ d) : R Z (fzH F H μ) H (fzD d) v (fun _ => 0) := by
  rcases fzD_or d with z | ⟨e, z, y⟩ | ⟨kvs, z, y⟩ | ⟨c, ns, ds, es, z, z2, y⟩
  · exact absurd z q
  · rw [y]; exact R.fz (h.freezes s z)
  · rw [y]
    subst z
    have h' : ∃ p ks, v = .ref p ∧ H p = some (.dK ks) ∧ Dks Z.K F ks kvs ∧ ∀ b, μ b = (if b = p then 1 else 0) := by
      rw [R] at h; exact h
    obtain ⟨p, ks, e, h1, h3, h2⟩ := h'
    show R Z (fzH F H μ) H (.dct kvs) v (fun _ => 0)
    rw [R]
    refine ⟨⟨p, ks, e, ?_, h3.same sf⟩, fun _ => rfl⟩
    unfold fzH
    rw [if_neg (by rw [h2 p, if_pos rfl]; omega)]; exact h1
  · rw [y]
    subst z
    have h' : ∃ a dx vs ν, v = .ref a ∧ H a = some (.ins (Z.cls c) dx (ns.zip vs)) ∧ vs.length = ns.length ∧ RA Z F H ds vs ν ∧ ∀ b, μ b = ν b + (if b = a then 1 else 0) := by
      rw [R] at h; exact h
    obtain ⟨a, dx, vs, ν, e, h1, h2, h3, h4⟩ := h'
    show R Z (fzH F H μ) H (.ob c ns es) v (fun _ => 0)
    rw [R]
    refine ⟨⟨a, dx, vs, e, ?_, h2, ?_⟩, fun _ => rfl⟩
    · unfold fzH
      rw [if_neg (by rw [h4 a, if_pos rfl]; omega)]; exact h1
    · refine RA.dp (G := fzH F H μ) sf h3 (fun b n => ?_) z2
      unfold fzH
      rw [if_neg (by have := h4 b; omega)]
/-- a new object of taken things -/
theorem RA.app : ∀ {d1 d2 : List D} {v1 v2 : List V} {μ1 μ2 : Mu}, RA Z F H d1 v1 μ1 → RA Z F H d2 v2 μ2 → RA Z F H (d1 ++ d2) (v1 ++ v2) (fun a => μ1 a + μ2 a)
  | [], _, _, _, _, _, h1, h2 => by
    rw [RA] at h1
    obtain ⟨rfl, h⟩ := h1
    rw [List.nil_append, List.nil_append, show (fun a => _ + _) = _ from funext fun a => by rw [h a, Nat.zero_add]]; exact h2
  | d :: d1, d2, _, v2, _, μ2, h1, h2 => by
    rw [RA] at h1
    obtain ⟨v, ws, μ3, μ4, rfl, h3, h4, h5⟩ := h1
    rw [List.cons_append, List.cons_append, RA]
    exact ⟨v, _, μ3, _, rfl, h3, RA.app h4 h2, fun a => by rw [h5 a]; omega⟩
end
end OwnD
namespace OwnD
open PySem PySem.Spec PyProof.Rows L2 Own
section
variable {Z : Zx} {F F' H H' : Hp} {E : Ent} {ps : Pend} {δ : List D} {σ : L2.St} {ws : List W} {vs : List V} {w : W} {v : V} {d : D} {τ τ' : Mu}
/-- things that were taken, beside what is pending -/
def RelT (Z : Zx) (E : Ent) (ds : List D) (vs : List V) (ps : Pend) (δ : List D) (σ : L2.St) (H : Hp) : Prop :=
  ∃ F μ κ ν, Wd E F H (fun a => μ a + κ a + ν a) ∧ RS Z F H δ σ μ ∧ RA Z F H ds vs κ ∧ RA Z F H (ps.map (·.2)) (ps.map (·.1)) ν ∧ ∀ (j : Nat) (v : V), E.pin[j]? = some (some v) → σ[j]? = some (some v)
theorem RelT.nil (h : Rel Z E ps δ σ H) : RelT Z E [] [] ps δ σ H := by
  obtain ⟨F, μ, ν, w1, s1, r1, pn⟩ := h
  exact ⟨F, μ, fun _ => 0, ν, w1.eq fun a => by show μ a + 0 + ν a = μ a + ν a; omega, s1, RA.z, r1, pn⟩
theorem RelT.more {ds : List D} (h : RelT Z E ds vs ((v, d) :: ps) δ σ H) : RelT Z E (d :: ds) (v :: vs) ps δ σ H := by
  obtain ⟨F, μ, κ, ν, w1, s1, k1, r1, pn⟩ := h
  rw [List.map_cons, List.map_cons, RA] at r1
  obtain ⟨_, _, μ1, μ2, e, r2, r3, r4⟩ := r1
  cases e
  exact ⟨F, μ, fun a => μ1 a + κ a, μ2, w1.eq fun a => by have := r4 a; show μ a + (μ1 a + κ a) + μ2 a = μ a + κ a + ν a; omega, s1, RA.push r2 k1, r3, pn⟩
theorem RelT.slotOut {ds : List D} {i : Nat} (h : RelT Z E ds vs ps δ σ H) (hv : σ[i]? = some (some v)) : RelT Z E (δ.getD i .hole :: ds) (v :: vs) ps (δ.set i .hole) σ H := by
  obtain ⟨F, μ, κ, ν, w1, s1, k1, r1, pn⟩ := h
  by_cases hi : i < δ.length
  · obtain ⟨o, μ1, μ2, e, ro, hm, hput⟩ := s1.split i hi
    rw [hv] at e; cases e
    have hs := hput (F' := F) (H' := H) (d' := .hole) (o' := some v) (μ' := fun _ => 0) (fun _ _ e => e) (fun _ _ => rfl) (.inl ⟨rfl, fun _ => rfl⟩)
    have es : σ.set i (some v) = σ := by
      refine List.ext_getElem? fun j => ?_
      by_cases hj : i = j
      · subst hj
        have := (List.getElem?_eq_some_iff.mp hv).1
        rw [List.getElem?_set_self this, hv]
      · rw [List.getElem?_set_ne hj]
    rw [es] at hs
    rcases ro with ⟨h0, h1⟩ | ⟨v', e', h1⟩
    · rw [h0]
      exact ⟨F, _, fun a => 0 + κ a, ν, w1.le fun a => by have := hm a; show (0 + μ2 a) + (0 + κ a) + ν a ≤ μ a + κ a + ν a; omega, hs, RA.push R.hole k1, r1, pn⟩
    · cases e'
      exact ⟨F, _, fun a => μ1 a + κ a, ν, w1.le fun a => by have := hm a; show (0 + μ2 a) + (μ1 a + κ a) + ν a ≤ μ a + κ a + ν a; omega, hs, RA.push h1 k1, r1, pn⟩
  · rw [getD_len hi, List.set_eq_of_length_le (by omega)]
    exact ⟨F, μ, fun a => 0 + κ a, ν, w1.le fun a => by show μ a + (0 + κ a) + ν a ≤ μ a + κ a + ν a; omega, s1, RA.push R.hole k1, r1, pn⟩
/-- taking all, from the right -/
def tks : List W → List D → List D × List D
  | [], δ => ([], δ)
  | w :: ws, δ => match tks ws δ with
    | (ds, δ1) => match tk w δ1 with
      | (d, δ2) => (d :: ds, δ2)
theorem RelW.takes : ∀ {ws : List W} {vs : List V} {ps : Pend}, RelW Z E ws vs ps δ σ H → RelT Z E (tks ws δ).1 vs ps (tks ws δ).2 σ H
  | [], vs, ps, h => by
    obtain ⟨a, _, c⟩ := h
    obtain rfl : vs = [] := by simpa using a
    exact RelT.nil c
  | w :: ws, [], ps, h => absurd h.1 (by simp)
  | .tmp d :: ws, v :: vs, ps, h => by
    have q : RelW Z E ws vs ((v, d) :: ps) δ σ H := ⟨by simpa using h.1, h.2.1, h.2.2⟩
    exact (RelW.takes q).more
  | .slot i :: ws, v :: vs, ps, h => by
    have q : RelW Z E ws vs ps δ σ H := ⟨by simpa using h.1, h.2.1.2, h.2.2⟩
    exact (RelW.takes q).slotOut h.2.1.1
theorem RelT.live {ds : List D} {p : Addr} (np : H p = none) {μ κ ν : Mu} (s1 : RS Z F H δ σ μ) (k1 : RA Z F H ds vs κ) {ds' : List D} {vs' : List V} (r1 : RA Z F H ds' vs' ν) : μ p + κ p + ν p = 0 := by
  have a : μ p = 0 := Classical.byContradiction fun n => s1.live p n np
  have b : κ p = 0 := Classical.byContradiction fun n => k1.live p n np
  have c : ν p = 0 := Classical.byContradiction fun n => r1.live p n np
  omega
theorem upd_keep {μ : Mu} {p : Addr} {o : HO} (z : μ p = 0) : ∀ a, μ a ≠ 0 → upd H p o a = H a := fun a n => upd_ne fun e => n (by rw [e]; exact z)
theorem RelT.lst {ds : List D} {p : Addr} (h : RelT Z E ds vs ps δ σ H) (np : H p = none) : Rel Z E ((.ref p, .own ds) :: ps) δ σ (upd H p (.lst vs)) := by
  obtain ⟨F, μ, κ, ν, w1, s1, k1, r1, pn⟩ := h
  have t0 := RelT.live np s1 k1 r1
  have k2 : RA Z F (upd H p (.lst vs)) ds vs κ := k1.mono (fun _ _ e => e) (upd_keep (by omega))
  refine ⟨F, μ, fun a => (κ a + (if a = p then 1 else 0)) + ν a, w1.alloc np (by show μ p + κ p + ν p = 0; omega) fun a => by show μ a + (κ a + _ + ν a) ≤ μ a + κ a + ν a + _; omega, s1.mono (fun _ _ e => e) (upd_keep (by omega)), ?_, pn⟩
  refine RA.push ?_ (r1.mono (fun _ _ e => e) (upd_keep (by omega)))
  rw [R]
  exact ⟨p, vs, κ, rfl, upd_same, k2, fun _ => rfl⟩
theorem RelT.tup {ds : List D} {p : Addr} (h : RelT Z E ds vs ps δ σ H) (np : H p = none) : Rel Z E ((.ref p, .tup ds) :: ps) δ σ (upd H p (.tup vs)) := by
  obtain ⟨F, μ, κ, ν, w1, s1, k1, r1, pn⟩ := h
  have t0 := RelT.live np s1 k1 r1
  have k2 : RA Z F (upd H p (.tup vs)) ds vs κ := k1.mono (fun _ _ e => e) (upd_keep (by omega))
  refine ⟨F, μ, fun a => (κ a + (if a = p then 1 else 0)) + ν a, w1.alloc np (by show μ p + κ p + ν p = 0; omega) fun a => by show μ a + (κ a + _ + ν a) ≤ μ a + κ a + ν a + _; omega, s1.mono (fun _ _ e => e) (upd_keep (by omega)), ?_, pn⟩
  refine RA.push ?_ (r1.mono (fun _ _ e => e) (upd_keep (by omega)))
  rw [R]
  exact ⟨p, vs, κ, rfl, upd_same, k2, fun _ => rfl⟩
/-- a new object of things that stand elsewhere too: nothing of it is one's own -/
theorem RA.fzs : ∀ {es : List PyData} {vs : List V}, DqAll Z.K F vs es → RA Z F H (es.map D.fz) vs (fun _ => 0)
  | [], _, h => by cases h; exact RA.z
  | e :: es, _, h => by
    cases h with
    | cons a b =>
      exact RA.push (R.fz a) (RA.fzs b)

/-! ### what an expression does to the state -/
/-- a transformer that asks less of what asks less -/
def Mo {α : Type} (f : List D → (α → List D → Prop) → Prop) : Prop := ∀ δ (Q Q' : α → List D → Prop), (∀ a δ', Q a δ' → Q' a δ') → f δ Q → f δ Q'
variable (Z E)
structure DO (t : TE) (f : List D → (W → List D → Prop) → Prop) : Prop where
  mo : Mo f
  run : ∀ (ps : Pend) (δ : List D) (σ : L2.St) (H : Hp) (Q : VK), Rel Z E ps δ σ H → f δ (fun w δ' => ∀ v H', RelW Z E [w] [v] ps δ' σ H' → Q v H') → t σ H Q
structure DE (t : TE) (f : List D → (D → List D → Prop) → Prop) : Prop where
  mo : Mo f
  run : ∀ (ps : Pend) (δ : List D) (σ : L2.St) (H : Hp) (Q : VK), Rel Z E ps δ σ H → f δ (fun d δ' => ∀ v H', Rel Z E ((v, d) :: ps) δ' σ H' → Q v H') → t σ H Q
structure DA (t : TA) (f : List D → (List W → List D → Prop) → Prop) : Prop where
  mo : Mo f
  run : ∀ (ps : Pend) (δ : List D) (σ : L2.St) (H : Hp) (Q : List V → Hp → Prop), Rel Z E ps δ σ H → f δ (fun ws δ' => ∀ vs H', RelW Z E ws vs ps δ' σ H' → Q vs H') → t σ H Q
structure DT (t : TT) (f : List D → (Bool → List D → Prop) → Prop) : Prop where
  mo : Mo f
  run : ∀ (ps : Pend) (δ : List D) (σ : L2.St) (H : Hp) (Q : Bool → Hp → Prop), Rel Z E ps δ σ H → f δ (fun b δ' => ∀ H', Rel Z E ps δ' σ H' → Q b H') → t σ H Q
variable {Z E}
def fVar (i : Nat) (δ : List D) (Q : W → List D → Prop) : Prop := match δ.getD i .hole with
  | .fz d => Q (.tmp (.fz d)) δ
  | .dct d => Q (.tmp (.dct d)) δ
  | .ob c ns d => Q (.tmp (.ob c ns d)) δ
  | .hole => False
  | .ptr _ => False
  | _ => Q (.slot i) δ
theorem RS.at_ {μ : Mu} {i : Nat} (s1 : RS Z F H δ σ μ) (n : δ.getD i .hole ≠ .hole) : ∃ v μ1, σ[i]? = some (some v) ∧ R Z F H (δ.getD i .hole) v μ1 := by
  by_cases hi : i < δ.length
  · obtain ⟨o, μ1, μ2, e, ro, hm, _⟩ := s1.split i hi
    rcases ro with ⟨h0, h1⟩ | ⟨v', e', h1⟩
    · exact absurd h0 n
    · cases e'; exact ⟨v', μ1, e, h1⟩
  · exact absurd (getD_len hi) n
theorem dV (i : Nat) : DO Z E (tVar i) (fVar i) := by
  refine ⟨fun δ Q Q' k h => ?_, ?_⟩
  · unfold fVar at h ⊢
    cases q : δ.getD i .hole <;> rw [q] at h <;> first | exact h.elim | exact k _ _ h
  intro ps δ σ H Q r h
  have r' := id r
  obtain ⟨F, μ, ν, w1, s1, r1, pn⟩ := r'
  unfold fVar at h
  cases q : δ.getD i .hole with
  | hole => rw [q] at h; exact h.elim
  | ptr u => rw [q] at h; exact h.elim
  | fz d =>
    rw [q] at h
    obtain ⟨v, μ1, e, hv⟩ := s1.at_ (by rw [q]; exact fun z => nomatch z)
    rw [q, R] at hv
    exact ⟨v, e, h v H (RelW.of ⟨F, μ, fun a => 0 + ν a, w1.eq fun a => by show μ a + (0 + ν a) = μ a + ν a; omega, s1, RA.push (R.fz hv.1) r1, pn⟩)⟩
  | dct d =>
    rw [q] at h
    obtain ⟨v, μ1, e, hv⟩ := s1.at_ (by rw [q]; exact fun z => nomatch z)
    rw [q, R] at hv
    exact ⟨v, e, h v H (RelW.of ⟨F, μ, fun a => 0 + ν a, w1.eq fun a => by show μ a + (0 + ν a) = μ a + ν a; omega, s1, RA.push (by rw [R]; exact ⟨hv.1, fun _ => rfl⟩) r1, pn⟩)⟩
  | ob c ns d =>
    rw [q] at h
    obtain ⟨v, μ1, e, hv⟩ := s1.at_ (by rw [q]; exact fun z => nomatch z)
    rw [q, R] at hv
    exact ⟨v, e, h v H (RelW.of ⟨F, μ, fun a => 0 + ν a, w1.eq fun a => by show μ a + (0 + ν a) = μ a + ν a; omega, s1, RA.push (by rw [R]; exact ⟨hv.1, fun _ => rfl⟩) r1, pn⟩)⟩
  | own d =>
    rw [q] at h
    obtain ⟨v, μ1, e, hv⟩ := s1.at_ (by rw [q]; exact fun z => nomatch z)
    exact ⟨v, e, h v H ⟨rfl, ⟨e, trivial⟩, r⟩⟩
  | tup d =>
    rw [q] at h
    obtain ⟨v, μ1, e, hv⟩ := s1.at_ (by rw [q]; exact fun z => nomatch z)
    exact ⟨v, e, h v H ⟨rfl, ⟨e, trivial⟩, r⟩⟩
  | pur d =>
    rw [q] at h
    obtain ⟨v, μ1, e, hv⟩ := s1.at_ (by rw [q]; exact fun z => nomatch z)
    exact ⟨v, e, h v H ⟨rfl, ⟨e, trivial⟩, r⟩⟩
  | set d =>
    rw [q] at h
    obtain ⟨v, μ1, e, hv⟩ := s1.at_ (by rw [q]; exact fun z => nomatch z)
    exact ⟨v, e, h v H ⟨rfl, ⟨e, trivial⟩, r⟩⟩
  | odc d =>
    rw [q] at h
    obtain ⟨v, μ1, e, hv⟩ := s1.at_ (by rw [q]; exact fun z => nomatch z)
    exact ⟨v, e, h v H ⟨rfl, ⟨e, trivial⟩, r⟩⟩
  | obj c ns d =>
    rw [q] at h
    obtain ⟨v, μ1, e, hv⟩ := s1.at_ (by rw [q]; exact fun z => nomatch z)
    exact ⟨v, e, h v H ⟨rfl, ⟨e, trivial⟩, r⟩⟩
theorem doT {t : TE} {f : List D → (D → List D → Prop) → Prop} (h : DE Z E t f) : DO Z E t (fun δ Q => f δ fun d => Q (.tmp d)) :=
  ⟨fun δ Q Q' k q => h.mo δ _ _ (fun d δ' q => k _ _ q) q, fun ps δ σ H Q r q => h.run ps δ σ H Q r (h.mo δ _ _ (fun d δ' q v H' rw => q v H' (RelW.of rw)) q)⟩
theorem deT {t : TE} {f : List D → (W → List D → Prop) → Prop} (h : DO Z E t f) : DE Z E t (fun δ Q => f δ fun w δ' => Q (tk w δ').1 (tk w δ').2) :=
  ⟨fun δ Q Q' k q => h.mo δ _ _ (fun d δ' q => k _ _ q) q, fun ps δ σ H Q r q => h.run ps δ σ H Q r (h.mo δ _ _ (fun w δ' h v H' rw => h v H' rw.take) q)⟩
theorem dC {v : V} {e : PyData} (k : ∀ F, Dq Z.K F v e) : DO Z E (tC v) (fun δ Q => Q (.tmp (.fz e)) δ) := ⟨fun δ Q Q' k q => k _ _ q, fun ps δ σ H Q r h => h v H (RelW.of (r.push fun F _ => R.fz (k F)))⟩
theorem dInt (i : Int) : DO Z E (tC (.int i)) (fun δ Q => Q (.tmp (.fz (.int i))) δ) := dC fun _ => .int i
theorem dStr (x : Str) : DO Z E (tC (.str x)) (fun δ Q => Q (.tmp (.fz (.str x))) δ) := dC fun _ => .str x
theorem dBl (b : Bool) : DO Z E (tC (.bl b)) (fun δ Q => Q (.tmp (.fz (.bool b))) δ) := dC fun _ => .bl b
theorem dNon : DO Z E (tC .non) (fun δ Q => Q (.tmp (.fz .none)) δ) := dC fun _ => .non
/-! ### arguments -/
theorem dNil : DA Z E tNil (fun δ Q => Q [] δ) := ⟨fun δ Q Q' k q => k _ _ q, fun ps δ σ H Q r h => h [] H (RelW.nil r)⟩
theorem dCons {te : TE} {ta : TA} {fe : List D → (W → List D → Prop) → Prop} {fa : List D → (List W → List D → Prop) → Prop} (he : DO Z E te fe) (ha : DA Z E ta fa) : DA Z E (tCons te ta) (fun δ Q => fe δ fun w δ1 => fa δ1 fun ws δ2 => Q (w :: ws) δ2) :=
  ⟨fun δ Q Q' k q => he.mo δ _ _ (fun w δ1 q => ha.mo δ1 _ _ (fun ws δ2 q => k _ _ q) q) q, fun ps δ σ H Q r h =>
    he.run ps δ σ H _ r (he.mo δ _ _ (fun w δ1 h v H1 r1 => ha.run _ δ1 σ H1 _ r1.rel (ha.mo δ1 _ _ (fun ws δ2 h vs H2 r2 => h (v :: vs) H2 (r1.cons r2)) h)) h)⟩
/-! ### operators -/
theorem dOp {r : R2} {ta tb : TE} {fa fb : List D → (W → List D → Prop) → Prop} {g : W → W → List D → (W → List D → Prop) → Prop} (gm : ∀ w1 w2, Mo (g w1 w2))
    (hg : ∀ (w1 w2 : W) (x y : V) (ps : Pend) (δ : List D) (σ : L2.St) (H : Hp) (Q : VK), RelW Z E [w1, w2] [x, y] ps δ σ H → g w1 w2 δ (fun w δ' => ∀ v H', RelW Z E [w] [v] ps δ' σ H' → Q v H') → r x y H Q)
    (ha : DO Z E ta fa) (hb : DO Z E tb fb) : DO Z E (tOp r ta tb) (fun δ Q => fa δ fun w1 δ1 => fb δ1 fun w2 δ2 => g w1 w2 δ2 Q) :=
  ⟨fun δ Q Q' k q => ha.mo δ _ _ (fun w δ1 q => hb.mo δ1 _ _ (fun w2 δ2 q => gm w w2 δ2 _ _ k q) q) q, fun ps δ σ H Q r0 h =>
    ha.run ps δ σ H _ r0 (ha.mo δ _ _ (fun w δ1 h v H1 r1 => hb.run _ δ1 σ H1 _ r1.rel (hb.mo δ1 _ _ (fun w2 δ2 h u H2 r2 => hg w w2 v u ps δ2 σ H2 Q (r1.cons r2) h) h)) h)⟩
/-- a result that stands in no object -/
abbrev gSc (P : D → D → PyData → Prop) (w1 w2 : W) (δ : List D) (Q : W → List D → Prop) : Prop := ∃ e, P (vw w1 δ) (vw w2 δ) e ∧ Q (.tmp (.fz e)) δ
theorem RelW.sc {v : V} {e : PyData} (h : RelW Z E ws vs ps δ σ H) (k : Sc v e) : RelW Z E [.tmp (.fz e)] [v] ps δ σ H := RelW.of (h.drop.pushSc k)
theorem scI (i : Int) : Sc (.int i) (.int i) := fun _ _ => .int i
theorem scS (x : Str) : Sc (.str x) (.str x) := fun _ _ => .str x
theorem scB (b : Bool) : Sc (.bl b) (.bool b) := fun _ _ => .bl b
theorem scN : Sc .non .none := fun _ _ => .non
variable {ta tb : TE} {fa fb : List D → (W → List D → Prop) → Prop}
theorem RelW.i0 {w1 : W} {x : V} {i : Int} (h : RelW Z E (w1 :: ws) (x :: vs) ps δ σ H) (q : vw w1 δ = .fz (.int i)) : x = .int i := intI (h.dq0 (by rw [q]; rfl)).dp
theorem RelW.i1 {w1 w2 : W} {x y : V} {i : Int} (h : RelW Z E (w1 :: w2 :: ws) (x :: y :: vs) ps δ σ H) (q : vw w2 δ = .fz (.int i)) : y = .int i := intI (h.dq1 (by rw [q]; rfl)).dp
theorem RelW.s0 {w1 : W} {x : V} {i : Str} (h : RelW Z E (w1 :: ws) (x :: vs) ps δ σ H) (q : vw w1 δ = .fz (.str i)) : x = .str i := strI (h.dq0 (by rw [q]; rfl)).dp
theorem RelW.s1 {w1 w2 : W} {x y : V} {i : Str} (h : RelW Z E (w1 :: w2 :: ws) (x :: y :: vs) ps δ σ H) (q : vw w2 δ = .fz (.str i)) : y = .str i := strI (h.dq1 (by rw [q]; rfl)).dp
def fI (C : Int → Int → Prop) (g : Int → Int → PyData) (fa fb : List D → (W → List D → Prop) → Prop) (δ : List D) (Q : W → List D → Prop) : Prop :=
  fa δ fun w1 δ1 => fb δ1 fun w2 δ2 => ∃ i j, vw w1 δ2 = .fz (.int i) ∧ vw w2 δ2 = .fz (.int j) ∧ C i j ∧ Q (.tmp (.fz (g i j))) δ2
theorem dI {C : Int → Int → Prop} {g : Int → Int → V} (g' : Int → Int → PyData) (hg : ∀ i j, Sc (g i j) (g' i j)) (ha : DO Z E ta fa) (hb : DO Z E tb fb) : DO Z E (tOp (rI C g) ta tb) (fI C g' fa fb) :=
  dOp (g := fun w1 w2 δ Q => ∃ i j, vw w1 δ = .fz (.int i) ∧ vw w2 δ = .fz (.int j) ∧ C i j ∧ Q (.tmp (.fz (g' i j))) δ) (fun w1 w2 δ Q Q' k ⟨i, j, a, b, c, q⟩ => ⟨i, j, a, b, c, k _ _ q⟩)
    (fun w1 w2 x y ps δ σ H Q r ⟨i, j, a, b, c, q⟩ => ⟨i, j, r.i0 a, r.i1 b, c, q _ _ (r.sc (hg i j))⟩) ha hb
theorem dI0 {g : Int → Int → V} (g' : Int → Int → PyData) (hg : ∀ i j, Sc (g i j) (g' i j)) (ha : DO Z E ta fa) (hb : DO Z E tb fb) : DO Z E (tOp (rI0 g) ta tb) (fI (fun _ _ => True) g' fa fb) :=
  dOp (g := fun w1 w2 δ Q => ∃ i j, vw w1 δ = .fz (.int i) ∧ vw w2 δ = .fz (.int j) ∧ True ∧ Q (.tmp (.fz (g' i j))) δ) (fun w1 w2 δ Q Q' k ⟨i, j, a, b, c, q⟩ => ⟨i, j, a, b, c, k _ _ q⟩)
    (fun w1 w2 x y ps δ σ H Q r ⟨i, j, a, b, c, q⟩ => ⟨i, j, r.i0 a, r.i1 b, q _ _ (r.sc (hg i j))⟩) ha hb
end
end OwnD
namespace OwnD
open PySem PySem.Spec PyProof.Rows L2 Own
section
variable {Z : Zx} {F F' H H' : Hp} {E : Ent} {ps : Pend} {δ : List D} {σ : L2.St} {ws : List W} {vs : List V} {w : W} {v : V} {d : D} {τ τ' : Mu}
theorem RA.len : ∀ {ds : List D} {vs : List V} {μ : Mu}, RA Z F H ds vs μ → vs.length = ds.length
  | [], vs, μ, h => by rw [RA] at h; rw [h.1]; rfl
  | d :: ds, vs, μ, h => by
    rw [RA] at h
    obtain ⟨v, ws, _, _, rfl, _, h2, _⟩ := h
    rw [List.length_cons, List.length_cons, RA.len h2]
theorem RA.split : ∀ {d1 d2 : List D} {v1 v2 : List V} {μ : Mu}, RA Z F H (d1 ++ d2) (v1 ++ v2) μ → v1.length = d1.length → ∃ μ1 μ2, RA Z F H d1 v1 μ1 ∧ RA Z F H d2 v2 μ2 ∧ ∀ a, μ a = μ1 a + μ2 a
  | [], d2, v1, v2, μ, h, e => by
    obtain rfl : v1 = [] := by simpa using e
    exact ⟨fun _ => 0, μ, RA.z, h, fun a => by show μ a = 0 + μ a; omega⟩
  | d :: d1, d2, [], v2, μ, h, e => absurd e (by simp)
  | d :: d1, d2, v :: v1, v2, μ, h, e => by
    rw [List.cons_append, List.cons_append, RA] at h
    obtain ⟨_, _, μ1, μ2, e', h1, h2, h3⟩ := h
    cases e'
    obtain ⟨μ3, μ4, q1, q2, q3⟩ := RA.split h2 (by simpa using e)
    exact ⟨_, μ4, RA.push h1 q1, q2, fun a => by have := h3 a; have := q3 a; show μ a = μ1 a + μ3 a + μ4 a; omega⟩
/-- an item of several -/
theorem RA.get : ∀ {ds : List D} {vs : List V} {μ : Mu} {i : Nat} {d : D}, RA Z F H ds vs μ → ds[i]? = some d → ∃ v μ1, vs[i]? = some v ∧ R Z F H d v μ1 ∧ ∀ a, μ1 a ≤ μ a
  | [], _, _, _, _, _, e => by simp at e
  | d :: ds, vs, μ, 0, _, h, e => by
    rw [RA] at h
    obtain ⟨v, ws, μ1, μ2, rfl, h1, h2, h3⟩ := h
    cases e
    exact ⟨v, μ1, rfl, h1, fun a => by have := h3 a; omega⟩
  | d :: ds, vs, μ, i + 1, _, h, e => by
    rw [RA] at h
    obtain ⟨v, ws, μ1, μ2, rfl, h1, h2, h3⟩ := h
    obtain ⟨u, μ3, q1, q2, q3⟩ := RA.get (i := i) h2 (by simpa using e)
    exact ⟨u, μ3, by simpa using q1, q2, fun a => by have := h3 a; have := q3 a; omega⟩
theorem pnd_eq : ∀ (ws : List W) (vs : List V) (ps : Pend), pnd ws vs ps = pnd ws vs [] ++ ps
  | [], vs, ps => by simp [pnd]
  | .tmp d :: ws, [], ps => by simp [pnd]
  | .slot i :: ws, [], ps => by simp [pnd]
  | .tmp d :: ws, v :: vs, ps => by
    show pnd ws vs ((v, d) :: ps) = pnd ws vs ((v, d) :: []) ++ ps
    rw [pnd_eq ws vs ((v, d) :: ps), pnd_eq ws vs [(v, d)], List.append_assoc]; rfl
  | .slot i :: ws, v :: vs, ps => pnd_eq ws vs ps
/-- sharing one of the pending -/
theorem Rel.freezeAt {A B : Pend} (h : Rel Z E (A ++ (v, d) :: B) δ σ H) : Rel Z E (A ++ (v, fzD d) :: B) δ σ H := by
  by_cases q : fzD d = d
  · rw [q]; exact h
  · obtain ⟨F, μ, ν, w1, s1, r1, pn⟩ := h
    rw [List.map_append, List.map_append] at r1
    obtain ⟨ν1, ν2, a1, a2, a3⟩ := RA.split r1 (by simp)
    rw [List.map_cons, List.map_cons, RA] at a2
    obtain ⟨_, _, μ1, μ2, e', r2, r3, r4⟩ := a2
    cases e'
    have sf : Same F (fzH F H μ1) := fzH_sub w1 μ1 fun a => by have := r4 a; have := a3 a; show μ1 a ≤ μ a + ν a; omega
    refine ⟨fzH F H μ1, μ, _, w1.freeze fun a => ?_, s1.mono sf fun _ _ => rfl, by rw [List.map_append, List.map_append]; exact RA.app (a1.mono sf fun _ _ => rfl) (RA.push (r2.shares w1.sub sf q) (r3.mono sf fun _ _ => rfl)), pn⟩
    have := r4 a; have := a3 a
    show (μ a + (ν1 a + (0 + μ2 a))) + μ1 a ≤ μ a + ν a
    omega
theorem Rel.freeze (h : Rel Z E ((v, d) :: ps) δ σ H) : Rel Z E ((v, fzD d) :: ps) δ σ H := Rel.freezeAt (A := []) h
def fzW : W → W
  | .tmp d => .tmp (fzD d)
  | .slot i => .slot i
theorem RelW.frz : ∀ {ws : List W} {vs : List V} {ps : Pend}, RelW Z E ws vs ps δ σ H → RelW Z E (ws.map fzW) vs ps δ σ H
  | [], vs, ps, h => h
  | w :: ws, [], ps, h => absurd h.1 (by simp)
  | .tmp d :: ws, v :: vs, ps, h => by
    have q : RelW Z E ws vs ((v, fzD d) :: ps) δ σ H := by
      refine ⟨by simpa using h.1, h.2.1, ?_⟩
      have z : Rel Z E (pnd ws vs ((v, d) :: ps)) δ σ H := h.2.2
      rw [pnd_eq] at z ⊢
      exact z.freezeAt
    have q2 := RelW.frz q
    exact ⟨by simpa using h.1, q2.2.1, q2.2.2⟩
  | .slot i :: ws, v :: vs, ps, h => by
    have q : RelW Z E ws vs ps δ σ H := ⟨by simpa using h.1, h.2.1.2, h.2.2⟩
    have q2 := RelW.frz q
    exact ⟨by simpa using h.1, ⟨h.2.1.1, q2.2.1⟩, q2.2.2⟩
theorem RelW.frz1 (h : RelW Z E [w] [v] ps δ σ H) : RelW Z E [fzW w] [v] ps δ σ H := h.frz
theorem RelW.frz2 {w1 w2 : W} {x y : V} (h : RelW Z E [w1, w2] [x, y] ps δ σ H) : RelW Z E [fzW w1, fzW w2] [x, y] ps δ σ H := h.frz
theorem fzD_idem (e : PyData) : fzD (.fz e) = .fz e := rfl
/-- the items of a list, of a tuple, that nothing owns -/
def shr : D → Bool
  | .fz _ => true
  | .dct _ => true
  | .ob _ _ _ => true
  | _ => false
theorem R.shared {μ : Mu} (h : R Z F H d v μ) (k : shr d = true) : R Z F H d v (fun _ => 0) := by
  cases d with
  | fz e => rw [R] at h ⊢; exact ⟨h.1, fun _ => rfl⟩
  | dct e => rw [R] at h ⊢; exact ⟨h.1, fun _ => rfl⟩
  | ob c ns e => rw [R] at h ⊢; exact ⟨h.1, fun _ => rfl⟩
  | _ => cases k
def elL : D → Option (List D)
  | .fz (.list es) => some (es.map .fz)
  | .own ds => if ds.all shr then some ds else none
  | _ => none
def elT : D → Option (List D)
  | .fz (.tuple es) => some (es.map .fz)
  | .tup ds => if ds.all shr then some ds else none
  | _ => none
theorem RA.zero : ∀ {ds : List D} {vs : List V} {μ : Mu}, RA Z F H ds vs μ → ds.all shr = true → RA Z F H ds vs (fun _ => 0)
  | [], vs, μ, h, _ => by rw [RA] at h ⊢; exact ⟨h.1, fun _ => rfl⟩
  | d :: ds, vs, μ, h, k => by
    rw [List.all_cons, Bool.and_eq_true] at k
    rw [RA] at h
    obtain ⟨v, ws, μ1, μ2, rfl, h1, h2, h3⟩ := h
    exact RA.push (h1.shared k.1) (RA.zero h2 k.2)
theorem R.elL {μ : Mu} {ds : List D} (s : Same F H) (h : R Z F H d v μ) (k : elL d = some ds) : ∃ a xs, v = .ref a ∧ H a = some (.lst xs) ∧ RA Z F H ds xs (fun _ => 0) := by
  cases d with
  | fz e =>
    cases e with
    | list es =>
      cases k
      rw [R] at h
      obtain ⟨h, _⟩ := h
      cases h with
      | lst h1 h2 => exact ⟨_, _, rfl, s _ _ h1, RA.fzs h2⟩
    | _ => cases k
  | own es =>
    have k : (if es.all shr then some es else none) = some ds := k
    by_cases z : es.all shr = true
    · rw [if_pos z] at k; cases k
      rw [R] at h
      obtain ⟨a, xs, ν, e, h1, h2, _⟩ := h
      exact ⟨a, xs, e, h1, h2.zero z⟩
    · rw [if_neg z] at k; cases k
  | _ => cases k
theorem R.elT {μ : Mu} {ds : List D} (s : Same F H) (h : R Z F H d v μ) (k : elT d = some ds) : ∃ a xs, v = .ref a ∧ SqT Z.K H a xs ∧ RA Z F H ds xs (fun _ => 0) := by
  cases d with
  | fz e =>
    cases e with
    | tuple es =>
      cases k
      rw [R] at h
      obtain ⟨h, _⟩ := h
      cases h with
      | tup h1 h2 => exact ⟨_, _, rfl, Same.tup s h1, RA.fzs h2⟩
    | _ => cases k
  | tup es =>
    have k : (if es.all shr then some es else none) = some ds := k
    by_cases z : es.all shr = true
    · rw [if_pos z] at k; cases k
      rw [R] at h
      obtain ⟨a, xs, ν, e, h1, h2, _⟩ := h
      exact ⟨a, xs, e, .inl (.inl h1), h2.zero z⟩
    · rw [if_neg z] at k; cases k
  | _ => cases k
/-- an operand's items -/
theorem RelW.elL {k : Nat} {ds : List D} (h : RelW Z E ws vs ps δ σ H) (e1 : ws[k]? = some w) (e2 : vs[k]? = some v) (q : OwnD.elL (vw w δ) = some ds) : ∃ a xs, v = .ref a ∧ H a = some (.lst xs) ∧ xs.length = ds.length := by
  obtain ⟨F, μ, s, r⟩ := h.see e1 e2
  obtain ⟨a, xs, e, h1, h2⟩ := r.elL s q
  exact ⟨a, xs, e, h1, h2.len⟩
theorem RelW.elT {k : Nat} {ds : List D} (h : RelW Z E ws vs ps δ σ H) (e1 : ws[k]? = some w) (e2 : vs[k]? = some v) (q : OwnD.elT (vw w δ) = some ds) : ∃ a xs, v = .ref a ∧ SqT Z.K H a xs ∧ xs.length = ds.length := by
  obtain ⟨F, μ, s, r⟩ := h.see e1 e2
  obtain ⟨a, xs, e, h1, h2⟩ := r.elT s q
  exact ⟨a, xs, e, h1, h2.len⟩
theorem atI_nat_some {α : Type} {xs : List α} {i : Int} {d : α} (h : atI xs i = some d) : ∃ j, ixN xs.length i = some j ∧ xs[j]? = some d := by
  unfold atI at h
  cases e : ixN xs.length i with
  | none => rw [e] at h; cases h
  | some j => rw [e] at h; exact ⟨j, rfl, h⟩
/-- one shared part: what an operand is, and what follows of it -/
theorem RelW.seeP {k : Nat} (h : RelW Z E ws vs ps δ σ H) (e1 : ws[k]? = some w) (e2 : vs[k]? = some v) :
    ∃ F μ, Same F H ∧ R Z F H (vw w δ) v μ ∧ ∀ {g : D} {u : V}, R Z F H g u (fun _ => 0) → RelW Z E [.tmp g] [u] ps δ σ H := by
  obtain ⟨_, hs, F, μ, ν, w1, s1, r1, pn⟩ := h
  obtain ⟨μ1, r, _⟩ := see_core hs s1 r1 e1 e2
  obtain ⟨ν', q1, q2⟩ := pnd_rest r1
  exact ⟨F, μ1, w1.sub, r, fun hg => RelW.of ⟨F, μ, fun a => 0 + ν' a, w1.le fun a => by have := q2 a; show μ a + (0 + ν' a) ≤ μ a + ν a; omega, s1, RA.push hg q1, pn⟩⟩
theorem RelW.itL {i : Int} {k : Nat} {ds : List D} {g : D} (h : RelW Z E ws vs ps δ σ H) (e1 : ws[k]? = some w) (e2 : vs[k]? = some v) (q : OwnD.elL (vw w δ) = some ds) (hi : atI ds i = some g) (hs : shr g = true) :
    ∃ a xs u, v = .ref a ∧ H a = some (.lst xs) ∧ atI xs i = some u ∧ RelW Z E [.tmp g] [u] ps δ σ H := by
  obtain ⟨F, μ, s, r, k⟩ := h.seeP e1 e2
  obtain ⟨a, xs, e, h1, h2⟩ := r.elL s q
  obtain ⟨j, hj, hg⟩ := atI_nat_some hi
  obtain ⟨u, μ1, q1, q2, _⟩ := h2.get hg
  exact ⟨a, xs, u, e, h1, by unfold atI; rw [h2.len, hj]; exact q1, k (q2.shared hs)⟩
theorem RelW.itT {i : Int} {k : Nat} {ds : List D} {g : D} (h : RelW Z E ws vs ps δ σ H) (e1 : ws[k]? = some w) (e2 : vs[k]? = some v) (q : OwnD.elT (vw w δ) = some ds) (hi : atI ds i = some g) (hs : shr g = true) :
    ∃ a xs u, v = .ref a ∧ SqT Z.K H a xs ∧ atI xs i = some u ∧ RelW Z E [.tmp g] [u] ps δ σ H := by
  obtain ⟨F, μ, s, r, k⟩ := h.seeP e1 e2
  obtain ⟨a, xs, e, h1, h2⟩ := r.elT s q
  obtain ⟨j, hj, hg⟩ := atI_nat_some hi
  obtain ⟨u, μ1, q1, q2, _⟩ := h2.get hg
  exact ⟨a, xs, u, e, h1, by unfold atI; rw [h2.len, hj]; exact q1, k (q2.shared hs)⟩
/-- new objects of things that nothing owns -/
theorem RelW.lstOf {ds : List D} {us : List V} {p : Addr} (h : RelW Z E ws vs ps δ σ H) (hd : ∀ F μ ν, Same F H → slo ws vs σ → RS Z F H δ σ μ → RA Z F H ((pnd ws vs ps).map (·.2)) ((pnd ws vs ps).map (·.1)) ν → RA Z F H ds us (fun _ => 0)) (np : H p = none) :
    RelW Z E [.tmp (.own ds)] [.ref p] ps δ σ (upd H p (.lst us)) := by
  obtain ⟨_, hs, F, μ, ν, w1, s1, r1, pn⟩ := h
  obtain ⟨ν', q1, q2⟩ := pnd_rest r1
  have t : RelT Z E ds us ps δ σ H := ⟨F, μ, fun _ => 0, ν', w1.le fun a => by have := q2 a; show μ a + 0 + ν' a ≤ μ a + ν a; omega, s1, hd F μ ν w1.sub hs s1 r1, q1, pn⟩
  exact RelW.of (t.lst np)
theorem RelW.tupOf {ds : List D} {us : List V} {p : Addr} (h : RelW Z E ws vs ps δ σ H) (hd : ∀ F μ ν, Same F H → slo ws vs σ → RS Z F H δ σ μ → RA Z F H ((pnd ws vs ps).map (·.2)) ((pnd ws vs ps).map (·.1)) ν → RA Z F H ds us (fun _ => 0)) (np : H p = none) :
    RelW Z E [.tmp (.tup ds)] [.ref p] ps δ σ (upd H p (.tup us)) := by
  obtain ⟨_, hs, F, μ, ν, w1, s1, r1, pn⟩ := h
  obtain ⟨ν', q1, q2⟩ := pnd_rest r1
  have t : RelT Z E ds us ps δ σ H := ⟨F, μ, fun _ => 0, ν', w1.le fun a => by have := q2 a; show μ a + 0 + ν' a ≤ μ a + ν a; omega, s1, hd F μ ν w1.sub hs s1 r1, q1, pn⟩
  exact RelW.of (t.tup np)

/-! ### rules for operators -/
variable {ta tb : TE} {fa fb : List D → (W → List D → Prop) → Prop}
def f2 (fa fb : List D → (W → List D → Prop) → Prop) (g : W → W → List D → (W → List D → Prop) → Prop) (δ : List D) (Q : W → List D → Prop) : Prop := fa δ fun w1 δ1 => fb δ1 fun w2 δ2 => g (fzW w1) (fzW w2) δ2 Q
theorem d2 {r : R2} {g : W → W → List D → (W → List D → Prop) → Prop} (gm : ∀ w1 w2, Mo (g w1 w2))
    (hg : ∀ (w1 w2 : W) (x y : V) (ps : Pend) (δ : List D) (σ : L2.St) (H : Hp) (Q : VK), RelW Z E [w1, w2] [x, y] ps δ σ H → g w1 w2 δ (fun w δ' => ∀ v H', RelW Z E [w] [v] ps δ' σ H' → Q v H') → r x y H Q)
    (ha : DO Z E ta fa) (hb : DO Z E tb fb) : DO Z E (tOp r ta tb) (f2 fa fb g) :=
  dOp (g := fun w1 w2 => g (fzW w1) (fzW w2)) (fun w1 w2 => gm _ _) (fun w1 w2 x y ps δ σ H Q r0 h => hg _ _ x y ps δ σ H Q r0.frz2 h) ha hb
/-- == of texts, of numbers -/
def gEqS (neg : Bool) (w1 w2 : W) (δ : List D) (Q : W → List D → Prop) : Prop := ∃ x y, vw w1 δ = .fz (.str x) ∧ vw w2 δ = .fz (.str y) ∧ Q (.tmp (.fz (.bool (if neg then !decide (x = y) else decide (x = y))))) δ
def gEqI (neg : Bool) (w1 w2 : W) (δ : List D) (Q : W → List D → Prop) : Prop := ∃ x y, vw w1 δ = .fz (.int x) ∧ vw w2 δ = .fz (.int y) ∧ Q (.tmp (.fz (.bool (if neg then !decide (x = y) else decide (x = y))))) δ
theorem decS (x y : Str) : decide (V.str x = V.str y) = decide (x = y) := by by_cases h : x = y <;> simp [h]
theorem decI (x y : Int) : decide (V.int x = V.int y) = decide (x = y) := by by_cases h : x = y <;> simp [h]
theorem dEqS (ha : DO Z E ta fa) (hb : DO Z E tb fb) : DO Z E (tOp rEq ta tb) (f2 fa fb (gEqS false)) :=
  d2 (fun w1 w2 δ Q Q' k ⟨x, y, a, b, q⟩ => ⟨x, y, a, b, k _ _ q⟩) (fun w1 w2 x y ps δ σ H Q r ⟨i, j, a, b, q⟩ => by
    obtain rfl := r.s0 a
    obtain rfl := r.s1 b
    refine ⟨rfl, ?_⟩
    rw [decS]; exact q _ _ (r.sc (scB _))) ha hb
theorem dNeS (ha : DO Z E ta fa) (hb : DO Z E tb fb) : DO Z E (tOp rNe ta tb) (f2 fa fb (gEqS true)) :=
  d2 (fun w1 w2 δ Q Q' k ⟨x, y, a, b, q⟩ => ⟨x, y, a, b, k _ _ q⟩) (fun w1 w2 x y ps δ σ H Q r ⟨i, j, a, b, q⟩ => by
    obtain rfl := r.s0 a
    obtain rfl := r.s1 b
    refine ⟨rfl, ?_⟩
    rw [decS]; exact q _ _ (r.sc (scB _))) ha hb
theorem dEqI (ha : DO Z E ta fa) (hb : DO Z E tb fb) : DO Z E (tOp rEq ta tb) (f2 fa fb (gEqI false)) :=
  d2 (fun w1 w2 δ Q Q' k ⟨x, y, a, b, q⟩ => ⟨x, y, a, b, k _ _ q⟩) (fun w1 w2 x y ps δ σ H Q r ⟨i, j, a, b, q⟩ => by
    obtain rfl := r.i0 a
    obtain rfl := r.i1 b
    refine ⟨rfl, ?_⟩
    rw [decI]; exact q _ _ (r.sc (scB _))) ha hb
theorem dNeI (ha : DO Z E ta fa) (hb : DO Z E tb fb) : DO Z E (tOp rNe ta tb) (f2 fa fb (gEqI true)) :=
  d2 (fun w1 w2 δ Q Q' k ⟨x, y, a, b, q⟩ => ⟨x, y, a, b, k _ _ q⟩) (fun w1 w2 x y ps δ σ H Q r ⟨i, j, a, b, q⟩ => by
    obtain rfl := r.i0 a
    obtain rfl := r.i1 b
    refine ⟨rfl, ?_⟩
    rw [decI]; exact q _ _ (r.sc (scB _))) ha hb
/-- == of data of any kind -/
def gEqD (neg : Bool) (w1 w2 : W) (δ : List D) (Q : W → List D → Prop) : Prop := ∃ d e, (vw w1 δ).py = some d ∧ (vw w2 δ).py = some e ∧ SeqAt.shaped d = true ∧ SeqAt.shaped e = true ∧ Q (.tmp (.fz (.bool (if neg then !PyData.eqv d e else PyData.eqv d e)))) δ
theorem dEqD (ha : DO Z E ta fa) (hb : DO Z E tb fb) : DO Z E (tOp (rEqD Z.K) ta tb) (f2 fa fb (gEqD false)) :=
  d2 (fun w1 w2 δ Q Q' k ⟨x, y, a, b, c, d, q⟩ => ⟨x, y, a, b, c, d, k _ _ q⟩) (fun w1 w2 x y ps δ σ H Q r ⟨i, j, a, b, c, d, q⟩ =>
    ⟨i, j, (r.dq0 a).dp, (r.dq1 b).dp, c, d, q _ _ (r.sc (scB _))⟩) ha hb
theorem dNeD (ha : DO Z E ta fa) (hb : DO Z E tb fb) : DO Z E (tOp (rNeD Z.K) ta tb) (f2 fa fb (gEqD true)) :=
  d2 (fun w1 w2 δ Q Q' k ⟨x, y, a, b, c, d, q⟩ => ⟨x, y, a, b, c, d, k _ _ q⟩) (fun w1 w2 x y ps δ σ H Q r ⟨i, j, a, b, c, d, q⟩ =>
    ⟨i, j, (r.dq0 a).dp, (r.dq1 b).dp, c, d, q _ _ (r.sc (scB _))⟩) ha hb
/-- x is None -/
def isNonD (d : D) : Option Bool := match d with
  | .fz .none => some true
  | .fz _ => some false
  | .dct _ => some false
  | .own _ => some false
  | .tup _ => some false
  | .obj _ _ _ => some false
  | .pur _ => some false
  | .set _ => some false
  | .odc _ => some false
  | .ob _ _ _ => some false
  | _ => none
theorem R.isNon {μ : Mu} {b : Bool} (h : R Z F H d v μ) (k : isNonD d = some b) : decide (v = .non) = b := by
  cases d with
  | fz e =>
    rw [R] at h
    obtain ⟨h, _⟩ := h
    cases h <;> cases k <;> simp
  | dct e =>
    rw [R] at h; cases k
    obtain ⟨⟨a, _, e, _⟩, _⟩ := h
    rw [e]; simp
  | own e => rw [R] at h; cases k; obtain ⟨a, _, _, e, _⟩ := h; rw [e]; simp
  | tup e => rw [R] at h; cases k; obtain ⟨a, _, _, e, _⟩ := h; rw [e]; simp
  | pur e => rw [R] at h; cases k; obtain ⟨a, e, _⟩ := h; rw [e]; simp
  | obj c ns e => rw [R] at h; cases k; obtain ⟨a, _, _, _, e, _⟩ := h; rw [e]; simp
  | set e => rw [R] at h; cases k; obtain ⟨a, e, _⟩ := h; rw [e]; simp
  | odc e => rw [R] at h; cases k; obtain ⟨a, _, e, _⟩ := h; rw [e]; simp
  | ob c ns e => rw [R] at h; cases k; obtain ⟨⟨a, _, _, e, _⟩, _⟩ := h; rw [e]; simp
  | ptr u => cases k
  | hole => cases k
def gIs (neg : Bool) (w1 w2 : W) (δ : List D) (Q : W → List D → Prop) : Prop := ∃ b, isNonD (vw w1 δ) = some b ∧ vw w2 δ = .fz .none ∧ Q (.tmp (.fz (.bool (if neg then !b else b)))) δ
theorem dIsN (ha : DO Z E ta fa) (hb : DO Z E tb fb) : DO Z E (tOp (fun x y H Q => y = .non ∧ Q (.bl (decide (x = .non))) H) ta tb) (f2 fa fb (gIs false)) :=
  d2 (fun w1 w2 δ Q Q' k ⟨x, a, b, q⟩ => ⟨x, a, b, k _ _ q⟩) (fun w1 w2 x y ps δ σ H Q r ⟨c, a, b, q⟩ => by
    obtain ⟨F, μ, s, r0⟩ := r.see (k := 0) rfl rfl
    refine ⟨?_, ?_⟩
    · have z := r.dq1 (e := .none) (by rw [b]; rfl)
      cases z; rfl
    · rw [r0.isNon a]; exact q _ _ (r.sc (scB _))) ha hb
theorem dNotN (ha : DO Z E ta fa) (hb : DO Z E tb fb) : DO Z E (tOp (fun x y H Q => y = .non ∧ Q (.bl (!decide (x = .non))) H) ta tb) (f2 fa fb (gIs true)) :=
  d2 (fun w1 w2 δ Q Q' k ⟨x, a, b, q⟩ => ⟨x, a, b, k _ _ q⟩) (fun w1 w2 x y ps δ σ H Q r ⟨c, a, b, q⟩ => by
    obtain ⟨F, μ, s, r0⟩ := r.see (k := 0) rfl rfl
    refine ⟨?_, ?_⟩
    · have z := r.dq1 (e := .none) (by rw [b]; rfl)
      cases z; rfl
    · rw [r0.isNon a]; exact q _ _ (r.sc (scB _))) ha hb
/-- texts joined -/
def gAddS (w1 w2 : W) (δ : List D) (Q : W → List D → Prop) : Prop := ∃ x y, vw w1 δ = .fz (.str x) ∧ vw w2 δ = .fz (.str y) ∧ x.length + y.length ≤ sizeLine ∧ Q (.tmp (.fz (.str (x ++ y)))) δ
theorem dAddS (ha : DO Z E ta fa) (hb : DO Z E tb fb) : DO Z E (tOp (fun x y H Q => ∃ i j, x = .str i ∧ y = .str j ∧ i.length + j.length ≤ sizeLine ∧ Q (.str (i ++ j)) H) ta tb) (f2 fa fb gAddS) :=
  d2 (fun w1 w2 δ Q Q' k ⟨x, y, a, b, c, q⟩ => ⟨x, y, a, b, c, k _ _ q⟩) (fun w1 w2 x y ps δ σ H Q r ⟨i, j, a, b, c, q⟩ => ⟨i, j, r.s0 a, r.s1 b, c, q _ _ (r.sc (scS _))⟩) ha hb
/-- a text in a text -/
def gInS (neg : Bool) (w1 w2 : W) (δ : List D) (Q : W → List D → Prop) : Prop := ∃ i j, vw w1 δ = .fz (.str i) ∧ vw w2 δ = .fz (.str j) ∧ Q (.tmp (.fz (.bool (if neg then !(!(Builtin.Str.occurrences j i 0 j.length 1).isEmpty) else !(Builtin.Str.occurrences j i 0 j.length 1).isEmpty)))) δ
theorem dInS (ha : DO Z E ta fa) (hb : DO Z E tb fb) : DO Z E (tOp (fun x y H Q => ∃ i j, x = .str i ∧ y = .str j ∧ Q (.bl (!(Builtin.Str.occurrences j i 0 j.length 1).isEmpty)) H) ta tb) (f2 fa fb (gInS false)) :=
  d2 (fun w1 w2 δ Q Q' k ⟨x, y, a, b, q⟩ => ⟨x, y, a, b, k _ _ q⟩) (fun w1 w2 x y ps δ σ H Q r ⟨i, j, a, b, q⟩ => ⟨i, j, r.s0 a, r.s1 b, q _ _ (r.sc (scB _))⟩) ha hb
theorem dNotInS (ha : DO Z E ta fa) (hb : DO Z E tb fb) : DO Z E (tOp (fun x y H Q => ∃ i j, x = .str i ∧ y = .str j ∧ Q (.bl (!(!(Builtin.Str.occurrences j i 0 j.length 1).isEmpty))) H) ta tb) (f2 fa fb (gInS true)) :=
  d2 (fun w1 w2 δ Q Q' k ⟨x, y, a, b, q⟩ => ⟨x, y, a, b, k _ _ q⟩) (fun w1 w2 x y ps δ σ H Q r ⟨i, j, a, b, q⟩ => ⟨i, j, r.s0 a, r.s1 b, q _ _ (r.sc (scB _))⟩) ha hb
/-- a flat thing in a list or tuple of flat things -/
def flD : PyData → Option V
  | .none => some .non
  | .bool b => some (.bl b)
  | .int i => some (.int i)
  | .str x => some (.str x)
  | _ => none
theorem Dq.flat {K : PySem.W.Frag} {e : PyData} {u : V} (h : Dq K F v e) (k : flD e = some u) : v = u ∧ flatV v = true := by
  cases h <;> cases k <;> exact ⟨rfl, rfl⟩
def flA (es : List D) : Option (List V) := es.mapM fun d => match d with | .fz e => flD e | _ => none
theorem flA_ok : ∀ {ds : List D} {vs us : List V} {μ : Mu}, RA Z F H ds vs μ → flA ds = some us → vs = us ∧ vs.all flatV = true
  | [], vs, us, μ, h, k => by
    rw [RA] at h
    obtain ⟨rfl, _⟩ := h
    cases k; exact ⟨rfl, rfl⟩
  | d :: ds, vs, us, μ, h, k => by
    rw [RA] at h
    obtain ⟨v, ws, μ1, μ2, rfl, h1, h2, h3⟩ := h
    unfold flA at k
    rw [List.mapM_cons] at k
    cases d with
    | fz e =>
      cases z : flD e with
      | none => simp [z] at k
      | some u =>
        cases z2 : flA ds with
        | none => unfold flA at z2; simp [z, z2] at k
        | some us2 =>
          have z3 := z2
          unfold flA at z3
          simp [z, z3] at k
          subst k
          rw [R] at h1
          obtain ⟨q1, q2⟩ := h1.1.flat z
          obtain ⟨q3, q4⟩ := flA_ok h2 z2
          subst q1 q3
          exact ⟨rfl, by rw [List.all_cons, q2, q4]; rfl⟩
    | _ => simp at k
def elS (d : D) : Option (List D) := match elL d with
  | some ds => some ds
  | none => elT d
def gIn (neg : Bool) (w1 w2 : W) (δ : List D) (Q : W → List D → Prop) : Prop := ∃ e x ds us, vw w1 δ = .fz e ∧ flD e = some x ∧ elS (vw w2 δ) = some ds ∧ flA ds = some us ∧ Q (.tmp (.fz (.bool (if neg then !inV x us else inV x us)))) δ
theorem gIn_ok (neg : Bool) {w1 w2 : W} {x y : V} {Q : VK} (r : RelW Z E [w1, w2] [x, y] ps δ σ H) (h : gIn neg w1 w2 δ (fun w δ' => ∀ v H', RelW Z E [w] [v] ps δ' σ H' → Q v H')) : rIn Z.K neg x y H Q := by
  obtain ⟨e, u, ds, us, a, b, c, d, q⟩ := h
  obtain ⟨rfl, fx⟩ := (r.dq0 (e := e) (by rw [a]; rfl)).flat b
  obtain ⟨F, μ, s, r2⟩ := r.see (k := 1) rfl rfl
  unfold elS at c
  cases z : elL (vw w2 δ) with
  | some ds' =>
    rw [z] at c; cases c
    obtain ⟨a', xs, e', h1, h2⟩ := r2.elL s z
    obtain ⟨rfl, fa⟩ := flA_ok h2 d
    exact ⟨a', xs, e', .inl (.inl (.inl h1)), fx, fa, q _ _ (r.sc (scB _))⟩
  | none =>
    rw [z] at c
    obtain ⟨a', xs, e', h1, h2⟩ := r2.elT s c
    obtain ⟨rfl, fa⟩ := flA_ok h2 d
    exact ⟨a', xs, e', .inr h1, fx, fa, q _ _ (r.sc (scB _))⟩
theorem dIn (neg : Bool) (ha : DO Z E ta fa) (hb : DO Z E tb fb) : DO Z E (tOp (rIn Z.K neg) ta tb) (f2 fa fb (gIn neg)) :=
  d2 (fun w1 w2 δ Q Q' k ⟨x, y, a, b, c, d, e, f, q⟩ => ⟨x, y, a, b, c, d, e, f, k _ _ q⟩) (fun w1 w2 x y ps δ σ H Q r h => gIn_ok neg r h) ha hb
/-- items -/
def gIxL (w1 w2 : W) (δ : List D) (Q : W → List D → Prop) : Prop := ∃ i ds g, vw w2 δ = .fz (.int i) ∧ elL (vw w1 δ) = some ds ∧ atI ds i = some g ∧ shr g = true ∧ Q (.tmp g) δ
def gIxT (w1 w2 : W) (δ : List D) (Q : W → List D → Prop) : Prop := ∃ i ds g, vw w2 δ = .fz (.int i) ∧ elT (vw w1 δ) = some ds ∧ atI ds i = some g ∧ shr g = true ∧ Q (.tmp g) δ
theorem dIxL (ha : DO Z E ta fa) (hb : DO Z E tb fb) : DO Z E (tOp (rIxL Z.K) ta tb) (f2 fa fb gIxL) :=
  d2 (fun w1 w2 δ Q Q' k ⟨x, y, a, b, c, d, e, q⟩ => ⟨x, y, a, b, c, d, e, k _ _ q⟩) (fun w1 w2 x y ps δ σ H Q r ⟨i, ds, g, a, b, c, d, q⟩ => by
    obtain ⟨p, xs, u, e, h1, h2, r2⟩ := r.itL (k := 0) rfl rfl b c d
    exact ⟨p, xs, i, u, e, r.i1 a, .inl (.inl h1), h2, q _ _ r2⟩) ha hb
theorem dIxT (ha : DO Z E ta fa) (hb : DO Z E tb fb) : DO Z E (tOp (rIxT Z.K) ta tb) (f2 fa fb gIxT) :=
  d2 (fun w1 w2 δ Q Q' k ⟨x, y, a, b, c, d, e, q⟩ => ⟨x, y, a, b, c, d, e, k _ _ q⟩) (fun w1 w2 x y ps δ σ H Q r ⟨i, ds, g, a, b, c, d, q⟩ => by
    obtain ⟨p, xs, u, e, h1, h2, r2⟩ := r.itT (k := 0) rfl rfl b c d
    exact ⟨p, xs, i, u, e, r.i1 a, h1, h2, q _ _ r2⟩) ha hb
def gIxS (w1 w2 : W) (δ : List D) (Q : W → List D → Prop) : Prop := ∃ i z c, vw w2 δ = .fz (.int i) ∧ vw w1 δ = .fz (.str z) ∧ z.length ≤ sizeLine ∧ atI z.cps.toList i = some c ∧ Q (.tmp (.fz (.str ⟨#[c]⟩))) δ
theorem dIxS (ha : DO Z E ta fa) (hb : DO Z E tb fb) : DO Z E (tOp rIxS ta tb) (f2 fa fb gIxS) :=
  d2 (fun w1 w2 δ Q Q' k ⟨x, y, a, b, c, d, e, q⟩ => ⟨x, y, a, b, c, d, e, k _ _ q⟩) (fun w1 w2 x y ps δ σ H Q r ⟨i, z, c, a, b, c1, d, q⟩ => ⟨z, i, c, r.s0 b, r.i1 a, c1, d, q _ _ (r.sc (scS _))⟩) ha hb
/-- lists joined -/
def gCat (w1 w2 : W) (δ : List D) (Q : W → List D → Prop) : Prop := ∃ d1 d2, elL (vw w1 δ) = some d1 ∧ elL (vw w2 δ) = some d2 ∧ d1.length + d2.length ≤ sizeLine ∧ Q (.tmp (.own (d1 ++ d2))) δ
theorem dCat (ha : DO Z E ta fa) (hb : DO Z E tb fb) : DO Z E (tOp rCat ta tb) (f2 fa fb gCat) :=
  d2 (fun w1 w2 δ Q Q' k ⟨x, y, a, b, c, q⟩ => ⟨x, y, a, b, c, k _ _ q⟩) (fun w1 w2 x y ps δ σ H Q r ⟨d1, d2, a, b, c, q⟩ => by
    obtain ⟨p1, xs, e1, h1, l1⟩ := r.elL (k := 0) rfl rfl a
    obtain ⟨p2, ys, e2, h2, l2⟩ := r.elL (k := 1) rfl rfl b
    refine ⟨p1, p2, xs, ys, e1, e2, h1, h2, by omega, fun p np => q _ _ (r.lstOf (fun F μ ν s hs s1 r1 => ?_) np)⟩
    obtain ⟨μ1, q1, _⟩ := see_core (k := 0) hs s1 r1 rfl rfl
    obtain ⟨μ2, q2, _⟩ := see_core (k := 1) hs s1 r1 rfl rfl
    obtain ⟨a1, x1, g1, g2, g3⟩ := q1.elL s a
    obtain ⟨a2, x2, g4, g5, g6⟩ := q2.elL s b
    rw [e1] at g1; cases g1; rw [h1] at g2; cases g2
    rw [e2] at g4; cases g4; rw [h2] at g5; cases g5
    exact RA.app g3 g6) ha hb
end
end OwnD
namespace OwnD
open PySem PySem.Spec PyProof.Rows L2 Own
section
variable {Z : Zx} {F F' H H' : Hp} {E : Ent} {ps : Pend} {δ : List D} {σ : L2.St} {ws : List W} {vs : List V} {w : W} {v : V} {d : D} {τ τ' : Mu}
variable {te ta tb tc : TE} {fe fa fb fc : List D → (W → List D → Prop) → Prop}
/-! ### slices -/
variable (Z E)
structure DPt (t : TO) (f : List D → (Option Int → List D → Prop) → Prop) : Prop where
  mo : Mo f
  run : ∀ (ps : Pend) (δ : List D) (σ : L2.St) (H : Hp) (Q : Option Int → Hp → Prop), Rel Z E ps δ σ H → f δ (fun o δ' => ∀ H', Rel Z E ps δ' σ H' → Q o H') → t σ H Q
variable {Z E}
theorem dNoPart : DPt Z E tNoPart (fun δ Q => Q none δ) := ⟨fun δ Q Q' k q => k _ _ q, fun ps δ σ H Q r h => h H r⟩
theorem dPart (h : DO Z E te fe) : DPt Z E (tPart te) (fun δ Q => fe δ fun w δ1 => ∃ i, vw w δ1 = .fz (.int i) ∧ Q (some i) δ1) :=
  ⟨fun δ Q Q' k q => h.mo δ _ _ (fun w δ1 ⟨i, a, q⟩ => ⟨i, a, k _ _ q⟩) q, fun ps δ σ H Q r q => h.run ps δ σ H _ r (h.mo δ _ _ (fun w δ1 ⟨i, a, q⟩ v H' r1 => ⟨i, r1.i0 a, q H' r1.drop⟩) q)⟩
def cutG {α : Type} (xs : List α) (lo hi : Option Int) : List α := (xs.drop (HT.sIx xs.length 0 lo)).take (HT.sIx xs.length xs.length hi - HT.sIx xs.length 0 lo)
theorem RA.drop0 : ∀ {ds : List D} {vs : List V} (n : Nat), RA Z F H ds vs (fun _ => 0) → RA Z F H (ds.drop n) (vs.drop n) (fun _ => 0)
  | ds, vs, 0, h => h
  | [], vs, n + 1, h => by rw [RA] at h; rw [h.1]; exact RA.z
  | d :: ds, vs, n + 1, h => by
    rw [RA] at h
    obtain ⟨v, ws, μ1, μ2, rfl, h1, h2, h3⟩ := h
    have z : μ2 = fun _ => 0 := funext fun a => by have := h3 a; omega
    subst z
    exact RA.drop0 n h2
theorem RA.take0 : ∀ {ds : List D} {vs : List V} (n : Nat), RA Z F H ds vs (fun _ => 0) → RA Z F H (ds.take n) (vs.take n) (fun _ => 0)
  | ds, vs, 0, h => by simpa using RA.z
  | [], vs, n + 1, h => by rw [RA] at h; rw [h.1]; exact RA.z
  | d :: ds, vs, n + 1, h => by
    rw [RA] at h
    obtain ⟨v, ws, μ1, μ2, rfl, h1, h2, h3⟩ := h
    have z : μ2 = fun _ => 0 := funext fun a => by have := h3 a; omega
    have z1 : μ1 = fun _ => 0 := funext fun a => by have := h3 a; omega
    subst z z1
    exact RA.push h1 (RA.take0 n h2)
def f3 (fe : List D → (W → List D → Prop) → Prop) (fl fh : List D → (Option Int → List D → Prop) → Prop) (g : W → Option Int → Option Int → List D → (W → List D → Prop) → Prop) (δ : List D) (Q : W → List D → Prop) : Prop :=
  fe δ fun w δ1 => fl δ1 fun lo δ2 => fh δ2 fun hi δ3 => g (fzW w) lo hi δ3 Q
theorem dSl {r : V → Option Int → Option Int → Hp → VK → Prop} {tl th : TO} {fl fh : List D → (Option Int → List D → Prop) → Prop} {g : W → Option Int → Option Int → List D → (W → List D → Prop) → Prop} (gm : ∀ w lo hi, Mo (g w lo hi))
    (hg : ∀ (w : W) (x : V) (lo hi : Option Int) (ps : Pend) (δ : List D) (σ : L2.St) (H : Hp) (Q : VK), RelW Z E [w] [x] ps δ σ H → g w lo hi δ (fun w δ' => ∀ v H', RelW Z E [w] [v] ps δ' σ H' → Q v H') → r x lo hi H Q)
    (he : DO Z E te fe) (hl : DPt Z E tl fl) (hh : DPt Z E th fh) : DO Z E (tSl r te tl th) (f3 fe fl fh g) :=
  ⟨fun δ Q Q' k q => he.mo δ _ _ (fun w δ1 q => hl.mo δ1 _ _ (fun o δ2 q => hh.mo δ2 _ _ (fun o2 δ3 q => gm _ _ _ δ3 _ _ k q) q) q) q, fun ps δ σ H Q r0 h =>
    he.run ps δ σ H _ r0 (he.mo δ _ _ (fun w δ1 h v H1 r1 => hl.run _ δ1 σ H1 _ r1.rel (hl.mo δ1 _ _ (fun o δ2 h H2 r2 => hh.run _ δ2 σ H2 _ r2 (hh.mo δ2 _ _ (fun o2 δ3 h H3 r3 =>
      hg _ v o o2 ps δ3 σ H3 Q (RelW.frz1 ⟨rfl, r1.2.1, r3⟩) h) h)) h)) h)⟩
def gSlL (w : W) (lo hi : Option Int) (δ : List D) (Q : W → List D → Prop) : Prop := ∃ ds, elL (vw w δ) = some ds ∧ Q (.tmp (.own (cutG ds lo hi))) δ
theorem dSlL {tl th : TO} {fl fh : List D → (Option Int → List D → Prop) → Prop} (he : DO Z E te fe) (hl : DPt Z E tl fl) (hh : DPt Z E th fh) : DO Z E (tSl (rSlL Z.K) te tl th) (f3 fe fl fh gSlL) :=
  dSl (fun w lo hi δ Q Q' k ⟨x, a, q⟩ => ⟨x, a, k _ _ q⟩) (fun w x lo hi ps δ σ H Q r ⟨ds, a, q⟩ => by
    obtain ⟨p1, xs, e1, h1, l1⟩ := r.elL (k := 0) rfl rfl a
    refine ⟨p1, xs, e1, .inl (.inl h1), fun p np => q _ _ (r.lstOf (fun F μ ν s hs s1 r1 => ?_) np)⟩
    obtain ⟨μ1, q1, _⟩ := see_core (k := 0) hs s1 r1 rfl rfl
    obtain ⟨a1, x1, g1, g2, g3⟩ := q1.elL s a
    rw [e1] at g1; cases g1; rw [h1] at g2; cases g2
    unfold cutG cutV
    rw [l1]
    exact RA.take0 _ (RA.drop0 _ g3)) he hl hh
def gSlT (w : W) (lo hi : Option Int) (δ : List D) (Q : W → List D → Prop) : Prop := ∃ ds, elT (vw w δ) = some ds ∧ ¬ (HT.sIx ds.length 0 lo = 0 ∧ HT.sIx ds.length ds.length hi = ds.length) ∧ Q (.tmp (fzD (.tup (cutG ds lo hi)))) δ
theorem dSlT {tl th : TO} {fl fh : List D → (Option Int → List D → Prop) → Prop} (he : DO Z E te fe) (hl : DPt Z E tl fl) (hh : DPt Z E th fh) : DO Z E (tSl (rSlT Z.K) te tl th) (f3 fe fl fh gSlT) :=
  dSl (fun w lo hi δ Q Q' k ⟨x, a, b, q⟩ => ⟨x, a, b, k _ _ q⟩) (fun w x lo hi ps δ σ H Q r ⟨ds, a, b, q⟩ => by
    obtain ⟨F, μ, s, r2⟩ := r.see (k := 0) rfl rfl
    obtain ⟨_, hs, F, μ, ν, w1, s1, r1, pn⟩ := id r
    obtain ⟨μ1, q1, _⟩ := see_core (k := 0) hs s1 r1 rfl rfl
    obtain ⟨p1, xs, e1, h1, g3⟩ := q1.elT w1.sub a
    refine ⟨p1, xs, e1, h1, by rw [g3.len]; exact b, fun p np => q _ _ ?_⟩
    obtain ⟨ν', n1, n2⟩ := pnd_rest r1
    have t : RelT Z E (cutG ds lo hi) (cutV xs lo hi) ps δ σ H := ⟨F, μ, fun _ => 0, ν', w1.le fun a => by have := n2 a; show μ a + 0 + ν' a ≤ μ a + ν a; omega, s1, by
      unfold cutG cutV
      rw [g3.len]
      exact RA.take0 _ (RA.drop0 _ g3), n1, pn⟩
    exact RelW.of (t.tup np).freeze) he hl hh
def gSlS (w : W) (lo hi : Option Int) (δ : List D) (Q : W → List D → Prop) : Prop := ∃ z, vw w δ = .fz (.str z) ∧ z.length ≤ sizeLine ∧ Q (.tmp (.fz (.str (cutS z lo hi)))) δ
theorem dSlS {tl th : TO} {fl fh : List D → (Option Int → List D → Prop) → Prop} (he : DO Z E te fe) (hl : DPt Z E tl fl) (hh : DPt Z E th fh) : DO Z E (tSl rSlS te tl th) (f3 fe fl fh gSlS) :=
  dSl (fun w lo hi δ Q Q' k ⟨x, a, b, q⟩ => ⟨x, a, b, k _ _ q⟩) (fun w x lo hi ps δ σ H Q r ⟨z, a, b, q⟩ => ⟨z, r.s0 a, b, q _ _ (r.sc (scS _))⟩) he hl hh
/-- t + u; u empty gives t itself -/
def gCatT (w1 w2 : W) (δ : List D) (Q : W → List D → Prop) : Prop := ∃ e1 d2, vw w1 δ = .fz (.tuple e1) ∧ elT (vw w2 δ) = some d2 ∧ e1 ≠ [] ∧ e1.length + d2.length ≤ sizeLine ∧ Q (.tmp (if d2.isEmpty then .fz (.tuple e1) else fzD (.tup (e1.map .fz ++ d2)))) δ
theorem dCatT (ha : DO Z E ta fa) (hb : DO Z E tb fb) : DO Z E (tOp (rCatT Z.K) ta tb) (f2 fa fb gCatT) :=
  d2 (fun w1 w2 δ Q Q' k ⟨x, y, a, b, c, d, q⟩ => ⟨x, y, a, b, c, d, k _ _ q⟩) (fun w1 w2 x y ps δ σ H Q r ⟨es, d2, a, b, c, hl, q⟩ => by
    obtain ⟨_, hs, F, μ, ν, w1', s1, r1, pn⟩ := id r
    obtain ⟨μ1, q1, _⟩ := see_core (k := 0) hs s1 r1 rfl rfl
    obtain ⟨μ2, q2, _⟩ := see_core (k := 1) hs s1 r1 rfl rfl
    have a' : elT (vw w1 δ) = some (es.map .fz) := by rw [a]; rfl
    have q1' := q1
    obtain ⟨p1, xs, e1, h1, g1⟩ := q1.elT w1'.sub a'
    obtain ⟨p2, ys, e2, h2, g2⟩ := q2.elT w1'.sub b
    have l1 : xs.length = es.length := by rw [g1.len, List.length_map]
    have l2 := g2.len
    refine ⟨p1, p2, xs, ys, e1, e2, h1, h2, fun z => c (by rw [z] at l1; exact List.length_eq_zero_iff.mp l1.symm), by omega, fun z => ?_, fun z p np => ?_⟩
    · have e : d2 = [] := List.length_eq_zero_iff.mp (by rw [← l2, z]; rfl)
      subst e
      refine q _ _ ?_
      rw [← e1]
      refine r.part (k := 0) rfl rfl fun F μ s h => ?_
      rw [a] at h
      exact h.shared rfl
    · have e : d2 ≠ [] := fun e => z (List.length_eq_zero_iff.mp (by rw [l2, e]; rfl))
      have ee : d2.isEmpty = false := by cases d2 with | nil => exact absurd rfl e | cons _ _ => rfl
      rw [ee] at q
      refine q _ _ ?_
      obtain ⟨ν', n1, n2⟩ := pnd_rest r1
      have t : RelT Z E (es.map .fz ++ d2) (xs ++ ys) ps δ σ H := ⟨F, μ, fun _ => 0, ν', w1'.le fun a => by have := n2 a; show μ a + 0 + ν' a ≤ μ a + ν a; omega, s1, RA.app g1 g2, n1, pn⟩
      exact RelW.of (t.tup np).freeze) ha hb
/-! ### displays -/
variable {tA : TA} {fA : List D → (List W → List D → Prop) → Prop}
def mkT (ds : List D) : D := if ds.all shr then fzD (.tup ds) else .tup ds
theorem dLst (ha : DA Z E tA fA) : DO Z E (tLst tA) (fun δ Q => fA δ fun ws δ1 => ws.length ≤ sizeLine ∧ Q (.tmp (.own (tks ws δ1).1)) (tks ws δ1).2) :=
  ⟨fun δ Q Q' k q => ha.mo δ _ _ (fun ws δ1 ⟨a, q⟩ => ⟨a, k _ _ q⟩) q, fun ps δ σ H Q r q => ha.run ps δ σ H _ r (ha.mo δ _ _ (fun ws δ1 ⟨a, q⟩ vs H1 r1 => ⟨by rw [r1.1]; exact a, fun p np => q _ _ (RelW.of (r1.takes.lst np))⟩) q)⟩
theorem dTup (ha : DA Z E tA fA) : DO Z E (tTup tA) (fun δ Q => fA δ fun ws δ1 => ws.length ≤ sizeLine ∧ Q (.tmp (mkT (tks ws δ1).1)) (tks ws δ1).2) :=
  ⟨fun δ Q Q' k q => ha.mo δ _ _ (fun ws δ1 ⟨a, q⟩ => ⟨a, k _ _ q⟩) q, fun ps δ σ H Q r q => ha.run ps δ σ H _ r (ha.mo δ _ _ (fun ws δ1 ⟨a, q⟩ vs H1 r1 => ⟨by rw [r1.1]; exact a, fun p np => q _ _ (by
    have z := r1.takes.tup np
    unfold mkT
    split
    · exact RelW.of z.freeze
    · exact RelW.of z)⟩) q)⟩
/-! ### built-in functions -/
def fCB (fA : List D → (List W → List D → Prop) → Prop) (g : List W → List D → (W → List D → Prop) → Prop) (δ : List D) (Q : W → List D → Prop) : Prop := fA δ fun ws δ1 => g (ws.map fzW) δ1 Q
theorem dCB {r : List V → Hp → VK → Prop} {g : List W → List D → (W → List D → Prop) → Prop} (gm : ∀ ws, Mo (g ws))
    (hg : ∀ (ws : List W) (vs : List V) (ps : Pend) (δ : List D) (σ : L2.St) (H : Hp) (Q : VK), RelW Z E ws vs ps δ σ H → g ws δ (fun w δ' => ∀ v H', RelW Z E [w] [v] ps δ' σ H' → Q v H') → r vs H Q)
    (ha : DA Z E tA fA) : DO Z E (tCB r tA) (fCB fA g) :=
  ⟨fun δ Q Q' k q => ha.mo δ _ _ (fun ws δ1 q => gm _ δ1 _ _ k q) q, fun ps δ σ H Q r q => ha.run ps δ σ H _ r (ha.mo δ _ _ (fun ws δ1 q vs H1 r1 => hg _ _ ps δ1 σ H1 Q r1.frz q) q)⟩
theorem vs1 {v0 : V} {w1 : W} (h : RelW Z E [w1] vs ps δ σ H) : ∃ v, vs = [v] := by
  have := h.1
  match vs, this with
  | [v], _ => exact ⟨v, rfl⟩
theorem RelW.one {w1 : W} (h : RelW Z E [w1] vs ps δ σ H) : ∃ v, vs = [v] := by
  have := h.1
  match vs, this with
  | [v], _ => exact ⟨v, rfl⟩
theorem RelW.two {w1 w2 : W} (h : RelW Z E [w1, w2] vs ps δ σ H) : ∃ v u, vs = [v, u] := by
  have := h.1
  match vs, this with
  | [v, u], _ => exact ⟨v, u, rfl⟩
def lenD : D → Option Nat
  | .fz (.list es) => some es.length
  | .fz (.tuple es) => some es.length
  | .own ds => some ds.length
  | .tup ds => some ds.length
  | _ => none
theorem R.lenD {μ : Mu} {n : Nat} (s : Same F H) (h : R Z F H d v μ) (k : OwnD.lenD d = some n) : ∃ p ys, v = .ref p ∧ (SqL Z.K H p ys ∨ SqT Z.K H p ys) ∧ ys.length = n := by
  cases d with
  | fz e =>
    rw [R] at h
    obtain ⟨h, _⟩ := h
    cases h with
    | lst h1 h2 => cases k; exact ⟨_, _, rfl, .inl (.inl (.inl (s _ _ h1))), h2.len⟩
    | tup h1 h2 => cases k; exact ⟨_, _, rfl, .inr (Same.tup s h1), h2.len⟩
    | _ => cases k
  | own ds =>
    cases k
    rw [R] at h
    obtain ⟨a, xs, ν, e, h1, h2, _⟩ := h
    exact ⟨a, xs, e, .inl (.inl (.inl h1)), h2.len⟩
  | tup ds =>
    cases k
    rw [R] at h
    obtain ⟨a, xs, ν, e, h1, h2, _⟩ := h
    exact ⟨a, xs, e, .inr (.inl (.inl h1)), h2.len⟩
  | _ => cases k
def gLen (ws : List W) (δ : List D) (Q : W → List D → Prop) : Prop := ∃ w n, ws = [w] ∧ lenD (vw w δ) = some n ∧ Q (.tmp (.fz (.int n))) δ
theorem dLen (ha : DA Z E tA fA) : DO Z E (tCB (fun xs H Q => ∃ p ys, xs = [.ref p] ∧ (SqL Z.K H p ys ∨ SqT Z.K H p ys) ∧ Q (.int ys.length) H) tA) (fCB fA gLen) :=
  dCB (fun ws δ Q Q' k ⟨w, n, a, b, q⟩ => ⟨w, n, a, b, k _ _ q⟩) (fun ws vs ps δ σ H Q r ⟨w, n, a, b, q⟩ => by
    subst a
    obtain ⟨v, rfl⟩ := r.one
    obtain ⟨F, μ, s, r2⟩ := r.see (k := 0) rfl rfl
    obtain ⟨p, ys, rfl, h1, h2⟩ := r2.lenD s b
    exact ⟨p, ys, rfl, h1, by rw [h2]; exact q _ _ (r.sc (scI _))⟩) ha
def gLenS (ws : List W) (δ : List D) (Q : W → List D → Prop) : Prop := ∃ w z, ws = [w] ∧ vw w δ = .fz (.str z) ∧ z.length ≤ sizeLine ∧ Q (.tmp (.fz (.int z.length))) δ
theorem dLenS (ha : DA Z E tA fA) : DO Z E (tCB (fun xs H Q => ∃ z, xs = [.str z] ∧ z.length ≤ sizeLine ∧ Q (.int z.length) H) tA) (fCB fA gLenS) :=
  dCB (fun ws δ Q Q' k ⟨w, n, a, b, c, q⟩ => ⟨w, n, a, b, c, k _ _ q⟩) (fun ws vs ps δ σ H Q r ⟨w, n, a, b, c, q⟩ => by
    subst a
    obtain ⟨v, rfl⟩ := r.one
    obtain rfl := r.s0 b
    exact ⟨_, rfl, c, q _ _ (r.sc (scI _))⟩) ha
def gInt (ws : List W) (δ : List D) (Q : W → List D → Prop) : Prop := ∃ w i, ws = [w] ∧ vw w δ = .fz (.int i) ∧ Q (.tmp (.fz (.int i))) δ
theorem dIntOf (ha : DA Z E tA fA) : DO Z E (tCB (fun xs H Q => (∃ i, xs = [.int i] ∧ Q (.int i) H) ∨ ∃ k, xs = [.bl k] ∧ Q (.int (if k then 1 else 0)) H) tA) (fCB fA gInt) :=
  dCB (fun ws δ Q Q' k ⟨w, n, a, b, q⟩ => ⟨w, n, a, b, k _ _ q⟩) (fun ws vs ps δ σ H Q r ⟨w, n, a, b, q⟩ => by
    subst a
    obtain ⟨v, rfl⟩ := r.one
    obtain rfl := r.i0 b
    exact .inl ⟨_, rfl, q _ _ (r.sc (scI _))⟩) ha
def gListOf (ws : List W) (δ : List D) (Q : W → List D → Prop) : Prop := ∃ w ds, ws = [w] ∧ elS (vw w δ) = some ds ∧ Q (.tmp (.own ds)) δ
theorem dListOf (ha : DA Z E tA fA) : DO Z E (tCB (fun xs H Q => ∃ p ys, xs = [.ref p] ∧ (SqL Z.K H p ys ∨ SqT Z.K H p ys) ∧ ∀ l, H l = none → Q (.ref l) (upd H l (.lst ys))) tA) (fCB fA gListOf) :=
  dCB (fun ws δ Q Q' k ⟨w, n, a, b, q⟩ => ⟨w, n, a, b, k _ _ q⟩) (fun ws vs ps δ σ H Q r ⟨w, ds, a, b, q⟩ => by
    subst a
    obtain ⟨v, rfl⟩ := r.one
    obtain ⟨_, hs, F, μ, ν, w1', s1, r1, pn⟩ := id r
    obtain ⟨μ1, q1, _⟩ := see_core (k := 0) hs s1 r1 rfl rfl
    have key : ∃ p ys, v = .ref p ∧ (SqL Z.K H p ys ∨ SqT Z.K H p ys) ∧ RA Z F H ds ys (fun _ => 0) := by
      unfold elS at b
      cases z : elL (vw w δ) with
      | some d2 =>
        rw [z] at b; cases b
        obtain ⟨p, ys, e, h1, h2⟩ := q1.elL w1'.sub z
        exact ⟨p, ys, e, .inl (.inl (.inl h1)), h2⟩
      | none =>
        rw [z] at b
        obtain ⟨p, ys, e, h1, h2⟩ := q1.elT w1'.sub b
        exact ⟨p, ys, e, .inr h1, h2⟩
    obtain ⟨p, ys, rfl, h1, h2⟩ := key
    refine ⟨p, ys, rfl, h1, fun l nl => q _ _ ?_⟩
    obtain ⟨ν', n1, n2⟩ := pnd_rest r1
    have t : RelT Z E ds ys ps δ σ H := ⟨F, μ, fun _ => 0, ν', w1'.le fun a => by have := n2 a; show μ a + 0 + ν' a ≤ μ a + ν a; omega, s1, h2, n1, pn⟩
    exact RelW.of (t.lst nl)) ha
def strsD (xs : List Str) : List D := xs.map fun x => .fz (.str x)
theorem RA.strs : ∀ {xs : List Str} {vs : List V} {μ : Mu}, RA Z F H (strsD xs) vs μ → vs = xs.map V.str
  | [], vs, μ, h => by
    unfold strsD at h
    rw [List.map_nil, RA] at h; exact h.1
  | x :: xs, vs, μ, h => by
    unfold strsD at h
    rw [List.map_cons, RA] at h
    obtain ⟨v, ws, μ1, μ2, rfl, h1, h2, h3⟩ := h
    rw [R] at h1
    obtain rfl := strI h1.1.dp
    rw [RA.strs (xs := xs) h2]; rfl
theorem RA.ofStrs : ∀ (xs : List Str), RA Z F H (strsD xs) (xs.map V.str) (fun _ => 0)
  | [] => RA.z
  | x :: xs => RA.push (R.fz (.str x)) (RA.ofStrs xs)
def gSortedS (ws : List W) (δ : List D) (Q : W → List D → Prop) : Prop := ∃ w xs, ws = [w] ∧ elL (vw w δ) = some (strsD xs) ∧ xs.length < 64 ∧ ∀ ys : List Str, ys.Perm xs → sortedS ys = true → Q (.tmp (.own (strsD ys))) δ
theorem dSortedS (ha : DA Z E tA fA) : DO Z E (tCB (rSortedS Z.K) tA) (fCB fA gSortedS) :=
  dCB (fun ws δ Q Q' k ⟨w, n, a, b, c, q⟩ => ⟨w, n, a, b, c, fun ys h1 h2 => k _ _ (q ys h1 h2)⟩) (fun ws vs ps δ σ H Q r ⟨w, xs, a, b, c, q⟩ => by
    subst a
    obtain ⟨v, rfl⟩ := r.one
    obtain ⟨F, μ, s, r2⟩ := r.see (k := 0) rfl rfl
    obtain ⟨p, ys, rfl, h1, h2⟩ := r2.elL s b
    obtain rfl := h2.strs
    exact ⟨p, xs, rfl, .inl (.inl h1), c, fun ys p hp hs np => q ys hp hs _ _ (r.lstOf (fun F μ ν s hs s1 r1 => RA.ofStrs ys) np)⟩) ha
def gSortedT (ws : List W) (δ : List D) (Q : W → List D → Prop) : Prop := ∃ w xs, ws = [w] ∧ vw w δ = .set xs ∧ xs.length < 64 ∧ ∀ ys : List Str, ys.Perm xs → sortedS ys = true → Q (.tmp (.own (strsD ys))) δ
theorem dSortedT (ha : DA Z E tA fA) : DO Z E (tCB (OwnS.rSortedT Z.w) tA) (fCB fA gSortedT) :=
  dCB (fun ws δ Q Q' k ⟨w, n, a, b, c, q⟩ => ⟨w, n, a, b, c, fun ys h1 h2 => k _ _ (q ys h1 h2)⟩) (fun ws vs ps δ σ H Q r ⟨w, xs, a, b, c, q⟩ => by
    subst a
    obtain ⟨v, rfl⟩ := r.one
    obtain ⟨F, μ, s, r2⟩ := r.see (k := 0) rfl rfl
    rw [b, R] at r2
    obtain ⟨p, rfl, h1, _⟩ := r2
    exact ⟨p, xs, rfl, h1, c, fun ys p hp hs np => q ys hp hs _ _ (r.lstOf (fun F μ ν s hs s1 r1 => RA.ofStrs ys) np)⟩) ha
def bolsD (bs : List Bool) : List D := bs.map fun b => .fz (.bool b)
theorem RA.bols : ∀ {xs : List Bool} {vs : List V} {μ : Mu}, RA Z F H (bolsD xs) vs μ → vs = xs.map V.bl
  | [], vs, μ, h => by
    unfold bolsD at h
    rw [List.map_nil, RA] at h; exact h.1
  | x :: xs, vs, μ, h => by
    unfold bolsD at h
    rw [List.map_cons, RA] at h
    obtain ⟨v, ws, μ1, μ2, rfl, h1, h2, h3⟩ := h
    rw [R] at h1
    have e : v = .bl x := by cases h1.1; rfl
    rw [RA.bols (xs := xs) h2, e]; rfl
def gAll (ws : List W) (δ : List D) (Q : W → List D → Prop) : Prop := ∃ w xs, ws = [w] ∧ elL (vw w δ) = some (bolsD xs) ∧ Q (.tmp (.fz (.bool (xs.all id)))) δ
theorem dAll (ha : DA Z E tA fA) : DO Z E (tCB (rAll Z.K) tA) (fCB fA gAll) :=
  dCB (fun ws δ Q Q' k ⟨w, n, a, b, q⟩ => ⟨w, n, a, b, k _ _ q⟩) (fun ws vs ps δ σ H Q r ⟨w, xs, a, b, q⟩ => by
    subst a
    obtain ⟨v, rfl⟩ := r.one
    obtain ⟨F, μ, s, r2⟩ := r.see (k := 0) rfl rfl
    obtain ⟨p, ys, rfl, h1, h2⟩ := r2.elL s b
    obtain rfl := h2.bols
    exact ⟨p, xs, rfl, .inl (.inl h1), q _ _ (r.sc (scB _))⟩) ha
def isRefD : D → Bool
  | .fz (.list _) => true
  | .fz (.tuple _) => true
  | .own _ => true
  | .tup _ => true
  | _ => false
theorem R.isRef {μ : Mu} (h : R Z F H d v μ) (k : isRefD d = true) : ∃ a, v = .ref a := by
  cases d with
  | fz e =>
    rw [R] at h
    obtain ⟨h, _⟩ := h
    cases h <;> first | exact ⟨_, rfl⟩ | cases k
  | own ds => rw [R] at h; obtain ⟨a, _, _, e, _⟩ := h; exact ⟨a, e⟩
  | tup ds => rw [R] at h; obtain ⟨a, _, _, e, _⟩ := h; exact ⟨a, e⟩
  | _ => cases k
def gRepr (ws : List W) (δ : List D) (Q : W → List D → Prop) : Prop := ∃ w e, ws = [w] ∧ (vw w δ).py = some e ∧ isRefD (vw w δ) = true ∧ e.showable = true ∧ e.depth ≤ 60 ∧ e.shown.length ≤ sizeLine ∧ Q (.tmp (.fz (.str e.shown))) δ
theorem dRepr (ha : DA Z E tA fA) : DO Z E (tCB (rRep Z.K) tA) (fCB fA gRepr) :=
  dCB (fun ws δ Q Q' k ⟨w, n, a, b, c, d, e, f, q⟩ => ⟨w, n, a, b, c, d, e, f, k _ _ q⟩) (fun ws vs ps δ σ H Q r ⟨w, e, a, b, c, d, e', f, q⟩ => by
    subst a
    obtain ⟨v, rfl⟩ := r.one
    obtain ⟨F, μ, s, r2⟩ := r.see (k := 0) rfl rfl
    obtain ⟨p, rfl⟩ := r2.isRef c
    exact ⟨p, e, rfl, (r.dq0 b).dp, d, e', f, q _ _ (r.sc (scS _))⟩) ha
def gAbs (ws : List W) (δ : List D) (Q : W → List D → Prop) : Prop := ∃ w i, ws = [w] ∧ vw w δ = .fz (.int i) ∧ Q (.tmp (.fz (.int (if i < 0 then -i else i)))) δ
theorem dAbs (ha : DA Z E tA fA) : DO Z E (tCB (fun xs H Q => ∃ i, xs = [.int i] ∧ Q (.int (if i < 0 then -i else i)) H) tA) (fCB fA gAbs) :=
  dCB (fun ws δ Q Q' k ⟨w, n, a, b, q⟩ => ⟨w, n, a, b, k _ _ q⟩) (fun ws vs ps δ σ H Q r ⟨w, n, a, b, q⟩ => by
    subst a
    obtain ⟨v, rfl⟩ := r.one
    obtain rfl := r.i0 b
    exact ⟨_, rfl, q _ _ (r.sc (scI _))⟩) ha
/-- sep.join(xs) -/
def gJoin (w1 w2 : W) (δ : List D) (Q : W → List D → Prop) : Prop := ∃ a ys, vw w1 δ = .fz (.str a) ∧ elS (vw w2 δ) = some (strsD ys) ∧ (ys.map (·.length)).sum + ys.length * a.length ≤ 16777216 ∧ Q (.tmp (.fz (.str (Txt.join a ys)))) δ
theorem dJoin (ha : DO Z E ta fa) (hb : DO Z E tb fb) (hs : ∀ δ Q, fa δ Q → fa δ (fun w δ' => (∃ x, vw w δ' = .fz (.str x)) ∧ Q w δ')) : DO Z E (tM1 (fun x xs H Q => ∃ a p, ∃ ys : List Str, x = .str a ∧ xs = [.ref p] ∧ (SqL Z.K H p (ys.map V.str) ∨ SqT Z.K H p (ys.map V.str)) ∧
      (ys.map (·.length)).sum + ys.length * a.length ≤ 16777216 ∧ Q (.str (Txt.join a ys)) H) ta tb) (f2 fa fb gJoin) :=
  ⟨fun δ Q Q' k q => ha.mo δ _ _ (fun w δ1 q => hb.mo δ1 _ _ (fun w2 δ2 ⟨a, ys, b, c, d, q⟩ => ⟨a, ys, b, c, d, k _ _ q⟩) q) q, fun ps δ σ H Q r0 h =>
    ha.run ps δ σ H _ r0 (ha.mo δ _ _ (fun w δ1 ⟨⟨x, hx⟩, h⟩ v H1 r1 => ⟨⟨x, r1.s0 hx⟩, hb.run _ δ1 σ H1 _ r1.rel (hb.mo δ1 _ _ (fun w2 δ2 ⟨a, ys, b, c, d, q⟩ u H2 r2 => by
      have r := (r1.cons r2).frz2
      obtain rfl := r.s0 b
      obtain ⟨F, μ, s, r3⟩ := r.see (k := 1) rfl rfl
      have key : ∃ p, u = .ref p ∧ (SqL Z.K H2 p (ys.map V.str) ∨ SqT Z.K H2 p (ys.map V.str)) := by
        unfold elS at c
        cases z : elL (vw (fzW w2) δ2) with
        | some d2 =>
          rw [z] at c; cases c
          obtain ⟨p, xs, e, h1, h2⟩ := r3.elL s z
          obtain rfl := h2.strs
          exact ⟨p, e, .inl (.inl (.inl h1))⟩
        | none =>
          rw [z] at c
          obtain ⟨p, xs, e, h1, h2⟩ := r3.elT s c
          obtain rfl := h2.strs
          exact ⟨p, e, .inr h1⟩
      obtain ⟨p, rfl, h1⟩ := key
      exact ⟨a, p, ys, rfl, rfl, h1, d, q _ _ (r.sc (scS _))⟩) h)⟩) (hs δ _ h))⟩
/-! ### tests -/
variable {tt tu : TT} {ft fu : List D → (Bool → List D → Prop) → Prop}
def fTst (fe : List D → (W → List D → Prop) → Prop) (δ : List D) (Q : Bool → List D → Prop) : Prop := fe δ fun w δ1 => ∃ b, vw w δ1 = .fz (.bool b) ∧ Q b δ1
theorem RelW.b0 {w1 : W} {x : V} {b : Bool} (h : RelW Z E (w1 :: ws) (x :: vs) ps δ σ H) (q : vw w1 δ = .fz (.bool b)) : x = .bl b := by
  have z := h.dq0 (e := .bool b) (by rw [q]; rfl)
  cases z; rfl
theorem dTB (h : DO Z E te fe) : DT Z E (tB te) (fTst fe) :=
  ⟨fun δ Q Q' k q => h.mo δ _ _ (fun w δ1 ⟨i, a, q⟩ => ⟨i, a, k _ _ q⟩) q, fun ps δ σ H Q r q => h.run ps δ σ H _ r (h.mo δ _ _ (fun w δ1 ⟨i, a, q⟩ v H' r1 => ⟨i, r1.b0 a, q H' r1.drop⟩) q)⟩
theorem dTest (h : DO Z E te fe) : DT Z E (tTest te) (fTst fe) :=
  ⟨fun δ Q Q' k q => h.mo δ _ _ (fun w δ1 ⟨i, a, q⟩ => ⟨i, a, k _ _ q⟩) q, fun ps δ σ H Q r q => h.run ps δ σ H _ r (h.mo δ _ _ (fun w δ1 ⟨i, a, q⟩ v H' r1 => ⟨i, r1.b0 a, q H' r1.drop⟩) q)⟩
theorem dAnd (h1 : DT Z E tt ft) (h2 : DT Z E tu fu) : DT Z E (tAnd tt tu) (fun δ Q => ft δ fun b δ1 => if b = true then fu δ1 Q else Q false δ1) := by
  refine ⟨fun δ Q Q' k q => h1.mo δ _ _ (fun b δ1 q => ?_) q, fun ps δ σ H Q r q => h1.run ps δ σ H _ r (h1.mo δ _ _ (fun b δ1 q H1 r1 => ?_) q)⟩
  · cases b with
    | true => exact h2.mo _ _ _ k q
    | false => exact k _ _ q
  · cases b with
    | true => exact h2.run ps δ1 σ H1 _ r1 q
    | false => exact q H1 r1
theorem dOr (h1 : DT Z E tt ft) (h2 : DT Z E tu fu) : DT Z E (tOr tt tu) (fun δ Q => ft δ fun b δ1 => if b = true then Q true δ1 else fu δ1 Q) := by
  refine ⟨fun δ Q Q' k q => h1.mo δ _ _ (fun b δ1 q => ?_) q, fun ps δ σ H Q r q => h1.run ps δ σ H _ r (h1.mo δ _ _ (fun b δ1 q H1 r1 => ?_) q)⟩
  · cases b with
    | false => exact h2.mo _ _ _ k q
    | true => exact k _ _ q
  · cases b with
    | false => exact h2.run ps δ1 σ H1 _ r1 q
    | true => exact q H1 r1
theorem dNot (h1 : DT Z E tt ft) : DT Z E (tNot tt) (fun δ Q => ft δ fun b δ1 => Q (!b) δ1) :=
  ⟨fun δ Q Q' k q => h1.mo δ _ _ (fun b δ1 q => k _ _ q) q, fun ps δ σ H Q r q => h1.run ps δ σ H _ r (h1.mo δ _ _ (fun b δ1 q H1 r1 => q H1 r1) q)⟩
/-- and, or, not as values -/
theorem dAndV (h1 : DO Z E ta fa) (h2 : DO Z E tb fb) : DO Z E (tAndV ta tb) (fun δ Q => fa δ fun w δ1 => ∃ b, vw w δ1 = .fz (.bool b) ∧ if b = true then fb δ1 Q else Q (.tmp (.fz (.bool false))) δ1) := by
  refine ⟨fun δ Q Q' k q => h1.mo δ _ _ (fun w δ1 ⟨b, a, q⟩ => ⟨b, a, ?_⟩) q, fun ps δ σ H Q r q => h1.run ps δ σ H _ r (h1.mo δ _ _ (fun w δ1 ⟨b, a, q⟩ v H1 r1 => ⟨b, r1.b0 a, ?_⟩) q)⟩
  · cases b with
    | true => exact h2.mo _ _ _ k q
    | false => exact k _ _ q
  · cases b with
    | true => exact h2.run ps δ1 σ H1 _ r1.drop q
    | false => exact q _ _ (r1.sc (scB _))
theorem dOrV (h1 : DO Z E ta fa) (h2 : DO Z E tb fb) : DO Z E (tOrV ta tb) (fun δ Q => fa δ fun w δ1 => ∃ b, vw w δ1 = .fz (.bool b) ∧ if b = true then Q (.tmp (.fz (.bool true))) δ1 else fb δ1 Q) := by
  refine ⟨fun δ Q Q' k q => h1.mo δ _ _ (fun w δ1 ⟨b, a, q⟩ => ⟨b, a, ?_⟩) q, fun ps δ σ H Q r q => h1.run ps δ σ H _ r (h1.mo δ _ _ (fun w δ1 ⟨b, a, q⟩ v H1 r1 => ⟨b, r1.b0 a, ?_⟩) q)⟩
  · cases b with
    | false => exact h2.mo _ _ _ k q
    | true => exact k _ _ q
  · cases b with
    | false => exact h2.run ps δ1 σ H1 _ r1.drop q
    | true => exact q _ _ (r1.sc (scB _))
theorem dNotV (h1 : DO Z E ta fa) : DO Z E (tNotV ta) (fun δ Q => fa δ fun w δ1 => ∃ b, vw w δ1 = .fz (.bool b) ∧ Q (.tmp (.fz (.bool (!b)))) δ1) :=
  ⟨fun δ Q Q' k q => h1.mo δ _ _ (fun w δ1 ⟨b, a, q⟩ => ⟨b, a, k _ _ q⟩) q, fun ps δ σ H Q r q => h1.run ps δ σ H _ r (h1.mo δ _ _ (fun w δ1 ⟨b, a, q⟩ v H1 r1 => ⟨b, r1.b0 a, q _ _ (r1.sc (scB _))⟩) q)⟩
theorem dIfE (h1 : DT Z E tt ft) (h2 : DO Z E ta fa) (h3 : DO Z E tb fb) : DO Z E (tIf tt ta tb) (fun δ Q => ft δ fun b δ1 => if b = true then fa δ1 Q else fb δ1 Q) := by
  refine ⟨fun δ Q Q' k q => h1.mo δ _ _ (fun b δ1 q => ?_) q, fun ps δ σ H Q r q => h1.run ps δ σ H _ r (h1.mo δ _ _ (fun b δ1 q H1 r1 => ?_) q)⟩
  · cases b with
    | true => exact h2.mo _ _ _ k q
    | false => exact h3.mo _ _ _ k q
  · cases b with
    | true => exact h2.run ps δ1 σ H1 _ r1 q
    | false => exact h3.run ps δ1 σ H1 _ r1 q
/-- a < b < c -/
theorem dChainI {g g' : Int → Int → Bool} (h1 : DO Z E ta fa) (h2 : DO Z E tb fb) (h3 : DO Z E tc fc) : DO Z E (tChain (rI0 fun i j => .bl (g i j)) (rI0 fun i j => .bl (g' i j)) ta tb tc)
    (fun δ Q => fa δ fun w1 δ1 => fb δ1 fun w2 δ2 => ∃ i j, vw w1 δ2 = .fz (.int i) ∧ vw w2 δ2 = .fz (.int j) ∧ if g i j = true then fc δ2 (fun w3 δ3 => ∃ k, vw w3 δ3 = .fz (.int k) ∧ Q (.tmp (.fz (.bool (g' j k)))) δ3) else Q (.tmp (.fz (.bool false))) δ2) := by
  refine ⟨fun δ Q Q' k q => h1.mo δ _ _ (fun w1 δ1 q => h2.mo δ1 _ _ (fun w2 δ2 ⟨i, j, a, b, q⟩ => ⟨i, j, a, b, ?_⟩) q) q, fun ps δ σ H Q r q => h1.run ps δ σ H _ r (h1.mo δ _ _ (fun w1 δ1 q v H1 r1 => h2.run _ δ1 σ H1 _ r1.rel (h2.mo δ1 _ _ (fun w2 δ2 ⟨i, j, a, b, q⟩ u H2 r2 => ?_) q)) q)⟩
  · cases z : g i j with
    | true => rw [z] at q; exact h3.mo _ _ _ (fun w3 δ3 ⟨l, c, q⟩ => ⟨l, c, k _ _ q⟩) q
    | false => rw [z] at q; exact k _ _ q
  · have r3 := r1.cons r2
    refine ⟨i, j, r3.i0 a, r3.i1 b, _, rfl, ?_⟩
    obtain rfl := r3.i1 b
    cases z : g i j with
    | true =>
      rw [z] at q
      exact h3.run ps δ2 σ H2 _ r3.drop (h3.mo _ _ _ (fun w3 δ3 ⟨l, c, q⟩ x H3 r4 => ⟨j, l, rfl, r4.i0 c, q _ _ (r4.sc (scB _))⟩) q)
    | false => rw [z] at q; exact q _ _ (r3.sc (scB _))
/-- truth -/
def truD : D → Option Bool
  | .fz .none => some false
  | .fz (.bool b) => some b
  | .fz (.int i) => some (i != 0)
  | .fz (.list es) => some (!es.isEmpty)
  | .fz (.tuple es) => some (!es.isEmpty)
  | .own ds => some (!ds.isEmpty)
  | .tup ds => some (!ds.isEmpty)
  | .dct kvs => some (!kvs.isEmpty)
  | _ => none
end
end OwnD
namespace OwnD
open PySem PySem.Spec PyProof.Rows L2 Own
/-- how the slots may change -/
structure SRel where
  r : L2.St → L2.St → Prop
  refl : ∀ σ, r σ σ
  trans : ∀ {a b c}, r a b → r b c → r a c
def sAny : SRel := ⟨fun _ _ => True, fun _ => trivial, fun _ _ => trivial⟩
/-- a slot that may be stored -/
def PinFree (E : Ent) (i : Nat) : Prop := ∀ v, E.pin[i]? ≠ some (some v)
structure EndsD where
  nx : List D → Prop
  rt : D → List D → Prop
  bk : List D → Prop := fun _ => False
  ct : List D → Prop := fun _ => False
structure EndsD.Le (A B : EndsD) : Prop where
  nx : ∀ δ, A.nx δ → B.nx δ
  rt : ∀ d δ, A.rt d δ → B.rt d δ
  bk : ∀ δ, A.bk δ → B.bk δ
  ct : ∀ δ, A.ct δ → B.ct δ
section
variable {Z : Zx} {F F' H H' : Hp} {E : Ent} {ps : Pend} {δ : List D} {σ : L2.St} {ws : List W} {vs : List V} {w : W} {v : V} {d : D} {τ τ' : Mu}
variable {te ta tb tc : TE} {fe fa fb fc : List D → (W → List D → Prop) → Prop}
variable (Z E)
def liftE (ps : Pend) (Dn : Ends) : EndsD := ⟨fun δ' => ∀ σ' H', Rel Z E ps δ' σ' H' → Dn.nx σ' H', fun d δ' => ∀ v σ' H', Rel Z E ((v, d) :: ps) δ' σ' H' → Dn.rt v H',
  fun δ' => ∀ σ' H', Rel Z E ps δ' σ' H' → Dn.bk σ' H', fun δ' => ∀ σ' H', Rel Z E ps δ' σ' H' → Dn.ct σ' H'⟩
structure DS (t : TS) (g : List D → EndsD → Prop) : Prop where
  mo : ∀ δ A B, A.Le B → g δ A → g δ B
  run : ∀ (ps : Pend) (δ : List D) (σ : L2.St) (H : Hp) (Dn : Ends), Rel Z E ps δ σ H → g δ (liftE Z E ps Dn) → t Dn σ H
structure DG (S : SRel) (g : TG) (h : D → List D → (List D → Prop) → Prop) : Prop where
  mo : ∀ d δ Q Q', (∀ δ', Q δ' → Q' δ') → h d δ Q → h d δ Q'
  run : ∀ (ps : Pend) (δ : List D) (σ : L2.St) (H : Hp) (d : D) (v : V) (Q : L2.St → Hp → Prop), Rel Z E ((v, d) :: ps) δ σ H → h d δ (fun δ' => ∀ σ' H', S.r σ σ' → Rel Z E ps δ' σ' H' → Q σ' H') → g v σ H Q
structure DGs (S : SRel) (g : TGs) (h : List D → List D → (List D → Prop) → Prop) : Prop where
  mo : ∀ d δ Q Q', (∀ δ', Q δ' → Q' δ') → h d δ Q → h d δ Q'
  run : ∀ (ps : Pend) (δ : List D) (σ : L2.St) (H : Hp) (ds : List D) (vs : List V) (Q : L2.St → Hp → Prop), RelT Z E ds vs ps δ σ H → h ds δ (fun δ' => ∀ σ' H', S.r σ σ' → Rel Z E ps δ' σ' H' → Q σ' H') → g vs σ H Q
variable {Z E}
theorem EndsD.Le.refl (A : EndsD) : A.Le A := ⟨fun _ h => h, fun _ _ h => h, fun _ h => h, fun _ h => h⟩
/-- storing -/
theorem Rel.store {i : Nat} (h : Rel Z E ((v, d) :: ps) δ σ H) (hp : PinFree E i) : Rel Z E ps (δ.set i d) (σ.set i (some v)) H := by
  obtain ⟨F, μ, ν, w1, s1, r1, pn⟩ := h
  rw [List.map_cons, List.map_cons, RA] at r1
  obtain ⟨_, _, μ1, μ2, e, r2, r3, r4⟩ := r1
  cases e
  have pn' : ∀ (j : Nat) (u : V), E.pin[j]? = some (some u) → (σ.set i (some v))[j]? = some (some u) := fun j u e => by
    have n : i ≠ j := fun z => hp u (by rw [z]; exact e)
    rw [List.getElem?_set_ne n]; exact pn j u e
  by_cases hi : i < δ.length
  · obtain ⟨o, μ3, μ4, e, ro, hm, hput⟩ := s1.split i hi
    exact ⟨F, _, μ2, w1.le fun a => by have := hm a; have := r4 a; show (μ1 a + μ4 a) + μ2 a ≤ μ a + ν a; omega, hput (fun _ _ e => e) (fun _ _ => rfl) (.inr ⟨v, rfl, r2⟩), r3, pn'⟩
  · have hl := s1.len
    rw [List.set_eq_of_length_le (by omega), List.set_eq_of_length_le (by omega)]
    exact ⟨F, μ, μ2, w1.le fun a => by have := r4 a; show μ a + μ2 a ≤ μ a + ν a; omega, s1, r3, pn⟩
theorem dgName {S : SRel} {i : Nat} (hp : PinFree E i) (hs : ∀ σ v, S.r σ (σ.set i (some v))) : DG Z E S (gName i) (fun d δ Q => Q (δ.set i d)) :=
  ⟨fun d δ Q Q' k q => k _ q, fun ps δ σ H d v Q r h => h _ _ (hs _ _) (r.store hp)⟩
theorem dgNameF {S : SRel} {i : Nat} (hp : PinFree E i) (hs : ∀ σ v, S.r σ (σ.set i (some v))) : DG Z E S (gName i) (fun d δ Q => Q (δ.set i (fzD d))) :=
  ⟨fun d δ Q Q' k q => k _ q, fun ps δ σ H d v Q r h => h _ _ (hs _ _) (r.freeze.store hp)⟩
theorem RelT.zip {ds : List D} (h : RelT Z E ds vs ps δ σ H) : Rel Z E (vs.zip ds ++ ps) δ σ H ∧ vs.length = ds.length := by
  obtain ⟨F, μ, κ, ν, w1, s1, k1, r1, pn⟩ := h
  have hl := k1.len
  refine ⟨⟨F, μ, fun a => κ a + ν a, w1.eq fun a => ?_, s1, ?_, pn⟩, hl⟩
  · show μ a + (κ a + ν a) = μ a + κ a + ν a; omega
  · rw [List.map_append, List.map_append, show (vs.zip ds).map (·.2) = ds from List.map_snd_zip (by omega), show (vs.zip ds).map (·.1) = vs from List.map_fst_zip (by omega)]
    exact RA.app k1 r1
theorem RelT.unzip {ds : List D} (h : Rel Z E (vs.zip ds ++ ps) δ σ H) (hl : vs.length = ds.length) : RelT Z E ds vs ps δ σ H := by
  obtain ⟨F, μ, ν, w1, s1, r1, pn⟩ := h
  rw [List.map_append, List.map_append, show (vs.zip ds).map (·.2) = ds from List.map_snd_zip (by omega), show (vs.zip ds).map (·.1) = vs from List.map_fst_zip (by omega)] at r1
  obtain ⟨μ1, μ2, q1, q2, q3⟩ := RA.split r1 hl
  exact ⟨F, μ, μ1, μ2, w1.eq fun a => by have := q3 a; show μ a + μ1 a + μ2 a = μ a + ν a; omega, s1, q1, q2, pn⟩
def fgNil (ds : List D) (δ : List D) (Q : List D → Prop) : Prop := match ds with | [] => Q δ | _ => False
def fgCons (h : D → List D → (List D → Prop) → Prop) (hs : List D → List D → (List D → Prop) → Prop) (ds : List D) (δ : List D) (Q : List D → Prop) : Prop := match ds with | d :: r => h d δ fun δ1 => hs r δ1 Q | [] => False
theorem dgNil {S : SRel} : DGs Z E S gNil fgNil := ⟨fun d δ Q Q' k q => by cases d with | nil => exact k _ q | cons _ _ => exact q, fun ps δ σ H ds vs Q r h => by
  cases ds with
  | cons _ _ => exact h.elim
  | nil =>
    obtain ⟨r1, hl⟩ := r.zip
    obtain rfl : vs = [] := List.length_eq_zero_iff.mp hl
    exact ⟨rfl, h _ _ (S.refl _) r1⟩⟩
theorem dgCons {S : SRel} {g : TG} {h : D → List D → (List D → Prop) → Prop} {gs : TGs} {hs : List D → List D → (List D → Prop) → Prop} (hg : DG Z E S g h) (hgs : DGs Z E S gs hs) : DGs Z E S (gCons g gs) (fgCons h hs) :=
  ⟨fun ds δ Q Q' k q => by cases ds with | nil => exact q | cons d r => exact hg.mo _ _ _ _ (fun δ1 q => hgs.mo _ _ _ _ k q) q, fun ps δ σ H ds vs Q r q => by
    cases ds with
    | nil => exact q.elim
    | cons d rs =>
    obtain ⟨r1, hl⟩ := r.zip
    match vs, hl, r1 with
    | v :: vs, hl, r1 =>
      refine ⟨v, vs, rfl, hg.run (vs.zip rs ++ ps) δ σ H d v _ r1 (hg.mo _ _ _ _ (fun δ1 q σ1 H1 s1 r2 => ?_) q)⟩
      exact hgs.run ps δ1 σ1 H1 rs vs Q (RelT.unzip r2 (by simpa using hl)) (hgs.mo _ _ _ _ (fun δ2 q σ2 H2 s2 r3 => q σ2 H2 (S.trans s1 s2) r3) q)⟩
def parts : D → Option (List D)
  | .fz (.tuple es) => some (es.map .fz)
  | .tup ds => some ds
  | _ => none
def fgTup (n : Nat) (hs : List D → List D → (List D → Prop) → Prop) (d : D) (δ : List D) (Q : List D → Prop) : Prop := match parts d with | some ds => ds.length = n ∧ hs ds δ Q | none => False
theorem dgTup {S : SRel} {n : Nat} {gs : TGs} {hs : List D → List D → (List D → Prop) → Prop} (hgs : DGs Z E S gs hs) : DG Z E S (gTup Z.K n gs) (fgTup n hs) :=
  ⟨fun d δ Q Q' k q => by
    unfold fgTup at q ⊢
    cases e : parts d with
    | none => rw [e] at q; exact q
    | some ds => rw [e] at q; exact ⟨q.1, hgs.mo _ _ _ _ k q.2⟩, fun ps δ σ H d v Q r q => by
    unfold fgTup at q
    cases a : parts d with
    | none => rw [a] at q; exact q.elim
    | some ds =>
    rw [a] at q
    obtain ⟨b, q⟩ := q
    obtain ⟨F, μ, ν, w1, s1, r1, pn⟩ := r
    rw [List.map_cons, List.map_cons, RA] at r1
    obtain ⟨_, _, μ1, μ2, e, r2, r3, r4⟩ := r1
    cases e
    have key : ∃ p xs κ, v = .ref p ∧ SqT Z.K H p xs ∧ RA Z F H ds xs κ ∧ ∀ a, κ a ≤ μ1 a := by
      have r2' : R Z F H d v μ1 := r2
      cases d with
      | fz e =>
        cases e with
        | tuple es =>
          cases a
          rw [R] at r2'
          obtain ⟨h, _⟩ := r2'
          cases h with
          | tup h1 h2 => exact ⟨_, _, _, rfl, Same.tup w1.sub h1, RA.fzs h2, fun a => Nat.zero_le _⟩
        | _ => cases a
      | tup es =>
        cases a
        rw [R] at r2'
        obtain ⟨p, xs, κ, e, h1, h2, h3⟩ := r2'
        exact ⟨p, xs, κ, e, .inl (.inl h1), h2, fun a => by have := h3 a; omega⟩
      | _ => cases a
    obtain ⟨p, xs, κ, rfl, h1, h2, h3⟩ := key
    refine ⟨p, xs, rfl, h1, h2.len.trans b, hgs.run ps δ σ H ds xs Q ⟨F, μ, κ, μ2, w1.le fun a => ?_, s1, h2, r3, pn⟩ q⟩
    have := h3 a; have := r4 a
    show μ a + κ a + μ2 a ≤ μ a + ν a
    omega⟩
/-! ### statements -/
theorem dNext : DS Z E tNext (fun δ A => A.nx δ) := ⟨fun δ A B k q => k.nx _ q, fun ps δ σ H Dn r q => q _ _ r⟩
theorem dSeq {t u : TS} {g h : List D → EndsD → Prop} (ht : DS Z E t g) (hu : DS Z E u h) : DS Z E (tSeq t u) (fun δ A => g δ { A with nx := fun δ1 => h δ1 A }) :=
  ⟨fun δ A B k q => ht.mo _ { A with nx := fun δ1 => h δ1 A } _ ⟨fun δ1 q => hu.mo _ _ _ k q, k.rt, k.bk, k.ct⟩ q, fun ps δ σ H Dn r q => ht.run ps δ σ H _ r (ht.mo _ { (liftE Z E ps Dn) with nx := fun δ1 => h δ1 (liftE Z E ps Dn) } _ ⟨fun δ1 q σ1 H1 r1 => hu.run ps δ1 σ1 H1 Dn r1 q, fun _ _ h => h, fun _ h => h, fun _ h => h⟩ q)⟩
theorem dAsg {S : SRel} {g : TG} {h : D → List D → (List D → Prop) → Prop} (he : DO Z E te fe) (hg : DG Z E S g h) : DS Z E (tAsg te g) (fun δ A => fe δ fun w δ1 => h (tk w δ1).1 (tk w δ1).2 A.nx) :=
  ⟨fun δ A B k q => he.mo _ _ _ (fun w δ1 q => hg.mo _ _ _ _ k.nx q) q, fun ps δ σ H Dn r q => he.run ps δ σ H _ r (he.mo _ _ _ (fun w δ1 q v H1 r1 => hg.run ps _ σ H1 _ v _ r1.take (hg.mo _ _ _ _ (fun δ2 q σ2 H2 _ r3 => q σ2 H2 r3) q)) q)⟩
theorem dPar {i j : Nat} {tA : TA} {fA : List D → (List W → List D → Prop) → Prop} (ha : DA Z E tA fA) (hi : PinFree E i) (hj : PinFree E j) : DS Z E (tPar i j tA) (fun δ A => fA δ fun ws δ1 => ∃ d1 d2, (tks ws δ1).1 = [d1, d2] ∧ A.nx (((tks ws δ1).2.set i d1).set j d2)) :=
  ⟨fun δ A B k q => ha.mo _ _ _ (fun w δ1 ⟨d1, d2, a, q⟩ => ⟨d1, d2, a, k.nx _ q⟩) q, fun ps δ σ H Dn r q => ha.run ps δ σ H _ r (ha.mo _ _ _ (fun ws δ1 ⟨d1, d2, a, q⟩ vs H1 r1 => by
    have t := r1.takes
    rw [a] at t
    obtain ⟨z, hl⟩ := t.zip
    match vs, hl, z with
    | [v1, v2], _, z =>
      refine ⟨v1, v2, rfl, q _ _ ?_⟩
      have z1 : Rel Z E ((v1, d1) :: (v2, d2) :: ps) (tks ws δ1).2 σ H1 := z
      exact (z1.store hi).store hj) q)⟩
theorem dRet (he : DO Z E te fe) : DS Z E (tRet te) (fun δ A => fe δ fun w δ1 => A.rt (tk w δ1).1 (tk w δ1).2) :=
  ⟨fun δ A B k q => he.mo _ _ _ (fun w δ1 q => k.rt _ _ q) q, fun ps δ σ H Dn r q => he.run ps δ σ H _ r (he.mo _ _ _ (fun w δ1 q v H1 r1 => q _ _ _ r1.take) q)⟩
theorem dRetN : DS Z E tRetN (fun δ A => A.rt (.fz .none) δ) :=
  ⟨fun δ A B k q => k.rt _ _ q, fun ps δ σ H Dn r q => q _ _ _ (r.pushSc scN)⟩
theorem dIf {tt : TT} {ft : List D → (Bool → List D → Prop) → Prop} {t u : TS} {g h : List D → EndsD → Prop} (hc : DT Z E tt ft) (ht : DS Z E t g) (hu : DS Z E u h) : DS Z E (tIfS tt t u) (fun δ A => ft δ fun b δ1 => if b = true then g δ1 A else h δ1 A) := by
  refine ⟨fun δ A B k q => hc.mo _ _ _ (fun b δ1 q => ?_) q, fun ps δ σ H Dn r q => hc.run ps δ σ H _ r (hc.mo _ _ _ (fun b δ1 q H1 r1 => ?_) q)⟩
  · cases b with
    | true => exact ht.mo _ _ _ k q
    | false => exact hu.mo _ _ _ k q
  · cases b with
    | true => exact ht.run ps δ1 σ H1 Dn r1 q
    | false => exact hu.run ps δ1 σ H1 Dn r1 q
theorem dDrop (he : DO Z E te fe) : DS Z E (tDrop te) (fun δ A => fe δ fun w δ1 => A.nx δ1) :=
  ⟨fun δ A B k q => he.mo _ _ _ (fun w δ1 q => k.nx _ q) q, fun ps δ σ H Dn r q => he.run ps δ σ H _ r (he.mo _ _ _ (fun w δ1 q v H1 r1 => q _ _ r1.drop) q)⟩
theorem dBreak : DS Z E tBreak (fun δ A => A.bk δ) := ⟨fun δ A B k q => k.bk _ q, fun ps δ σ H Dn r q => q _ _ r⟩
theorem dCont : DS Z E tCont (fun δ A => A.ct δ) := ⟨fun δ A B k q => k.ct _ q, fun ps δ σ H Dn r q => q _ _ r⟩
theorem dNever : DS Z E tNever (fun _ _ => False) := ⟨fun _ _ _ _ q => q, fun _ _ _ _ _ _ q => q⟩
/-! ### loops -/
/-- what is walked: the things that come, one after the other -/
structure DIt (Z : Zx) (E : Ent) (J : It) (px : Pend) (its : List D) : Prop where
  go : ∀ i (ps : Pend) (δ : List D) (σ : L2.St) (H : Hp), i < its.length → Rel Z E (px ++ ps) δ σ H → J.go i H
  stop : ∀ (ps : Pend) (δ : List D) (σ : L2.St) (H : Hp), Rel Z E (px ++ ps) δ σ H → J.stop its.length H
  yld : ∀ i (d : D) (x : V) (ps : Pend) (δ : List D) (σ : L2.St) (H H' : Hp), its[i]? = some d → Rel Z E (px ++ ps) δ σ H → J.yld i H x H' → Rel Z E ((x, d) :: (px ++ ps)) δ σ H'
variable (Z E)
structure DI (wi : TI) (f : List D → (List D → List D → Prop) → Prop) : Prop where
  mo : Mo f
  run : ∀ (ps : Pend) (δ : List D) (σ : L2.St) (H : Hp) (Q : It → Hp → Prop), Rel Z E ps δ σ H → f δ (fun its δ' => ∀ J px H', DIt Z E J px its → Rel Z E (px ++ ps) δ' σ H' → Q J H') → wi σ H Q
variable {Z E}
theorem Rel.dropN : ∀ {px : Pend}, Rel Z E (px ++ ps) δ σ H → Rel Z E ps δ σ H
  | [], h => h
  | (v, d) :: px, h => Rel.dropN (px := px) h.drop
theorem Rel.top (h : Rel Z E ((v, d) :: ps) δ σ H) : ∃ F μ, Same F H ∧ R Z F H d v μ := by
  obtain ⟨F, μ, ν, w1, s1, r1, pn⟩ := h
  rw [List.map_cons, List.map_cons, RA] at r1
  obtain ⟨_, _, μ1, μ2, e, r2, r3, r4⟩ := r1
  cases e
  exact ⟨F, μ1, w1.sub, r2⟩
theorem Rel.topP (h : Rel Z E ((v, d) :: ps) δ σ H) : ∃ F μ, Same F H ∧ R Z F H d v μ ∧ ∀ {g : D} {u : V}, R Z F H g u (fun _ => 0) → Rel Z E ((u, g) :: (v, d) :: ps) δ σ H := by
  obtain ⟨F, μ, ν, w1, s1, r1, pn⟩ := h
  have r1' := r1
  rw [List.map_cons, List.map_cons, RA] at r1
  obtain ⟨_, _, μ1, μ2, e, r2, r3, r4⟩ := r1
  cases e
  exact ⟨F, μ1, w1.sub, r2, fun hg => ⟨F, μ, fun a => 0 + ν a, w1.eq fun a => by show μ a + (0 + ν a) = μ a + ν a; omega, s1, RA.push hg r1', pn⟩⟩
theorem dItl {a : Addr} {es : List PyData} : DIt Z E (Itl Z.K a) [(.ref a, .fz (.list es))] (es.map .fz) := by
  have at_ : ∀ {ps : Pend} {δ : List D} {σ : L2.St} {H : Hp}, Rel Z E ([(.ref a, .fz (.list es))] ++ ps) δ σ H → ∃ F xs, Same F H ∧ F a = some (.lst xs) ∧ DqAll Z.K F xs es ∧ ∀ {g : D} {u : V}, R Z F H g u (fun _ => 0) → Rel Z E ((u, g) :: ([(.ref a, .fz (.list es))] ++ ps)) δ σ H := by
    intro ps δ σ H h
    obtain ⟨F, μ, s, r, k⟩ := Rel.topP (ps := ps) h
    rw [R] at r
    obtain ⟨q, _⟩ := r
    cases q with
    | lst h1 h2 => exact ⟨F, _, s, h1, h2, k⟩
  refine ⟨fun i ps δ σ H hi h => ?_, fun ps δ σ H h => ?_, fun i d x ps δ σ H H' e h y => ?_⟩
  · obtain ⟨F, xs, s, h1, h2, _⟩ := at_ h
    have hl := h2.len
    rw [List.length_map] at hi
    exact ⟨xs, xs[i], .inl (.inl (s _ _ h1)), by simp [show i < xs.length by omega]⟩
  · obtain ⟨F, xs, s, h1, h2, _⟩ := at_ h
    exact ⟨xs, .inl (.inl (s _ _ h1)), by rw [List.length_map, h2.len]; exact Nat.le_refl _⟩
  · obtain ⟨F, xs, s, h1, h2, k⟩ := at_ h
    obtain ⟨rfl, y⟩ := y
    have ex := y xs (.inl (.inl (s _ _ h1)))
    rw [List.getElem?_map] at e
    cases q : es[i]? with
    | none => rw [q] at e; cases e
    | some g =>
      rw [q] at e; cases e
      obtain ⟨u, e2, hd⟩ := h2.get q
      rw [ex] at e2; cases e2
      exact k (R.fz hd)
theorem dItt {a : Addr} {es : List PyData} : DIt Z E (Itt Z.K a) [(.ref a, .fz (.tuple es))] (es.map .fz) := by
  have at_ : ∀ {ps : Pend} {δ : List D} {σ : L2.St} {H : Hp}, Rel Z E ([(.ref a, .fz (.tuple es))] ++ ps) δ σ H → ∃ F xs, Same F H ∧ SqT Z.K H a xs ∧ DqAll Z.K F xs es ∧ ∀ {g : D} {u : V}, R Z F H g u (fun _ => 0) → Rel Z E ((u, g) :: ([(.ref a, .fz (.tuple es))] ++ ps)) δ σ H := by
    intro ps δ σ H h
    obtain ⟨F, μ, s, r, k⟩ := Rel.topP (ps := ps) h
    rw [R] at r
    obtain ⟨q, _⟩ := r
    cases q with
    | tup h1 h2 => exact ⟨F, _, s, Same.tup s h1, h2, k⟩
  refine ⟨fun i ps δ σ H hi h => ?_, fun ps δ σ H h => ?_, fun i d x ps δ σ H H' e h y => ?_⟩
  · obtain ⟨F, xs, s, h1, h2, _⟩ := at_ h
    have hl := h2.len
    rw [List.length_map] at hi
    exact ⟨xs, xs[i], h1, by simp [show i < xs.length by omega]⟩
  · obtain ⟨F, xs, s, h1, h2, _⟩ := at_ h
    exact ⟨xs, h1, by rw [List.length_map, h2.len]; exact Nat.le_refl _⟩
  · obtain ⟨F, xs, s, h1, h2, k⟩ := at_ h
    obtain ⟨rfl, y⟩ := y
    have ex := y xs h1
    rw [List.getElem?_map] at e
    cases q : es[i]? with
    | none => rw [q] at e; cases e
    | some g =>
      rw [q] at e; cases e
      obtain ⟨u, e2, hd⟩ := h2.get q
      rw [ex] at e2; cases e2
      exact k (R.fz hd)
/-- what is walked is shared -/
theorem RelW.walked {e : PyData} (h : RelW Z E [w] [v] ps δ σ H) (q : vw (fzW w) δ = .fz e) : Rel Z E ((v, .fz e) :: ps) δ σ H := by
  have z := h.frz1
  cases w with
  | tmp d =>
    have q' : fzD d = .fz e := q
    have z' : Rel Z E ((v, fzD d) :: ps) δ σ H := z.2.2
    rw [q'] at z'; exact z'
  | slot i =>
    have q' : δ.getD i .hole = .fz e := q
    refine RelW.rel (w := .tmp (.fz e)) (z.part (k := 0) rfl rfl fun F μ s r => ?_)
    have r' : R Z F H (δ.getD i .hole) v μ := r
    rw [q'] at r'
    exact r'.shared rfl
theorem dIList (he : DO Z E te fe) : DI Z E (iList Z.K te) (fun δ Q => fe δ fun w δ1 => ∃ es, vw (fzW w) δ1 = .fz (.list es) ∧ Q (es.map .fz) δ1) :=
  ⟨fun δ Q Q' k q => he.mo _ _ _ (fun w δ1 ⟨es, a, q⟩ => ⟨es, a, k _ _ q⟩) q, fun ps δ σ H Q r q => he.run ps δ σ H _ r (he.mo _ _ _ (fun w δ1 ⟨es, a, q⟩ v H1 r1 => by
    have z := r1.walked a
    obtain ⟨F, μ, s, hr⟩ := z.top
    rw [R] at hr
    obtain ⟨hq, _⟩ := hr
    cases hq with
    | lst h1 h2 => exact ⟨_, rfl, ⟨_, .inl (.inl (s _ _ h1))⟩, q _ [(_, .fz (.list es))] _ dItl z⟩) q)⟩
theorem dITup (he : DO Z E te fe) : DI Z E (iTup Z.K te) (fun δ Q => fe δ fun w δ1 => ∃ es, vw (fzW w) δ1 = .fz (.tuple es) ∧ Q (es.map .fz) δ1) :=
  ⟨fun δ Q Q' k q => he.mo _ _ _ (fun w δ1 ⟨es, a, q⟩ => ⟨es, a, k _ _ q⟩) q, fun ps δ σ H Q r q => he.run ps δ σ H _ r (he.mo _ _ _ (fun w δ1 ⟨es, a, q⟩ v H1 r1 => by
    have z := r1.walked a
    obtain ⟨F, μ, s, hr⟩ := z.top
    rw [R] at hr
    obtain ⟨hq, _⟩ := hr
    cases hq with
    | tup h1 h2 => exact ⟨_, rfl, ⟨_, Same.tup s h1⟩, q _ [(_, .fz (.tuple es))] _ dItt z⟩) q)⟩
def intsD (lo : Int) (n : Nat) : List D := (List.range n).map fun i => .fz (.int (lo + (i : Nat)))
theorem dItr {lo : Int} {n : Nat} : DIt Z E (Itr lo n) [] (intsD lo n) := by
  refine ⟨fun i ps δ σ H hi h => by show i < n; simpa [intsD] using hi, fun ps δ σ H h => by show n ≤ _; simp [intsD], fun i d x ps δ σ H H' e h y => ?_⟩
  obtain ⟨rfl, rfl⟩ := y
  unfold intsD at e
  rw [List.getElem?_map] at e
  cases q : (List.range n)[i]? with
  | none => rw [q] at e; cases e
  | some j =>
    rw [q] at e; cases e
    obtain ⟨hj, e2⟩ := List.getElem?_eq_some_iff.mp q
    rw [List.getElem_range] at e2
    subst e2
    exact Rel.pushSc h (scI _)
theorem dIRng1 {tA : TA} {fA : List D → (List W → List D → Prop) → Prop} (ha : DA Z E tA fA) : DI Z E (iRng1 tA) (fun δ Q => fA δ fun ws δ1 => ∃ w j, ws = [w] ∧ vw w δ1 = .fz (.int j) ∧ -(2 ^ 62) ≤ j ∧ j < 2 ^ 62 ∧ Q (intsD 0 j.toNat) δ1) :=
  ⟨fun δ Q Q' k q => ha.mo _ _ _ (fun ws δ1 ⟨w, j, a, b, c, d, q⟩ => ⟨w, j, a, b, c, d, k _ _ q⟩) q, fun ps δ σ H Q r q => ha.run ps δ σ H _ r (ha.mo _ _ _ (fun ws δ1 ⟨w, j, a, b, c, d, q⟩ vs H1 r1 => by
    subst a
    obtain ⟨v, rfl⟩ := r1.one
    obtain rfl := r1.i0 b
    exact ⟨j, rfl, c, d, q _ [] _ dItr r1.drop⟩) q)⟩
theorem dIRng2 {tA : TA} {fA : List D → (List W → List D → Prop) → Prop} (ha : DA Z E tA fA) : DI Z E (iRng2 tA) (fun δ Q => fA δ fun ws δ1 => ∃ w w2 i j, ws = [w, w2] ∧ vw w δ1 = .fz (.int i) ∧ vw w2 δ1 = .fz (.int j) ∧ (-(2 ^ 62) ≤ i ∧ i < 2 ^ 62 ∧ -(2 ^ 62) ≤ j ∧ j < 2 ^ 62) ∧ Q (intsD i (j - i).toNat) δ1) :=
  ⟨fun δ Q Q' k q => ha.mo _ _ _ (fun ws δ1 ⟨w, w2, i, j, a, b, c, d, q⟩ => ⟨w, w2, i, j, a, b, c, d, k _ _ q⟩) q, fun ps δ σ H Q r q => ha.run ps δ σ H _ r (ha.mo _ _ _ (fun ws δ1 ⟨w, w2, i, j, a, b, c, d, q⟩ vs H1 r1 => by
    subst a
    obtain ⟨v, u, rfl⟩ := r1.two
    obtain rfl := r1.i0 b
    obtain rfl := r1.i1 c
    exact ⟨i, j, rfl, d, q _ [] _ dItr r1.drop⟩) q)⟩
/-- enumerate: pairs of places and items -/
def enumD (es : List PyData) : List D := (List.range es.length).map fun i => .fz (.tuple [.int (i : Nat), es.getD i .none])
theorem dIte {a : Addr} {es : List PyData} : DIt Z E (Ite Z.K a) [(.ref a, .fz (.list es))] (enumD es) := by
  have at_ : ∀ {ps : Pend} {δ : List D} {σ : L2.St} {H : Hp}, Rel Z E ([(.ref a, .fz (.list es))] ++ ps) δ σ H → ∃ F xs, Same F H ∧ F a = some (.lst xs) ∧ DqAll Z.K F xs es ∧ ∀ {g : D} {u : V}, R Z F H g u (fun _ => 0) → Rel Z E ((u, g) :: ([(.ref a, .fz (.list es))] ++ ps)) δ σ H := by
    intro ps δ σ H h
    obtain ⟨F, μ, s, r, k⟩ := Rel.topP (ps := ps) h
    rw [R] at r
    obtain ⟨q, _⟩ := r
    cases q with
    | lst h1 h2 => exact ⟨F, _, s, h1, h2, k⟩
  refine ⟨fun i ps δ σ H hi h => ?_, fun ps δ σ H h => ?_, fun i d x ps δ σ H H' e h y => ?_⟩
  · obtain ⟨F, xs, s, h1, h2, _⟩ := at_ h
    have hl := h2.len
    unfold enumD at hi
    rw [List.length_map, List.length_range] at hi
    exact ⟨xs, xs[i], .inl (.inl (s _ _ h1)), by simp [show i < xs.length by omega]⟩
  · obtain ⟨F, xs, s, h1, h2, _⟩ := at_ h
    exact ⟨xs, .inl (.inl (s _ _ h1)), by unfold enumD; rw [List.length_map, List.length_range, h2.len]; exact Nat.le_refl _⟩
  · obtain ⟨F, xs, s, h1, h2, k⟩ := at_ h
    obtain ⟨T, y, rfl, nT, rfl, hy⟩ := y
    have ex := hy xs (.inl (.inl (s _ _ h1)))
    unfold enumD at e
    rw [List.getElem?_map] at e
    cases q : (List.range es.length)[i]? with
    | none => rw [q] at e; cases e
    | some j =>
      rw [q] at e; cases e
      obtain ⟨hj, e2⟩ := List.getElem?_eq_some_iff.mp q
      rw [List.getElem_range] at e2
      subst e2
      rw [List.length_range] at hj
      have q2 : es[i]? = some (es.getD i .none) := by rw [List.getD_eq_getElem?_getD, List.getElem?_eq_getElem hj]; rfl
      obtain ⟨u, e3, hd⟩ := h2.get q2
      rw [ex] at e3; cases e3
      -- the new pair, shared at once
      have z1 := k (g := .fz (es.getD i .none)) (R.fz hd)
      have z2 : Rel Z E ((.int (i : Nat), .fz (.int (i : Nat))) :: (y, .fz (es.getD i .none)) :: ([(.ref a, .fz (.list es))] ++ ps)) δ σ H := z1.pushSc (scI _)
      have t : RelT Z E [.fz (.int (i : Nat)), .fz (es.getD i .none)] [.int (i : Nat), y] ([(.ref a, .fz (.list es))] ++ ps) δ σ H := ((RelT.nil z2).more (ps := (y, .fz (es.getD i .none)) :: ([(.ref a, .fz (.list es))] ++ ps)) |> fun t => by
        exact RelT.unzip (vs := [.int (i : Nat), y]) (ds := [.fz (.int (i : Nat)), .fz (es.getD i .none)]) z2 rfl)
      exact (t.tup nT).freeze
theorem dIEnum {tA : TA} {fA : List D → (List W → List D → Prop) → Prop} (ha : DA Z E tA fA) : DI Z E (iEnum Z.K tA) (fun δ Q => fA δ fun ws δ1 => ∃ w es, ws = [w] ∧ vw (fzW w) δ1 = .fz (.list es) ∧ Q (enumD es) δ1) :=
  ⟨fun δ Q Q' k q => ha.mo _ _ _ (fun ws δ1 ⟨w, j, a, b, q⟩ => ⟨w, j, a, b, k _ _ q⟩) q, fun ps δ σ H Q r q => ha.run ps δ σ H _ r (ha.mo _ _ _ (fun ws δ1 ⟨w, es, a, b, q⟩ vs H1 r1 => by
    subst a
    obtain ⟨v, rfl⟩ := r1.one
    have z := r1.walked b
    obtain ⟨F, μ, s, hr⟩ := z.top
    rw [R] at hr
    obtain ⟨hq, _⟩ := hr
    cases hq with
    | lst h1 h2 => exact ⟨_, _, rfl, .inl (.inl (s _ _ h1)), q _ [(_, .fz (.list es))] _ dIte z⟩) q)⟩
def signs (x : Str) : List D := x.cps.toList.map fun c => .fz (.str ⟨#[c]⟩)
theorem dIts {x : Str} : DIt Z E (Its x) [] (signs x) := by
  refine ⟨fun i ps δ σ H hi h => by show i < x.cps.size; simpa [signs] using hi, fun ps δ σ H h => by show x.cps.size ≤ _; simp [signs], fun i d v ps δ σ H H' e h y => ?_⟩
  obtain ⟨rfl, c, hc, rfl⟩ := y
  unfold signs at e
  rw [List.getElem?_map, Array.getElem?_toList, hc] at e
  cases e
  exact Rel.pushSc h (scS _)
theorem dIStr (he : DO Z E te fe) : DI Z E (iStr te) (fun δ Q => fe δ fun w δ1 => ∃ x, vw w δ1 = .fz (.str x) ∧ Q (signs x) δ1) :=
  ⟨fun δ Q Q' k q => he.mo _ _ _ (fun w δ1 ⟨es, a, q⟩ => ⟨es, a, k _ _ q⟩) q, fun ps δ σ H Q r q => he.run ps δ σ H _ r (he.mo _ _ _ (fun w δ1 ⟨x, a, q⟩ v H1 r1 => ⟨x, r1.s0 a, q _ [] _ dIts r1.drop⟩) q)⟩
/-- reversed(list) -/
theorem dItv {a : Addr} {es : List PyData} : DIt Z E (Itv Z.K a es.length) [(.ref a, .fz (.list es))] (es.reverse.map .fz) := by
  have at_ : ∀ {ps : Pend} {δ : List D} {σ : L2.St} {H : Hp}, Rel Z E ([(.ref a, .fz (.list es))] ++ ps) δ σ H → ∃ F xs, Same F H ∧ F a = some (.lst xs) ∧ DqAll Z.K F xs es ∧ ∀ {g : D} {u : V}, R Z F H g u (fun _ => 0) → Rel Z E ((u, g) :: ([(.ref a, .fz (.list es))] ++ ps)) δ σ H := by
    intro ps δ σ H h
    obtain ⟨F, μ, s, r, k⟩ := Rel.topP (ps := ps) h
    rw [R] at r
    obtain ⟨q, _⟩ := r
    cases q with
    | lst h1 h2 => exact ⟨F, _, s, h1, h2, k⟩
  have wk : ∀ {H : Hp} {xs : List V}, SqL Z.K H a xs → xs.length = es.length → ∀ i x H', i < es.length → (Itv Z.K a es.length).yld i H x H' → H' = H ∧ xs[es.length - 1 - i]? = some x := fun {H xs} h e i x H' hi y => by
    have w := walk_rev (K := Z.K) (a := a) (xs := xs)
    rw [e] at w
    exact w.yields i H x H' hi h y
  refine ⟨fun i ps δ σ H hi h => ?_, fun ps δ σ H h => ?_, fun i d x ps δ σ H H' e h y => ?_⟩
  · obtain ⟨F, xs, s, h1, h2, _⟩ := at_ h
    have hl := h2.len
    rw [List.length_map, List.length_reverse] at hi
    have w := walk_rev (K := Z.K) (a := a) (xs := xs)
    rw [hl] at w
    exact w.goes i H hi (.inl (.inl (s _ _ h1)))
  · obtain ⟨F, xs, s, h1, h2, _⟩ := at_ h
    have w := walk_rev (K := Z.K) (a := a) (xs := xs)
    rw [h2.len] at w
    rw [List.length_map, List.length_reverse]
    exact w.stops H (.inl (.inl (s _ _ h1)))
  · obtain ⟨F, xs, s, h1, h2, k⟩ := at_ h
    rw [List.getElem?_map] at e
    cases q : es.reverse[i]? with
    | none => rw [q] at e; cases e
    | some g =>
      rw [q] at e; cases e
      have hi := (List.getElem?_eq_some_iff.mp q).1
      rw [List.length_reverse] at hi
      obtain ⟨rfl, ex⟩ := wk (.inl (.inl (s _ _ h1))) h2.len i x H' hi y
      rw [List.getElem?_reverse (by omega)] at q
      obtain ⟨u, e3, hd⟩ := h2.get q
      rw [ex] at e3; cases e3
      exact k (R.fz hd)
theorem dIRev {tA : TA} {fA : List D → (List W → List D → Prop) → Prop} (ha : DA Z E tA fA) : DI Z E (iRev Z.K tA) (fun δ Q => fA δ fun ws δ1 => ∃ w es, ws = [w] ∧ vw (fzW w) δ1 = .fz (.list es) ∧ Q (es.reverse.map .fz) δ1) :=
  ⟨fun δ Q Q' k q => ha.mo _ _ _ (fun ws δ1 ⟨w, j, a, b, q⟩ => ⟨w, j, a, b, k _ _ q⟩) q, fun ps δ σ H Q r q => ha.run ps δ σ H _ r (ha.mo _ _ _ (fun ws δ1 ⟨w, es, a, b, q⟩ vs H1 r1 => by
    subst a
    obtain ⟨v, rfl⟩ := r1.one
    have z := r1.walked b
    obtain ⟨F, μ, s, hr⟩ := z.top
    rw [R] at hr
    obtain ⟨hq, _⟩ := hr
    cases hq with
    | lst h1 h2 => exact ⟨_, _, rfl, .inl (.inl (s _ _ h1)), by rw [h2.len]; exact q _ [(_, .fz (.list es))] _ dItv z⟩) q)⟩
/-- for -/
def loopD (h : D → List D → (List D → Prop) → Prop) (g : List D → EndsD → Prop) (A : EndsD) : List D → List D → Prop
  | [], δ => A.nx δ
  | d :: r, δ => h d δ fun δ1 => g δ1 ⟨loopD h g A r, A.rt, A.nx, loopD h g A r⟩
theorem loopD_mo {S : SRel} {h : D → List D → (List D → Prop) → Prop} {g : List D → EndsD → Prop} {gt : TG} {tb : TS} (hg : DG Z E S gt h) (hb : DS Z E tb g) {A B : EndsD} (k : A.Le B) : ∀ its δ, loopD h g A its δ → loopD h g B its δ
  | [], δ, q => k.nx _ q
  | d :: r, δ, q => hg.mo _ _ _ _ (fun δ1 q => hb.mo _ ⟨loopD h g A r, A.rt, A.nx, loopD h g A r⟩ _ ⟨fun δ2 q => loopD_mo hg hb k r δ2 q, k.rt, k.nx, fun δ2 q => loopD_mo hg hb k r δ2 q⟩ q) q
theorem dFor {S : SRel} {wi : TI} {gt : TG} {tb : TS} {fi : List D → (List D → List D → Prop) → Prop} {h : D → List D → (List D → Prop) → Prop} {g : List D → EndsD → Prop} (hi : DI Z E wi fi) (hg : DG Z E S gt h) (hb : DS Z E tb g) :
    DS Z E (tFor wi gt tb) (fun δ A => fi δ fun its δ1 => loopD h g A its δ1) := by
  refine ⟨fun δ A B k q => hi.mo _ _ _ (fun its δ1 q => loopD_mo hg hb k its δ1 q) q, fun ps δ σ H Dn r q => hi.run ps δ σ H _ r (hi.mo _ _ _ (fun its δ1 q J px H1 it r1 => ?_) q)⟩
  refine ⟨fun i m σ H => m = its.length - i ∧ i ≤ its.length ∧ ∃ δ, Rel Z E (px ++ ps) δ σ H ∧ loopD h g (liftE Z E ps Dn) (its.drop i) δ, ⟨its.length, by simp, Nat.zero_le _, δ1, r1, by simpa using q⟩, ?_⟩
  rintro i m σ2 H2 ⟨rfl, hl, δ2, r2, q2⟩
  rcases Nat.lt_or_ge i its.length with z | z
  · refine .inr ⟨it.go i ps δ2 σ2 H2 z r2, fun σ3 H3 => ∃ δ3, Rel Z E (px ++ ps) δ3 σ3 H3 ∧ loopD h g (liftE Z E ps Dn) (its.drop (i + 1)) δ3, fun σ3 H3 ⟨δ3, r3, q3⟩ => ⟨its.length - (i + 1), by omega, rfl, z, δ3, r3, q3⟩, fun x H3 y => ?_⟩
    rw [List.drop_eq_getElem_cons z] at q2
    have r3 := it.yld i its[i] x ps δ2 σ2 H2 H3 (List.getElem?_eq_getElem z) r2 y
    refine hg.run (px ++ ps) δ2 σ2 H3 _ x _ r3 (hg.mo _ _ _ _ (fun δ4 q4 σ4 H4 _ r4 => ?_) q2)
    refine hb.run (px ++ ps) δ4 σ4 H4 _ r4 (hb.mo _ ⟨loopD h g (liftE Z E ps Dn) (its.drop (i + 1)), (liftE Z E ps Dn).rt, (liftE Z E ps Dn).nx, loopD h g (liftE Z E ps Dn) (its.drop (i + 1))⟩ _ ⟨fun δ5 q5 σ5 H5 r5 => ⟨δ5, r5, q5⟩, fun d δ5 q5 v σ5 H5 r5 => q5 v σ5 H5 ?_, fun δ5 q5 σ5 H5 r5 => q5 σ5 H5 r5.dropN, fun δ5 q5 σ5 H5 r5 => ⟨δ5, r5, q5⟩⟩ q4)
    -- the returned value beside what was walked
    have : ∀ {px : Pend}, Rel Z E ((v, d) :: (px ++ ps)) δ5 σ5 H5 → Rel Z E ((v, d) :: ps) δ5 σ5 H5 := by
      intro px
      induction px with
      | nil => exact id
      | cons p px ih =>
        intro h
        apply ih
        obtain ⟨F, μ, ν, w1, s1, r1, pn⟩ := h
        rw [List.map_cons, List.map_cons, RA] at r1
        obtain ⟨_, _, μ1, μ2, e, h2, h3, h4⟩ := r1
        cases e
        rw [List.cons_append, List.map_cons, List.map_cons, RA] at h3
        obtain ⟨_, _, μ3, μ4, e, h5, h6, h7⟩ := h3
        cases e
        exact ⟨F, μ, _, w1.le fun a => by have := h4 a; have := h7 a; show μ a + (μ1 a + μ4 a) ≤ μ a + ν a; omega, s1, RA.push h2 h6, pn⟩
    exact this r5
  · obtain rfl : i = its.length := Nat.le_antisymm hl z
    rw [List.drop_eq_nil_of_le (Nat.le_refl _)] at q2
    exact .inl ⟨it.stop ps δ2 σ2 H2 r2, q2 σ2 H2 r2.dropN⟩
end
end OwnD
namespace OwnD
open PySem PySem.Spec PyProof.Rows L2 Own
section
variable {Z : Zx} {F F' H H' : Hp} {E : Ent} {ps : Pend} {δ : List D} {σ : L2.St} {ws : List W} {vs : List V} {w : W} {v : V} {d : D} {τ τ' : Mu}
variable {te ta tb tc : TE} {fe fa fb fc : List D → (W → List D → Prop) → Prop}
/-! ### comprehensions -/
def sWipe (vs : List Nat) : SRel := ⟨fun σ σ' => wipe σ' vs = wipe σ vs, fun _ => rfl, fun a b => b.trans a⟩
theorem set_swap {α : Type} (l : List α) (i j : Nat) (a b : α) (h : i ≠ j) : (l.set i a).set j b = (l.set j b).set i a := List.set_comm _ _ h
theorem wipe_set {vs : List Nat} {i : Nat} (h : i ∈ vs) (σ : L2.St) (o : Option V) : wipe (σ.set i o) vs = wipe σ vs := by
  induction vs with
  | nil => cases h
  | cons u vs ih =>
    by_cases z : i ∈ vs
    · show (wipe (σ.set i o) vs).set u none = (wipe σ vs).set u none
      rw [ih z]
    · have e : i = u := (List.mem_cons.mp h).resolve_right z
      subst e
      show (wipe (σ.set i o) vs).set i none = (wipe σ vs).set i none
      have key : ∀ vs : List Nat, i ∉ vs → wipe (σ.set i o) vs = (wipe σ vs).set i o := by
        intro vs
        induction vs with
        | nil => intro _; rfl
        | cons u vs ih2 =>
          intro hn
          rw [List.mem_cons, not_or] at hn
          show (wipe (σ.set i o) vs).set u none = ((wipe σ vs).set u none).set i o
          rw [ih2 hn.2, List.set_comm _ _ hn.1]
      rw [key vs z, List.set_set]
theorem sw {vs : List Nat} {i : Nat} (h : i ∈ vs) : ∀ (σ : L2.St) (v : V), (sWipe vs).r σ (σ.set i (some v)) := fun σ v => wipe_set h σ _
def wipeD (δ : List D) : List Nat → List D
  | [] => δ
  | v :: vs => (wipeD δ vs).set v .hole
theorem Rel.setNone {i : Nat} (h : Rel Z E ps δ σ H) (hp : PinFree E i) : Rel Z E ps (δ.set i .hole) (σ.set i none) H := by
  obtain ⟨F, μ, ν, w1, s1, r1, pn⟩ := h
  have pn' : ∀ (j : Nat) (u : V), E.pin[j]? = some (some u) → (σ.set i none)[j]? = some (some u) := fun j u e => by
    have n : i ≠ j := fun z => hp u (by rw [z]; exact e)
    rw [List.getElem?_set_ne n]; exact pn j u e
  by_cases hi : i < δ.length
  · obtain ⟨o, μ3, μ4, e, ro, hm, hput⟩ := s1.split i hi
    exact ⟨F, _, ν, w1.le fun a => by have := hm a; show (0 + μ4 a) + ν a ≤ μ a + ν a; omega, hput (μ' := fun _ => 0) (fun _ _ e => e) (fun _ _ => rfl) (.inl ⟨rfl, fun _ => rfl⟩), r1, pn'⟩
  · have hl := s1.len
    rw [List.set_eq_of_length_le (by omega), List.set_eq_of_length_le (by omega)]
    exact ⟨F, μ, ν, w1, s1, r1, pn⟩
theorem Rel.wipe : ∀ {vs : List Nat}, Rel Z E ps δ σ H → (∀ i ∈ vs, PinFree E i) → Rel Z E ps (wipeD δ vs) (L2.wipe σ vs) H
  | [], h, _ => h
  | v :: vs, h, hp => (Rel.wipe (vs := vs) h fun i hi => hp i (List.mem_cons_of_mem _ hi)).setNone (hp v List.mem_cons_self)
theorem RS.unset {i : Nat} {μ : Mu} (h : RS Z F H δ (σ.set i none) μ) : ∃ μ', RS Z F H (δ.set i .hole) σ μ' ∧ ∀ a, μ' a ≤ μ a := by
  by_cases hi : i < δ.length
  · obtain ⟨o, μ3, μ4, e, ro, hm, hput⟩ := h.split i hi
    have hl := h.len
    rw [List.length_set] at hl
    have hi2 : i < σ.length := by omega
    have z := hput (F' := F) (H' := H) (d' := .hole) (o' := σ[i]) (μ' := fun _ => 0) (fun _ _ e => e) (fun _ _ => rfl) (.inl ⟨rfl, fun _ => rfl⟩)
    rw [List.set_set] at z
    have e2 : σ.set i σ[i] = σ := by simp
    rw [e2] at z
    exact ⟨_, z, fun a => by have := hm a; show 0 + μ4 a ≤ μ a; omega⟩
  · have hl := h.len
    rw [List.length_set] at hl
    rw [List.set_eq_of_length_le (by omega)] at h
    rw [List.set_eq_of_length_le (by omega)]
    exact ⟨μ, h, fun a => Nat.le_refl _⟩
theorem RS.unwipe : ∀ {vs : List Nat} {δ : List D} {μ : Mu}, RS Z F H δ (L2.wipe σ vs) μ → ∃ μ', RS Z F H (wipeD δ vs) σ μ' ∧ ∀ a, μ' a ≤ μ a
  | [], δ, μ, h => ⟨μ, h, fun _ => Nat.le_refl _⟩
  | v :: vs, δ, μ, h => by
    obtain ⟨μ1, h1, k1⟩ := RS.unset (σ := L2.wipe σ vs) h
    obtain ⟨μ2, h2, k2⟩ := RS.unwipe (vs := vs) h1
    refine ⟨μ2, ?_, fun a => Nat.le_trans (k2 a) (k1 a)⟩
    have e : ∀ (vs : List Nat) (δ : List D), wipeD (δ.set v .hole) vs = (wipeD δ vs).set v .hole := by
      intro vs
      induction vs with
      | nil => intro δ; rfl
      | cons u vs ih =>
        intro δ
        show (wipeD (δ.set v .hole) vs).set u .hole = ((wipeD δ vs).set u .hole).set v .hole
        rw [ih δ]
        by_cases z : v = u
        · rw [z]
        · rw [List.set_comm _ _ z]
    rw [e vs δ] at h2
    exact h2
theorem Rel.unwipe {vs : List Nat} (h : Rel Z E ps δ (L2.wipe σ vs) H) (pn : ∀ (j : Nat) (v : V), E.pin[j]? = some (some v) → σ[j]? = some (some v)) : Rel Z E ps (wipeD δ vs) σ H := by
  obtain ⟨F, μ, ν, w1, s1, r1, _⟩ := h
  obtain ⟨μ2, h2, k2⟩ := RS.unwipe s1
  exact ⟨F, μ2, ν, w1.le fun a => by have := k2 a; show μ2 a + ν a ≤ μ a + ν a; omega, h2, r1, pn⟩
theorem Rel.pins (h : Rel Z E ps δ σ H) : ∀ (j : Nat) (v : V), E.pin[j]? = some (some v) → σ[j]? = some (some v) := by
  obtain ⟨F, μ, ν, w1, s1, r1, pn⟩ := h
  exact pn
theorem Rel.front {A B : Pend} (h : Rel Z E (A ++ (v, d) :: B) δ σ H) : Rel Z E ((v, d) :: (A ++ B)) δ σ H := by
  obtain ⟨F, μ, ν, w1, s1, r1, pn⟩ := h
  rw [List.map_append, List.map_append] at r1
  obtain ⟨ν1, ν2, a1, a2, a3⟩ := RA.split r1 (by simp)
  rw [List.map_cons, List.map_cons, RA] at a2
  obtain ⟨_, _, μ1, μ2, e', r2, r3, r4⟩ := a2
  cases e'
  refine ⟨F, μ, fun a => μ1 a + (ν1 a + μ2 a), w1.eq fun a => by have := r4 a; have := a3 a; show μ a + (μ1 a + (ν1 a + μ2 a)) = μ a + ν a; omega, s1, ?_, pn⟩
  rw [List.map_cons, List.map_cons, List.map_append, List.map_append]
  exact RA.push r2 (RA.app a1 r3)
theorem Rel.back {A B : Pend} (h : Rel Z E ((v, d) :: (A ++ B)) δ σ H) : Rel Z E (A ++ (v, d) :: B) δ σ H := by
  obtain ⟨F, μ, ν, w1, s1, r1, pn⟩ := h
  rw [List.map_cons, List.map_cons, RA] at r1
  obtain ⟨_, _, μ1, μ2, e', r2, r3, r4⟩ := r1
  cases e'
  rw [List.map_append, List.map_append] at r3
  obtain ⟨ν1, ν2, a1, a2, a3⟩ := RA.split r3 (by simp)
  refine ⟨F, μ, fun a => ν1 a + (μ1 a + ν2 a), w1.eq fun a => by have := r4 a; have := a3 a; show μ a + (ν1 a + (μ1 a + ν2 a)) = μ a + ν a; omega, s1, ?_, pn⟩
  rw [List.map_append, List.map_append, List.map_cons, List.map_cons]
  exact RA.app a1 (RA.push r2 a2)
/-- one more thing in the list that is being made -/
theorem Rel.grow {ds : List D} {a : Addr} {y : V} (h : Rel Z E ((y, d) :: (.ref a, .own ds) :: ps) δ σ H) : ∃ xs, H a = some (.lst xs) ∧ xs.length = ds.length ∧ Rel Z E ((.ref a, .own (ds ++ [d])) :: ps) δ σ (upd H a (.lst (xs ++ [y]))) := by
  obtain ⟨F, μ, ν, w1, s1, r1, pn⟩ := h
  rw [List.map_cons, List.map_cons, RA] at r1
  obtain ⟨_, _, μ1, μ2, e', r2, r3, r4⟩ := r1
  cases e'
  rw [RA] at r3
  obtain ⟨_, _, μ3, μ4, e', r5, r6, r7⟩ := r3
  cases e'
  have r5' : R Z F H (.own ds) (.ref a) μ3 := r5
  have r2' : R Z F H d y μ1 := r2
  rw [R] at r5'
  obtain ⟨b, xs, κ, e, h1, h2, h3⟩ := r5'
  cases e
  have one := w1.one a
  have hb := h3 a
  rw [if_pos rfl] at hb
  have e4 := r4 a; have e7 := r7 a
  have one' : μ a + ν a ≤ 1 := one
  have z : μ a = 0 ∧ μ1 a = 0 ∧ μ4 a = 0 ∧ κ a = 0 := by omega
  have keep : ∀ {m : Mu}, m a = 0 → ∀ c, m c ≠ 0 → upd H a (.lst (xs ++ [y])) c = H c := fun hm c n => upd_ne fun q => n (by rw [q]; exact hm)
  refine ⟨xs, h1, h2.len, F, μ, fun c => (μ1 c + μ3 c) + μ4 c, ((w1.put (a := a) (o := .lst (xs ++ [y])) (by show μ a + ν a ≠ 0; omega)).eq fun c => ?_), s1.mono (fun _ _ e => e) (keep z.1), ?_, pn⟩
  · have := r4 c; have := r7 c
    show μ c + (μ1 c + μ3 c + μ4 c) = μ c + ν c
    omega
  · refine RA.push ?_ (r6.mono (fun _ _ e => e) (keep z.2.2.1))
    show R Z F _ (.own (ds ++ [d])) (.ref a) _
    rw [R]
    refine ⟨a, xs ++ [y], fun c => κ c + (μ1 c + 0), rfl, upd_same, RA.app (h2.mono (fun _ _ e => e) (keep z.2.2.2)) (RA.push (r2'.mono (fun _ _ e => e) (keep z.2.1)) RA.z), fun c => ?_⟩
    have := h3 c
    show μ1 c + μ3 c = κ c + (μ1 c + 0) + _
    omega
def compD (vs : List Nat) (h : D → List D → (List D → Prop) → Prop) (ft : List D → (Bool → List D → Prop) → Prop) (fe : List D → (W → List D → Prop) → Prop) (Q : List D → List D → Prop) : List D → List D → List D → Prop
  | [], acc, δ => Q acc (wipeD δ vs)
  | d :: r, acc, δ => h d (wipeD δ vs) fun δ1 => ft δ1 fun b δ2 => if b = true then fe δ2 fun w δ3 => acc.length < sizeLine ∧ compD vs h ft fe Q r (acc ++ [(tk w δ3).1]) (tk w δ3).2 else compD vs h ft fe Q r acc δ2
theorem compD_mo {S : SRel} {vs : List Nat} {gt : TG} {tt : TT} {h : D → List D → (List D → Prop) → Prop} {ft : List D → (Bool → List D → Prop) → Prop} (hg : DG Z E S gt h) (ht : DT Z E tt ft) (he : DO Z E te fe) {Q Q' : List D → List D → Prop} (k : ∀ a δ, Q a δ → Q' a δ) :
    ∀ its acc δ, compD vs h ft fe Q its acc δ → compD vs h ft fe Q' its acc δ
  | [], acc, δ, q => k _ _ q
  | d :: r, acc, δ, q => by
    refine hg.mo _ _ _ _ (fun δ1 q => ht.mo _ _ _ (fun b δ2 q => ?_) q) q
    cases b with
    | true => exact he.mo _ _ _ (fun w δ3 q => ⟨q.1, compD_mo hg ht he k r _ _ q.2⟩) q
    | false => exact compD_mo hg ht he k r _ _ q
theorem wipe_mem {σ : L2.St} {v : Nat} : ∀ {us : List Nat}, v ∈ us → (L2.wipe σ us).set v none = L2.wipe σ us
  | [], h => nomatch h
  | u :: us, h => by
    show ((L2.wipe σ us).set u none).set v none = (L2.wipe σ us).set u none
    by_cases z : v = u
    · rw [z, List.set_set]
    · rw [List.set_comm _ _ (Ne.symm z), wipe_mem ((List.mem_cons.mp h).resolve_left z)]
theorem wipe_fix {τ : L2.St} : ∀ {us : List Nat}, (∀ v ∈ us, (τ : L2.St).set v none = τ) → L2.wipe τ us = τ
  | [], _ => rfl
  | u :: us, hv => by
    show (L2.wipe τ us).set u none = τ
    rw [wipe_fix fun v h => hv v (List.mem_cons_of_mem _ h)]
    exact hv u List.mem_cons_self
theorem wipe_idem (σ : L2.St) (vs : List Nat) : L2.wipe (L2.wipe σ vs) vs = L2.wipe σ vs := wipe_fix fun v hv => wipe_mem hv
theorem wipeD_mem {δ : List D} {v : Nat} : ∀ {us : List Nat}, v ∈ us → (wipeD δ us).set v .hole = wipeD δ us
  | [], h => nomatch h
  | u :: us, h => by
    show ((wipeD δ us).set u .hole).set v .hole = (wipeD δ us).set u .hole
    by_cases z : v = u
    · rw [z, List.set_set]
    · rw [List.set_comm _ _ (Ne.symm z), wipeD_mem ((List.mem_cons.mp h).resolve_left z)]
theorem wipeD_fix {τ : List D} : ∀ {us : List Nat}, (∀ v ∈ us, τ.set v .hole = τ) → wipeD τ us = τ
  | [], _ => rfl
  | u :: us, hv => by
    show (wipeD τ us).set u .hole = τ
    rw [wipeD_fix fun v h => hv v (List.mem_cons_of_mem _ h)]
    exact hv u List.mem_cons_self
theorem wipeD_idem (δ : List D) (vs : List Nat) : wipeD (wipeD δ vs) vs = wipeD δ vs := wipeD_fix fun v hv => wipeD_mem hv
theorem Rel.swap {p q : V × D} (h : Rel Z E (p :: q :: ps) δ σ H) : Rel Z E (q :: p :: ps) δ σ H := by
  obtain ⟨F, μ, ν, w1, s1, r1, pn⟩ := h
  rw [List.map_cons, List.map_cons, RA] at r1
  obtain ⟨_, _, μ1, μ2, e', r2, r3, r4⟩ := r1
  cases e'
  rw [RA] at r3
  obtain ⟨_, _, μ3, μ4, e', r5, r6, r7⟩ := r3
  cases e'
  exact ⟨F, μ, fun a => μ3 a + (μ1 a + μ4 a), w1.eq fun a => by have := r4 a; have := r7 a; show μ a + (μ3 a + (μ1 a + μ4 a)) = μ a + ν a; omega, s1, RA.push r5 (RA.push r2 r6), pn⟩
theorem compD_wipe (vs : List Nat) (h : D → List D → (List D → Prop) → Prop) (ft : List D → (Bool → List D → Prop) → Prop) (fe : List D → (W → List D → Prop) → Prop) (Q : List D → List D → Prop) (its acc : List D) (δ : List D) (q : compD vs h ft fe Q its acc δ) : compD vs h ft fe Q its acc (wipeD δ vs) := by
  cases its with
  | nil => show Q acc (wipeD (wipeD δ vs) vs); rw [wipeD_idem]; exact q
  | cons d r => show h d (wipeD (wipeD δ vs) vs) _; rw [wipeD_idem]; exact q
theorem dYes : DT Z E tYes (fun δ Q => Q true δ) := ⟨fun δ Q Q' k q => k _ _ q, fun ps δ σ H Q r q => q H r⟩
theorem dLc {wi : TI} {gt : TG} {tt : TT} {vs : List Nat} {fi : List D → (List D → List D → Prop) → Prop} {h : D → List D → (List D → Prop) → Prop} {ft : List D → (Bool → List D → Prop) → Prop} (hp : ∀ i ∈ vs, PinFree E i)
    (hi : DI Z E wi fi) (hg : DG Z E (sWipe vs) gt h) (ht : DT Z E tt ft) (he : DO Z E te fe) : DO Z E (tLc wi gt tt te vs) (fun δ Q => fi δ fun its δ1 => compD vs h ft fe (fun acc δ2 => Q (.tmp (.own acc)) δ2) its [] δ1) := by
  refine ⟨fun δ A B k q => hi.mo _ _ _ (fun its δ1 q => compD_mo hg ht he (fun _ _ q => k _ _ q) its _ δ1 q) q, fun ps δ σ H Q r q => hi.run ps δ σ H _ r (hi.mo _ _ _ (fun its δ1 q J px H1 it r1 Dd nD => ?_) q)⟩
  have pn := r1.pins
  have r1' : Rel Z E ((.ref Dd, .own []) :: (px ++ ps)) δ1 σ (upd H1 Dd (.lst [])) := (RelT.nil r1).lst nD
  refine ⟨fun i m H => m = its.length - i ∧ i ≤ its.length ∧ ∃ acc δ, Rel Z E ((.ref Dd, .own acc) :: (px ++ ps)) δ (L2.wipe σ vs) H ∧ compD vs h ft fe (fun acc δ2 => ∀ v H', RelW Z E [.tmp (.own acc)] [v] ps δ2 σ H' → Q v H') (its.drop i) acc δ,
    ⟨its.length, by simp, Nat.zero_le _, [], wipeD δ1 vs, r1'.wipe hp, by rw [List.drop_zero]; exact compD_wipe _ _ _ _ _ _ _ _ q⟩, ?_⟩
  rintro i m H2 ⟨rfl, hl, acc, δ2, r2, q2⟩
  have r2' : Rel Z E (px ++ (.ref Dd, .own acc) :: ps) δ2 (L2.wipe σ vs) H2 := r2.back
  rcases Nat.lt_or_ge i its.length with z | z
  · refine .inr ⟨it.go i _ δ2 _ H2 z r2', fun H3 => ∃ acc δ, Rel Z E ((.ref Dd, .own acc) :: (px ++ ps)) δ (L2.wipe σ vs) H3 ∧ compD vs h ft fe (fun acc δ2 => ∀ v H', RelW Z E [.tmp (.own acc)] [v] ps δ2 σ H' → Q v H') (its.drop (i + 1)) acc δ,
      fun H3 ⟨acc, δ3, r3, q3⟩ => ⟨its.length - (i + 1), by omega, rfl, z, acc, δ3, r3, q3⟩, fun x H3 y => ?_⟩
    rw [List.drop_eq_getElem_cons z] at q2
    have r3 := it.yld i its[i] x _ δ2 _ H2 H3 (List.getElem?_eq_getElem z) r2' y
    have r3' : Rel Z E ((x, its[i]) :: (px ++ (.ref Dd, .own acc) :: ps)) (wipeD δ2 vs) (L2.wipe σ vs) H3 := Rel.unwipe (vs := vs) (by rw [wipe_idem]; exact r3) r3.pins
    refine hg.run _ (wipeD δ2 vs) _ H3 _ x _ r3' (hg.mo _ _ _ _ (fun δ4 q4 σ4 H4 s4 r4 => ?_) q2)
    have s5 : L2.wipe σ4 vs = L2.wipe σ vs := Eq.trans s4 (wipe_idem σ vs)
    refine ⟨s5, ht.run _ δ4 σ4 H4 _ r4 (ht.mo _ _ _ (fun b δ5 q5 H5 r5 => ?_) q4)⟩
    cases b with
    | false =>
      rw [if_neg Bool.false_ne_true] at q5 ⊢
      refine ⟨acc, wipeD δ5 vs, ?_, compD_wipe _ _ _ _ _ _ _ _ q5⟩
      have := (r5.front).wipe hp
      rw [s5] at this; exact this
    | true =>
      rw [if_pos rfl] at q5 ⊢
      refine he.run _ δ5 σ4 H5 _ r5 (he.mo _ _ _ (fun w δ6 ⟨hsz, q6⟩ y H6 r6 => ?_) q5)
      have r7 : Rel Z E ((.ref Dd, .own acc) :: (y, (tk w δ6).1) :: (px ++ ps)) (tk w δ6).2 σ4 H6 := Rel.front (A := (y, (tk w δ6).1) :: px) r6.take
      obtain ⟨xs, e1, e2, r9⟩ := r7.swap.grow
      refine ⟨xs, e1, by rw [e2]; exact hsz, acc ++ [(tk w δ6).1], wipeD (tk w δ6).2 vs, ?_, compD_wipe _ _ _ _ _ _ _ _ q6⟩
      have := r9.wipe hp
      rw [s5] at this; exact this
  · obtain rfl : i = its.length := Nat.le_antisymm hl z
    rw [List.drop_eq_nil_of_le (Nat.le_refl _)] at q2
    refine .inl ⟨it.stop _ δ2 _ H2 r2', q2 _ _ (RelW.of ?_)⟩
    have : Rel Z E ((.ref Dd, .own acc) :: ps) δ2 (L2.wipe σ vs) H2 := Rel.dropN (px := px) r2'
    exact this.unwipe pn
end
end OwnD
namespace OwnD
open PySem PySem.Spec PyProof.Rows L2 Own
/-- a promise by data: what comes of the things handed in, and what they are then -/
abbrev GD := List D → (D → List D → Prop) → Prop
/-- .. closed under asking less -/
def gC (g : GD) : GD := fun ds Q => ∃ Q0 : D → List D → Prop, (∀ d ds', Q0 d ds' → Q d ds') ∧ g ds Q0
theorem gC.of {g : GD} {ds : List D} {Q : D → List D → Prop} (h : g ds Q) : gC g ds Q := ⟨Q, fun _ _ h => h, h⟩
theorem gC.mo {g : GD} {ds : List D} {Q Q' : D → List D → Prop} (k : ∀ d ds', Q d ds' → Q' d ds') (h : gC g ds Q) : gC g ds Q' := by
  obtain ⟨Q0, a, b⟩ := h
  exact ⟨Q0, fun d ds' q => k _ _ (a _ _ q), b⟩
section
variable (Z : Zx)
/-- behind a call -/
structure Aft (F H : Hp) (μ : Mu) (vs : List V) (d : D) (ds' : List D) (v : V) (H' : Hp) : Prop where
  ex : ∃ F' μr μ', Same F' H' ∧ R Z F' H' d v μr ∧ RA Z F' H' ds' vs μ' ∧ (∀ a, μr a + μ' a ≤ 1) ∧ (∀ a, μr a + μ' a ≠ 0 → F' a = none ∧ (μ a ≠ 0 ∨ H a = none)) ∧
    (∀ b o, H b = some o → μ b = 0 → H' b = some o) ∧ (∀ b, H b ≠ none → μ b = 0 → F' b = F b)
def spD (g : GD) : Sp := fun vs H Q _ => ∃ ds F μ, Same F H ∧ RA Z F H ds vs μ ∧ (∀ a, μ a ≤ 1) ∧ (∀ a, μ a ≠ 0 → F a = none) ∧ gC g ds (fun d ds' => ∀ v H', Aft Z F H μ vs d ds' v H' → Q v H')
end
section
variable {Z : Zx} {F F' H H' : Hp} {E : Ent} {ps : Pend} {δ : List D} {σ : L2.St} {ws : List W} {vs : List V} {w : W} {v : V} {d : D} {τ τ' : Mu}
variable {te ta tb tc : TE} {fe fa fb fc : List D → (W → List D → Prop) → Prop} {tA tB : TA} {fA fB : List D → (List W → List D → Prop) → Prop}
/-! ### calls -/
/-- the slots that were lent have their things again -/
def backs : List W → List D → List D → List D
  | .slot i :: ws, d :: ds, δ => backs ws ds (δ.set i d)
  | .tmp _ :: ws, _ :: ds, δ => backs ws ds δ
  | _, _, δ => δ
theorem Rel.slotIn {i : Nat} (h : Rel Z E ((v, d) :: ps) δ σ H) (hv : σ[i]? = some (some v)) : Rel Z E ps (δ.set i d) σ H := by
  obtain ⟨F, μ, ν, w1, s1, r1, pn⟩ := h
  rw [List.map_cons, List.map_cons, RA] at r1
  obtain ⟨_, _, μ1, μ2, e, r2, r3, r4⟩ := r1
  cases e
  by_cases hi : i < δ.length
  · obtain ⟨o, μ3, μ4, e, ro, hm, hput⟩ := s1.split i hi
    have z := hput (F' := F) (H' := H) (d' := d) (o' := some v) (μ' := μ1) (fun _ _ e => e) (fun _ _ => rfl) (.inr ⟨v, rfl, r2⟩)
    have es : σ.set i (some v) = σ := by
      refine List.ext_getElem? fun j => ?_
      by_cases hj : i = j
      · subst hj
        have := (List.getElem?_eq_some_iff.mp hv).1
        rw [List.getElem?_set_self this, hv]
      · rw [List.getElem?_set_ne hj]
    rw [es] at z
    exact ⟨F, _, μ2, w1.le fun a => by have := hm a; have := r4 a; show (μ1 a + μ4 a) + μ2 a ≤ μ a + ν a; omega, z, r3, pn⟩
  · rw [List.set_eq_of_length_le (by omega)]
    exact ⟨F, μ, μ2, w1.le fun a => by have := r4 a; show μ a + μ2 a ≤ μ a + ν a; omega, s1, r3, pn⟩
theorem RelT.backs : ∀ {ws : List W} {ds : List D} {vs : List V} {δ : List D} {ps : Pend}, RelT Z E ds vs ps δ σ H → ws.length = ds.length → slo ws vs σ → Rel Z E ps (backs ws ds δ) σ H
  | [], ds, vs, δ, ps, h, e, s => by
    obtain rfl : ds = [] := List.length_eq_zero_iff.mp e.symm
    obtain ⟨r, hl⟩ := h.zip
    obtain rfl : vs = [] := List.length_eq_zero_iff.mp hl
    exact r
  | w :: ws, [], vs, δ, ps, h, e, s => absurd e (by simp)
  | w :: ws, d :: ds, [], δ, ps, h, e, s => absurd h.zip.2 (by simp)
  | .tmp x :: ws, d :: ds, v :: vs, δ, ps, h, e, s => by
    obtain ⟨r, hl⟩ := h.zip
    have r' : Rel Z E ((v, d) :: (vs.zip ds ++ ps)) δ σ H := r
    exact RelT.backs (ws := ws) (RelT.unzip r'.drop (by simpa using hl)) (by simpa using e) s
  | .slot i :: ws, d :: ds, v :: vs, δ, ps, h, e, s => by
    obtain ⟨r, hl⟩ := h.zip
    have r' : Rel Z E ((v, d) :: (vs.zip ds ++ ps)) δ σ H := r
    exact RelT.backs (ws := ws) (RelT.unzip (r'.slotIn s.1) (by simpa using hl)) (by simpa using e) s.2
theorem tks_len : ∀ (ws : List W) (δ : List D), (tks ws δ).1.length = ws.length
  | [], δ => rfl
  | w :: ws, δ => by
    show (((tk w (tks ws δ).2).1) :: (tks ws δ).1).length = _
    rw [List.length_cons, List.length_cons, tks_len ws δ]
/-- the callee's promise, from here -/
theorem RelW.call {g : GD} {Q : VK} (r : RelW Z E ws vs ps δ σ H) (h : gC g (tks ws δ).1 (fun d ds' => ds'.length = ws.length ∧ ∀ v H', RelW Z E [.tmp d] [v] ps (backs ws ds' (tks ws δ).2) σ H' → Q v H')) : ∀ e, spD Z g vs H Q e := by
  intro e
  obtain ⟨F, μ, κ, ν, w1, s1, k1, r1, pn⟩ := r.takes
  refine ⟨(tks ws δ).1, F, κ, w1.sub, k1, fun a => by have := w1.one a; omega, fun a n => (w1.mine a (by omega)).1, gC.mo (fun d ds' q v H' A => ?_) h⟩
  obtain ⟨F', μr, μ', a1, a2, a3, a4, a5, a6, a7⟩ := A.ex
  obtain ⟨ql, q⟩ := q
  refine q v H' (RelW.of ?_)
  -- what the callee did not have stands as before
  have sF : Same F F' := fun b o e => by
    have hb := w1.sub b o e
    have z : κ b = 0 := Classical.byContradiction fun n => by
      have := (w1.mine b (by show μ b + κ b + ν b ≠ 0; omega)).1
      rw [e] at this; cases this
    rw [a7 b (by rw [hb]; exact fun y => nomatch y) z]; exact e
  have live : ∀ {m : Mu}, (∀ a, m a ≠ 0 → H a ≠ none) → (∀ a, m a ≠ 0 → κ a = 0) → ∀ a, m a ≠ 0 → H' a = H a := fun hl hk a n => by
    cases e : H a with
    | none => exact absurd e (hl a n)
    | some o => exact a6 a o e (hk a n)
  have mk : ∀ a, μ a ≠ 0 → κ a = 0 := fun a n => by have := w1.one a; omega
  have nk : ∀ a, ν a ≠ 0 → κ a = 0 := fun a n => by have := w1.one a; omega
  have s1' := s1.mono sF (live (fun a n => s1.live a n) mk)
  have r1' := r1.mono sF (live (fun a n => r1.live a n) nk)
  -- where the callee's things lie
  have sep : ∀ a, μr a + μ' a ≠ 0 → μ a + ν a = 0 := fun a n => by
    rcases (a5 a n).2 with z | z
    · have := w1.one a; omega
    · have l1 : μ a = 0 := Classical.byContradiction fun m => s1.live a m z
      have l2 : ν a = 0 := Classical.byContradiction fun m => r1.live a m z
      omega
  have W' : Wd E F' H' (fun a => μ a + (μr a + μ' a) + ν a) := by
    refine ⟨a1, fun a => ?_, fun a n => ?_, fun b o e nA => ?_, fun b n nA => ?_⟩
    · have := w1.one a; have := a4 a; have := sep a
      by_cases z : μr a + μ' a = 0
      · omega
      · have := sep a z; omega
    · by_cases z : μr a + μ' a = 0
      · have hm : μ a + ν a ≠ 0 := by omega
        obtain ⟨m1, m2⟩ := w1.mine a (by show μ a + κ a + ν a ≠ 0; omega)
        refine ⟨?_, m2⟩
        have hz : κ a = 0 := by have := w1.one a; omega
        have hl : H a ≠ none := by
          by_cases y : μ a = 0
          · exact r1.live a (by omega)
          · exact s1.live a y
        rw [a7 a hl hz]; exact m1
      · obtain ⟨m1, m2⟩ := a5 a z
        refine ⟨m1, ?_⟩
        rcases m2 with m | m
        · exact (w1.mine a (by show μ a + κ a + ν a ≠ 0; omega)).2
        · cases e : E.H0 a with
          | none => exact .inr rfl
          | some o => exact .inl (Classical.byContradiction fun na => nomatch (w1.fr a o e na).symm.trans m)
    · have hb := w1.fr b o e nA
      refine a6 b o hb (Classical.byContradiction fun n => ?_)
      rcases (w1.mine b (by show μ b + κ b + ν b ≠ 0; omega)).2 with m | m
      · exact nA m
      · rw [m] at e; cases e
    · have hk : κ b = 0 := Classical.byContradiction fun m => by
        rcases (w1.mine b (by show μ b + κ b + ν b ≠ 0; omega)).2 with y | y
        · exact nA y
        · exact n y
      have hb : H b ≠ none := by
        cases e : E.H0 b with
        | none => exact absurd e n
        | some o => rw [w1.fr b o e nA]; exact fun y => nomatch y
      rw [a7 b hb hk]; exact w1.frF b n nA
  have hl := a3.len
  have hl2 := k1.len
  have T : RelT Z E ds' vs ((v, d) :: ps) (tks ws δ).2 σ H' := by
    refine ⟨F', μ, μ', fun a => μr a + ν a, W'.eq fun a => by show μ a + μ' a + (μr a + ν a) = μ a + (μr a + μ' a) + ν a; omega, s1', a3, ?_, pn⟩
    rw [List.map_cons, List.map_cons]
    exact RA.push a2 r1'
  exact T.backs ql.symm r.2.1
def fCall (fA : List D → (List W → List D → Prop) → Prop) (g : GD) (δ : List D) (Q : W → List D → Prop) : Prop :=
  fA δ fun ws δ1 => gC g (tks (ws.map fzW) δ1).1 fun d ds' => ds'.length = ws.length ∧ Q (.tmp d) (backs (ws.map fzW) ds' (tks (ws.map fzW) δ1).2)
theorem dCall {g : GD} {ex : XK} (ha : DA Z E tA fA) : DO Z E (tCall (spD Z g) [] ex tA) (fCall fA g) :=
  ⟨fun δ Q Q' k q => ha.mo _ _ _ (fun ws δ1 q => gC.mo (fun d ds' q => ⟨q.1, k _ _ q.2⟩) q) q, fun ps δ σ H Q r q => ha.run ps δ σ H _ r (ha.mo _ _ _ (fun ws δ1 q vs H1 r1 => by
    show spD Z g (vs ++ []) H1 Q ex
    rw [List.append_nil]
    exact r1.frz.call (gC.mo (fun d ds' q => ⟨by rw [List.length_map]; exact q.1, q.2⟩) q) ex) q)⟩
/-! ### a def by its body -/
def startD (n : Nat) (ds : List D) : List D := ds ++ List.replicate (n - ds.length) .hole
def bkD : List Bool → List D → List D
  | [], _ => []
  | true :: m, d :: δ => d :: bkD m δ
  | false :: m, _ :: δ => .hole :: bkD m δ
  | _ :: m, [] => .hole :: bkD m []
def pinOf : List Bool → List V → List (Option V)
  | true :: m, v :: vs => some v :: pinOf m vs
  | false :: m, _ :: vs => none :: pinOf m vs
  | _, _ => []
theorem pinOf_free : ∀ {m : List Bool} {vs : List V} {i : Nat}, m.getD i false = false → ∀ v, (pinOf m vs)[i]? ≠ some (some v)
  | [], vs, i, h, v => by simp [pinOf]
  | b :: m, [], i, h, v => by cases b <;> simp [pinOf]
  | true :: m, u :: vs, 0, h, v => by simp at h
  | false :: m, u :: vs, 0, h, v => by simp [pinOf]
  | true :: m, u :: vs, i + 1, h, v => by simpa [pinOf] using pinOf_free (m := m) (vs := vs) (i := i) (by simpa using h) v
  | false :: m, u :: vs, i + 1, h, v => by simpa [pinOf] using pinOf_free (m := m) (vs := vs) (i := i) (by simpa using h) v
def endD (m : List Bool) (Q : D → List D → Prop) : EndsD := ⟨fun δ => Q (.fz .none) (bkD m δ), fun d δ => Q d (bkD m δ), fun _ => False, fun _ => False⟩
theorem RS.holes : ∀ (n : Nat), RS Z F H (List.replicate n .hole) (List.replicate n none) (fun _ => 0)
  | 0 => ⟨rfl, fun _ => rfl⟩
  | n + 1 => ⟨none, _, fun _ => 0, fun _ => 0, rfl, .inl ⟨rfl, fun _ => rfl⟩, RS.holes n, fun _ => rfl⟩
theorem RS.ofRA : ∀ {ds : List D} {vs : List V} {μ : Mu} (n : Nat), RA Z F H ds vs μ → RS Z F H (ds ++ List.replicate n .hole) (vs.map some ++ List.replicate n none) μ
  | [], vs, μ, n, h => by
    rw [RA] at h
    obtain ⟨rfl, h⟩ := h
    have e : μ = fun _ => 0 := funext h
    rw [e]; exact RS.holes n
  | d :: ds, vs, μ, n, h => by
    rw [RA] at h
    obtain ⟨v, ws, μ1, μ2, rfl, h1, h2, h3⟩ := h
    exact ⟨some v, _, μ1, μ2, rfl, .inr ⟨v, rfl, h1⟩, RS.ofRA n h2, h3⟩
/-- what the things that were handed in are at the end -/
theorem RS.bk : ∀ {m : List Bool} {δ : List D} {σ : List (Option V)} {vs : List V} {μ : Mu}, RS Z F H δ σ μ → m.length = vs.length → (∀ (j : Nat) (v : V), (pinOf m vs)[j]? = some (some v) → σ[j]? = some (some v)) → ∃ μ', RA Z F H (bkD m δ) vs μ' ∧ ∀ a, μ' a ≤ μ a
  | [], δ, σ, [], μ, h, e, pn => ⟨_, RA.z, fun _ => Nat.zero_le _⟩
  | [], δ, σ, v :: vs, μ, h, e, pn => absurd e (by simp)
  | b :: m, δ, σ, [], μ, h, e, pn => absurd e (by simp)
  | true :: m, [], σ, v :: vs, μ, h, e, pn => by
    have es : σ = [] := h.1
    have := pn 0 v rfl
    rw [es] at this; cases this
  | false :: m, [], σ, v :: vs, μ, h, e, pn => by
    have es : σ = [] := h.1
    subst es
    obtain ⟨μ', q, k⟩ := RS.bk (m := m) (δ := []) (σ := []) (vs := vs) (μ := fun _ => 0) ⟨rfl, fun _ => rfl⟩ (by simpa using e) (fun j u hj => by
      have := pn (j + 1) u (by simpa [pinOf] using hj)
      simp at this)
    exact ⟨_, RA.push R.hole q, fun a => by have := k a; show 0 + μ' a ≤ μ a; omega⟩
  | true :: m, d :: δ, σ, v :: vs, μ, h, e, pn => by
    obtain ⟨o, σ', μ1, μ2, rfl, h1, h2, h3⟩ := h
    obtain ⟨μ', q, k⟩ := RS.bk (m := m) (vs := vs) h2 (by simpa using e) (fun j u hj => by
      have := pn (j + 1) u (by simpa [pinOf] using hj)
      simpa using this)
    have ho : o = some v := by
      have := pn 0 v rfl
      simpa using this
    subst ho
    rcases h1 with ⟨h0, _⟩ | ⟨v', e', h1⟩
    · rw [h0]
      exact ⟨_, RA.push R.hole q, fun a => by have := k a; have := h3 a; show 0 + μ' a ≤ μ a; omega⟩
    · cases e'
      exact ⟨_, RA.push h1 q, fun a => by have := k a; have := h3 a; show μ1 a + μ' a ≤ μ a; omega⟩
  | false :: m, d :: δ, σ, v :: vs, μ, h, e, pn => by
    obtain ⟨o, σ', μ1, μ2, rfl, h1, h2, h3⟩ := h
    obtain ⟨μ', q, k⟩ := RS.bk (m := m) (vs := vs) h2 (by simpa using e) (fun j u hj => by
      have := pn (j + 1) u (by simpa [pinOf] using hj)
      simpa using this)
    exact ⟨_, RA.push R.hole q, fun a => by have := k a; have := h3 a; show 0 + μ' a ≤ μ a; omega⟩
/-- the body's reading, from the promise -/
theorem body_D {N : List Str} {m : List Bool} {n : Nat} {t : TS} {gb : List D → EndsD → Prop} {g : GD} {Q : VK} {e : XK} (hm : m.length = n) (hl : ∀ ds Q, g ds Q → ds.length = n)
    (hd : ∀ E : Ent, (∀ i, m.getD i false = false → PinFree E i) → DS Z E t gb) (hb : ∀ ds Q, g ds Q → gb (startD N.length ds) (endD m Q)) (h : spD Z g vs H Q e) : t { nx := fun _ H' => Q .non H', rt := Q } (L2.start N vs) H := by
  obtain ⟨ds, F, μ, s, r, o, f, Q0, k, q⟩ := h
  have hlen := r.len
  have hn := hl _ _ q
  let E : Ent := ⟨F, H, fun a => μ a ≠ 0, pinOf m vs⟩
  have hds := hd E fun i hi v => pinOf_free hi v
  have r0 : Rel Z E [] (startD N.length ds) (L2.start N vs) H := by
    refine ⟨F, μ, fun _ => 0, ⟨s, fun a => by show μ a + 0 ≤ 1; have := o a; omega, fun a n => ⟨f a (by show μ a ≠ 0; have : μ a + 0 ≠ 0 := n; omega), .inl (by have : μ a + 0 ≠ 0 := n; show μ a ≠ 0; omega)⟩, fun b o e _ => e, fun _ _ _ => rfl⟩, ?_, RA.z, fun j v e => ?_⟩
    · unfold startD L2.start
      rw [hlen]
      exact RS.ofRA _ r
    · have key : ∀ (m : List Bool) (vs : List V) (j : Nat) (v : V), (pinOf m vs)[j]? = some (some v) → vs[j]? = some v := by
        intro m
        induction m with
        | nil => intro vs j v h; simp [pinOf] at h
        | cons b m ih =>
          intro vs j v h
          cases vs with
          | nil => cases b <;> simp [pinOf] at h
          | cons u vs =>
            cases j with
            | zero => cases b <;> simp [pinOf] at h; subst h; rfl
            | succ j =>
              have : (pinOf m vs)[j]? = some (some v) := by cases b <;> simpa [pinOf] using h
              simpa using ih vs j v this
      have hj := key m vs j v e
      unfold L2.start
      have hjl := (List.getElem?_eq_some_iff.mp hj).1
      rw [List.getElem?_append_left (by rw [List.length_map]; exact hjl), List.getElem?_map, hj]; rfl
  have fin : ∀ (d : D) (δ' : List D) (v : V) (σ' : L2.St) (H' : Hp), Q0 d (bkD m δ') → Rel Z E [(v, d)] δ' σ' H' → Q v H' := by
    intro d δ' v σ' H' q0 r'
    obtain ⟨F', μ1, ν, w1, s1, r1, pn⟩ := r'
    rw [List.map_cons, List.map_cons, RA] at r1
    obtain ⟨_, _, μr, μz, e1, r2, r3, r4⟩ := r1
    cases e1
    obtain ⟨μ', b1, b2⟩ := RS.bk s1 (by rw [hm, ← hn, hlen]) pn
    refine k _ _ q0 v H' ⟨F', μr, μ', w1.sub, r2, b1, fun a => ?_, fun a n => ?_, fun b o hb hz => w1.fr b o hb (fun y => y hz), fun b hb hz => w1.frF b hb fun y => y hz⟩
    · have := w1.one a; have := b2 a; have := r4 a; have h1 : μ1 a + ν a ≤ 1 := w1.one a; omega
    · have := b2 a; have := r4 a
      exact w1.mine a (by show μ1 a + ν a ≠ 0; omega)
  refine hds.run [] _ _ H _ r0 (hds.mo _ (endD m Q0) _ ⟨fun δ' q0 σ' H' r' => fin _ δ' _ σ' H' q0 (r'.pushSc scN), fun d δ' q0 v σ' H' r' => fin d δ' v σ' H' q0 r', fun _ h => h.elim, fun _ h => h.elim⟩ (hb _ _ q))
theorem spD_len {g : GD} {n : Nat} {Q : VK} {e : XK} (hl : ∀ ds Q, g ds Q → ds.length = n) (h : spD Z g vs H Q e) : vs.length = n := by
  obtain ⟨ds, F, μ, s, r, o, f, Q0, k, q⟩ := h
  rw [r.len]; exact hl _ _ q
end
section
variable {P : Program} {w : World} {K : PySem.W.Frag} {mg : Str → Option Value} {base : Heap} {Z : Zx}
theorem defO {x qual : Str} {st : Stmt} {f : Addr} {fd : FuncData} {N ps : List Str} {k : Nat} {g : GD} (m : List Bool) (F : Fun K x qual st f fd) (S : FnScope N ps (defScope st)) (hm : m.length = ps.length) (hl : ∀ ds Q, g ds Q → ds.length = ps.length)
    (hbody : ∀ (cdv : Value) (A : Around) (outer : List Env) (s : Shared) (H : Hp) (E : XK), Room k (A.deeper (envOfC qual (defScope st) s.heap.objs.size f cdv)) →
      ∃ t gb, PSs (cxOf CX0 P w K mg base N qual (defScope st) f cdv A outer s H E).nox (defBody st) t ∧ (∀ En : Ent, (∀ i, m.getD i false = false → PinFree En i) → DS Z En t gb) ∧ ∀ ds Q, g ds Q → gb (startD N.length ds) (endD m Q)) : FnOk P w K mg base CX0 (k + 1) f fd ps (spD Z g) :=
  F.ok S (fun vs H Q E h => spD_len hl h) fun cdv A outer s H vs Q E hr h =>
    let ⟨t, gb, h1, h2, h3⟩ := hbody cdv A outer s H E hr
    ⟨t, h1, body_D hm hl h2 h3 h⟩
theorem defG {x qual : Str} {st : Stmt} {f : Addr} {fd : FuncData} {N ps : List Str} {k : Nat} {g : GD} (m : List Bool) (F : Fun K x qual st f fd) (S : FnScope N ps (defScope st)) (hm : m.length = ps.length) (hl : ∀ ds Q, g ds Q → ds.length = ps.length)
    (hbody : ∀ (cdv : Value) (A : Around) (outer : List Env) (s : Shared) (H : Hp) (E : XK), RoomG k (A.deeper (envOfC qual (defScope st) s.heap.objs.size f cdv)) →
      ∃ t gb, PSs (cxOf CX0 P w K mg base N qual (defScope st) f cdv A outer s H E).nox (defBody st) t ∧ (∀ En : Ent, (∀ i, m.getD i false = false → PinFree En i) → DS Z En t gb) ∧ ∀ ds Q, g ds Q → gb (startD N.length ds) (endD m Q)) : FnG P w K mg base CX0 (k + 1) f fd ps (spD Z g) :=
  def_ok F S (fun vs H Q E h => spD_len hl h) fun cdv A outer s H vs Q E hr h =>
    let ⟨t, gb, h1, h2, h3⟩ := hbody cdv A outer s H E hr
    ⟨t, h1, body_D hm hl h2 h3 h⟩
end
end OwnD
namespace OwnD
open PySem PySem.Spec PyProof.Rows L2 Own
section
variable {Z : Zx} {F F' H H' : Hp} {E : Ent} {ps : Pend} {δ : List D} {σ : L2.St} {ws : List W} {vs : List V} {w : W} {v : V} {d : D} {τ τ' : Mu}
variable {te ta tb tc : TE} {fe fa fb fc : List D → (W → List D → Prop) → Prop} {tA tB : TA} {fA fB : List D → (List W → List D → Prop) → Prop}
/-! ### short names -/
theorem dAdd (ha : DO Z E ta fa) (hb : DO Z E tb fb) : DO Z E (tOp (rI0 fun i j => .int (i + j)) ta tb) (fI (fun _ _ => True) (fun i j => .int (i + j)) fa fb) := dI0 _ (fun _ _ => scI _) ha hb
theorem dSub (ha : DO Z E ta fa) (hb : DO Z E tb fb) : DO Z E (tOp (rI0 fun i j => .int (i - j)) ta tb) (fI (fun _ _ => True) (fun i j => .int (i - j)) fa fb) := dI0 _ (fun _ _ => scI _) ha hb
theorem dMul (ha : DO Z E ta fa) (hb : DO Z E tb fb) : DO Z E (tOp (rI CMul fun i j => .int (i * j)) ta tb) (fI CMul (fun i j => .int (i * j)) fa fb) := dI _ (fun _ _ => scI _) ha hb
theorem dFdivW (ha : DO Z E ta fa) (hb : DO Z E tb fb) : DO Z E (tOp (rI CDivW fun i j => .int (i / j)) ta tb) (fI CDivW (fun i j => .int (i / j)) fa fb) := dI _ (fun _ _ => scI _) ha hb
theorem dMod (ha : DO Z E ta fa) (hb : DO Z E tb fb) : DO Z E (tOp (rI (fun _ j => 0 < j) fun i j => .int (i % j)) ta tb) (fI (fun _ j => 0 < j) (fun i j => .int (i % j)) fa fb) := dI _ (fun _ _ => scI _) ha hb
theorem dPowB (ha : DO Z E ta fa) (hb : DO Z E tb fb) : DO Z E (tOp (rI CPowB fun i j => .int (i ^ j.toNat)) ta tb) (fI CPowB (fun i j => .int (i ^ j.toNat)) fa fb) := dI _ (fun _ _ => scI _) ha hb
theorem dLt (ha : DO Z E ta fa) (hb : DO Z E tb fb) : DO Z E (tOp (rI0 fun i j => .bl (decide (i < j))) ta tb) (fI (fun _ _ => True) (fun i j => .bool (decide (i < j))) fa fb) := dI0 _ (fun _ _ => scB _) ha hb
theorem dLe (ha : DO Z E ta fa) (hb : DO Z E tb fb) : DO Z E (tOp (rI0 fun i j => .bl (decide (i ≤ j))) ta tb) (fI (fun _ _ => True) (fun i j => .bool (decide (i ≤ j))) fa fb) := dI0 _ (fun _ _ => scB _) ha hb
theorem dGt (ha : DO Z E ta fa) (hb : DO Z E tb fb) : DO Z E (tOp (rI0 fun i j => .bl (decide (j < i))) ta tb) (fI (fun _ _ => True) (fun i j => .bool (decide (j < i))) fa fb) := dI0 _ (fun _ _ => scB _) ha hb
theorem dGe (ha : DO Z E ta fa) (hb : DO Z E tb fb) : DO Z E (tOp (rI0 fun i j => .bl (decide (j ≤ i))) ta tb) (fI (fun _ _ => True) (fun i j => .bool (decide (j ≤ i))) fa fb) := dI0 _ (fun _ _ => scB _) ha hb
def fNeg (fa : List D → (W → List D → Prop) → Prop) (δ : List D) (Q : W → List D → Prop) : Prop := fa δ fun w δ1 => ∃ i, vw w δ1 = .fz (.int i) ∧ Q (.tmp (.fz (.int (-i)))) δ1
theorem dNeg (ha : DO Z E ta fa) : DO Z E (tUn (rU fun i => .int (-i)) ta) (fNeg fa) :=
  ⟨fun δ Q Q' k q => ha.mo _ _ _ (fun w δ1 ⟨i, a, q⟩ => ⟨i, a, k _ _ q⟩) q, fun ps δ σ H Q r q => ha.run ps δ σ H _ r (ha.mo _ _ _ (fun w δ1 ⟨i, a, q⟩ v H1 r1 => ⟨i, r1.i0 a, q _ _ (r1.sc (scI _))⟩) q)⟩
theorem dLast {t : TS} {g : List D → EndsD → Prop} (h : DS Z E t g) : DS Z E t g := h
theorem dPass : DS Z E tNext (fun δ A => A.nx δ) := dNext
theorem sOk {i : Nat} : ∀ (σ : L2.St) (v : V), sAny.r σ (σ.set i (some v)) := fun _ _ => trivial
theorem pinAll {m : List Bool} (hp : ∀ i, m.getD i false = false → PinFree E i) {vs : List Nat} (h : vs.all (fun i => !m.getD i false) = true) : ∀ i ∈ vs, PinFree E i := fun i hi => hp i (by
  have := List.all_eq_true.mp h i hi
  simpa using this)
/-- a, b = e1, e2 -/
def frB (b : Bool) (d : D) : D := if b then fzD d else d
theorem Rel.frB (b : Bool) (h : Rel Z E ((v, d) :: ps) δ σ H) : Rel Z E ((v, OwnD.frB b d) :: ps) δ σ H := by
  cases b with
  | true => exact h.freeze
  | false => exact h
def fParF (b1 b2 : Bool) (i j : Nat) (fA : List D → (List W → List D → Prop) → Prop) (δ : List D) (A : EndsD) : Prop := fA δ fun ws δ1 => ∃ d1 d2, (tks ws δ1).1 = [d1, d2] ∧ A.nx (((tks ws δ1).2.set i (frB b1 d1)).set j (frB b2 d2))
theorem dParF (b1 b2 : Bool) {i j : Nat} (ha : DA Z E tA fA) (hi : PinFree E i) (hj : PinFree E j) : DS Z E (tPar i j tA) (fParF b1 b2 i j fA) :=
  ⟨fun δ A B k q => ha.mo _ _ _ (fun w δ1 ⟨d1, d2, a, q⟩ => ⟨d1, d2, a, k.nx _ q⟩) q, fun ps δ σ H Dn r q => ha.run ps δ σ H _ r (ha.mo _ _ _ (fun ws δ1 ⟨d1, d2, a, q⟩ vs H1 r1 => by
    have t := r1.takes
    rw [a] at t
    obtain ⟨z, hl⟩ := t.zip
    match vs, hl, z with
    | [v1, v2], _, z =>
      refine ⟨v1, v2, rfl, q _ _ ?_⟩
      have z1 : Rel Z E ((v1, d1) :: (v2, d2) :: ps) (tks ws δ1).2 σ H1 := z
      exact ((z1.frB b1).store hi).frB b2 |>.store hj) q)⟩
/-! ### lists that change -/
theorem RS.own {μ : Mu} {i : Nat} {ds : List D} (s1 : RS Z F H δ σ μ) (e : δ.getD i .hole = .own ds) : ∃ a xs, σ[i]? = some (some (.ref a)) ∧ H a = some (.lst xs) ∧ xs.length = ds.length := by
  obtain ⟨v, μ1, e1, r⟩ := s1.at_ (by rw [e]; exact fun z => nomatch z)
  rw [e, R] at r
  obtain ⟨a, xs, ν, rfl, h1, h2, _⟩ := r
  exact ⟨a, xs, e1, h1, h2.len⟩
def fAppend (i : Nat) (fe : List D → (W → List D → Prop) → Prop) (δ : List D) (Q : W → List D → Prop) : Prop :=
  (∃ ds, δ.getD i .hole = .own ds) ∧ fe δ fun w δ1 => ∃ ds, (tk w δ1).2.getD i .hole = .own ds ∧ ds.length < sizeLine ∧ Q (.tmp (.fz .none)) ((tk w δ1).2.set i (.own (ds ++ [(tk w δ1).1])))
theorem dAppend (i : Nat) (he : DO Z E te fe) : DO Z E (tBM Z.K "list" rAppend (tVar i) (tCons te tNil)) (fAppend i fe) := by
  refine ⟨fun δ Q Q' k ⟨a, q⟩ => ⟨a, he.mo _ _ _ (fun w δ1 ⟨ds, b, c, q⟩ => ⟨ds, b, c, k _ _ q⟩) q⟩, fun ps δ σ H Q r ⟨⟨ds0, e0⟩, q⟩ => ?_⟩
  obtain ⟨F, μ, ν, w1, s1, r1, pn⟩ := id r
  obtain ⟨a, xs, ea, h1, hl⟩ := s1.own e0
  refine ⟨.ref a, ea, .inl ⟨rfl, xs, .inl (.inl h1)⟩, he.run ps δ σ H _ r (he.mo _ _ _ (fun w δ1 ⟨ds, b, c, q⟩ v H1 r2 => ?_) q)⟩
  have t := r2.take
  have o := Rel.slotOut t ea
  rw [b] at o
  obtain ⟨ys, e1, e2, g⟩ := o.swap.grow
  refine ⟨a, ys, v, rfl, rfl, e1, by rw [e2]; exact c, q _ _ (RelW.of ?_)⟩
  have z := g.slotIn ea
  rw [List.set_set] at z
  exact z.pushSc scN
theorem Rel.putL {i : Nat} {ds : List D} {a : Addr} {xs : List V} {ds' : List D} {xs' : List V} (h : Rel Z E ps δ σ H) (ea : σ[i]? = some (some (.ref a))) (e : δ.getD i .hole = .own ds) (h1 : H a = some (.lst xs))
    (k : ∀ F κ, Same F H → RA Z F H ds xs κ → ∃ κ', RA Z F H ds' xs' κ' ∧ ∀ b, κ' b ≤ κ b) : Rel Z E ps (δ.set i (.own ds')) σ (upd H a (.lst xs')) := by
  obtain ⟨F, μ, ν, w1, s1, r1, pn⟩ := h
  by_cases hi : i < δ.length
  · obtain ⟨o, μ1, μ2, e1, ro, hm, hput⟩ := s1.split i hi
    rw [ea] at e1; cases e1
    rcases ro with ⟨h0, _⟩ | ⟨v', e', hr⟩
    · rw [e] at h0; cases h0
    cases e'
    rw [e, R] at hr
    obtain ⟨b, ys, κ, eb, g1, g2, g3⟩ := hr
    cases eb
    rw [h1] at g1; cases g1
    obtain ⟨κ', q1, q2⟩ := k F κ w1.sub g2
    have one := w1.one a
    have g3a := g3 a
    rw [if_pos rfl] at g3a
    have hma := hm a
    have one' : μ a + ν a ≤ 1 := one
    have z : κ a = 0 ∧ μ2 a = 0 ∧ ν a = 0 := by omega
    have z' : κ' a = 0 := by have := q2 a; omega
    have keep : ∀ {m : Mu}, m a = 0 → ∀ c, m c ≠ 0 → upd H a (.lst xs') c = H c := fun hm c n => upd_ne fun q => n (by rw [q]; exact hm)
    have es : σ.set i (some (.ref a)) = σ := by
      refine List.ext_getElem? fun j => ?_
      by_cases hj : i = j
      · subst hj
        have := (List.getElem?_eq_some_iff.mp ea).1
        rw [List.getElem?_set_self this, ea]
      · rw [List.getElem?_set_ne hj]
    have hs := hput (F' := F) (H' := upd H a (.lst xs')) (d' := .own ds') (o' := some (.ref a)) (μ' := fun c => κ' c + (if c = a then 1 else 0)) (fun _ _ e => e) (keep z.2.1) (.inr ⟨_, rfl, by
      rw [R]; exact ⟨a, xs', κ', rfl, upd_same, q1.mono (fun _ _ e => e) (keep z'), fun _ => rfl⟩⟩)
    rw [es] at hs
    refine ⟨F, _, ν, (w1.put (a := a) (o := .lst xs') (by show μ a + ν a ≠ 0; omega)).le fun c => ?_, hs, r1.mono (fun _ _ e => e) (keep z.2.2), pn⟩
    have := hm c; have := g3 c; have := q2 c
    show (κ' c + _) + μ2 c + ν c ≤ μ c + ν c
    omega
  · rw [getD_len hi] at e; cases e
def fExtend (i : Nat) (fe : List D → (W → List D → Prop) → Prop) (δ : List D) (Q : W → List D → Prop) : Prop :=
  (∃ ds, δ.getD i .hole = .own ds) ∧ fe δ fun w δ1 => ∃ ds es, δ1.getD i .hole = .own ds ∧ elL (vw (fzW w) δ1) = some es ∧ ds.length + es.length ≤ sizeLine ∧ Q (.tmp (.fz .none)) (δ1.set i (.own (ds ++ es)))
theorem dExtend (i : Nat) (he : DO Z E te fe) : DO Z E (tBM Z.K "list" rExtend (tVar i) (tCons te tNil)) (fExtend i fe) := by
  refine ⟨fun δ Q Q' k ⟨a, q⟩ => ⟨a, he.mo _ _ _ (fun w δ1 ⟨ds, es, b, c, d, q⟩ => ⟨ds, es, b, c, d, k _ _ q⟩) q⟩, fun ps δ σ H Q r ⟨⟨ds0, e0⟩, q⟩ => ?_⟩
  obtain ⟨F, μ, ν, w1, s1, r1, pn⟩ := id r
  obtain ⟨a, xs, ea, h1, hl⟩ := s1.own e0
  refine ⟨.ref a, ea, .inl ⟨rfl, xs, .inl (.inl h1)⟩, he.run ps δ σ H _ r (he.mo _ _ _ (fun w δ1 ⟨ds, es, b, c, d, q⟩ v H1 r2 => ?_) q)⟩
  have r3 := r2.frz1
  obtain ⟨_, hs, F2, μ2, ν2, w2, s2, r2', pn2⟩ := id r3
  obtain ⟨a2, ys, ea2, h2, hl2⟩ := s2.own b
  rw [ea] at ea2; cases ea2
  obtain ⟨μ3, q3, _⟩ := see_core (k := 0) hs s2 r2' rfl rfl
  obtain ⟨p, zs, e3, h3, g3⟩ := q3.elL w2.sub c
  subst e3
  refine ⟨a, p, ys, zs, rfl, rfl, h2, h3, by rw [hl2, g3.len]; exact d, q _ _ (RelW.of ?_)⟩
  -- what is put behind nothing owns: over one shared part
  obtain ⟨ν', n1, n2⟩ := pnd_rest r2'
  have rr : Rel Z E ps δ1 σ H1 := ⟨F2, μ2, ν', w2.le fun a => by have := n2 a; show μ2 a + ν' a ≤ μ2 a + ν2 a; omega, s2, n1, pn2⟩
  have key : Rel Z E ps (δ1.set i (.own (ds ++ es))) σ (upd H1 a (.lst (ys ++ zs))) := by
    -- share the items along
    have t : RelT Z E es zs ps δ1 σ H1 := ⟨F2, μ2, fun _ => 0, ν', w2.le fun a => by have := n2 a; show μ2 a + 0 + ν' a ≤ μ2 a + ν2 a; omega, s2, g3, n1, pn2⟩
    have grow : ∀ (es : List D) (zs ys : List V) (ds : List D) (δ : List D) (H : Hp), RelT Z E es zs ps δ σ H → δ.getD i .hole = .own ds → H a = some (.lst ys) → Rel Z E ps (δ.set i (.own (ds ++ es))) σ (upd H a (.lst (ys ++ zs))) := by
      intro es
      induction es with
      | nil =>
        intro zs ys ds δ H t e hy
        obtain ⟨z, hl⟩ := t.zip
        obtain rfl : zs = [] := List.length_eq_zero_iff.mp hl
        rw [List.append_nil, List.append_nil]
        exact Rel.putL z ea e hy fun F κ s r => ⟨κ, r, fun _ => Nat.le_refl _⟩
      | cons x es ih =>
        intro zs ys ds δ H t e hy
        obtain ⟨z, hl⟩ := t.zip
        match zs, hl, z with
        | u :: zs, hl, z =>
          have z1 : Rel Z E ((u, x) :: (zs.zip es ++ ps)) δ σ H := z
          have o := z1.slotOut ea
          rw [e] at o
          obtain ⟨ws, e1, e2, g⟩ := o.swap.grow
          rw [hy] at e1; cases e1
          have z2 := g.slotIn ea
          rw [List.set_set] at z2
          have hi : i < δ.length := by
            by_cases hi : i < δ.length
            · exact hi
            · rw [getD_len hi] at e; cases e
          have fin := ih zs (ys ++ [u]) (ds ++ [x]) _ _ (RelT.unzip z2 (by simpa using hl)) (by simp [hi]) upd_same
          rw [List.set_set, upd_upd, List.append_assoc, List.append_assoc] at fin
          exact fin
    exact grow es zs ys ds δ1 H1 t b h2
  exact key.pushSc scN
def fClear (i : Nat) (δ : List D) (Q : W → List D → Prop) : Prop := ∃ ds, δ.getD i .hole = .own ds ∧ Q (.tmp (.fz .none)) (δ.set i (.own []))
theorem dClear (i : Nat) : DO Z E (tBM0 Z.K "list" rClear (tVar i)) (fClear i) := by
  refine ⟨fun δ Q Q' k ⟨ds, a, q⟩ => ⟨ds, a, k _ _ q⟩, fun ps δ σ H Q r ⟨ds, e, q⟩ => ?_⟩
  obtain ⟨F, μ, ν, w1, s1, r1, pn⟩ := id r
  obtain ⟨a, xs, ea, h1, hl⟩ := s1.own e
  exact ⟨.ref a, ea, .inl ⟨rfl, xs, .inl (.inl h1)⟩, a, xs, rfl, rfl, h1, q _ _ (RelW.of (Rel.pushSc (Rel.putL r ea e h1 fun F κ s r => ⟨fun _ => 0, RA.z, fun _ => Nat.zero_le _⟩) scN))⟩
theorem RA.rev : ∀ {ds : List D} {vs : List V} {μ : Mu}, RA Z F H ds vs μ → RA Z F H ds.reverse vs.reverse μ
  | [], vs, μ, h => by
    rw [RA] at h
    obtain ⟨rfl, h⟩ := h
    have e : μ = fun _ => 0 := funext h
    rw [e]; exact RA.z
  | d :: ds, vs, μ, h => by
    rw [RA] at h
    obtain ⟨v, ws, μ1, μ2, rfl, h1, h2, h3⟩ := h
    rw [List.reverse_cons, List.reverse_cons]
    have q := RA.app (RA.rev h2) (RA.push h1 RA.z)
    have e : μ = fun a => μ2 a + (μ1 a + 0) := funext fun a => by have := h3 a; omega
    rw [e]; exact q
def fReverse (i : Nat) (δ : List D) (Q : W → List D → Prop) : Prop := ∃ ds, δ.getD i .hole = .own ds ∧ Q (.tmp (.fz .none)) (δ.set i (.own ds.reverse))
theorem dReverse (i : Nat) : DO Z E (tBM0 Z.K "list" rReverse (tVar i)) (fReverse i) := by
  refine ⟨fun δ Q Q' k ⟨ds, a, q⟩ => ⟨ds, a, k _ _ q⟩, fun ps δ σ H Q r ⟨ds, e, q⟩ => ?_⟩
  obtain ⟨F, μ, ν, w1, s1, r1, pn⟩ := id r
  obtain ⟨a, xs, ea, h1, hl⟩ := s1.own e
  exact ⟨.ref a, ea, .inl ⟨rfl, xs, .inl (.inl h1)⟩, a, xs, rfl, rfl, h1, q _ _ (RelW.of (Rel.pushSc (Rel.putL r ea e h1 fun F κ s r => ⟨κ, r.rev, fun _ => Nat.le_refl _⟩) scN))⟩
/-- xs[i] = e -/
theorem RA.setZ : ∀ {ds : List D} {vs : List V} {μ : Mu} {j : Nat} {u : V} {g : D}, RA Z F H ds vs μ → R Z F H g u (fun _ => 0) → ∃ μ', RA Z F H (ds.set j g) (vs.set j u) μ' ∧ ∀ a, μ' a ≤ μ a
  | [], vs, μ, j, u, g, h, _ => by rw [RA] at h; rw [h.1]; exact ⟨_, by simpa using RA.z, fun _ => Nat.zero_le _⟩
  | d :: ds, vs, μ, 0, u, g, h, hg => by
    rw [RA] at h
    obtain ⟨v, ws, μ1, μ2, rfl, h1, h2, h3⟩ := h
    exact ⟨_, RA.push hg h2, fun a => by have := h3 a; show 0 + μ2 a ≤ μ a; omega⟩
  | d :: ds, vs, μ, j + 1, u, g, h, hg => by
    rw [RA] at h
    obtain ⟨v, ws, μ1, μ2, rfl, h1, h2, h3⟩ := h
    obtain ⟨μ', q, k⟩ := RA.setZ (j := j) h2 hg
    exact ⟨_, RA.push h1 q, fun a => by have := h3 a; have := k a; show μ1 a + μ' a ≤ μ a; omega⟩
/-- a scalar is put at a place -/
def fgSub (i : Nat) (fe : List D → (W → List D → Prop) → Prop) (d : D) (δ : List D) (Q : List D → Prop) : Prop :=
  (∃ ds, δ.getD i .hole = .own ds) ∧ fe δ fun w δ1 => ∃ ds j k n, δ1.getD i .hole = .own ds ∧ d = .fz (.int n) ∧ vw w δ1 = .fz (.int k) ∧ ixN ds.length k = some j ∧ Q (δ1.set i (.own (ds.set j d)))
theorem dgSub {S : SRel} (i : Nat) (he : DO Z E te fe) : DG Z E S (gSub (tVar i) te rSetL) (fgSub i fe) := by
  refine ⟨fun d δ Q Q' k ⟨a, q⟩ => ⟨a, he.mo _ _ _ (fun w δ1 ⟨ds, j, l, n, b, c, d, e, q⟩ => ⟨ds, j, l, n, b, c, d, e, k _ q⟩) q⟩, fun ps δ σ H d v Q r ⟨⟨ds0, e0⟩, q⟩ => ?_⟩
  obtain ⟨F, μ, ν, w1, s1, r1, pn⟩ := id r
  obtain ⟨a, xs, ea, h1, hl⟩ := s1.own e0
  refine ⟨.ref a, ea, he.run _ δ σ H _ r (he.mo _ _ _ (fun w δ1 ⟨ds, j, k, n, b, c, e, f, q⟩ u H1 r2 => ?_) q)⟩
  subst c
  obtain rfl := r2.i0 e
  have r3 := r2.drop
  obtain ⟨F2, μ2, s2, hv⟩ := r3.top
  rw [R] at hv
  obtain rfl := intI hv.1.dp
  obtain ⟨F3, μ3, ν3, w3, s3, r3', pn3⟩ := id r3.drop
  obtain ⟨a2, ys, ea2, h2, hl2⟩ := s3.own b
  rw [ea] at ea2; cases ea2
  refine ⟨a, ys, k, j, rfl, rfl, h2, by rw [hl2]; exact f, q _ _ (S.refl _) (Rel.putL r3.drop ea b h2 fun F κ s r => ?_)⟩
  exact RA.setZ r (R.fz (.int _))
/-! ### truth -/
def fTruth (fe : List D → (W → List D → Prop) → Prop) (δ : List D) (Q : Bool → List D → Prop) : Prop := fe δ fun w δ1 => ∃ b, truD (vw w δ1) = some b ∧ Q b δ1
theorem isEmpty_len {α β : Type} {xs : List α} {ys : List β} (h : xs.length = ys.length) : xs.isEmpty = ys.isEmpty := by
  cases xs <;> cases ys <;> first | rfl | simp at h
theorem R.tru {μ : Mu} {b : Bool} (s : Same F H) (h : R Z F H d v μ) (k : truD d = some b) : TruV Z.K v H b := by
  cases d with
  | fz e =>
    rw [R] at h
    obtain ⟨h, _⟩ := h
    cases h with
    | non => cases k; rfl
    | bl c => cases k; rfl
    | int i => cases k; rfl
    | str x => cases k
    | lst h1 h2 => cases k; exact .inl ⟨_, .inl (.inl (s _ _ h1)), by rw [isEmpty_len h2.len]⟩
    | tup h1 h2 => cases k; exact .inr (.inl ⟨_, Same.tup s h1, by rw [isEmpty_len h2.len]⟩)
  | own ds =>
    cases k
    rw [R] at h
    obtain ⟨a, xs, ν, rfl, h1, h2, _⟩ := h
    exact .inl ⟨xs, .inl (.inl h1), by rw [isEmpty_len h2.len]⟩
  | tup ds =>
    cases k
    rw [R] at h
    obtain ⟨a, xs, ν, rfl, h1, h2, _⟩ := h
    exact .inr (.inl ⟨xs, .inl (.inl h1), by rw [isEmpty_len h2.len]⟩)
  | dct kvs =>
    cases k
    rw [R] at h
    obtain ⟨⟨a, ks, rfl, h1, h2, h3⟩, _⟩ := h
    refine .inr (.inr ⟨ks, s _ _ h1, ?_⟩)
    have e : ks.length = kvs.length := by
      have := congrArg List.length h2
      simpa using this
    rw [isEmpty_len e]
  | _ => cases k
theorem dTruth (he : DO Z E te fe) : DT Z E (fun σ H Q => te σ H fun x H1 => ∃ k, TruV Z.K x H1 k ∧ Q k H1) (fTruth fe) :=
  ⟨fun δ Q Q' k q => he.mo _ _ _ (fun w δ1 ⟨b, a, q⟩ => ⟨b, a, k _ _ q⟩) q, fun ps δ σ H Q r q => he.run ps δ σ H _ r (he.mo _ _ _ (fun w δ1 ⟨b, a, q⟩ v H1 r1 => by
    obtain ⟨F, μ, s, r2⟩ := r1.see (k := 0) rfl rfl
    exact ⟨b, r2.tru s a, q _ r1.drop⟩) q)⟩
/-! ### calls with names -/
theorem RelW.app : ∀ {w1 : List W} {v1 : List V} {ps : Pend} {w2 : List W} {v2 : List V} {δ' : List D} {H' : Hp}, RelW Z E w1 v1 ps δ σ H → RelW Z E w2 v2 (pnd w1 v1 ps) δ' σ H' → RelW Z E (w1 ++ w2) (v1 ++ v2) ps δ' σ H'
  | [], v1, ps, w2, v2, δ', H', h, q => by
    obtain rfl : v1 = [] := by simpa using h.1
    exact q
  | .tmp d :: ws, [], ps, w2, v2, δ', H', h, q => absurd h.1 (by simp)
  | .slot i :: ws, [], ps, w2, v2, δ', H', h, q => absurd h.1 (by simp)
  | .tmp d :: ws, v :: vs, ps, w2, v2, δ', H', h, q => by
    have z := RelW.app (w1 := ws) (v1 := vs) (ps := (v, d) :: ps) (w2 := w2) (v2 := v2) ⟨by simpa using h.1, h.2.1, h.2.2⟩ q
    exact ⟨by simpa using z.1, z.2.1, z.2.2⟩
  | .slot i :: ws, v :: vs, ps, w2, v2, δ', H', h, q => by
    have z := RelW.app (w1 := ws) (v1 := vs) (ps := ps) (w2 := w2) (v2 := v2) ⟨by simpa using h.1, h.2.1.2, h.2.2⟩ q
    exact ⟨by simpa using z.1, ⟨h.2.1.1, z.2.1⟩, z.2.2⟩
def fCallK (n k : Nat) (fA fB : List D → (List W → List D → Prop) → Prop) (g : GD) (δ : List D) (Q : W → List D → Prop) : Prop :=
  fA δ fun ws δ1 => fB δ1 fun us δ2 => ws.length = n ∧ us.length = k ∧ gC g (tks ((ws ++ us).map fzW) δ2).1 fun d ds' => ds'.length = (ws ++ us).length ∧ Q (.tmp d) (backs ((ws ++ us).map fzW) ds' (tks ((ws ++ us).map fzW) δ2).2)
theorem dCallK {n k : Nat} {g : GD} {ex : XK} (ha : DA Z E tA fA) (hb : DA Z E tB fB) : DO Z E (tCallK (spD Z g) (gK n k) ex tA tB) (fCallK n k fA fB g) :=
  ⟨fun δ Q Q' k q => ha.mo _ _ _ (fun ws δ1 q => hb.mo _ _ _ (fun us δ2 ⟨a, b, q⟩ => ⟨a, b, gC.mo (fun d ds' q => ⟨q.1, k _ _ q.2⟩) q⟩) q) q, fun ps δ σ H Q r q => ha.run ps δ σ H _ r (ha.mo _ _ _ (fun ws δ1 q vs H1 r1 => hb.run _ δ1 σ H1 _ r1.2.2 (hb.mo _ _ _ (fun us δ2 ⟨a, b, q⟩ zs H2 r2 => by
    show spD Z g (gK n k vs zs) H2 Q ex
    rw [show gK n k vs zs = vs ++ zs from if_pos ⟨r1.1.trans a, r2.1.trans b⟩]
    exact (r1.app r2).frz.call (gC.mo (fun d ds' q => ⟨by rw [List.length_map]; exact q.1, q.2⟩) q) ex) q)) q)⟩
end
end OwnD
namespace OwnD
open PySem PySem.Spec PyProof.Rows L2 Own
section
variable {Z : Zx} {F F' H H' : Hp} {E : Ent} {ps : Pend} {δ : List D} {σ : L2.St} {ws : List W} {vs : List V} {w : W} {v : V} {d : D} {τ τ' : Mu}
variable {te ta tb tc tv : TE} {fe fa fb fc fv : List D → (W → List D → Prop) → Prop} {tA tB : TA} {fA fB : List D → (List W → List D → Prop) → Prop}
/-! ### what a comprehension makes: a list, a set, a dict -/
/-- how one thing more is put into what is made -/
structure Made (Z : Zx) (E : Ent) (A : Type) (acc : A → D) (put : A → D → Option A) (P : Addr → V → Hp → (Hp → Prop) → Prop) : Prop where
  ok : ∀ {a a' : A} {d : D} {y : V} {Dd : Addr} {ps : Pend} {δ : List D} {σ : L2.St} {H : Hp} {N : Hp → Prop}, put a d = some a' → Rel Z E ((y, d) :: (.ref Dd, acc a) :: ps) δ σ H → (∀ H', Rel Z E ((.ref Dd, acc a') :: ps) δ σ H' → N H') → P Dd y H N
/-- one for: the turns -/
def turnD {A : Type} (put : A → D → Option A) (us : List Nat) (h : D → List D → (List D → Prop) → Prop) (ft : List D → (Bool → List D → Prop) → Prop) (fe : List D → (W → List D → Prop) → Prop) (K : A → List D → Prop) : List D → A → List D → Prop
  | [], a, δ => K a δ
  | d :: r, a, δ => h d (wipeD δ us) fun δ1 => ft δ1 fun b δ2 => if b = true then fe δ2 fun w δ3 => ∃ a', put a (tk w δ3).1 = some a' ∧ turnD put us h ft fe K r a' (tk w δ3).2 else turnD put us h ft fe K r a δ2
theorem turnD_mo {A : Type} {put : A → D → Option A} {S : SRel} {us : List Nat} {gt : TG} {tt : TT} {h : D → List D → (List D → Prop) → Prop} {ft : List D → (Bool → List D → Prop) → Prop} (hg : DG Z E S gt h) (ht : DT Z E tt ft) (he : DO Z E te fe) {K K' : A → List D → Prop} (k : ∀ a δ, K a δ → K' a δ) :
    ∀ its a δ, turnD put us h ft fe K its a δ → turnD put us h ft fe K' its a δ
  | [], a, δ, q => k _ _ q
  | d :: r, a, δ, q => by
    refine hg.mo _ _ _ _ (fun δ1 q => ht.mo _ _ _ (fun b δ2 q => ?_) q) q
    cases b with
    | true => exact he.mo _ _ _ (fun w δ3 ⟨a', p, q⟩ => ⟨a', p, turnD_mo hg ht he k r _ _ q⟩) q
    | false => exact turnD_mo hg ht he k r _ _ q
/-- the turns of one for keep the slots but their own -/
theorem turn_core {A : Type} {acc : A → D} {put : A → D → Option A} {P : Addr → V → Hp → (Hp → Prop) → Prop} (M : Made Z E A acc put P) {J : It} {gt : TG} {tt : TT} {us : List Nat} {h : D → List D → (List D → Prop) → Prop} {ft : List D → (Bool → List D → Prop) → Prop} (hp : ∀ i ∈ us, PinFree E i)
    (hg : DG Z E (sWipe us) gt h) (ht : DT Z E tt ft) (he : DO Z E te fe) {Dd : Addr} {px : Pend} {its : List D} (it : DIt Z E J px its) {a0 : A} {δ0 : List D} {H0 : Hp} {K : A → List D → Prop} {z : Hp → Prop}
    (r0 : Rel Z E ((.ref Dd, acc a0) :: (px ++ ps)) δ0 σ H0) (q0 : turnD put us h ft fe K its a0 δ0) (hz : ∀ a δ H, Rel Z E ((.ref Dd, acc a) :: ps) (wipeD δ us) σ H → K a δ → z H) (hK : ∀ a δ, K a δ → K a (wipeD δ us)) :
    ∃ W : Nat → Nat → Hp → Prop, (∃ m, W 0 m H0) ∧ OwnS.Goes J W z fun N x H => gt x (L2.wipe σ us) H fun σ2 H2 => L2.wipe σ2 us = L2.wipe σ us ∧ tt σ2 H2 fun b H3 => if b = true then te σ2 H3 fun y H4 => P Dd y H4 N else N H3 := by
  have cw : ∀ {its : List D} {a : A} {δ : List D}, turnD put us h ft fe K its a δ → turnD put us h ft fe K its a (wipeD δ us) := by
    intro its a δ q
    cases its with
    | nil => exact hK a δ q
    | cons d r => show h d (wipeD (wipeD δ us) us) _; rw [wipeD_idem]; exact q
  have pn := r0.pins
  refine ⟨fun i m H => m = its.length - i ∧ i ≤ its.length ∧ ∃ a δ, Rel Z E ((.ref Dd, acc a) :: (px ++ ps)) δ (L2.wipe σ us) H ∧ turnD put us h ft fe K (its.drop i) a δ,
    ⟨its.length, by simp, Nat.zero_le _, a0, wipeD δ0 us, r0.wipe hp, by rw [List.drop_zero]; exact cw q0⟩, ?_⟩
  rintro i m H2 ⟨rfl, hl, a, δ2, r2, q2⟩
  have r2' : Rel Z E (px ++ (.ref Dd, acc a) :: ps) δ2 (L2.wipe σ us) H2 := r2.back
  rcases Nat.lt_or_ge i its.length with z1 | z1
  · refine .inr ⟨it.go i _ δ2 _ H2 z1 r2', fun H3 => ∃ a δ, Rel Z E ((.ref Dd, acc a) :: (px ++ ps)) δ (L2.wipe σ us) H3 ∧ turnD put us h ft fe K (its.drop (i + 1)) a δ,
      fun H3 ⟨a, δ3, r3, q3⟩ => ⟨its.length - (i + 1), by omega, rfl, z1, a, δ3, r3, q3⟩, fun x H3 y => ?_⟩
    rw [List.drop_eq_getElem_cons z1] at q2
    have r3 := it.yld i its[i] x _ δ2 _ H2 H3 (List.getElem?_eq_getElem z1) r2' y
    have r3' : Rel Z E ((x, its[i]) :: (px ++ (.ref Dd, acc a) :: ps)) (wipeD δ2 us) (L2.wipe σ us) H3 := Rel.unwipe (vs := us) (by rw [wipe_idem]; exact r3) r3.pins
    refine hg.run _ (wipeD δ2 us) _ H3 _ x _ r3' (hg.mo _ _ _ _ (fun δ4 q4 σ4 H4 s4 r4 => ?_) q2)
    have s5 : L2.wipe σ4 us = L2.wipe σ us := Eq.trans s4 (wipe_idem σ us)
    refine ⟨s5, ht.run _ δ4 σ4 H4 _ r4 (ht.mo _ _ _ (fun b δ5 q5 H5 r5 => ?_) q4)⟩
    cases b with
    | false =>
      rw [if_neg Bool.false_ne_true] at q5 ⊢
      refine ⟨a, wipeD δ5 us, ?_, cw q5⟩
      have := (r5.front).wipe hp
      rw [s5] at this; exact this
    | true =>
      rw [if_pos rfl] at q5 ⊢
      refine he.run _ δ5 σ4 H5 _ r5 (he.mo _ _ _ (fun w δ6 ⟨a', p6, q6⟩ y H6 r6 => ?_) q5)
      have r7 : Rel Z E ((.ref Dd, acc a) :: (y, (tk w δ6).1) :: (px ++ ps)) (tk w δ6).2 σ4 H6 := Rel.front (A := (y, (tk w δ6).1) :: px) r6.take
      refine M.ok p6 r7.swap fun H7 r9 => ⟨a', wipeD (tk w δ6).2 us, ?_, cw q6⟩
      have := r9.wipe hp
      rw [s5] at this; exact this
  · obtain rfl : i = its.length := Nat.le_antisymm hl z1
    rw [List.drop_eq_nil_of_le (Nat.le_refl _)] at q2
    refine .inl ⟨it.stop _ δ2 _ H2 r2', hz a δ2 H2 ?_ q2⟩
    have : Rel Z E ((.ref Dd, acc a) :: ps) δ2 (L2.wipe σ us) H2 := Rel.dropN (px := px) r2'
    exact this.unwipe pn
def putS (xs : List Str) (d : D) : Option (List Str) := match d with
  | .fz (.str k) => if xs.length + 1 < scanBound then some (if k ∈ xs then xs else k :: xs) else none
  | _ => none
theorem madeS : Made Z E (List Str) D.set putS (OwnS.Put Z.w) := by
  refine ⟨fun {a a' d y Dd ps δ σ H N} p r k => ?_⟩
  unfold putS at p
  split at p
  · rename_i x
    by_cases hs : a.length + 1 < scanBound
    · rw [if_pos hs] at p
      cases p
      obtain ⟨F, μ, ν, w1, s1, r1, pn⟩ := r
      rw [List.map_cons, List.map_cons, RA] at r1
      obtain ⟨_, _, μ1, μ2, e', r2, r3, r4⟩ := r1
      cases e'
      rw [RA] at r3
      obtain ⟨_, _, μ3, μ4, e', r5, r6, r7⟩ := r3
      cases e'
      have r2' : R Z F H (.fz (.str x)) y μ1 := r2
      have r5' : R Z F H (.set a) (.ref Dd) μ3 := r5
      rw [R] at r2'
      rw [R] at r5'
      obtain rfl := strI r2'.1.dp
      obtain ⟨b, eb, h1, h2⟩ := r5'
      cases eb
      refine ⟨x, a, rfl, h1, hs, k _ ⟨F, μ, fun c => (if c = Dd then 1 else 0) + μ4 c, ?_, ?_, ?_, pn⟩⟩
      · refine (w1.put (a := Dd) ?_).le fun c => ?_
        · have := h2 Dd; rw [if_pos rfl] at this; have := r4 Dd; have := r7 Dd; show μ Dd + ν Dd ≠ 0; omega
        · have := h2 c; have := r4 c; have := r7 c; show μ c + (_ + μ4 c) ≤ μ c + ν c; omega
      · have one := w1.one Dd
        have := h2 Dd; rw [if_pos rfl] at this; have := r4 Dd; have := r7 Dd
        have one' : μ Dd + ν Dd ≤ 1 := one
        exact s1.mono (fun _ _ e => e) fun c n => upd_ne fun q => n (by rw [q]; omega)
      · have one := w1.one Dd
        have := h2 Dd; rw [if_pos rfl] at this; have := r4 Dd; have := r7 Dd
        have one' : μ Dd + ν Dd ≤ 1 := one
        refine RA.push ?_ (r6.mono (fun _ _ e => e) fun c n => upd_ne fun q => n (by rw [q]; omega))
        show R Z F _ (.set _) (.ref Dd) _
        rw [R]
        exact ⟨Dd, rfl, upd_same, fun _ => rfl⟩
    · rw [if_neg hs] at p; cases p
  · cases p
theorem Rel.newSet {p : Addr} (h : Rel Z E ps δ σ H) (np : H p = none) : Rel Z E ((.ref p, .set []) :: ps) δ σ (upd H p (OwnS.SO Z.w p [])) := by
  obtain ⟨F, μ, ν, w1, s1, r1, pn⟩ := h
  have t1 : μ p = 0 := Classical.byContradiction fun n => s1.live p n np
  have t2 : ν p = 0 := Classical.byContradiction fun n => r1.live p n np
  refine ⟨F, μ, fun a => (if a = p then 1 else 0) + ν a, w1.alloc np (by show μ p + ν p = 0; omega) fun a => by show μ a + (_ + ν a) ≤ μ a + ν a + _; omega, s1.mono (fun _ _ e => e) (upd_keep t1), ?_, pn⟩
  refine RA.push ?_ (r1.mono (fun _ _ e => e) (upd_keep t2))
  rw [R]
  exact ⟨p, rfl, upd_same, fun _ => rfl⟩
def fS1 (us : List Nat) (fi : List D → (List D → List D → Prop) → Prop) (h : D → List D → (List D → Prop) → Prop) (ft : List D → (Bool → List D → Prop) → Prop) (fe : List D → (W → List D → Prop) → Prop) (δ : List D) (Q : W → List D → Prop) : Prop :=
  fi δ fun its δ1 => turnD putS us h ft fe (fun a δ2 => Q (.tmp (.set a)) (wipeD δ2 us)) its [] δ1
theorem dS1 {wi : TI} {gt : TG} {tt : TT} {us : List Nat} {fi : List D → (List D → List D → Prop) → Prop} {h : D → List D → (List D → Prop) → Prop} {ft : List D → (Bool → List D → Prop) → Prop} (hp : ∀ i ∈ us, PinFree E i)
    (hi : DI Z E wi fi) (hg : DG Z E (sWipe us) gt h) (ht : DT Z E tt ft) (he : DO Z E te fe) : DO Z E (OwnS.tS1 Z.w wi gt tt te us) (fS1 us fi h ft fe) := by
  refine ⟨fun δ A B k q => hi.mo _ _ _ (fun its δ1 q => turnD_mo hg ht he (fun _ _ q => k _ _ q) its _ δ1 q) q, fun ps δ σ H Q r q => hi.run ps δ σ H _ r (hi.mo _ _ _ (fun its δ1 q J px H1 it r1 Dd nD => ?_) q)⟩
  exact turn_core madeS hp hg ht he it (r1.newSet nD) q (fun a δ H r q => q _ _ (RelW.of r)) (fun a δ q => by rw [wipeD_idem]; exact q)
/-- two fors -/
def fS2 (vs us : List Nat) (fi : List D → (List D → List D → Prop) → Prop) (h : D → List D → (List D → Prop) → Prop) (ft : List D → (Bool → List D → Prop) → Prop) (fj : List D → (List D → List D → Prop) → Prop) (hj : D → List D → (List D → Prop) → Prop)
    (fu : List D → (Bool → List D → Prop) → Prop) (fe : List D → (W → List D → Prop) → Prop) {A : Type} (put : A → D → Option A) (K : A → List D → Prop) : List D → A → List D → Prop
  | [], a, δ => K a δ
  | d :: r, a, δ => h d (wipeD δ vs) fun δ1 => ft δ1 fun b δ2 => if b = true then fj δ2 (fun js δ3 => turnD put us hj fu fe (fun a δ4 => fS2 vs us fi h ft fj hj fu fe put K r a (wipeD δ4 us)) js a δ3) else fS2 vs us fi h ft fj hj fu fe put K r a δ2
theorem fS2_mo {A : Type} {put : A → D → Option A} {S S' : SRel} {vs us : List Nat} {gt gj : TG} {tt tu : TT} {wj : TI} {fi fj : List D → (List D → List D → Prop) → Prop} {h hj : D → List D → (List D → Prop) → Prop} {ft fu : List D → (Bool → List D → Prop) → Prop}
    (hg : DG Z E S gt h) (ht : DT Z E tt ft) (hjj : DI Z E wj fj) (hgj : DG Z E S' gj hj) (hu : DT Z E tu fu) (he : DO Z E te fe) {K K' : A → List D → Prop} (k : ∀ a δ, K a δ → K' a δ) :
    ∀ its a δ, fS2 vs us fi h ft fj hj fu fe put K its a δ → fS2 vs us fi h ft fj hj fu fe put K' its a δ
  | [], a, δ, q => k _ _ q
  | d :: r, a, δ, q => by
    refine hg.mo _ _ _ _ (fun δ1 q => ht.mo _ _ _ (fun b δ2 q => ?_) q) q
    cases b with
    | true => exact hjj.mo _ _ _ (fun js δ3 q => turnD_mo hgj hu he (fun a δ4 q => fS2_mo hg ht hjj hgj hu he k r _ _ q) js _ _ q) q
    | false => exact fS2_mo hg ht hjj hgj hu he k r _ _ q
theorem turn_core2 {A : Type} {acc : A → D} {put : A → D → Option A} {P : Addr → V → Hp → (Hp → Prop) → Prop} (M : Made Z E A acc put P) {J : It} {wj : TI} {gt gj : TG} {tt tu : TT} {vs us : List Nat} {fi fj : List D → (List D → List D → Prop) → Prop} {h hj : D → List D → (List D → Prop) → Prop} {ft fu : List D → (Bool → List D → Prop) → Prop}
    (hp : ∀ i ∈ vs, PinFree E i) (hpu : ∀ i ∈ us, PinFree E i) (huv : ∀ i ∈ us, i ∈ vs) (hg : DG Z E (sWipe vs) gt h) (ht : DT Z E tt ft) (hjj : DI Z E wj fj) (hgj : DG Z E (sWipe us) gj hj) (hu : DT Z E tu fu) (he : DO Z E te fe) {Dd : Addr} {px : Pend} {its : List D} (it : DIt Z E J px its)
    {a0 : A} {δ0 : List D} {H0 : Hp} {K : A → List D → Prop} {z : Hp → Prop}
    (r0 : Rel Z E ((.ref Dd, acc a0) :: (px ++ ps)) δ0 σ H0) (q0 : fS2 vs us fi h ft fj hj fu fe put K its a0 δ0) (hz : ∀ a δ H, Rel Z E ((.ref Dd, acc a) :: ps) (wipeD δ vs) σ H → K a δ → z H) (hK : ∀ a δ, K a δ → K a (wipeD δ vs)) :
    ∃ W : Nat → Nat → Hp → Prop, (∃ m, W 0 m H0) ∧ OwnS.Goes J W z fun N x H => gt x (L2.wipe σ vs) H fun σ2 H2 => L2.wipe σ2 vs = L2.wipe σ vs ∧ tt σ2 H2 fun b H3 => if b = true then wj σ2 H3 fun J1 H4 => ∃ W1 : Nat → Nat → Hp → Prop, (∃ m, W1 0 m H4) ∧
      OwnS.Goes J1 W1 N (fun N1 x1 H5 => gj x1 (L2.wipe σ2 us) H5 fun σ3 H6 => L2.wipe σ3 us = L2.wipe σ2 us ∧ tu σ3 H6 fun b1 H7 => if b1 = true then te σ3 H7 fun y H8 => P Dd y H8 N1 else N1 H7) else N H3 := by
  have cw : ∀ {its : List D} {a : A} {δ : List D}, fS2 vs us fi h ft fj hj fu fe put K its a δ → fS2 vs us fi h ft fj hj fu fe put K its a (wipeD δ vs) := by
    intro its a δ q
    cases its with
    | nil => exact hK a δ q
    | cons d r => show h d (wipeD (wipeD δ vs) vs) _; rw [wipeD_idem]; exact q
  have wuv : ∀ δ : List D, wipeD (wipeD δ us) vs = wipeD δ vs := by
    intro δ
    have key : ∀ (ks : List Nat) (δ : List D), (∀ i ∈ ks, i ∈ vs) → wipeD (wipeD δ ks) vs = wipeD δ vs := by
      intro ks
      induction ks with
      | nil => intro δ _; rfl
      | cons k ks ih =>
        intro δ hk
        have e : ∀ (ls : List Nat) (δ : List D), wipeD (δ.set k .hole) ls = (wipeD δ ls).set k .hole := by
          intro ls
          induction ls with
          | nil => intro δ; rfl
          | cons u ls ih =>
            intro δ
            show (wipeD (δ.set k .hole) ls).set u .hole = ((wipeD δ ls).set u .hole).set k .hole
            rw [ih δ]
            by_cases z : k = u
            · rw [z]
            · rw [List.set_comm _ _ z]
        show wipeD ((wipeD δ ks).set k .hole) vs = wipeD δ vs
        rw [e, wipeD_mem (hk k List.mem_cons_self)]
        exact ih δ fun i hi => hk i (List.mem_cons_of_mem _ hi)
    exact key us δ huv
  have pn := r0.pins
  refine ⟨fun i m H => m = its.length - i ∧ i ≤ its.length ∧ ∃ a δ, Rel Z E ((.ref Dd, acc a) :: (px ++ ps)) δ (L2.wipe σ vs) H ∧ fS2 vs us fi h ft fj hj fu fe put K (its.drop i) a δ,
    ⟨its.length, by simp, Nat.zero_le _, a0, wipeD δ0 vs, r0.wipe hp, by rw [List.drop_zero]; exact cw q0⟩, ?_⟩
  rintro i m H2 ⟨rfl, hl, a, δ2, r2, q2⟩
  have r2' : Rel Z E (px ++ (.ref Dd, acc a) :: ps) δ2 (L2.wipe σ vs) H2 := r2.back
  rcases Nat.lt_or_ge i its.length with z1 | z1
  · refine .inr ⟨it.go i _ δ2 _ H2 z1 r2', fun H3 => ∃ a δ, Rel Z E ((.ref Dd, acc a) :: (px ++ ps)) δ (L2.wipe σ vs) H3 ∧ fS2 vs us fi h ft fj hj fu fe put K (its.drop (i + 1)) a δ,
      fun H3 ⟨a, δ3, r3, q3⟩ => ⟨its.length - (i + 1), by omega, rfl, z1, a, δ3, r3, q3⟩, fun x H3 y => ?_⟩
    rw [List.drop_eq_getElem_cons z1] at q2
    have r3 := it.yld i its[i] x _ δ2 _ H2 H3 (List.getElem?_eq_getElem z1) r2' y
    have r3' : Rel Z E ((x, its[i]) :: (px ++ (.ref Dd, acc a) :: ps)) (wipeD δ2 vs) (L2.wipe σ vs) H3 := Rel.unwipe (vs := vs) (by rw [wipe_idem]; exact r3) r3.pins
    refine hg.run _ (wipeD δ2 vs) _ H3 _ x _ r3' (hg.mo _ _ _ _ (fun δ4 q4 σ4 H4 s4 r4 => ?_) q2)
    have s5 : L2.wipe σ4 vs = L2.wipe σ vs := Eq.trans s4 (wipe_idem σ vs)
    refine ⟨s5, ht.run _ δ4 σ4 H4 _ r4 (ht.mo _ _ _ (fun b δ5 q5 H5 r5 => ?_) q4)⟩
    cases b with
    | false =>
      rw [if_neg Bool.false_ne_true] at q5 ⊢
      refine ⟨a, wipeD δ5 vs, ?_, cw q5⟩
      have := (r5.front).wipe hp
      rw [s5] at this; exact this
    | true =>
      rw [if_pos rfl] at q5 ⊢
      refine hjj.run _ δ5 σ4 H5 _ r5 (hjj.mo _ _ _ (fun js δ6 q6 J1 py H6 jt r6 => ?_) q5)
      -- the inner for
      have r6' : Rel Z E ((.ref Dd, acc a) :: (py ++ (px ++ ps))) δ6 σ4 H6 := by
        have e : py ++ (px ++ (V.ref Dd, acc a) :: ps) = (py ++ px) ++ (V.ref Dd, acc a) :: ps := by rw [List.append_assoc]
        have e2 : py ++ (px ++ ps) = (py ++ px) ++ ps := by rw [List.append_assoc]
        rw [e] at r6; rw [e2]
        exact Rel.front r6
      refine turn_core M hpu hgj hu he jt r6' q6 (fun a' δ7 H7 r7 q7 => ?_) (fun a' δ7 q7 => by rw [wipeD_idem]; exact q7)
      refine ⟨a', wipeD (wipeD δ7 us) vs, ?_, by rw [wuv]; exact (wuv δ7) ▸ cw q7⟩
      have := r7.wipe hp
      rw [s5] at this; exact this
  · obtain rfl : i = its.length := Nat.le_antisymm hl z1
    rw [List.drop_eq_nil_of_le (Nat.le_refl _)] at q2
    refine .inl ⟨it.stop _ δ2 _ H2 r2', hz a δ2 H2 ?_ q2⟩
    have : Rel Z E ((.ref Dd, acc a) :: ps) δ2 (L2.wipe σ vs) H2 := Rel.dropN (px := px) r2'
    exact this.unwipe pn
theorem dS2 {wi wj : TI} {gt gj : TG} {tt tu : TT} {vs us : List Nat} {fi fj : List D → (List D → List D → Prop) → Prop} {h hj : D → List D → (List D → Prop) → Prop} {ft fu : List D → (Bool → List D → Prop) → Prop} (hp : ∀ i ∈ vs, PinFree E i) (hpu : ∀ i ∈ us, PinFree E i) (huv : ∀ i ∈ us, i ∈ vs)
    (hi : DI Z E wi fi) (hg : DG Z E (sWipe vs) gt h) (ht : DT Z E tt ft) (hjj : DI Z E wj fj) (hgj : DG Z E (sWipe us) gj hj) (hu : DT Z E tu fu) (he : DO Z E te fe) : DO Z E (OwnS.tS2 Z.w wi gt tt wj gj tu te vs us)
      (fun δ Q => fi δ fun its δ1 => fS2 vs us fi h ft fj hj fu fe putS (fun a δ2 => Q (.tmp (.set a)) (wipeD δ2 vs)) its [] δ1) := by
  refine ⟨fun δ A B k q => hi.mo _ _ _ (fun its δ1 q => fS2_mo hg ht hjj hgj hu he (fun _ _ q => k _ _ q) its _ δ1 q) q, fun ps δ σ H Q r q => hi.run ps δ σ H _ r (hi.mo _ _ _ (fun its δ1 q J px H1 it r1 Dd nD => ?_) q)⟩
  exact turn_core2 madeS hp hpu huv hg ht hjj hgj hu he it (r1.newSet nD) q (fun a δ H r q => q _ _ (RelW.of r)) (fun a δ q => by rw [wipeD_idem]; exact q)
/-- a list by two fors -/
def putL (xs : List D) (d : D) : Option (List D) := if xs.length < sizeLine then some (xs ++ [d]) else none
def PutL (Dd : Addr) (y : V) (H : Hp) (N : Hp → Prop) : Prop := ∃ acc, H Dd = some (.lst acc) ∧ acc.length < sizeLine ∧ N (upd H Dd (.lst (acc ++ [y])))
theorem madeL : Made Z E (List D) D.own putL PutL := by
  refine ⟨fun {a a' d y Dd ps δ σ H N} p r k => ?_⟩
  unfold putL at p
  by_cases hs : a.length < sizeLine
  · rw [if_pos hs] at p; cases p
    obtain ⟨xs, e1, e2, r9⟩ := r.grow
    exact ⟨xs, e1, by rw [e2]; exact hs, k _ r9⟩
  · rw [if_neg hs] at p; cases p
theorem dLc2 {wi wj : TI} {gt gj : TG} {tt tu : TT} {vs us : List Nat} {fi fj : List D → (List D → List D → Prop) → Prop} {h hj : D → List D → (List D → Prop) → Prop} {ft fu : List D → (Bool → List D → Prop) → Prop} (hp : ∀ i ∈ vs, PinFree E i) (hpu : ∀ i ∈ us, PinFree E i) (huv : ∀ i ∈ us, i ∈ vs)
    (hi : DI Z E wi fi) (hg : DG Z E (sWipe vs) gt h) (ht : DT Z E tt ft) (hjj : DI Z E wj fj) (hgj : DG Z E (sWipe us) gj hj) (hu : DT Z E tu fu) (he : DO Z E te fe) : DO Z E (tLc2 wi gt tt wj gj tu te vs us)
      (fun δ Q => fi δ fun its δ1 => fS2 vs us fi h ft fj hj fu fe putL (fun a δ2 => Q (.tmp (.own a)) (wipeD δ2 vs)) its [] δ1) := by
  refine ⟨fun δ A B k q => hi.mo _ _ _ (fun its δ1 q => fS2_mo hg ht hjj hgj hu he (fun _ _ q => k _ _ q) its _ δ1 q) q, fun ps δ σ H Q r q => hi.run ps δ σ H _ r (hi.mo _ _ _ (fun its δ1 q J px H1 it r1 Dd nD => ?_) q)⟩
  have r1' : Rel Z E ((.ref Dd, .own []) :: (px ++ ps)) δ1 σ (upd H1 Dd (.lst [])) := (RelT.nil r1).lst nD
  exact turn_core2 madeL hp hpu huv hg ht hjj hgj hu he it r1' q (fun a δ H r q => q _ _ (RelW.of r)) (fun a δ q => by rw [wipeD_idem]; exact q)
end
end OwnD
namespace OwnD
open PySem PySem.Spec PyProof.Rows L2 Own
section
variable {Z : Zx} {F F' H H' : Hp} {E : Ent} {ps : Pend} {δ : List D} {σ : L2.St} {ws : List W} {vs : List V} {w : W} {v : V} {d : D} {τ τ' : Mu}
variable {te ta tb tc tv : TE} {fe fa fb fc fv : List D → (W → List D → Prop) → Prop} {tA tB : TA} {fA fB : List D → (List W → List D → Prop) → Prop}
/-! ### dicts with text keys -/
theorem Dks.val {K : PySem.W.Frag} {ks : List (Key × V)} {kvs : List (Str × PyData)} (h : Dks K F ks kvs) (x : Str) : (kvs.lookup x = none ∧ valV ks (Sum.inr x) = none) ∨ ∃ e v, kvs.lookup x = some e ∧ valV ks (Sum.inr x) = some v ∧ Dq K F v e := by
  obtain ⟨h1, h2⟩ := h
  induction kvs generalizing ks with
  | nil =>
    cases ks with
    | nil => exact .inl ⟨rfl, rfl⟩
    | cons k ks => simp at h1
  | cons p kvs ih =>
    cases ks with
    | nil => simp at h1
    | cons k ks =>
      rw [List.map_cons, List.map_cons, List.cons.injEq] at h1
      rw [List.map_cons, List.map_cons] at h2
      cases h2 with
      | cons a b =>
        obtain ⟨e1, e2⟩ := h1
        by_cases z : x = p.1
        · refine .inr ⟨p.2, k.2, ?_, ?_, a⟩
          · rw [List.lookup_cons, z]; simp
          · unfold valV
            rw [List.find?_cons_of_pos (by simp [e1, z])]; rfl
        · have e3 : (p :: kvs).lookup x = kvs.lookup x := by
            rw [List.lookup_cons]
            have : (x == p.1) = false := by simpa using z
            rw [this]
          have e4 : valV (k :: ks) (Sum.inr x) = valV ks (Sum.inr x) := by
            unfold valV
            rw [List.find?_cons_of_neg (by
              rw [e1, decide_eq_true_eq]
              exact fun q => z (Sum.inr.inj q).symm)]
          rw [e3, e4]
          exact ih e2 b
def gDIn (neg : Bool) (w1 w2 : W) (δ : List D) (Q : W → List D → Prop) : Prop := ∃ x kvs, vw w1 δ = .fz (.str x) ∧ vw w2 δ = .dct kvs ∧ Q (.tmp (.fz (.bool (if neg then !(kvs.lookup x).isSome else (kvs.lookup x).isSome)))) δ
theorem RelW.dct {k : Nat} {kvs : List (Str × PyData)} (h : RelW Z E ws vs ps δ σ H) (e1 : ws[k]? = some w) (e2 : vs[k]? = some v) (q : vw w δ = .dct kvs) : ∃ F a ks, Same F H ∧ v = .ref a ∧ H a = some (.dK ks) ∧ Dks Z.K F ks kvs ∧ ∀ {g : D} {u : V}, R Z F H g u (fun _ => 0) → RelW Z E [.tmp g] [u] ps δ σ H := by
  obtain ⟨F, μ, s, r, k⟩ := h.seeP e1 e2
  rw [q, R] at r
  obtain ⟨⟨a, ks, e, h1, h2⟩, _⟩ := r
  exact ⟨F, a, ks, s, e, s _ _ h1, h2, k⟩
theorem dDIn (neg : Bool) (ha : DO Z E ta fa) (hb : DO Z E tb fb) : DO Z E (if neg then tDNotIn ta tb else tDIn ta tb) (f2 fa fb (gDIn neg)) := by
  refine ⟨fun δ Q Q' k q => ha.mo _ _ _ (fun w δ1 q => hb.mo _ _ _ (fun w2 δ2 ⟨x, kvs, a, b, q⟩ => ⟨x, kvs, a, b, k _ _ q⟩) q) q, fun ps δ σ H Q r0 h => ?_⟩
  have key : ∀ (ex : V) (H1 : Hp) (u : V) (H2 : Hp) (w1 w2 : W) (δ2 : List D), RelW Z E [w1, w2] [ex, u] ps δ2 σ H2 → gDIn neg (fzW w1) (fzW w2) δ2 (fun w δ' => ∀ v H', RelW Z E [w] [v] ps δ' σ H' → Q v H') → ∃ a ov, u = .ref a ∧ DGet H2 a ex ov ∧ Q (.bl (if neg then !ov.isSome else ov.isSome)) H2 := by
    intro ex H1 u H2 w1 w2 δ2 r ⟨x, kvs, a, b, q⟩
    have r2 := r.frz2
    obtain rfl := r2.s0 a
    obtain ⟨F, p, ks, s, rfl, h1, h2, k⟩ := r2.dct (k := 1) rfl rfl b
    refine ⟨p, valV ks (Sum.inr x), rfl, DGet.k (k := Sum.inr x) h1, ?_⟩
    have e : (valV ks (Sum.inr x)).isSome = (kvs.lookup x).isSome := by
      rcases h2.val x with ⟨e1, e2⟩ | ⟨e, v, e1, e2, _⟩ <;> rw [e1, e2] <;> rfl
    rw [e]
    exact q _ _ (r2.sc (scB _))
  cases neg with
  | true =>
    refine ha.run ps δ σ H _ r0 (ha.mo _ _ _ (fun w δ1 h v H1 r1 => hb.run _ δ1 σ H1 _ r1.rel (hb.mo _ _ _ (fun w2 δ2 h u H2 r2 => ?_) h)) h)
    exact key v H1 u H2 w w2 δ2 (r1.cons r2) h
  | false =>
    refine ha.run ps δ σ H _ r0 (ha.mo _ _ _ (fun w δ1 h v H1 r1 => hb.run _ δ1 σ H1 _ r1.rel (hb.mo _ _ _ (fun w2 δ2 h u H2 r2 => ?_) h)) h)
    exact key v H1 u H2 w w2 δ2 (r1.cons r2) h
theorem dDIn0 (ha : DO Z E ta fa) (hb : DO Z E tb fb) : DO Z E (tDIn ta tb) (f2 fa fb (gDIn false)) := dDIn false ha hb
theorem dDIn1 (ha : DO Z E ta fa) (hb : DO Z E tb fb) : DO Z E (tDNotIn ta tb) (f2 fa fb (gDIn true)) := dDIn true ha hb
def gDGet (w1 w2 : W) (δ : List D) (Q : W → List D → Prop) : Prop := ∃ kvs x e, vw w1 δ = .dct kvs ∧ vw w2 δ = .fz (.str x) ∧ kvs.lookup x = some e ∧ Q (.tmp (.fz e)) δ
theorem dDGet (ha : DO Z E ta fa) (hb : DO Z E tb fb) : DO Z E (tDGet ta tb) (f2 fa fb gDGet) :=
  ⟨fun δ Q Q' k q => ha.mo _ _ _ (fun w δ1 q => hb.mo _ _ _ (fun w2 δ2 ⟨x, kvs, e, a, b, c, q⟩ => ⟨x, kvs, e, a, b, c, k _ _ q⟩) q) q, fun ps δ σ H Q r0 h =>
    ha.run ps δ σ H _ r0 (ha.mo _ _ _ (fun w δ1 h v H1 r1 => hb.run _ δ1 σ H1 _ r1.rel (hb.mo _ _ _ (fun w2 δ2 ⟨kvs, x, e, a, b, c, q⟩ u H2 r2 => by
      have r := (r1.cons r2).frz2
      obtain rfl := r.s1 b
      obtain ⟨F, p, ks, s, rfl, h1, h2, k⟩ := r.dct (k := 0) rfl rfl a
      rcases h2.val x with ⟨e1, _⟩ | ⟨e', v, e1, e2, hd⟩
      · rw [c] at e1; cases e1
      · rw [c] at e1; cases e1
        exact ⟨p, v, rfl, by rw [← e2]; exact DGet.k (k := Sum.inr x) h1, q _ _ (k (R.fz hd))⟩) h)) h)⟩
/-- a module's dict, asked by get -/
def gKGet (get : Str → Option PyData) (fe : List D → (W → List D → Prop) → Prop) (δ : List D) (Q : W → List D → Prop) : Prop := fe δ fun w δ1 => ∃ x e, vw w δ1 = .fz (.str x) ∧ get x = some e ∧ Q (.tmp (.fz e)) δ1
theorem dKGet {a : Addr} {get : Str → Option PyData} (hk : ∀ x e, get x = some e → ∃ (r : Option Value) (v : V), PySem.W.nsIn Z.K a x = some r ∧ RelV v (r.getD .none) ∧ Sc v e) (he : DO Z E te fe) : DO Z E (OwnQ.tKGet Z.K a (tC (.ref a)) te) (gKGet get fe) :=
  ⟨fun δ Q Q' k q => he.mo _ _ _ (fun w δ1 ⟨x, e, a, b, q⟩ => ⟨x, e, a, b, k _ _ q⟩) q, fun ps δ σ H Q r q => ⟨rfl, he.run ps δ σ H _ r (he.mo _ _ _ (fun w δ1 ⟨x, e, h1, h2, q⟩ v H1 r1 => by
    obtain ⟨rr, u, k1, k2, k3⟩ := hk x e h2
    exact ⟨x, rr, u, r1.s0 h1, k1, k2, q _ _ (r1.sc k3)⟩) q)⟩⟩
def gBoolT (ws : List W) (δ : List D) (Q : W → List D → Prop) : Prop := ∃ w ds, ws = [w] ∧ elT (vw w δ) = some ds ∧ Q (.tmp (.fz (.bool (!ds.isEmpty)))) δ
theorem dBoolT (ha : DA Z E tA fA) : DO Z E (tCB (fun xs H Q => ∃ (a : Addr) (zs : List V), xs = [.ref a] ∧ SqT Z.K H a zs ∧ Q (.bl (!zs.isEmpty)) H) tA) (fCB fA gBoolT) :=
  dCB (fun ws δ Q Q' k ⟨w, n, a, b, q⟩ => ⟨w, n, a, b, k _ _ q⟩) (fun ws vs ps δ σ H Q r ⟨w, ds, a, b, q⟩ => by
    subst a
    obtain ⟨v, rfl⟩ := r.one
    obtain ⟨p, xs, rfl, h1, h2⟩ := r.elT (k := 0) rfl rfl b
    exact ⟨p, xs, rfl, h1, by rw [isEmpty_len h2]; exact q _ _ (r.sc (scB _))⟩) ha
/-! ### a dict by a comprehension -/
def putD (kvs : List (Str × PyData)) (x : Str) (e : PyData) : List (Str × PyData) := if kvs.any (fun p => decide (p.1 = x)) then kvs.map (fun p => if p.1 = x then (p.1, e) else p) else kvs ++ [(x, e)]
theorem Dks.put {K : PySem.W.Frag} {ks : List (Key × V)} {kvs : List (Str × PyData)} (h : Dks K F ks kvs) {x : Str} {e : PyData} {v : V} (hv : Dq K F v e) : Dks K F (putK ks (Sum.inr x) v) (putD kvs x e) := by
  obtain ⟨h1, h2⟩ := h
  have any_eq : ∀ {ks : List (Key × V)} {kvs : List (Str × PyData)}, ks.map (·.1) = kvs.map (fun p => (Sum.inr p.1 : Key)) → ks.any (fun kv => decide (kv.1 = (Sum.inr x : Key))) = kvs.any (fun p => decide (p.1 = x)) := by
    intro ks
    induction ks with
    | nil => intro kvs h; cases kvs with | nil => rfl | cons _ _ => simp at h
    | cons k ks ih =>
      intro kvs h
      cases kvs with
      | nil => simp at h
      | cons p kvs =>
        rw [List.map_cons, List.map_cons, List.cons.injEq] at h
        rw [List.any_cons, List.any_cons, ih h.2, h.1]
        congr 1
        by_cases z : p.1 = x
        · simp [z]
        · have : ¬ (Sum.inr p.1 : Key) = Sum.inr x := fun q => z (Sum.inr.inj q)
          simp [z, this]
  have ea := any_eq h1
  unfold putK putD
  cases z : kvs.any (fun p => decide (p.1 = x)) with
  | true =>
    rw [ea, z, if_pos rfl, if_pos rfl]
    clear ea z
    induction ks generalizing kvs with
    | nil => cases kvs with | nil => exact ⟨rfl, .nil⟩ | cons _ _ => simp at h1
    | cons k ks ih =>
      cases kvs with
      | nil => simp at h1
      | cons p kvs =>
        rw [List.map_cons, List.map_cons, List.cons.injEq] at h1
        rw [List.map_cons, List.map_cons] at h2
        cases h2 with
        | cons a b =>
          obtain ⟨q1, q2⟩ := ih h1.2 b
          obtain ⟨k1, k2⟩ := k
          obtain ⟨p1, p2⟩ := p
          have e1 : k1 = Sum.inr p1 := h1.1
          subst e1
          by_cases y : p1 = x
          · subst y
            refine ⟨?_, ?_⟩
            · simpa using q1
            · simpa using DqAll.cons hv q2
          · have y2 : ¬ (Sum.inr p1 : Key) = Sum.inr x := fun q => y (Sum.inr.inj q)
            refine ⟨?_, ?_⟩
            · simp only [List.map_cons, if_neg y, if_neg y2]; rw [q1]
            · simp only [List.map_cons, if_neg y, if_neg y2]; exact .cons a q2
  | false =>
    rw [ea, z]
    simp only [Bool.false_eq_true, if_false]
    refine ⟨by rw [List.map_append, List.map_append, h1]; rfl, ?_⟩
    rw [List.map_append, List.map_append]
    have app2 : ∀ {es : List PyData} {vs : List V}, DqAll K F vs es → DqAll K F (vs ++ [v]) (es ++ [_]) := fun {es vs} h => by
      induction es generalizing vs with
      | nil => cases h; exact .cons hv .nil
      | cons _ _ ih => cases h with | cons a b => exact .cons a (ih b)
    exact app2 h2
end
end OwnD
namespace OwnD
open PySem PySem.Spec PyProof.Rows L2 Own
section
variable {Z : Zx} {F F' H H' : Hp} {E : Ent} {ps : Pend} {δ : List D} {σ : L2.St} {ws : List W} {vs : List V} {w : W} {v : V} {d : D} {τ τ' : Mu}
variable {te ta tb tc tv : TE} {fe fa fb fc fv : List D → (W → List D → Prop) → Prop} {tA tB : TA} {fA fB : List D → (List W → List D → Prop) → Prop}
/-- the turns of a dict's comprehension -/
def turnK (us : List Nat) (h : D → List D → (List D → Prop) → Prop) (ft : List D → (Bool → List D → Prop) → Prop) (fk fv : List D → (W → List D → Prop) → Prop) (K : List (Str × PyData) → List D → Prop) : List D → List (Str × PyData) → List D → Prop
  | [], a, δ => K a δ
  | d :: r, a, δ => h d (wipeD δ us) fun δ1 => ft δ1 fun b δ2 => if b = true then fk δ2 fun w δ3 => fv δ3 fun u δ4 => ∃ x e, vw w δ4 = .fz (.str x) ∧ vw (fzW u) δ4 = .fz e ∧ a.length < sizeLine ∧ turnK us h ft fk fv K r (putD a x e) δ4 else turnK us h ft fk fv K r a δ2
theorem turnK_mo {S : SRel} {us : List Nat} {gt : TG} {tt : TT} {tk tv : TE} {h : D → List D → (List D → Prop) → Prop} {ft : List D → (Bool → List D → Prop) → Prop} (hg : DG Z E S gt h) (ht : DT Z E tt ft) (hk : DO Z E tk fe) (hv : DO Z E tv fv) {K K' : List (Str × PyData) → List D → Prop} (k : ∀ a δ, K a δ → K' a δ) :
    ∀ its a δ, turnK us h ft fe fv K its a δ → turnK us h ft fe fv K' its a δ
  | [], a, δ, q => k _ _ q
  | d :: r, a, δ, q => by
    refine hg.mo _ _ _ _ (fun δ1 q => ht.mo _ _ _ (fun b δ2 q => ?_) q) q
    cases b with
    | true => exact hk.mo _ _ _ (fun w δ3 q => hv.mo _ _ _ (fun u δ4 ⟨x, e, p1, p2, p3, q⟩ => ⟨x, e, p1, p2, p3, turnK_mo hg ht hk hv k r _ _ q⟩) q) q
    | false => exact turnK_mo hg ht hk hv k r _ _ q
theorem Rel.newDict {p : Addr} (h : Rel Z E ps δ σ H) (np : H p = none) : Rel Z E ((.ref p, .odc []) :: ps) δ σ (upd H p (.dK [])) := by
  obtain ⟨F, μ, ν, w1, s1, r1, pn⟩ := h
  have t1 : μ p = 0 := Classical.byContradiction fun n => s1.live p n np
  have t2 : ν p = 0 := Classical.byContradiction fun n => r1.live p n np
  refine ⟨F, μ, fun a => (if a = p then 1 else 0) + ν a, w1.alloc np (by show μ p + ν p = 0; omega) fun a => by show μ a + (_ + ν a) ≤ μ a + ν a + _; omega, s1.mono (fun _ _ e => e) (upd_keep t1), ?_, pn⟩
  refine RA.push ?_ (r1.mono (fun _ _ e => e) (upd_keep t2))
  rw [R]
  exact ⟨p, [], rfl, upd_same, ⟨rfl, .nil⟩, fun _ => rfl⟩
theorem Rel.putDict {a : List (Str × PyData)} {Dd : Addr} {x : Str} {e : PyData} {y : V} (r : Rel Z E ((y, .fz e) :: (.ref Dd, .odc a) :: ps) δ σ H) : ∃ ks, H Dd = some (.dK ks) ∧ ks.length = a.length ∧ Rel Z E ((.ref Dd, .odc (putD a x e)) :: ps) δ σ (upd H Dd (.dK (putK ks (Sum.inr x) y))) := by
  obtain ⟨F, μ, ν, w1, s1, r1, pn⟩ := r
  rw [List.map_cons, List.map_cons, RA] at r1
  obtain ⟨_, _, μ1, μ2, e', r2, r3, r4⟩ := r1
  cases e'
  rw [RA] at r3
  obtain ⟨_, _, μ3, μ4, e', r5, r6, r7⟩ := r3
  cases e'
  have r2' : R Z F H (.fz e) y μ1 := r2
  have r5' : R Z F H (.odc a) (.ref Dd) μ3 := r5
  rw [R] at r2'
  rw [R] at r5'
  obtain ⟨b, ks, eb, h1, h3, h2⟩ := r5'
  cases eb
  have hD := h2 Dd
  rw [if_pos rfl] at hD
  have r4D := r4 Dd; have r7D := r7 Dd
  have one' : μ Dd + ν Dd ≤ 1 := w1.one Dd
  refine ⟨ks, h1, by have := congrArg List.length h3.1; simpa using this, F, μ, fun c => (if c = Dd then 1 else 0) + μ4 c, ?_, ?_, ?_, pn⟩
  · refine (w1.put (a := Dd) (by show μ Dd + ν Dd ≠ 0; omega)).le fun c => ?_
    have := h2 c; have := r4 c; have := r7 c; show μ c + (_ + μ4 c) ≤ μ c + ν c; omega
  · exact s1.mono (fun _ _ e => e) fun c n => upd_ne fun q => n (by rw [q]; omega)
  · refine RA.push ?_ (r6.mono (fun _ _ e => e) fun c n => upd_ne fun q => n (by rw [q]; omega))
    show R Z F _ (.odc _) (.ref Dd) _
    rw [R]
    exact ⟨Dd, _, rfl, upd_same, h3.put r2'.1, fun _ => rfl⟩
theorem dDc {wi : TI} {gt : TG} {tt : TT} {tk tv : TE} {us : List Nat} {fi : List D → (List D → List D → Prop) → Prop} {h : D → List D → (List D → Prop) → Prop} {ft : List D → (Bool → List D → Prop) → Prop} (hp : ∀ i ∈ us, PinFree E i)
    (hi : DI Z E wi fi) (hg : DG Z E (sWipe us) gt h) (ht : DT Z E tt ft) (hk : DO Z E tk fe) (hv : DO Z E tv fv) : DO Z E (tDc wi gt tt tk tv us) (fun δ Q => fi δ fun its δ1 => turnK us h ft fe fv (fun a δ2 => Q (.tmp (.odc a)) (wipeD δ2 us)) its [] δ1) := by
  refine ⟨fun δ A B k q => hi.mo _ _ _ (fun its δ1 q => turnK_mo hg ht hk hv (fun _ _ q => k _ _ q) its _ δ1 q) q, fun ps δ σ H Q r q => hi.run ps δ σ H _ r (hi.mo _ _ _ (fun its δ1 q J px H1 it r1 Dd nD => ?_) q)⟩
  have pn := r1.pins
  have cw : ∀ {its : List D} {a : List (Str × PyData)} {δ : List D}, turnK us h ft fe fv (fun a δ2 => ∀ v H', RelW Z E [.tmp (.odc a)] [v] ps (wipeD δ2 us) σ H' → Q v H') its a δ → turnK us h ft fe fv (fun a δ2 => ∀ v H', RelW Z E [.tmp (.odc a)] [v] ps (wipeD δ2 us) σ H' → Q v H') its a (wipeD δ us) := by
    intro its a δ q
    cases its with
    | nil => show ∀ v H', RelW Z E [.tmp (.odc a)] [v] ps (wipeD (wipeD δ us) us) σ H' → Q v H'; rw [wipeD_idem]; exact q
    | cons d r => show h d (wipeD (wipeD δ us) us) _; rw [wipeD_idem]; exact q
  refine ⟨fun i m H => m = its.length - i ∧ i ≤ its.length ∧ ∃ a δ, Rel Z E ((.ref Dd, .odc a) :: (px ++ ps)) δ (L2.wipe σ us) H ∧ turnK us h ft fe fv (fun a δ2 => ∀ v H', RelW Z E [.tmp (.odc a)] [v] ps (wipeD δ2 us) σ H' → Q v H') (its.drop i) a δ,
    ⟨its.length, by simp, Nat.zero_le _, [], wipeD δ1 us, (r1.newDict nD).wipe hp, by rw [List.drop_zero]; exact cw q⟩, ?_⟩
  rintro i m H2 ⟨rfl, hl, a, δ2, r2, q2⟩
  have r2' : Rel Z E (px ++ (.ref Dd, .odc a) :: ps) δ2 (L2.wipe σ us) H2 := r2.back
  rcases Nat.lt_or_ge i its.length with z1 | z1
  · refine .inr ⟨it.go i _ δ2 _ H2 z1 r2', fun H3 => ∃ a δ, Rel Z E ((.ref Dd, .odc a) :: (px ++ ps)) δ (L2.wipe σ us) H3 ∧ turnK us h ft fe fv (fun a δ2 => ∀ v H', RelW Z E [.tmp (.odc a)] [v] ps (wipeD δ2 us) σ H' → Q v H') (its.drop (i + 1)) a δ,
      fun H3 ⟨a, δ3, r3, q3⟩ => ⟨its.length - (i + 1), by omega, rfl, z1, a, δ3, r3, q3⟩, fun x H3 y => ?_⟩
    rw [List.drop_eq_getElem_cons z1] at q2
    have r3 := it.yld i its[i] x _ δ2 _ H2 H3 (List.getElem?_eq_getElem z1) r2' y
    have r3' : Rel Z E ((x, its[i]) :: (px ++ (.ref Dd, .odc a) :: ps)) (wipeD δ2 us) (L2.wipe σ us) H3 := Rel.unwipe (vs := us) (by rw [wipe_idem]; exact r3) r3.pins
    refine hg.run _ (wipeD δ2 us) _ H3 _ x _ r3' (hg.mo _ _ _ _ (fun δ4 q4 σ4 H4 s4 r4 => ?_) q2)
    have s5 : L2.wipe σ4 us = L2.wipe σ us := Eq.trans s4 (wipe_idem σ us)
    refine ⟨s5, ht.run _ δ4 σ4 H4 _ r4 (ht.mo _ _ _ (fun b δ5 q5 H5 r5 => ?_) q4)⟩
    cases b with
    | false =>
      rw [if_neg Bool.false_ne_true] at q5 ⊢
      refine ⟨a, wipeD δ5 us, ?_, cw q5⟩
      have := (r5.front).wipe hp
      rw [s5] at this; exact this
    | true =>
      rw [if_pos rfl] at q5 ⊢
      refine hk.run _ δ5 σ4 H5 _ r5 (hk.mo _ _ _ (fun w δ6 q6 y H6 r6 => hv.run _ δ6 σ4 H6 _ r6.rel (hv.mo _ _ _ (fun u δ7 ⟨x, e, p1, p2, p3, q7⟩ z H7 r7 => ?_) q6)) q5)
      have rr := r6.cons r7
      obtain rfl := rr.s0 p1
      have r8 : Rel Z E ((z, .fz e) :: (px ++ (.ref Dd, .odc a) :: ps)) δ7 σ4 H7 := by
        have h1 := r7.walked p2
        have h2 : Rel Z E ((z, .fz e) :: pnd [w] [V.str x] (px ++ (.ref Dd, .odc a) :: ps)) δ7 σ4 H7 := h1
        cases w with
        | slot i => exact h2
        | tmp d => exact (Rel.swap h2).drop
      have r9 : Rel Z E ((.ref Dd, .odc a) :: (z, .fz e) :: (px ++ ps)) δ7 σ4 H7 := Rel.front (A := (z, .fz e) :: px) r8
      obtain ⟨ks, e1, e2, r10⟩ := Rel.putDict (x := x) r9.swap
      refine ⟨ks, Sum.inr x, rfl, e1, by rw [e2]; exact p3, putD a x e, wipeD δ7 us, ?_, cw q7⟩
      have := r10.wipe hp
      rw [s5] at this; exact this
  · obtain rfl : i = its.length := Nat.le_antisymm hl z1
    rw [List.drop_eq_nil_of_le (Nat.le_refl _)] at q2
    refine .inl ⟨it.stop _ δ2 _ H2 r2', q2 _ _ (RelW.of ?_)⟩
    have : Rel Z E ((.ref Dd, .odc a) :: ps) δ2 (L2.wipe σ us) H2 := Rel.dropN (px := px) r2'
    exact this.unwipe pn
/-! ### instances -/
def fldD (d : D) (c : Nat) (f : Str) : Option D := match d with
  | .obj c' ns ds => if c' = c then (ns.zip ds).lookup f else none
  | .ob c' ns es => if c' = c then (ns.zip (es.map D.fz)).lookup f else none
  | _ => none
theorem RA.look : ∀ {ns : List Str} {ds : List D} {vs : List V} {μ : Mu} {f : Str} {g : D}, RA Z F H ds vs μ → (ns.zip ds).lookup f = some g → ∃ u μ1, (ns.zip vs).lookup f = some u ∧ R Z F H g u μ1 ∧ ∀ a, μ1 a ≤ μ a
  | [], _, _, _, _, _, _, e => by simp at e
  | n :: ns, [], _, _, _, _, _, e => by simp at e
  | n :: ns, d :: ds, vs, μ, f, g, h, e => by
    rw [RA] at h
    obtain ⟨v, ws, μ1, μ2, rfl, h1, h2, h3⟩ := h
    rw [List.zip_cons_cons, List.lookup_cons] at e
    rw [List.zip_cons_cons, List.lookup_cons]
    cases z : f == n with
    | true => rw [z] at e; cases e; exact ⟨v, μ1, rfl, h1, fun a => by have := h3 a; omega⟩
    | false =>
      rw [z] at e
      obtain ⟨u, μ3, q1, q2, q3⟩ := RA.look (ns := ns) h2 e
      exact ⟨u, μ3, q1, q2, fun a => by have := h3 a; have := q3 a; omega⟩
theorem R.fld {μ : Mu} {c : Nat} {f : Str} {g : D} (s : Same F H) (h : R Z F H d v μ) (k : fldD d c f = some g) : ∃ a dx fs u μ1, v = .ref a ∧ H a = some (.ins (Z.cls c) dx fs) ∧ fs.lookup f = some u ∧ R Z F H g u μ1 ∧ ∀ b, μ1 b ≤ μ b := by
  cases d with
  | obj c' ns ds =>
    unfold fldD at k
    by_cases z : c' = c
    · subst z
      have k : (ns.zip ds).lookup f = some g := by simpa using k
      rw [R] at h
      obtain ⟨a, dx, vs, ν, e, h1, h0, h2, h3⟩ := h
      obtain ⟨u, μ1, q1, q2, q3⟩ := RA.look h2 k
      exact ⟨a, dx, _, u, μ1, e, h1, q1, q2, fun b => by have := h3 b; have := q3 b; omega⟩
    · simp [z] at k
  | ob c' ns es =>
    unfold fldD at k
    by_cases z : c' = c
    · subst z
      have k : (ns.zip (es.map D.fz)).lookup f = some g := by simpa using k
      rw [R] at h
      obtain ⟨⟨a, dx, vs, e, h1, h0, h2⟩, _⟩ := h
      obtain ⟨u, μ1, q1, q2, q3⟩ := RA.look (RA.fzs (H := H) h2) k
      exact ⟨a, dx, _, u, μ1, e, s _ _ h1, q1, q2, fun b => by have := q3 b; omega⟩
    · simp [z] at k
  | _ => simp [fldD] at k
def fFld (c : Nat) (f : Str) (fe : List D → (W → List D → Prop) → Prop) (δ : List D) (Q : W → List D → Prop) : Prop :=
  fe δ fun w δ1 => ∃ g, fldD (vw w δ1) c f = some g ∧ (match w with | .tmp _ => True | .slot _ => shr g = true) ∧ Q (.tmp g) δ1
theorem dFld {f : Str} (c : Nat) (hc : Cls Z.K (Z.cls c)) (hn : NoAttr Z.K (Z.cls c) f) (he : DO Z E te fe) : DO Z E (tFld Z.K te f) (fFld c f fe) :=
  ⟨fun δ Q Q' k q => he.mo _ _ _ (fun w δ1 ⟨g, a, b, q⟩ => ⟨g, a, b, k _ _ q⟩) q, fun ps δ σ H Q r q => he.run ps δ σ H _ r (he.mo _ _ _ (fun w δ1 ⟨g, a, b, q⟩ v H1 r1 => by
    cases w with
    | slot i =>
      obtain ⟨F, μ, s, r2, k⟩ := r1.seeP (k := 0) rfl rfl
      obtain ⟨p, dx, fs, u, μ1, e, h1, h2, h3, _⟩ := r2.fld s a
      exact ⟨p, Z.cls c, dx, fs, u, e, h1, hc, hn, h2, q _ _ (k (h3.shared b))⟩
    | tmp d =>
      have r3 : Rel Z E ((v, d) :: ps) δ1 σ H1 := r1.2.2
      obtain ⟨F, μ, ν, w1, s1, rr, pn⟩ := r3
      rw [List.map_cons, List.map_cons, RA] at rr
      obtain ⟨_, _, μ1, μ2, e', r4, r5, r6⟩ := rr
      cases e'
      obtain ⟨p, dx, fs, u, μ3, e, h1, h2, h3, h4⟩ := R.fld w1.sub r4 a
      refine ⟨p, Z.cls c, dx, fs, u, e, h1, hc, hn, h2, q _ _ (RelW.of ⟨F, μ, _, w1.le fun b => ?_, s1, RA.push h3 r5, pn⟩)⟩
      have := h4 b; have := r6 b
      show μ b + (μ3 b + μ2 b) ≤ μ b + ν b
      omega) q)⟩
/-- self.f = e -/
def putO (f : Str) (d : D) : List Str → List D → List Str × List D
  | n :: ns, x :: xs => if n = f then (n :: ns, d :: xs) else (n :: (putO f d ns xs).1, x :: (putO f d ns xs).2)
  | _, _ => ([f], [d])
theorem putO_ok {f : Str} {g : D} {u : V} {μ0 : Mu} : ∀ {ns : List Str} {ds : List D} {vs : List V} {μ : Mu}, RA Z F H ds vs μ → ns.length = vs.length → R Z F H g u μ0 →
    ∃ vs' μ', putF f u (ns.zip vs) = (putO f g ns ds).1.zip vs' ∧ vs'.length = (putO f g ns ds).1.length ∧ RA Z F H (putO f g ns ds).2 vs' μ' ∧ ∀ a, μ' a ≤ μ a + μ0 a
  | [], ds, vs, μ, h, e, hg => by
    have : vs = [] := List.length_eq_zero_iff.mp e.symm
    subst this
    have q : RA Z F H [g] [u] (fun a => μ0 a + 0) := RA.push hg RA.z
    exact ⟨[u], _, rfl, rfl, q, fun a => by show μ0 a + 0 ≤ _; omega⟩
  | n :: ns, ds, [], μ, h, e, hg => absurd e (by simp)
  | n :: ns, [], v :: vs, μ, h, e, hg => by rw [RA] at h; cases h.1
  | n :: ns, d :: ds, v :: vs, μ, h, e, hg => by
    rw [RA] at h
    obtain ⟨_, _, μ1, μ2, e', h1, h2, h3⟩ := h
    cases e'
    unfold putO
    rw [List.zip_cons_cons]
    by_cases z : n = f
    · rw [if_pos z]
      refine ⟨u :: vs, _, ?_, by simpa using e.symm, RA.push hg h2, fun a => by have := h3 a; show μ0 a + μ2 a ≤ _; omega⟩
      show (if n = f then (n, u) :: ns.zip vs else _) = _
      rw [if_pos z]; rfl
    · rw [if_neg z]
      obtain ⟨vs', μ', q1, q2, q3, q4⟩ := putO_ok (ns := ns) (f := f) h2 (by simpa using e) hg
      refine ⟨v :: vs', _, ?_, by simpa using q2, RA.push h1 q3, fun a => by have := h3 a; have := q4 a; show μ1 a + μ' a ≤ _; omega⟩
      show (if n = f then _ else (n, v) :: putF f u (ns.zip vs)) = _
      rw [if_neg z, q1]; rfl
def fSetF (i c : Nat) (f : Str) (fe : List D → (W → List D → Prop) → Prop) (δ : List D) (A : EndsD) : Prop :=
  fe δ fun w δ1 => ∃ ns ds, (tk w δ1).2.getD i .hole = .obj c ns ds ∧ ns.length < 1000 ∧ A.nx ((tk w δ1).2.set i (.obj c (putO f (tk w δ1).1 ns ds).1 (putO f (tk w δ1).1 ns ds).2))
theorem dSetF {f : Str} (i c : Nat) (hc : Cls Z.K (Z.cls c)) (hn : NoAttr Z.K (Z.cls c) f) (he : DO Z E te fe) : DS Z E (sFld Z.K (tVar i) te f) (fSetF i c f fe) := by
  refine ⟨fun δ A B k q => he.mo _ _ _ (fun w δ1 ⟨ns, ds, a, b, q⟩ => ⟨ns, ds, a, b, k.nx _ q⟩) q, fun ps δ σ H Dn r q => he.run ps δ σ H _ r (he.mo _ _ _ (fun w δ1 ⟨ns, ds, a, b, q⟩ y H1 r1 => ?_) q)⟩
  have r2 := r1.take
  generalize (tk w δ1).1 = g at r2 a b q
  generalize (tk w δ1).2 = δ2 at r2 a b q
  obtain ⟨F, μ, ν, w1, s1, rr, pn⟩ := r2
  rw [List.map_cons, List.map_cons, RA] at rr
  obtain ⟨_, _, μ1, μ2, e', r4, r5, r6⟩ := rr
  cases e'
  by_cases hi : i < δ2.length
  · obtain ⟨o, μ3, μ4, e, ro, hm, hput⟩ := s1.split i hi
    rcases ro with ⟨h0, _⟩ | ⟨v', e', hr⟩
    · rw [a] at h0; cases h0
    subst e'
    rw [a, R] at hr
    obtain ⟨p, dx, vs, κ, rfl, g1, g0, g2, g3⟩ := hr
    obtain ⟨vs', κ', q1, q2, q3, q4⟩ := putO_ok (f := f) g2 g0.symm r4
    have one : μ p + ν p ≤ 1 := w1.one p
    have e3 := g3 p; rw [if_pos rfl] at e3
    have e6 := r6 p; have em := hm p
    have z : κ p = 0 ∧ μ4 p = 0 ∧ μ1 p = 0 ∧ μ2 p = 0 := by omega
    have z' : κ' p = 0 := by have := q4 p; have h1 : μ1 p = 0 := z.2.2.1; omega
    refine ⟨.ref p, e, p, Z.cls c, dx, ns.zip vs, rfl, g1, hc, hn, by rw [List.length_zip]; omega, q _ _ ?_⟩
    have keep : ∀ {m : Mu}, m p = 0 → ∀ c', m c' ≠ 0 → upd H1 p (.ins (Z.cls c) dx (putF f y (ns.zip vs))) c' = H1 c' := fun hm c' n => upd_ne fun q => n (by rw [q]; exact hm)
    have es : σ.set i (some (.ref p)) = σ := by
      refine List.ext_getElem? fun j => ?_
      by_cases hj : i = j
      · subst hj
        have := (List.getElem?_eq_some_iff.mp e).1
        rw [List.getElem?_set_self this, e]
      · rw [List.getElem?_set_ne hj]
    have hs := hput (F' := F) (H' := upd H1 p (.ins (Z.cls c) dx (putF f y (ns.zip vs)))) (d' := .obj c (putO f g ns ds).1 (putO f g ns ds).2) (o' := some (.ref p)) (μ' := fun c' => κ' c' + (if c' = p then 1 else 0)) (fun _ _ e => e) (keep z.2.1) (.inr ⟨_, rfl, by
      rw [R]; exact ⟨p, dx, vs', κ', rfl, by rw [upd_same, q1], q2, q3.mono (fun _ _ e => e) (keep z'), fun _ => rfl⟩⟩)
    rw [es] at hs
    refine ⟨F, _, μ2, (w1.put (a := p) (by show μ p + ν p ≠ 0; omega)).le fun b => ?_, hs, r5.mono (fun _ _ e => e) (keep z.2.2.2), pn⟩
    have := hm b; have := g3 b; have := q4 b; have := r6 b
    show (κ' b + _) + μ4 b + μ2 b ≤ μ b + ν b
    omega
  · rw [getD_len hi] at a; cases a
end
end OwnD
namespace OwnD
open PySem PySem.Spec PyProof.Rows L2 Own
section
variable {Z : Zx} {F F' H H' : Hp} {E : Ent} {ps : Pend} {δ : List D} {σ : L2.St} {ws : List W} {vs : List V} {w : W} {v : V} {d : D} {τ τ' : Mu}
variable {te ta tb tc tv : TE} {fe fa fb fc fv : List D → (W → List D → Prop) → Prop} {tA tB : TA} {fA fB : List D → (List W → List D → Prop) → Prop}
/-! ### a list that is an attribute -/
def rpl (f : Str) (g : D) : List Str → List D → List D
  | n :: ns, d :: ds => if f == n then g :: ds else d :: rpl f g ns ds
  | _, ds => ds
theorem RA.cut : ∀ {ns : List Str} {ds : List D} {vs : List V} {μ : Mu} {f : Str} {g : D}, RA Z F H ds vs μ → (ns.zip ds).lookup f = some g → ∃ u μ1 μ2, (ns.zip vs).lookup f = some u ∧ R Z F H g u μ1 ∧ RA Z F H (rpl f (.ptr u) ns ds) vs μ2 ∧ ∀ a, μ a = μ1 a + μ2 a
  | [], _, _, _, _, _, _, e => by simp at e
  | n :: ns, [], _, _, _, _, _, e => by simp at e
  | n :: ns, d :: ds, vs, μ, f, g, h, e => by
    rw [RA] at h
    obtain ⟨v, ws, μ1, μ2, rfl, h1, h2, h3⟩ := h
    rw [List.zip_cons_cons, List.lookup_cons] at e
    rw [List.zip_cons_cons, List.lookup_cons]
    unfold rpl
    cases z : f == n with
    | true =>
      rw [z] at e; cases e
      refine ⟨v, μ1, _, rfl, h1, RA.push (μ1 := fun _ => 0) (by rw [R]; exact ⟨rfl, fun _ => rfl⟩) h2, fun a => by have := h3 a; show μ a = μ1 a + (0 + μ2 a); omega⟩
    | false =>
      rw [z] at e
      obtain ⟨u, μ3, μ4, q1, q2, q3, q4⟩ := RA.cut (ns := ns) h2 e
      exact ⟨u, μ3, _, q1, q2, RA.push h1 q3, fun a => by have := h3 a; have := q4 a; show μ a = μ3 a + (μ1 a + μ4 a); omega⟩
theorem RA.join : ∀ {ns : List Str} {ds : List D} {vs : List V} {μ μ0 : Mu} {f : Str} {g : D} {u : V}, RA Z F H (rpl f (.ptr u) ns ds) vs μ → (∃ x, (ns.zip ds).lookup f = some x) → R Z F H g u μ0 → RA Z F H (rpl f g ns ds) vs (fun a => μ a + μ0 a) ∧ (ns.zip vs).lookup f = some u
  | [], _, _, _, _, _, _, _, _, ⟨_, e⟩, _ => by simp at e
  | n :: ns, [], _, _, _, _, _, _, _, ⟨_, e⟩, _ => by simp at e
  | n :: ns, d :: ds, vs, μ, μ0, f, g, u, h, ⟨x, e⟩, hg => by
    unfold rpl at h ⊢
    rw [List.zip_cons_cons, List.lookup_cons] at e
    cases z : f == n with
    | true =>
      rw [z, if_pos rfl] at h
      rw [if_pos rfl]
      rw [RA] at h
      obtain ⟨v, ws, μ1, μ2, rfl, h1, h2, h3⟩ := h
      rw [R] at h1
      obtain ⟨rfl, h1⟩ := h1
      refine ⟨?_, by rw [List.zip_cons_cons, List.lookup_cons, z]⟩
      have q := RA.push hg h2
      have e : (fun a => μ0 a + μ2 a) = fun a => μ a + μ0 a := funext fun a => by have := h3 a; have := h1 a; omega
      rw [← e]; exact q
    | false =>
      rw [z, if_neg Bool.false_ne_true] at h
      rw [if_neg Bool.false_ne_true]
      rw [z] at e
      rw [RA] at h
      obtain ⟨v, ws, μ1, μ2, rfl, h1, h2, h3⟩ := h
      obtain ⟨q1, q2⟩ := RA.join (ns := ns) h2 ⟨x, e⟩ hg
      refine ⟨?_, by rw [List.zip_cons_cons, List.lookup_cons, z]; exact q2⟩
      have q := RA.push h1 q1
      have e : (fun a => μ1 a + (μ2 a + μ0 a)) = fun a => μ a + μ0 a := funext fun a => by have := h3 a; omega
      rw [← e]; exact q
/-- the instance aside, the attribute aside -/
theorem Rel.cutF {p : V} {c : Nat} {ns : List Str} {ds : List D} {f : Str} {g : D} (h : Rel Z E ((p, .obj c ns ds) :: ps) δ σ H) (e : (ns.zip ds).lookup f = some g) :
    ∃ a dx fs u, p = .ref a ∧ H a = some (.ins (Z.cls c) dx fs) ∧ fs.lookup f = some u ∧ Rel Z E ((u, g) :: (p, .obj c ns (rpl f (.ptr u) ns ds)) :: ps) δ σ H := by
  obtain ⟨F, μ, ν, w1, s1, r1, pn⟩ := h
  rw [List.map_cons, List.map_cons, RA] at r1
  obtain ⟨_, _, μ1, μ2, e', r2, r3, r4⟩ := r1
  cases e'
  have r2' : R Z F H (.obj c ns ds) p μ1 := r2
  rw [R] at r2'
  obtain ⟨a, dx, vs, κ, rfl, g1, g0, g2, g3⟩ := r2'
  obtain ⟨u, κ1, κ2, q1, q2, q3, q4⟩ := RA.cut g2 e
  refine ⟨a, dx, _, u, rfl, g1, q1, F, μ, fun b => κ1 b + ((κ2 b + (if b = a then 1 else 0)) + μ2 b), w1.eq fun b => ?_, s1, RA.push q2 (RA.push ?_ r3), pn⟩
  · have := g3 b; have := q4 b; have := r4 b
    show μ b + (κ1 b + ((κ2 b + _) + μ2 b)) = μ b + ν b
    omega
  · show R Z F H (.obj c ns _) (.ref a) _
    rw [R]
    exact ⟨a, dx, vs, κ2, rfl, g1, g0, q3, fun _ => rfl⟩
theorem Rel.joinF {p : V} {c : Nat} {ns : List Str} {ds : List D} {f : Str} {g : D} {u : V} (h : Rel Z E ((u, g) :: (p, .obj c ns (rpl f (.ptr u) ns ds)) :: ps) δ σ H) (e : ∃ x, (ns.zip ds).lookup f = some x) : Rel Z E ((p, .obj c ns (rpl f g ns ds)) :: ps) δ σ H := by
  obtain ⟨F, μ, ν, w1, s1, r1, pn⟩ := h
  rw [List.map_cons, List.map_cons, RA] at r1
  obtain ⟨_, _, μ1, μ2, e', r2, r3, r4⟩ := r1
  cases e'
  rw [RA] at r3
  obtain ⟨_, _, μ3, μ4, e', r5, r6, r7⟩ := r3
  cases e'
  have r5' : R Z F H (.obj c ns (rpl f (.ptr u) ns ds)) p μ3 := r5
  rw [R] at r5'
  obtain ⟨a, dx, vs, κ, rfl, g1, g0, g2, g3⟩ := r5'
  obtain ⟨q1, q2⟩ := RA.join g2 e r2
  refine ⟨F, μ, fun b => ((κ b + μ1 b) + (if b = a then 1 else 0)) + μ4 b, w1.eq fun b => ?_, s1, RA.push ?_ r6, pn⟩
  · have := g3 b; have := r4 b; have := r7 b
    show μ b + (((κ b + μ1 b) + _) + μ4 b) = μ b + ν b
    omega
  · show R Z F H (.obj c ns _) (.ref a) _
    rw [R]
    exact ⟨a, dx, vs, _, rfl, g1, g0, q1, fun _ => rfl⟩
def fAppF (i c : Nat) (f : Str) (fe : List D → (W → List D → Prop) → Prop) (δ : List D) (Q : W → List D → Prop) : Prop :=
  ∃ ns ds xs, δ.getD i .hole = .obj c ns ds ∧ (ns.zip ds).lookup f = some (.own xs) ∧ fe (δ.set i .hole) fun w δ1 => xs.length < sizeLine ∧ Q (.tmp (.fz .none)) ((tk w δ1).2.set i (.obj c ns (rpl f (.own (xs ++ [(tk w δ1).1])) ns ds)))
theorem dAppendF {f : Str} (i c : Nat) (hc : Cls Z.K (Z.cls c)) (hn : NoAttr Z.K (Z.cls c) f) (he : DO Z E te fe) : DO Z E (tBM Z.K "list" rAppend (tFld Z.K (tVar i) f) (tCons te tNil)) (fAppF i c f fe) := by
  refine ⟨fun δ Q Q' k ⟨ns, ds, xs, a, b, q⟩ => ⟨ns, ds, xs, a, b, he.mo _ _ _ (fun w δ1 ⟨c, q⟩ => ⟨c, k _ _ q⟩) q⟩, fun ps δ σ H Q r ⟨ns, ds, xs, a, b, q⟩ => ?_⟩
  have sl : ∃ p, σ[i]? = some (some p) := by
    obtain ⟨F, μ, ν, w1, s1, r1, pn⟩ := id r
    obtain ⟨v, μ1, e1, _⟩ := s1.at_ (i := i) (by rw [a]; exact fun z => nomatch z)
    exact ⟨v, e1⟩
  obtain ⟨p, ep⟩ := sl
  have o := Rel.slotOut r ep
  rw [a] at o
  obtain ⟨ad, dx, fs, u, rfl, g1, g2, o2⟩ := o.cutF b
  obtain ⟨F, μ, s, ru⟩ := o2.top
  have ru' := ru
  rw [R] at ru'
  obtain ⟨la, ys, κ, rfl, h1, h2, _⟩ := ru'
  refine ⟨.ref ad, ep, ad, Z.cls c, dx, fs, _, rfl, g1, hc, hn, g2, .inl ⟨rfl, ys, .inl (.inl h1)⟩, he.run _ _ σ H _ o2 (he.mo _ _ _ (fun w δ1 ⟨c2, q⟩ y H1 r1 => ?_) q)⟩
  obtain ⟨zs, e1, e2, r3⟩ := r1.take.grow
  refine ⟨la, zs, y, rfl, rfl, e1, by rw [e2]; exact c2, q _ _ (RelW.of ?_)⟩
  exact ((r3.joinF ⟨_, b⟩).slotIn ep).pushSc scN
def fExtF (i c : Nat) (f : Str) (fe : List D → (W → List D → Prop) → Prop) (δ : List D) (Q : W → List D → Prop) : Prop :=
  ∃ ns ds xs, δ.getD i .hole = .obj c ns ds ∧ (ns.zip ds).lookup f = some (.own xs) ∧ fe (δ.set i .hole) fun w δ1 => ∃ es, elL (vw (fzW w) δ1) = some es ∧ xs.length + es.length ≤ sizeLine ∧ Q (.tmp (.fz .none)) (δ1.set i (.obj c ns (rpl f (.own (xs ++ es)) ns ds)))
theorem Rel.growN : ∀ {es : List D} {zs ys : List V} {ds : List D} {a : Addr} {H : Hp}, RelT Z E es zs ((.ref a, .own ds) :: ps) δ σ H → H a = some (.lst ys) → Rel Z E ((.ref a, .own (ds ++ es)) :: ps) δ σ (upd H a (.lst (ys ++ zs)))
  | [], zs, ys, ds, a, H, t, hy => by
    obtain ⟨z, hl⟩ := t.zip
    obtain rfl : zs = [] := List.length_eq_zero_iff.mp hl
    rw [List.append_nil, List.append_nil]
    have e : upd H a (.lst ys) = H := by
      funext b; unfold upd; split
      · rename_i e; rw [e, hy]
      · rfl
    rw [e]; exact z
  | x :: es, zs, ys, ds, a, H, t, hy => by
    obtain ⟨z, hl⟩ := t.zip
    match zs, hl, z with
    | u :: zs, hl, z =>
      have z1 : Rel Z E ((u, x) :: (zs.zip es ++ (.ref a, .own ds) :: ps)) δ σ H := z
      have z2 : Rel Z E ((u, x) :: (.ref a, .own ds) :: (zs.zip es ++ ps)) δ σ H := (Rel.front (A := (u, x) :: zs.zip es) z1).swap
      obtain ⟨ws, e1, e2, g⟩ := z2.grow
      rw [hy] at e1; cases e1
      have g2 : Rel Z E (zs.zip es ++ (.ref a, .own (ds ++ [x])) :: ps) δ σ (upd H a (.lst (ys ++ [u]))) := g.back
      have fin := Rel.growN (ys := ys ++ [u]) (RelT.unzip g2 (by simpa using hl)) upd_same
      rw [upd_upd, List.append_assoc, List.append_assoc] at fin
      exact fin
theorem dExtendF {f : Str} (i c : Nat) (hc : Cls Z.K (Z.cls c)) (hn : NoAttr Z.K (Z.cls c) f) (he : DO Z E te fe) : DO Z E (tBM Z.K "list" rExtend (tFld Z.K (tVar i) f) (tCons te tNil)) (fExtF i c f fe) := by
  refine ⟨fun δ Q Q' k ⟨ns, ds, xs, a, b, q⟩ => ⟨ns, ds, xs, a, b, he.mo _ _ _ (fun w δ1 ⟨es, c, d, q⟩ => ⟨es, c, d, k _ _ q⟩) q⟩, fun ps δ σ H Q r ⟨ns, ds, xs, a, b, q⟩ => ?_⟩
  have sl : ∃ p, σ[i]? = some (some p) := by
    obtain ⟨F, μ, ν, w1, s1, r1, pn⟩ := id r
    obtain ⟨v, μ1, e1, _⟩ := s1.at_ (i := i) (by rw [a]; exact fun z => nomatch z)
    exact ⟨v, e1⟩
  obtain ⟨p, ep⟩ := sl
  have o := Rel.slotOut r ep
  rw [a] at o
  obtain ⟨ad, dx, fs, u, rfl, g1, g2, o2⟩ := o.cutF b
  obtain ⟨F, μ, s, ru⟩ := o2.top
  have ru' := ru
  rw [R] at ru'
  obtain ⟨la, ys, κ, rfl, h1, h2, _⟩ := ru'
  refine ⟨.ref ad, ep, ad, Z.cls c, dx, fs, _, rfl, g1, hc, hn, g2, .inl ⟨rfl, ys, .inl (.inl h1)⟩, he.run _ _ σ H _ o2 (he.mo _ _ _ (fun w δ1 ⟨es, c2, c3, q⟩ y H1 r1 => ?_) q)⟩
  have r3 := r1.frz1
  obtain ⟨_, hs, F2, μ2, ν2, w2, s2, r2', pn2⟩ := id r3
  obtain ⟨μ3, q3, _⟩ := see_core (k := 0) hs s2 r2' rfl rfl
  obtain ⟨q0, zs, e3, h3, g3⟩ := q3.elL w2.sub c2
  subst e3
  obtain ⟨ν', n1, n2⟩ := pnd_rest r2'
  have t : RelT Z E es zs ((.ref la, .own xs) :: (.ref ad, .obj c ns (rpl f (.ptr (.ref la)) ns ds)) :: ps) δ1 σ H1 := ⟨F2, μ2, fun _ => 0, ν', w2.le fun a => by have := n2 a; show μ2 a + 0 + ν' a ≤ μ2 a + ν2 a; omega, s2, g3, n1, pn2⟩
  obtain ⟨F4, μ4, s4, ru4⟩ := r1.drop.top
  rw [R] at ru4
  obtain ⟨la', ys', κ', el, h1', h2', _⟩ := ru4
  cases el
  refine ⟨la, q0, ys', zs, rfl, rfl, h1', h3, by rw [h2'.len, g3.len]; exact c3, q _ _ (RelW.of ?_)⟩
  exact (((Rel.growN t h1').joinF ⟨_, b⟩).slotIn ep).pushSc scN
def fLenF (i c : Nat) (f : Str) (δ : List D) (Q : W → List D → Prop) : Prop := ∃ g n, fldD (δ.getD i .hole) c f = some g ∧ lenD g = some n ∧ Q (.tmp (.fz (.int n))) δ
theorem dLenF {f : Str} (i c : Nat) (hc : Cls Z.K (Z.cls c)) (hn : NoAttr Z.K (Z.cls c) f) : DO Z E (tCB (fun xs H Q => ∃ p ys, xs = [.ref p] ∧ (SqL Z.K H p ys ∨ SqT Z.K H p ys) ∧ Q (.int ys.length) H) (tCons (tFld Z.K (tVar i) f) tNil)) (fLenF i c f) := by
  refine ⟨fun δ Q Q' k ⟨g, n, a, b, q⟩ => ⟨g, n, a, b, k _ _ q⟩, fun ps δ σ H Q r ⟨g, n, a, b, q⟩ => ?_⟩
  obtain ⟨F, μ, ν, w1, s1, r1, pn⟩ := id r
  obtain ⟨v, μ1, e1, hv⟩ := s1.at_ (i := i) (by intro z; rw [z] at a; simp [fldD] at a)
  obtain ⟨p, dx, fs, u, μ2, rfl, h1, h2, h3, _⟩ := hv.fld w1.sub a
  obtain ⟨p2, ys, rfl, h4, h5⟩ := h3.lenD w1.sub b
  refine ⟨_, e1, p, Z.cls c, dx, fs, _, rfl, h1, hc, hn, h2, p2, ys, rfl, h4, ?_⟩
  rw [h5]
  exact q _ _ (RelW.of (r.pushSc (scI _)))
/-! ### methods -/
/-- the callee's promise, what was handed in being at hand still -/
theorem RelW.call0 {g : GD} {Q : VK} (r : RelW Z E ws vs ps δ σ H) (h : gC g (tks ws δ).1 (fun d ds' => ds'.length = ws.length ∧ ∀ v H', RelT Z E ds' vs ((v, d) :: ps) (tks ws δ).2 σ H' → Q v H')) : ∀ e, spD Z g vs H Q e := by
  intro e
  obtain ⟨F, μ, κ, ν, w1, s1, k1, r1, pn⟩ := r.takes
  refine ⟨(tks ws δ).1, F, κ, w1.sub, k1, fun a => by have := w1.one a; omega, fun a n => (w1.mine a (by omega)).1, gC.mo (fun d ds' q v H' A => ?_) h⟩
  obtain ⟨F', μr, μ', a1, a2, a3, a4, a5, a6, a7⟩ := A.ex
  obtain ⟨ql, q⟩ := q
  refine q v H' ?_
  have sF : Same F F' := fun b o e => by
    have hb := w1.sub b o e
    have z : κ b = 0 := Classical.byContradiction fun n => by
      have := (w1.mine b (by show μ b + κ b + ν b ≠ 0; omega)).1
      rw [e] at this; cases this
    rw [a7 b (by rw [hb]; exact fun y => nomatch y) z]; exact e
  have live : ∀ {m : Mu}, (∀ a, m a ≠ 0 → H a ≠ none) → (∀ a, m a ≠ 0 → κ a = 0) → ∀ a, m a ≠ 0 → H' a = H a := fun hl hk a n => by
    cases e : H a with
    | none => exact absurd e (hl a n)
    | some o => exact a6 a o e (hk a n)
  have mk : ∀ a, μ a ≠ 0 → κ a = 0 := fun a n => by have := w1.one a; omega
  have nk : ∀ a, ν a ≠ 0 → κ a = 0 := fun a n => by have := w1.one a; omega
  have s1' := s1.mono sF (live (fun a n => s1.live a n) mk)
  have r1' := r1.mono sF (live (fun a n => r1.live a n) nk)
  have sep : ∀ a, μr a + μ' a ≠ 0 → μ a + ν a = 0 := fun a n => by
    rcases (a5 a n).2 with z | z
    · have := w1.one a; omega
    · have l1 : μ a = 0 := Classical.byContradiction fun m => s1.live a m z
      have l2 : ν a = 0 := Classical.byContradiction fun m => r1.live a m z
      omega
  have W' : Wd E F' H' (fun a => μ a + (μr a + μ' a) + ν a) := by
    refine ⟨a1, fun a => ?_, fun a n => ?_, fun b o e nA => ?_, fun b n nA => ?_⟩
    · have := w1.one a; have := a4 a; have := sep a
      by_cases z : μr a + μ' a = 0
      · omega
      · have := sep a z; omega
    · by_cases z : μr a + μ' a = 0
      · have hm : μ a + ν a ≠ 0 := by omega
        obtain ⟨m1, m2⟩ := w1.mine a (by show μ a + κ a + ν a ≠ 0; omega)
        refine ⟨?_, m2⟩
        have hz : κ a = 0 := by have := w1.one a; omega
        have hl : H a ≠ none := by
          by_cases y : μ a = 0
          · exact r1.live a (by omega)
          · exact s1.live a y
        rw [a7 a hl hz]; exact m1
      · obtain ⟨m1, m2⟩ := a5 a z
        refine ⟨m1, ?_⟩
        rcases m2 with m | m
        · exact (w1.mine a (by show μ a + κ a + ν a ≠ 0; omega)).2
        · cases e : E.H0 a with
          | none => exact .inr rfl
          | some o => exact .inl (Classical.byContradiction fun na => nomatch (w1.fr a o e na).symm.trans m)
    · have hb := w1.fr b o e nA
      refine a6 b o hb (Classical.byContradiction fun n => ?_)
      rcases (w1.mine b (by show μ b + κ b + ν b ≠ 0; omega)).2 with m | m
      · exact nA m
      · rw [m] at e; cases e
    · have hk : κ b = 0 := Classical.byContradiction fun m => by
        rcases (w1.mine b (by show μ b + κ b + ν b ≠ 0; omega)).2 with y | y
        · exact nA y
        · exact n y
      have hb : H b ≠ none := by
        cases e : E.H0 b with
        | none => exact absurd e n
        | some o => rw [w1.fr b o e nA]; exact fun y => nomatch y
      rw [a7 b hb hk]; exact w1.frF b n nA
  refine ⟨F', μ, μ', fun a => μr a + ν a, W'.eq fun a => by show μ a + μ' a + (μr a + ν a) = μ a + (μr a + μ' a) + ν a; omega, s1', a3, ?_, pn⟩
  rw [List.map_cons, List.map_cons]
  exact RA.push a2 r1'
/-- an instance of the class, which has no attribute of that name -/
def insD (c : Nat) (m : Str) : D → Bool
  | .obj c' ns _ => decide (c' = c) && !(ns.contains m)
  | .ob c' ns _ => decide (c' = c) && !(ns.contains m)
  | _ => false
theorem look_none : ∀ {ns : List Str} {vs : List V} {m : Str}, ns.contains m = false → (ns.zip vs).lookup m = none
  | [], _, _, _ => rfl
  | _ :: _, [], _, _ => rfl
  | n :: ns, v :: vs, m, h => by
    rw [List.contains_cons, Bool.or_eq_false_iff] at h
    rw [List.zip_cons_cons, List.lookup_cons, h.1]
    exact look_none h.2
theorem R.ins {μ : Mu} {c : Nat} {m : Str} (s : Same F H) (h : R Z F H d v μ) (k : insD c m d = true) : ∃ a dx fs, v = .ref a ∧ H a = some (.ins (Z.cls c) dx fs) ∧ fs.lookup m = none := by
  cases d with
  | obj c' ns ds =>
    unfold insD at k
    simp only [Bool.and_eq_true, decide_eq_true_eq, Bool.not_eq_true'] at k
    obtain ⟨rfl, k⟩ := k
    rw [R] at h
    obtain ⟨a, dx, vs, ν, e, h1, h0, h2, h3⟩ := h
    exact ⟨a, dx, _, e, h1, look_none k⟩
  | ob c' ns es =>
    unfold insD at k
    simp only [Bool.and_eq_true, decide_eq_true_eq, Bool.not_eq_true'] at k
    obtain ⟨rfl, k⟩ := k
    rw [R] at h
    obtain ⟨⟨a, dx, vs, e, h1, h0, h2⟩, _⟩ := h
    exact ⟨a, dx, _, e, s _ _ h1, look_none k⟩
  | _ => cases k
def fMeth (c : Nat) (m : Str) (fo : List D → (W → List D → Prop) → Prop) (fA : List D → (List W → List D → Prop) → Prop) (g : GD) (δ : List D) (Q : W → List D → Prop) : Prop :=
  fo δ fun w δ1 => insD c m (vw w δ1) = true ∧ fA δ1 fun ws δ2 => gC g (tks ((w :: ws).map fzW) δ2).1 fun d ds' => ds'.length = ws.length + 1 ∧ Q (.tmp d) (backs ((w :: ws).map fzW) ds' (tks ((w :: ws).map fzW) δ2).2)
theorem dMeth {m : Str} (c : Nat) {g : GD} {ex : XK} (ho : DO Z E ta fa) (hA : DA Z E tA fA) : DO Z E (tMeth (Z.cls c) m (spD Z g) [] ex ta tA) (fMeth c m fa fA g) :=
  ⟨fun δ Q Q' k q => ho.mo _ _ _ (fun w δ1 ⟨a, q⟩ => ⟨a, hA.mo _ _ _ (fun ws δ2 q => gC.mo (fun d ds' q => ⟨q.1, k _ _ q.2⟩) q) q⟩) q, fun ps δ σ H Q r q => ho.run ps δ σ H _ r (ho.mo _ _ _ (fun w δ1 ⟨a, q⟩ v H1 r1 => by
    obtain ⟨F, μ, s, r2⟩ := r1.see (k := 0) rfl rfl
    obtain ⟨p, dx, fs, rfl, h1, h2⟩ := r2.ins s a
    refine ⟨p, dx, fs, rfl, h1, h2, hA.run _ δ1 σ H1 _ r1.rel (hA.mo _ _ _ (fun ws δ2 q vs H2 r3 => ?_) q)⟩
    rw [List.append_nil]
    exact ((r1.cons r3).frz).call (gC.mo (fun d ds' q => ⟨by rw [List.length_map]; exact q.1, q.2⟩) q) ex) q)⟩
theorem dMethK {m : Str} (c : Nat) {n : Nat} {g : GD} {ex : XK} (ho : DO Z E ta fa) (hA : DA Z E tA fA) : DO Z E (OwnP.tMethK (Z.cls c) m n (spD Z g) (fun us ws => us ++ ws) ex ta tA) (fMeth c m fa (fun δ Q => fA δ fun ws δ2 => ws.length = n ∧ Q ws δ2) g) :=
  ⟨fun δ Q Q' k q => ho.mo _ _ _ (fun w δ1 ⟨a, q⟩ => ⟨a, hA.mo _ _ _ (fun ws δ2 ⟨b, q⟩ => ⟨b, gC.mo (fun d ds' q => ⟨q.1, k _ _ q.2⟩) q⟩) q⟩) q, fun ps δ σ H Q r q => ho.run ps δ σ H _ r (ho.mo _ _ _ (fun w δ1 ⟨a, q⟩ v H1 r1 => by
    obtain ⟨F, μ, s, r2⟩ := r1.see (k := 0) rfl rfl
    obtain ⟨p, dx, fs, rfl, h1, h2⟩ := r2.ins s a
    refine ⟨p, dx, fs, rfl, h1, h2, hA.run _ δ1 σ H1 _ r1.rel (hA.mo _ _ _ (fun ws δ2 ⟨b, q⟩ vs H2 r3 => ?_) q)⟩
    refine ⟨r3.1.trans b, ?_⟩
    exact ((r1.cons r3).frz).call (gC.mo (fun d ds' q => ⟨by rw [List.length_map]; exact q.1, q.2⟩) q) ex) q)⟩
def fProp (c : Nat) (fo : List D → (W → List D → Prop) → Prop) (g : GD) (δ : List D) (Q : W → List D → Prop) : Prop :=
  fo δ fun w δ1 => insD c "" (vw w δ1) = true ∧ gC g (tks [fzW w] δ1).1 fun d ds' => ds'.length = 1 ∧ Q (.tmp d) (backs [fzW w] ds' (tks [fzW w] δ1).2)
theorem dProp (c : Nat) {g : GD} {ex : XK} (ho : DO Z E ta fa) : DO Z E (tProp (Z.cls c) (spD Z g) [] ex ta) (fProp c fa g) :=
  ⟨fun δ Q Q' k q => ho.mo _ _ _ (fun w δ1 ⟨a, q⟩ => ⟨a, gC.mo (fun d ds' q => ⟨q.1, k _ _ q.2⟩) q⟩) q, fun ps δ σ H Q r q => ho.run ps δ σ H _ r (ho.mo _ _ _ (fun w δ1 ⟨a, q⟩ v H1 r1 => by
    obtain ⟨F, μ, s, r2⟩ := r1.see (k := 0) rfl rfl
    obtain ⟨p, dx, fs, rfl, h1, h2⟩ := r2.ins s a
    refine ⟨p, dx, fs, rfl, h1, ?_⟩
    exact (r1.frz1).call q ex) q)⟩
/-- C(..) -/
theorem Rel.newObj {c : Nat} {p dx : Addr} (h : Rel Z E ps δ σ H) (np : H p = none) (nd : H dx = none) (ne : dx ≠ p) : Rel Z E ((.ref p, .obj c [] []) :: ps) δ σ (upd (upd H dx (.own p)) p (.ins (Z.cls c) dx [])) := by
  obtain ⟨F, μ, ν, w1, s1, r1, pn⟩ := h
  have live : ∀ {q : Addr}, H q = none → μ q = 0 ∧ ν q = 0 := fun {q} nq => ⟨Classical.byContradiction fun n => s1.live q n nq, Classical.byContradiction fun n => r1.live q n nq⟩
  obtain ⟨p1, p2⟩ := live np
  obtain ⟨d1, d2⟩ := live nd
  have np' : upd H dx (.own p) p = none := by rw [upd_ne (fun z => ne z.symm)]; exact np
  have w2 : Wd E F (upd H dx (.own p)) (fun a => μ a + ν a) := w1.alloc nd (by show μ dx + ν dx = 0; omega) fun a => by omega
  refine ⟨F, μ, fun a => (if a = p then 1 else 0) + ν a, w2.alloc np' (by show μ p + ν p = 0; omega) fun a => by show μ a + (_ + ν a) ≤ μ a + ν a + _; omega, ?_, ?_, pn⟩
  · exact (s1.mono (fun _ _ e => e) (upd_keep d1)).mono (fun _ _ e => e) (upd_keep p1)
  · refine RA.push ?_ ((r1.mono (fun _ _ e => e) (upd_keep d2)).mono (fun _ _ e => e) (upd_keep p2))
    rw [R]
    exact ⟨p, dx, [], fun _ => 0, rfl, upd_same, rfl, RA.z, fun b => by show _ = 0 + _; omega⟩
theorem pnd_new {ws : List W} {vs : List V} {p : V × D} (h : Rel Z E (p :: pnd ws vs ps) δ σ H) : Rel Z E (pnd ws vs (p :: ps)) δ σ H := by
  rw [pnd_eq] at h ⊢
  exact Rel.back (v := p.1) (d := p.2) h
def fMake (c : Nat) (fA : List D → (List W → List D → Prop) → Prop) (g : GD) (δ : List D) (Q : W → List D → Prop) : Prop :=
  fA δ fun ws δ1 => gC g (.obj c [] [] :: (tks (ws.map fzW) δ1).1) fun d ds' => match ds' with
    | o :: r => d = .fz .none ∧ r.length = ws.length ∧ Q (.tmp o) (backs (ws.map fzW) r (tks (ws.map fzW) δ1).2)
    | [] => False
theorem make_run {c : Nat} {g : GD} {Q : VK} {ex : XK} {x dx : Addr} (r : RelW Z E ws vs ps δ σ H) (nx : H x = none) (nd : H dx = none) (ne : dx ≠ x)
    (q : gC g (.obj c [] [] :: (tks (ws.map fzW) δ).1) fun d ds' => match ds' with
      | o :: r => d = .fz .none ∧ r.length = ws.length ∧ ∀ v H', RelW Z E [.tmp o] [v] ps (backs (ws.map fzW) r (tks (ws.map fzW) δ).2) σ H' → Q v H'
      | [] => False) : spD Z g (.ref x :: vs) (upd (upd H dx (.own x)) x (.ins (Z.cls c) dx [])) (fun v H2 => v = .non ∧ Q (.ref x) H2) ex := by
  have r1 := r.frz
  have r2 : Rel Z E ((.ref x, .obj c [] []) :: pnd (ws.map fzW) vs ps) δ σ (upd (upd H dx (.own x)) x (.ins (Z.cls c) dx [])) := r1.2.2.newObj nx nd ne
  have r3 : RelW Z E (.tmp (.obj c [] []) :: ws.map fzW) (.ref x :: vs) ps δ σ (upd (upd H dx (.own x)) x (.ins (Z.cls c) dx [])) := ⟨by simpa using r1.1, r1.2.1, pnd_new r2⟩
  refine r3.call0 (gC.mo (fun d ds' q => ?_) (show gC g (tks (.tmp (.obj c [] []) :: ws.map fzW) δ).1 _ from q)) ex
  cases ds' with
  | nil => exact q.elim
  | cons o rs =>
    obtain ⟨rfl, hl, q⟩ := q
    refine ⟨by simpa using hl, fun v H' t => ?_⟩
    have t' : RelT Z E (o :: rs) (.ref x :: vs) ((v, .fz .none) :: ps) (tks (ws.map fzW) δ).2 σ H' := t
    obtain ⟨z, hz⟩ := t'.zip
    have z1 : Rel Z E ((.ref x, o) :: (vs.zip rs ++ (v, .fz .none) :: ps)) (tks (ws.map fzW) δ).2 σ H' := z
    have z2 : Rel Z E ((v, .fz .none) :: (.ref x, o) :: (vs.zip rs ++ ps)) (tks (ws.map fzW) δ).2 σ H' := Rel.front (A := (.ref x, o) :: vs.zip rs) z1
    obtain ⟨F, μ, s, hv⟩ := z2.top
    rw [R] at hv
    have ev : v = .non := by cases hv.1; rfl
    refine ⟨ev, q _ _ (RelW.of ?_)⟩
    have z3 : Rel Z E (vs.zip rs ++ (.ref x, o) :: ps) (tks (ws.map fzW) δ).2 σ H' := z2.drop.back
    exact (RelT.unzip z3 (by simpa using hz)).backs (by rw [List.length_map]; exact hl.symm) r1.2.1
theorem dMake (c : Nat) {g : GD} {ex : XK} (hA : DA Z E tA fA) : DO Z E (tMake (Z.cls c) (spD Z g) [] ex tA) (fMake c fA g) := by
  refine ⟨fun δ Q Q' k q => hA.mo _ _ _ (fun ws δ1 q => gC.mo (fun d ds' q => ?_) q) q, fun ps δ σ H Q r q => hA.run ps δ σ H _ r (hA.mo _ _ _ (fun ws δ1 q vs H1 r1 x dx nx nd ne => ?_) q)⟩
  · cases ds' with
    | nil => exact q
    | cons o r => exact ⟨q.1, q.2.1, k _ _ q.2.2⟩
  · rw [List.append_nil]
    exact make_run r1 nx nd ne q
theorem dMakeK (c : Nat) {m : Nat} {g : GD} {ex : XK} (hA : DA Z E tA fA) : DO Z E (tMakeK (Z.cls c) 0 m (spD Z g) (fun us ws => us ++ ws) ex tNil tA) (fMake c (fun δ Q => fA δ fun ws δ2 => ws.length = m ∧ Q ws δ2) g) := by
  refine ⟨fun δ Q Q' k q => hA.mo _ _ _ (fun ws δ1 ⟨a, q⟩ => ⟨a, gC.mo (fun d ds' q => ?_) q⟩) q, fun ps δ σ H Q r q => hA.run ps δ σ H _ r (hA.mo _ _ _ (fun ws δ1 ⟨a, q⟩ vs H1 r1 => ⟨rfl, r1.1.trans a, fun x dx nx nd ne => ?_⟩) q)⟩
  · cases ds' with
    | nil => exact q
    | cons o r => exact ⟨q.1, q.2.1, k _ _ q.2.2⟩
  · exact make_run r1 nx nd ne q
end
end OwnD
namespace OwnD
open PySem PySem.Spec PyProof.Rows L2 Own
/-! ### comprehensions and loops by their turns -/
section
variable {vs : List Nat} {h : D → List D → (List D → Prop) → Prop} {ft : List D → (Bool → List D → Prop) → Prop} {fe : List D → (W → List D → Prop) → Prop} {Q : List D → List D → Prop}
/-- each item gives one; the slots are at the end of a turn as they were -/
theorem compD_map {α : Type} (y : α → D) (f : α → D) (δ0 : List D) : ∀ (xs : List α) (acc : List D) (δ : List D), acc.length + xs.length ≤ 1000 → wipeD δ vs = δ0 →
    (∀ (x : α) (r acc : List D) (δ : List D), x ∈ xs → acc.length < sizeLine → wipeD δ vs = δ0 → (∀ δ', wipeD δ' vs = δ0 → compD vs h ft fe Q r (acc ++ [f x]) δ') → compD vs h ft fe Q (y x :: r) acc δ) →
    Q (acc ++ xs.map f) δ0 → compD vs h ft fe Q (xs.map y) acc δ
  | [], acc, δ, _, hw, _, q => by
    show Q acc (wipeD δ vs)
    rw [hw]; simpa using q
  | d :: r, acc, δ, hl, hw, st, q => by
    rw [List.length_cons] at hl
    refine st d _ acc δ List.mem_cons_self (small1000 (by omega)) hw fun δ' hw' => ?_
    refine compD_map y f δ0 r (acc ++ [f d]) δ' (by rw [List.length_append, List.length_singleton]; omega) hw' (fun d' r' acc' δ'' hm => st d' r' acc' δ'' (List.mem_cons_of_mem _ hm)) ?_
    simpa using q
/-- some items give one -/
theorem compD_fm {α : Type} (y : α → D) (f : α → Option D) (δ0 : List D) : ∀ (xs : List α) (acc : List D) (δ : List D), acc.length + xs.length ≤ 1000 → wipeD δ vs = δ0 →
    (∀ (x : α) (r acc : List D) (δ : List D), x ∈ xs → acc.length < sizeLine → wipeD δ vs = δ0 → (∀ δ', wipeD δ' vs = δ0 → compD vs h ft fe Q r (acc ++ (f x).toList) δ') → compD vs h ft fe Q (y x :: r) acc δ) →
    Q (acc ++ xs.filterMap f) δ0 → compD vs h ft fe Q (xs.map y) acc δ
  | [], acc, δ, _, hw, _, q => by
    show Q acc (wipeD δ vs)
    rw [hw]; simpa using q
  | d :: r, acc, δ, hl, hw, st, q => by
    rw [List.length_cons] at hl
    refine st d _ acc δ List.mem_cons_self (small1000 (by omega)) hw fun δ' hw' => ?_
    refine compD_fm y f δ0 r (acc ++ (f d).toList) δ' ?_ hw' (fun d' r' acc' δ'' hm => st d' r' acc' δ'' (List.mem_cons_of_mem _ hm)) ?_
    · have : (f d).toList.length ≤ 1 := by cases f d <;> simp
      rw [List.length_append]; omega
    · rw [List.filterMap_cons] at q
      cases e : f d with
      | none => rw [e] at q; simpa using q
      | some y => rw [e] at q; simpa using q
/-- by a state that follows the items -/
theorem compD_inv (I : List D → List D → List D → Prop) : ∀ (its acc : List D) (δ : List D), I its acc δ →
    (∀ (d : D) (r acc : List D) (δ : List D), I (d :: r) acc δ → (∀ acc' δ', I r acc' δ' → compD vs h ft fe Q r acc' δ') → compD vs h ft fe Q (d :: r) acc δ) →
    (∀ acc δ, I [] acc δ → Q acc (wipeD δ vs)) → compD vs h ft fe Q its acc δ
  | [], acc, δ, i, _, q => q acc δ i
  | d :: r, acc, δ, i, st, q => st d r acc δ i fun acc' δ' i' => compD_inv I r acc' δ' i' st q
end
section
variable {h : D → List D → (List D → Prop) → Prop} {g : List D → EndsD → Prop} {A : EndsD}
theorem loopD_inv (I : List D → List D → Prop) : ∀ (its : List D) (δ : List D), I its δ →
    (∀ (d : D) (r : List D) (δ : List D), I (d :: r) δ → (∀ δ', I r δ' → loopD h g A r δ') → loopD h g A (d :: r) δ) →
    (∀ δ, I [] δ → A.nx δ) → loopD h g A its δ
  | [], δ, i, _, q => q δ i
  | d :: r, δ, i, st, q => st d r δ i fun δ' i' => loopD_inv I r δ' i' st q
end
/-- over a list, by what is done -/
theorem loopD_acc {α : Type} {h : D → List D → (List D → Prop) → Prop} {g : List D → EndsD → Prop} {A : EndsD} (y : α → D) (I : List α → List D → Prop) (xs : List α) (δ : List D) (h0 : I [] δ)
    (st : ∀ (x : α) (done rest : List α) (δ : List D), xs = done ++ x :: rest → I done δ → (∀ δ', I (done ++ [x]) δ' → loopD h g A (rest.map y) δ') → loopD h g A (y x :: rest.map y) δ) (hd : ∀ δ, I xs δ → A.nx δ) : loopD h g A (xs.map y) δ := by
  have key : ∀ (rest done : List α) (δ : List D), done ++ rest = xs → I done δ → loopD h g A (rest.map y) δ := by
    intro rest
    induction rest with
    | nil =>
      intro done δ e i
      rw [List.append_nil] at e
      subst e
      exact hd δ i
    | cons x rest ih =>
      intro done δ e i
      refine st x done rest δ e.symm i fun δ' i' => ih (done ++ [x]) δ' (by rw [← e]; simp) i'
  exact key xs [] δ rfl h0
theorem turnD_acc {α A : Type} {put : A → D → Option A} {us : List Nat} {h : D → List D → (List D → Prop) → Prop} {ft : List D → (Bool → List D → Prop) → Prop} {fe : List D → (W → List D → Prop) → Prop} {K : A → List D → Prop} (y : α → D) (I : List α → A → List D → Prop) (xs : List α) (a : A) (δ : List D) (h0 : I [] a δ)
    (st : ∀ (x : α) (done rest : List α) (a : A) (δ : List D), xs = done ++ x :: rest → I done a δ → (∀ a' δ', I (done ++ [x]) a' δ' → turnD put us h ft fe K (rest.map y) a' δ') → turnD put us h ft fe K (y x :: rest.map y) a δ) (hd : ∀ a δ, I xs a δ → K a δ) : turnD put us h ft fe K (xs.map y) a δ := by
  have key : ∀ (rest done : List α) (a : A) (δ : List D), done ++ rest = xs → I done a δ → turnD put us h ft fe K (rest.map y) a δ := by
    intro rest
    induction rest with
    | nil =>
      intro done a δ e i
      rw [List.append_nil] at e
      subst e
      exact hd a δ i
    | cons x rest ih =>
      intro done a δ e i
      refine st x done rest a δ e.symm i fun a' δ' i' => ih (done ++ [x]) a' δ' (by rw [← e]; simp) i'
  exact key xs [] a δ rfl h0
theorem fS2_acc {α A : Type} {put : A → D → Option A} {vs us : List Nat} {fi fj : List D → (List D → List D → Prop) → Prop} {h hj : D → List D → (List D → Prop) → Prop} {ft fu : List D → (Bool → List D → Prop) → Prop} {fe : List D → (W → List D → Prop) → Prop} {K : A → List D → Prop}
    (y : α → D) (I : List α → A → List D → Prop) (xs : List α) (a : A) (δ : List D) (h0 : I [] a δ)
    (st : ∀ (x : α) (done rest : List α) (a : A) (δ : List D), xs = done ++ x :: rest → I done a δ → (∀ a' δ', I (done ++ [x]) a' δ' → fS2 vs us fi h ft fj hj fu fe put K (rest.map y) a' δ') → fS2 vs us fi h ft fj hj fu fe put K (y x :: rest.map y) a δ) (hd : ∀ a δ, I xs a δ → K a δ) : fS2 vs us fi h ft fj hj fu fe put K (xs.map y) a δ := by
  have key : ∀ (rest done : List α) (a : A) (δ : List D), done ++ rest = xs → I done a δ → fS2 vs us fi h ft fj hj fu fe put K (rest.map y) a δ := by
    intro rest
    induction rest with
    | nil =>
      intro done a δ e i
      rw [List.append_nil] at e
      subst e
      exact hd a δ i
    | cons x rest ih =>
      intro done a δ e i
      refine st x done rest a δ e.symm i fun a' δ' i' => ih (done ++ [x]) a' δ' (by rw [← e]; simp) i'
  exact key xs [] a δ rfl h0
theorem turnD_nil {A : Type} {put : A → D → Option A} {us : List Nat} {h : D → List D → (List D → Prop) → Prop} {ft : List D → (Bool → List D → Prop) → Prop} {fe : List D → (W → List D → Prop) → Prop} {K : A → List D → Prop} {a : A} {δ : List D} : turnD put us h ft fe K [] a δ = K a δ := rfl
theorem turnD_cons {A : Type} {put : A → D → Option A} {us : List Nat} {h : D → List D → (List D → Prop) → Prop} {ft : List D → (Bool → List D → Prop) → Prop} {fe : List D → (W → List D → Prop) → Prop} {K : A → List D → Prop} {a : A} {δ : List D} {d : D} {r : List D} :
    turnD put us h ft fe K (d :: r) a δ = h d (wipeD δ us) fun δ1 => ft δ1 fun b δ2 => if b = true then fe δ2 fun w δ3 => ∃ a', put a (tk w δ3).1 = some a' ∧ turnD put us h ft fe K r a' (tk w δ3).2 else turnD put us h ft fe K r a δ2 := rfl
theorem fS2_nil {A : Type} {put : A → D → Option A} {vs us : List Nat} {fi fj : List D → (List D → List D → Prop) → Prop} {h hj : D → List D → (List D → Prop) → Prop} {ft fu : List D → (Bool → List D → Prop) → Prop} {fe : List D → (W → List D → Prop) → Prop} {K : A → List D → Prop} {a : A} {δ : List D} : fS2 vs us fi h ft fj hj fu fe put K [] a δ = K a δ := rfl
theorem fS2_cons {A : Type} {put : A → D → Option A} {vs us : List Nat} {fi fj : List D → (List D → List D → Prop) → Prop} {h hj : D → List D → (List D → Prop) → Prop} {ft fu : List D → (Bool → List D → Prop) → Prop} {fe : List D → (W → List D → Prop) → Prop} {K : A → List D → Prop} {a : A} {δ : List D} {d : D} {r : List D} :
    fS2 vs us fi h ft fj hj fu fe put K (d :: r) a δ = h d (wipeD δ vs) fun δ1 => ft δ1 fun b δ2 => if b = true then fj δ2 (fun js δ3 => turnD put us hj fu fe (fun a δ4 => fS2 vs us fi h ft fj hj fu fe put K r a (wipeD δ4 us)) js a δ3) else fS2 vs us fi h ft fj hj fu fe put K r a δ2 := rfl
theorem loopD_nil {h : D → List D → (List D → Prop) → Prop} {g : List D → EndsD → Prop} {A : EndsD} {δ : List D} : loopD h g A [] δ = A.nx δ := rfl
theorem loopD_cons {h : D → List D → (List D → Prop) → Prop} {g : List D → EndsD → Prop} {A : EndsD} {δ : List D} {d : D} {r : List D} : loopD h g A (d :: r) δ = h d δ fun δ1 => g δ1 ⟨loopD h g A r, A.rt, A.nx, loopD h g A r⟩ := rfl
theorem compD_nil {vs : List Nat} {h : D → List D → (List D → Prop) → Prop} {ft : List D → (Bool → List D → Prop) → Prop} {fe : List D → (W → List D → Prop) → Prop} {Q : List D → List D → Prop} {acc δ : List D} : compD vs h ft fe Q [] acc δ = Q acc (wipeD δ vs) := rfl
theorem compD_cons {vs : List Nat} {h : D → List D → (List D → Prop) → Prop} {ft : List D → (Bool → List D → Prop) → Prop} {fe : List D → (W → List D → Prop) → Prop} {Q : List D → List D → Prop} {acc δ : List D} {d : D} {r : List D} :
    compD vs h ft fe Q (d :: r) acc δ = h d (wipeD δ vs) fun δ1 => ft δ1 fun b δ2 => if b = true then fe δ2 fun w δ3 => acc.length < sizeLine ∧ compD vs h ft fe Q r (acc ++ [(tk w δ3).1]) (tk w δ3).2 else compD vs h ft fe Q r acc δ2 := rfl
/-- a call: the promise gives what is wanted -/
theorem gC.use {g : GD} {ds : List D} {Q : D → List D → Prop} (h : g ds Q) : gC g ds Q := gC.of h
theorem sz4 {n : Nat} (h : n ≤ 1000) : n ≤ sizeLine := Nat.le_of_lt (small1000 h)

theorem atI_0 {α : Type} {x : α} {xs : List α} : atI (x :: xs) 0 = some x := by simp [atI, ixN]; try omega
theorem atI_1 {α : Type} {x y : α} {xs : List α} : atI (x :: y :: xs) 1 = some y := by simp [atI, ixN]; rw [if_pos (by omega)]; simp
theorem atI_2 {α : Type} {x y z : α} {xs : List α} : atI (x :: y :: z :: xs) 2 = some z := by simp [atI, ixN]; rw [if_pos (by omega)]; simp
theorem atI_3 {α : Type} {x y z u : α} {xs : List α} : atI (x :: y :: z :: u :: xs) 3 = some u := by simp [atI, ixN]; rw [if_pos (by omega)]; simp
theorem szl0 : (0 ≤ sizeLine) = True := eq_true (sz4 (by decide))
theorem szl1 : (1 ≤ sizeLine) = True := eq_true (sz4 (by decide))
theorem szl2 : (2 ≤ sizeLine) = True := eq_true (sz4 (by decide))
theorem szl3 : (3 ≤ sizeLine) = True := eq_true (sz4 (by decide))
theorem szl4 : (4 ≤ sizeLine) = True := eq_true (sz4 (by decide))
theorem fzD_fz (e : PyData) : fzD (.fz e) = .fz e := rfl
theorem pyAll_nil : pyAll [] = some [] := rfl
theorem pyAll_fz (e : PyData) (ds : List D) : pyAll (.fz e :: ds) = (pyAll ds).map (e :: ·) := by
  rw [pyAll]
  cases h : pyAll ds <;> rfl
theorem pyAll_map {α : Type} (g : α → PyData) : ∀ xs : List α, pyAll (xs.map fun x => D.fz (g x)) = some (xs.map g)
  | [] => rfl
  | x :: xs => by rw [List.map_cons, pyAll_fz, pyAll_map g xs]; rfl
theorem pyAll_app : ∀ {a b : List D} {ea eb : List PyData}, pyAll a = some ea → pyAll b = some eb → pyAll (a ++ b) = some (ea ++ eb)
  | [], b, ea, eb, h1, h2 => by cases h1; exact h2
  | d :: a, b, ea, eb, h1, h2 => by
    obtain ⟨e, r, rfl, q1, q2⟩ := pyAll_cons h1
    rw [List.cons_append, pyAll, q1, pyAll_app q2 h2]; rfl
theorem fzD_own (ds : List D) : fzD (.own ds) = match pyAll ds with | some es => .fz (.list es) | none => .own ds := by
  unfold fzD
  dsimp only
  rw [D.py]
  cases pyAll ds <;> rfl
theorem fzD_tup (ds : List D) : fzD (.tup ds) = match pyAll ds with | some es => .fz (.tuple es) | none => .tup ds := by
  unfold fzD
  dsimp only
  rw [D.py]
  cases pyAll ds <;> rfl
/-- by what the slot holds -/
def fVarD (d : D) (i : Nat) (δ : List D) (Q : W → List D → Prop) : Prop := match d with
  | .fz d => Q (.tmp (.fz d)) δ
  | .dct d => Q (.tmp (.dct d)) δ
  | .ob c ns d => Q (.tmp (.ob c ns d)) δ
  | .hole => False
  | .ptr _ => False
  | _ => Q (.slot i) δ
theorem fVar_eq (i : Nat) (δ : List D) (Q : W → List D → Prop) : fVar i δ Q = fVarD (δ.getD i .hole) i δ Q := rfl
theorem fV_fz (e : PyData) (i : Nat) (δ : List D) (Q : W → List D → Prop) : fVarD (.fz e) i δ Q = Q (.tmp (.fz e)) δ := rfl
theorem fV_dct (e : List (Str × PyData)) (i : Nat) (δ : List D) (Q : W → List D → Prop) : fVarD (.dct e) i δ Q = Q (.tmp (.dct e)) δ := rfl
theorem fV_ob (c : Nat) (ns : List Str) (es : List PyData) (i : Nat) (δ : List D) (Q : W → List D → Prop) : fVarD (.ob c ns es) i δ Q = Q (.tmp (.ob c ns es)) δ := rfl
theorem fV_own (e : List D) (i : Nat) (δ : List D) (Q : W → List D → Prop) : fVarD (.own e) i δ Q = Q (.slot i) δ := rfl
theorem fV_tup (e : List D) (i : Nat) (δ : List D) (Q : W → List D → Prop) : fVarD (.tup e) i δ Q = Q (.slot i) δ := rfl
theorem fV_pur (e : Nat) (i : Nat) (δ : List D) (Q : W → List D → Prop) : fVarD (.pur e) i δ Q = Q (.slot i) δ := rfl
theorem fV_obj (c : Nat) (ns : List Str) (es : List D) (i : Nat) (δ : List D) (Q : W → List D → Prop) : fVarD (.obj c ns es) i δ Q = Q (.slot i) δ := rfl
theorem fzD_odc (kvs : List (Str × PyData)) : fzD (.odc kvs) = .dct kvs := rfl
theorem fzD_dct (kvs : List (Str × PyData)) : fzD (.dct kvs) = .dct kvs := rfl
theorem fzD_pur (n : Nat) : fzD (.pur n) = .pur n := rfl
theorem fzD_ob (c : Nat) (ns : List Str) (es : List PyData) : fzD (.ob c ns es) = .ob c ns es := rfl
theorem fzD_obj (c : Nat) (ns : List Str) (ds : List D) : fzD (.obj c ns ds) = match pyAll ds with | some es => .ob c ns es | none => .obj c ns ds := rfl
theorem elL_fz (es : List PyData) : elL (.fz (.list es)) = some (es.map .fz) := rfl
theorem elL_own (ds : List D) : elL (.own ds) = if ds.all shr then some ds else none := rfl
theorem elT_fz (es : List PyData) : elT (.fz (.tuple es)) = some (es.map .fz) := rfl
theorem elT_tup (ds : List D) : elT (.tup ds) = if ds.all shr then some ds else none := rfl
theorem elS_fl (es : List PyData) : elS (.fz (.list es)) = some (es.map .fz) := rfl
theorem elS_ft (es : List PyData) : elS (.fz (.tuple es)) = some (es.map .fz) := rfl
theorem elS_own (ds : List D) (h : ds.all shr = true) : elS (.own ds) = some ds := by
  unfold elS
  rw [elL_own, if_pos h]
theorem shr_map {α : Type} (g : α → PyData) : ∀ xs : List α, (xs.map fun x => D.fz (g x)).all shr = true
  | [] => rfl
  | x :: xs => by rw [List.map_cons, List.all_cons, shr_map g xs]; rfl
theorem fz_map {α : Type} (g : α → PyData) (xs : List α) : (xs.map g).map D.fz = xs.map fun x => D.fz (g x) := by rw [List.map_map]; rfl
theorem elL_strs (xs : List Str) : elL (.own (strsD xs)) = some (strsD xs) := by
  unfold strsD
  rw [elL_own, if_pos (shr_map PyData.str xs)]
section
variable {P : Program} {w : World} {K : PySem.W.Frag} {mg : Str → Option Value} {base : Heap} {CX : CXT} {f : Addr} {fd : FuncData} {ps : List Str} {Z : Zx}
/-- a promise for nothing -/
def gNone : GD := fun _ _ => False
theorem none_ok {k : Nat} : FnOk P w K mg base CX k f fd ps (spD Z gNone) := by
  have key : ∀ {vs H Q E}, spD Z gNone vs H Q E → False := fun h => by
    obtain ⟨_, _, _, _, _, _, _, _, _, q⟩ := h
    exact q
  exact ⟨fun vs H Q E h => (key h).elim, fun _ _ _ _ _ _ _ _ _ _ _ _ _ h => (key h).elim⟩
theorem none_g {k : Nat} : FnG P w K mg base CX k f fd ps (spD Z gNone) := by
  have key : ∀ {vs H Q E}, spD Z gNone vs H Q E → False := fun h => by
    obtain ⟨_, _, _, _, _, _, _, _, _, q⟩ := h
    exact q
  exact ⟨fun vs H Q E h => (key h).elim, fun _ _ _ _ _ _ _ _ _ _ _ _ _ h => (key h).elim⟩
end
/-! ### rows -/
mutual
inductive Stm
  | one (w x : Str)
  | again
  | leave
  | guard (b : List Stm) (hs : List Han) (l : List Stm)
inductive Han
  | mk (ns : Option (List Str)) (r : List Stm)
end
def pyN : Option (List Str) → PyData
  | none => .none
  | some xs => .list (xs.map .str)
mutual
def pyS : Stm → PyData
  | .one w x => .tuple [.str w, .str x]
  | .again => .tuple [.str "again"]
  | .leave => .tuple [.str "leave"]
  | .guard b hs l => .tuple [.str "guard", .list (pyR b), .list (pyHs hs), .list (pyR l)]
def pyR : List Stm → List PyData
  | [] => []
  | s :: r => pyS s :: pyR r
def pyH : Han → PyData
  | .mk ns r => .tuple [pyN ns, .list (pyR r)]
def pyHs : List Han → List PyData
  | [] => []
  | h :: r => pyH h :: pyHs r
end
def ownN : Option (List Str) → D
  | none => .fz .none
  | some xs => .own (strsD xs)
mutual
/-- a copy: its lists are its own -/
def ownS : Stm → D
  | .guard b hs l => .tup [.fz (.str "guard"), .own (ownR b), .own (ownHs hs), .own (ownR l)]
  | s => .fz (pyS s)
def ownR : List Stm → List D
  | [] => []
  | s :: r => ownS s :: ownR r
def ownH : Han → D
  | .mk ns r => .tup [ownN ns, .own (ownR r)]
def ownHs : List Han → List D
  | [] => []
  | h :: r => ownH h :: ownHs r
end
theorem pyR_map : ∀ r : List Stm, pyR r = r.map pyS
  | [] => rfl
  | s :: r => by rw [pyR, pyR_map r]; rfl
theorem pyHs_map : ∀ r : List Han, pyHs r = r.map pyH
  | [] => rfl
  | s :: r => by rw [pyHs, pyHs_map r]; rfl
theorem fzR (r : List Stm) : (pyR r).map D.fz = r.map fun s => .fz (pyS s) := by rw [pyR_map, List.map_map]; rfl
theorem fzHs (r : List Han) : (pyHs r).map D.fz = r.map fun s => .fz (pyH s) := by rw [pyHs_map, List.map_map]; rfl
theorem ownR_map : ∀ r : List Stm, ownR r = r.map ownS
  | [] => rfl
  | s :: r => by rw [ownR, ownR_map r]; rfl
theorem ownHs_map : ∀ r : List Han, ownHs r = r.map ownH
  | [] => rfl
  | s :: r => by rw [ownHs, ownHs_map r]; rfl
theorem pyAll_strs : ∀ xs : List Str, pyAll (strsD xs) = some (xs.map .str)
  | [] => rfl
  | x :: xs => by
    show pyAll (D.fz (.str x) :: strsD xs) = _
    rw [pyAll, pyAll_strs xs]; rfl
mutual
theorem py_ownS : ∀ s : Stm, (ownS s).py = some (pyS s)
  | .one w x => rfl
  | .again => rfl
  | .leave => rfl
  | .guard b hs l => by
    rw [ownS, D.py, pyAll, pyAll, pyAll, pyAll, pyAll, D.py, D.py, D.py, D.py, py_ownR b, py_ownHs hs, py_ownR l]; rfl
theorem py_ownR : ∀ r : List Stm, pyAll (ownR r) = some (pyR r)
  | [] => rfl
  | s :: r => by rw [ownR, pyAll, py_ownS s, py_ownR r]; rfl
theorem py_ownH : ∀ h : Han, (ownH h).py = some (pyH h)
  | .mk ns r => by
    rw [ownH, D.py, pyAll, pyAll, pyAll, D.py, py_ownR r]
    cases ns with
    | none => rfl
    | some xs => rw [ownN, D.py, pyAll_strs]; rfl
theorem py_ownHs : ∀ r : List Han, pyAll (ownHs r) = some (pyHs r)
  | [] => rfl
  | s :: r => by rw [ownHs, pyAll, py_ownH s, py_ownHs r]; rfl
end
theorem fz_ownR (r : List Stm) : fzD (.own (ownR r)) = .fz (.list (pyR r)) := by
  unfold fzD
  simp only [D.py, py_ownR]; rfl
mutual
def depS : Stm → Nat
  | .guard b hs l => max (depR b) (max (depHs hs) (depR l)) + 1
  | _ => 0
def depR : List Stm → Nat
  | [] => 0
  | s :: r => max (depS s) (depR r)
def depH : Han → Nat
  | .mk _ r => depR r
def depHs : List Han → Nat
  | [] => 0
  | h :: r => max (depH h) (depHs r)
end
theorem depR_mem : ∀ {r : List Stm} {s : Stm}, s ∈ r → depS s ≤ depR r
  | s :: r, t, h => by
    rw [depR]
    rcases List.mem_cons.mp h with e | h
    · subst e; omega
    · have := depR_mem h; omega
theorem depHs_mem : ∀ {r : List Han} {s : Han}, s ∈ r → depH s ≤ depHs r
  | s :: r, t, h => by
    rw [depHs]
    rcases List.mem_cons.mp h with e | h
    · subst e; omega
    · have := depHs_mem h; omega
/-- words of statements with a name -/
def wordB (w : Str) : Bool := decide (w = "step") || decide (w = "raise") || decide (w = "from") || decide (w = "hide")
def nmB (x : Str) : Bool := decide (1 ≤ x.length) && decide (x.length ≤ 8) && x.cps.toList.all (fun c => decide (97 ≤ c) && decide (c ≤ 122))
mutual
def cntS : Stm → Nat
  | .guard b hs l => cntR b + cntHs hs + cntR l + 1
  | _ => 1
def cntR : List Stm → Nat
  | [] => 0
  | s :: r => cntS s + cntR r
def cntH : Han → Nat
  | .mk _ r => cntR r
def cntHs : List Han → Nat
  | [] => 0
  | h :: r => cntH h + cntHs r
end
def fineN (N : List Str) : Option (List Str) → Bool
  | none => true
  | some xs => xs.all (fun x => decide (x ∈ N)) && decide (xs.length ≤ 60)
mutual
def fineS (N : List Str) (inh : Bool) : Stm → Bool
  | .one w x => wordB w && decide (x ∈ N) && (inh || !decide (w = "from"))
  | .again => inh
  | .leave => true
  | .guard b hs l => fineR N inh b && fineHs N hs && decide (hs.length ≤ 60) && fineR N inh l
def fineR (N : List Str) (inh : Bool) : List Stm → Bool
  | [] => true
  | s :: r => fineS N inh s && fineR N inh r
def fineH (N : List Str) : Han → Bool
  | .mk ns r => fineN N ns && fineR N true r
def fineHs (N : List Str) : List Han → Bool
  | [] => true
  | h :: r => fineH N h && fineHs N r
end
theorem fineR_mem {N : List Str} {i : Bool} : ∀ {r : List Stm} {s : Stm}, fineR N i r = true → s ∈ r → fineS N i s = true
  | s :: r, t, h, m => by
    rw [fineR, Bool.and_eq_true] at h
    rcases List.mem_cons.mp m with e | m
    · subst e; exact h.1
    · exact fineR_mem h.2 m
theorem fineHs_mem {N : List Str} : ∀ {r : List Han} {s : Han}, fineHs N r = true → s ∈ r → fineH N s = true
  | s :: r, t, h, m => by
    rw [fineHs, Bool.and_eq_true] at h
    rcases List.mem_cons.mp m with e | m
    · subst e; exact h.1
    · exact fineHs_mem h.2 m
theorem cntS_pos (s : Stm) : 1 ≤ cntS s := by cases s <;> simp [cntS]
theorem cntR_len : ∀ r : List Stm, r.length ≤ cntR r
  | [] => Nat.zero_le _
  | s :: r => by rw [cntR, List.length_cons]; have := cntS_pos s; have := cntR_len r; omega
theorem cntR_mem : ∀ {r : List Stm} {s : Stm}, s ∈ r → cntS s ≤ cntR r
  | s :: r, t, h => by
    rw [cntR]
    rcases List.mem_cons.mp h with e | h
    · subst e; omega
    · have := cntR_mem h; omega
theorem cntHs_mem : ∀ {r : List Han} {s : Han}, s ∈ r → cntH s ≤ cntHs r
  | s :: r, t, h => by
    rw [cntHs]
    rcases List.mem_cons.mp h with e | h
    · subst e; omega
    · have := cntHs_mem h; omega
/-- names of a row, at most sixty -/
structure Nams (N : List Str) : Prop where
  ok : ∀ x ∈ N, nmB x = true
  len : N.length ≤ 60
/-- rows with their bounds: how deep, which names, within a handler or not -/
structure Row (n : Nat) (N : List Str) (i : Bool) (r : List Stm) : Prop where
  dep : depR r ≤ n
  fine : fineR N i r = true
  cnt : cntR r ≤ 60
structure StmOk (n : Nat) (N : List Str) (i : Bool) (s : Stm) : Prop where
  dep : depS s ≤ n
  fine : fineS N i s = true
  cnt : cntS s ≤ 60
structure HanOk (n : Nat) (N : List Str) (h : Han) : Prop where
  dep : depH h ≤ n
  fine : fineH N h = true
  cnt : cntH h ≤ 60
theorem Row.len {n : Nat} {N : List Str} {i : Bool} {r : List Stm} (h : Row n N i r) : r.length ≤ 60 := Nat.le_trans (cntR_len r) h.cnt
theorem Row.mono {n m : Nat} {N : List Str} {i : Bool} {r : List Stm} (h : Row n N i r) (k : n ≤ m) : Row m N i r := ⟨Nat.le_trans h.dep k, h.fine, h.cnt⟩
theorem Row.mem {n : Nat} {N : List Str} {i : Bool} {r : List Stm} {s : Stm} (h : Row n N i r) (m : s ∈ r) : StmOk n N i s := ⟨Nat.le_trans (depR_mem m) h.dep, fineR_mem h.fine m, Nat.le_trans (cntR_mem m) h.cnt⟩
structure Guard (n : Nat) (N : List Str) (i : Bool) (b : List Stm) (hs : List Han) (l : List Stm) : Prop where
  b : Row n N i b
  l : Row n N i l
  h : ∀ x ∈ hs, HanOk n N x
  len : hs.length ≤ 60
theorem StmOk.guard {n : Nat} {N : List Str} {i : Bool} {b l : List Stm} {hs : List Han} (h : StmOk (n + 1) N i (.guard b hs l)) : Guard n N i b hs l := by
  obtain ⟨hd, hf, hc⟩ := h
  rw [depS] at hd
  rw [fineS] at hf
  rw [cntS] at hc
  simp only [Bool.and_eq_true, decide_eq_true_eq] at hf
  obtain ⟨⟨⟨h1, h2⟩, h3⟩, h4⟩ := hf
  exact ⟨⟨by omega, h1, by omega⟩, ⟨by omega, h4, by omega⟩, fun x hx => ⟨by have := depHs_mem hx; omega, fineHs_mem h2 hx, by have := cntHs_mem hx; omega⟩, h3⟩
theorem HanOk.row {n : Nat} {N : List Str} {ns : Option (List Str)} {r : List Stm} (h : HanOk n N (.mk ns r)) : Row n N true r ∧ ∀ xs, ns = some xs → xs.length ≤ 60 ∧ ∀ x ∈ xs, x ∈ N := by
  obtain ⟨hd, hf, hc⟩ := h
  rw [depH] at hd
  rw [fineH] at hf
  rw [cntH] at hc
  simp only [Bool.and_eq_true] at hf
  refine ⟨⟨hd, hf.2, hc⟩, fun xs e => ?_⟩
  subst e
  have h1 := hf.1
  unfold fineN at h1
  simp only [Bool.and_eq_true, decide_eq_true_eq, List.all_eq_true] at h1
  exact ⟨h1.2, fun x hx => h1.1 x hx⟩
theorem word_of {w : Str} (h : wordB w = true) : w = "step" ∨ w = "raise" ∨ w = "from" ∨ w = "hide" := by
  unfold wordB at h
  simp only [Bool.or_eq_true, decide_eq_true_eq] at h
  rcases h with ((h | h) | h) | h
  · exact .inl h
  · exact .inr (.inl h)
  · exact .inr (.inr (.inl h))
  · exact .inr (.inr (.inr h))
theorem word_ng {w : Str} (h : wordB w = true) : ¬ w = "guard" ∧ ¬ w = "again" ∧ ¬ w = "leave" := by
  rcases word_of h with rfl | rfl | rfl | rfl <;> decide +kernel
theorem StmOk.one {n : Nat} {N : List Str} {i : Bool} {w x : Str} (h : StmOk n N i (.one w x)) : wordB w = true ∧ x ∈ N ∧ (w = "from" → i = true) := by
  have hf := h.fine
  rw [fineS] at hf
  simp only [Bool.and_eq_true, decide_eq_true_eq, Bool.or_eq_true, Bool.not_eq_true', decide_eq_false_iff_not] at hf
  exact ⟨hf.1.1, hf.1.2, fun e => hf.2.resolve_right fun z => z e⟩
theorem StmOk.ag {n : Nat} {N : List Str} {i : Bool} (h : StmOk n N i .again) : i = true := by
  have hf := h.fine
  rwa [fineS] at hf
theorem stm_split {n : Nat} {N : List Str} {i : Bool} {s : Stm} (h : StmOk n N i s) : (∃ b hs l, s = .guard b hs l) ∨ (ownS s = .fz (pyS s) ∧ ∃ w es, pyS s = .tuple (.str w :: es) ∧ ¬ w = "guard") := by
  cases s with
  | guard b hs l => exact .inl ⟨b, hs, l, rfl⟩
  | again => exact .inr ⟨rfl, _, _, rfl, by decide +kernel⟩
  | leave => exact .inr ⟨rfl, _, _, rfl, by decide +kernel⟩
  | one w x => exact .inr ⟨rfl, w, _, rfl, (word_ng h.one.1).1⟩
theorem StmOk.pos {n : Nat} {N : List Str} {i : Bool} {b l : List Stm} {hs : List Han} (h : StmOk n N i (.guard b hs l)) : ∃ m, n = m + 1 := by
  have := h.dep
  rw [depS] at this
  exact ⟨n - 1, by omega⟩
mutual
def flatS : Stm → List Stm
  | .guard b hs l => .guard b hs l :: (flatR b ++ (flatR l ++ flatHs hs))
  | s => [s]
def flatR : List Stm → List Stm
  | [] => []
  | s :: r => flatS s ++ flatR r
def flatH : Han → List Stm
  | .mk _ r => flatR r
def flatHs : List Han → List Stm
  | [] => []
  | h :: r => flatH h ++ flatHs r
end
def rowOf : Han → List Stm
  | .mk _ r => r
def rowsS : Stm → List (List Stm)
  | .guard b hs l => b :: l :: hs.map rowOf
  | _ => []
def stmsD (xs : List Stm) : List D := xs.map fun s => .fz (pyS s)
theorem pyAll_stms (a : List Stm) : pyAll (stmsD a) = some (a.map pyS) := pyAll_map pyS a
theorem stms_len (a : List Stm) : (stmsD a).length = a.length := List.length_map _
theorem stms_app (a b : List Stm) : stmsD a ++ stmsD b = stmsD (a ++ b) := (List.map_append).symm
theorem strs_len (a : List Str) : (strsD a).length = a.length := List.length_map _
theorem flatHs_eq : ∀ hs : List Han, flatHs hs = ((hs.map rowOf).map flatR).flatten
  | [] => rfl
  | .mk ns r :: hs => by rw [flatHs, flatH, flatHs_eq hs]; rfl
theorem flatS_eq : ∀ s : Stm, flatS s = s :: ((rowsS s).map flatR).flatten
  | .guard b hs l => by rw [flatS, flatHs_eq]; rfl
  | .one w x => rfl
  | .again => rfl
  | .leave => rfl
theorem flatR_snoc : ∀ (a : List Stm) (s : Stm), flatR (a ++ [s]) = flatR a ++ flatS s
  | [], s => by show flatS s ++ [] = _; rw [List.append_nil]; rfl
  | x :: a, s => by rw [List.cons_append, flatR, flatR_snoc a s, flatR, List.append_assoc]
mutual
theorem flatS_len : ∀ s : Stm, (flatS s).length = cntS s
  | .guard b hs l => by
    rw [flatS, cntS, List.length_cons, List.length_append, List.length_append, flatR_len b, flatR_len l, flatHs_len hs]; omega
  | .one w x => rfl
  | .again => rfl
  | .leave => rfl
theorem flatR_len : ∀ r : List Stm, (flatR r).length = cntR r
  | [] => rfl
  | s :: r => by rw [flatR, cntR, List.length_append, flatS_len s, flatR_len r]
theorem flatHs_len : ∀ hs : List Han, (flatHs hs).length = cntHs hs
  | [] => rfl
  | h :: hs => by rw [flatHs, cntHs, List.length_append, flatH_len h, flatHs_len hs]
theorem flatH_len : ∀ h : Han, (flatH h).length = cntH h
  | .mk ns r => by rw [flatH, cntH, flatR_len r]
end
theorem flatR_app (a b : List Stm) : flatR (a ++ b) = flatR a ++ flatR b := by
  induction a with
  | nil => rfl
  | cons x a ih => rw [List.cons_append, flatR, ih, flatR, List.append_assoc]
theorem Row.flat_le {n : Nat} {N : List Str} {i : Bool} {r a : List Stm} {s : Stm} {b : List Stm} (h : Row n N i r) (e : r = a ++ s :: b) : (flatR a).length + (flatS s).length ≤ 60 := by
  have h1 := h.cnt
  rw [← flatR_len, e, flatR_app, List.length_append, flatR, List.length_append] at h1
  omega
theorem StmOk.rows {n : Nat} {N : List Str} {i : Bool} {s : Stm} (h : StmOk (n + 1) N i s) : ∀ r ∈ rowsS s, ∃ j, Row n N j r := by
  intro r hr
  cases s with
  | guard b hs l =>
    obtain ⟨hb, hl, hh, _⟩ := h.guard
    rcases List.mem_cons.mp hr with e | hr
    · exact ⟨i, e ▸ hb⟩
    rcases List.mem_cons.mp hr with e | hr
    · exact ⟨i, e ▸ hl⟩
    obtain ⟨⟨ns, r'⟩, hx, e⟩ := List.mem_map.mp hr
    obtain rfl : r' = r := e
    exact ⟨true, (hh _ hx).row.1⟩
  | _ => cases hr
theorem rowsS_zero {N : List Str} {i : Bool} {s : Stm} (h : StmOk 0 N i s) : rowsS s = [] := by
  cases s with
  | guard b hs l => obtain ⟨m, e⟩ := h.pos; cases e
  | _ => rfl
/-- names -/
def nmsO : Option (List Str) → List Str
  | none => []
  | some xs => xs
def hanNm : Han → List Str
  | .mk ns _ => nmsO ns
def ownNm : Stm → List Str
  | .one _ x => [x]
  | .guard _ hs _ => (hs.map hanNm).flatten
  | _ => []
def stepNm : Stm → List Str
  | .one w x => if w = "step" then [x] else []
  | _ => []
def stepsR (r : List Stm) : List Str := ((flatR r).map stepNm).flatten
def namesR (r : List Stm) : List Str := ((flatR r).map ownNm).flatten
mutual
theorem flat_ok {n : Nat} {N : List Str} : ∀ {i : Bool} (s : Stm), StmOk n N i s → ∀ t ∈ flatS s, ∃ m j, StmOk m N j t
  | i, .guard b hs l, h, t, ht => by
    rw [flatS] at ht
    rcases List.mem_cons.mp ht with e | ht
    · exact ⟨n, i, e ▸ h⟩
    obtain ⟨m, rfl⟩ := h.pos
    obtain ⟨hb, hl, hh, _⟩ := h.guard
    rcases List.mem_append.mp ht with ht | ht
    · exact flatR_ok b hb t ht
    rcases List.mem_append.mp ht with ht | ht
    · exact flatR_ok l hl t ht
    · exact flatHs_ok hs hh t ht
  | i, .one w x, h, t, ht => ⟨n, i, List.mem_singleton.mp ht ▸ h⟩
  | i, .again, h, t, ht => ⟨n, i, List.mem_singleton.mp ht ▸ h⟩
  | i, .leave, h, t, ht => ⟨n, i, List.mem_singleton.mp ht ▸ h⟩
theorem flatR_ok {n : Nat} {N : List Str} : ∀ {i : Bool} (r : List Stm), Row n N i r → ∀ t ∈ flatR r, ∃ m j, StmOk m N j t
  | i, [], h, t, ht => nomatch ht
  | i, s :: r, h, t, ht => by
    rw [flatR] at ht
    rcases List.mem_append.mp ht with ht | ht
    · exact flat_ok s (h.mem List.mem_cons_self) t ht
    · refine flatR_ok (n := n) (i := i) r ⟨?_, ?_, ?_⟩ t ht
      · have := h.dep; rw [depR] at this; omega
      · have := h.fine; rw [fineR, Bool.and_eq_true] at this; exact this.2
      · have := h.cnt; rw [cntR] at this; omega
theorem flatHs_ok {n : Nat} {N : List Str} : ∀ (hs : List Han), (∀ x ∈ hs, HanOk n N x) → ∀ t ∈ flatHs hs, ∃ m j, StmOk m N j t
  | [], h, t, ht => nomatch ht
  | .mk ns r :: hs, h, t, ht => by
    rw [flatHs] at ht
    rcases List.mem_append.mp ht with ht | ht
    · exact flatR_ok r ((h _ List.mem_cons_self).row).1 t ht
    · exact flatHs_ok hs (fun x hx => h x (List.mem_cons_of_mem _ hx)) t ht
end
theorem ownNm_in {n : Nat} {N : List Str} {i : Bool} {s : Stm} (h : StmOk n N i s) : ∀ x ∈ ownNm s, x ∈ N := by
  intro x hx
  cases s with
  | one w y => rw [List.mem_singleton.mp hx]; exact h.one.2.1
  | guard b hs l =>
    obtain ⟨m, rfl⟩ := h.pos
    obtain ⟨_, _, hh, _⟩ := h.guard
    obtain ⟨l', hl, hx⟩ := List.mem_flatten.mp hx
    obtain ⟨⟨ns, r⟩, hm, e⟩ := List.mem_map.mp hl
    obtain rfl : hanNm (.mk ns r) = l' := e
    cases ns with
    | none => cases hx
    | some xs => exact ((hh _ hm).row.2 xs rfl).2 x hx
  | _ => cases hx
theorem stepNm_in {n : Nat} {N : List Str} {i : Bool} {s : Stm} (h : StmOk n N i s) : ∀ x ∈ stepNm s, x ∈ N := by
  intro x hx
  cases s with
  | one w y =>
    have hx : x ∈ (if w = "step" then [y] else []) := hx
    by_cases z : w = "step"
    · rw [if_pos z] at hx; rw [List.mem_singleton.mp hx]; exact h.one.2.1
    · rw [if_neg z] at hx; cases hx
  | _ => cases hx
/-- unlike names of a row are at most sixty -/
theorem nodup_len {xs N : List Str} (h : xs.Nodup) (k : ∀ x ∈ xs, x ∈ N) : xs.length ≤ N.length := by
  exact h.length_le_of_subset k
theorem szN {n : Nat} (h : n < 100000) : n < sizeLine := by unfold sizeLine; omega
theorem szM {n : Nat} (h : n < 100000) : n ≤ sizeLine := Nat.le_of_lt (szN h)
theorem hans_len {n : Nat} {N : List Str} : ∀ hs : List Han, (∀ x ∈ hs, HanOk n N x) → ((hs.map hanNm).flatten).length ≤ 60 * hs.length
  | [], _ => Nat.le_refl _
  | .mk ns r :: hs, h => by
    have ih := hans_len hs fun x hx => h x (List.mem_cons_of_mem _ hx)
    have h1 : (hanNm (.mk ns r)).length ≤ 60 := by
      cases ns with
      | none => exact Nat.zero_le _
      | some xs => exact ((h _ List.mem_cons_self).row.2 xs rfl).1
    rw [List.map_cons, List.flatten_cons, List.length_append, List.length_cons]; omega
theorem strs_snoc (a : List Str) (x : Str) : strsD a ++ [D.fz (.str x)] = strsD (a ++ [x]) := by unfold strsD; rw [List.map_append]; rfl
theorem strs_map (xs : List Str) : (xs.map fun x => D.fz (.str x)) = strsD xs := rfl
/-- what a set of texts holds -/
structure SetOf (a L : List Str) : Prop where
  nd : a.Nodup
  mem : ∀ x, x ∈ a ↔ x ∈ L
theorem SetOf.nil : SetOf [] [] := ⟨List.nodup_nil, fun x => Iff.rfl⟩
theorem SetOf.put {a L : List Str} (h : SetOf a L) (k : Str) : SetOf (if k ∈ a then a else k :: a) (L ++ [k]) := by
  by_cases z : k ∈ a
  · rw [if_pos z]
    refine ⟨h.nd, fun x => ?_⟩
    rw [h.mem, List.mem_append, List.mem_singleton]
    exact ⟨.inl, fun q => q.elim id fun e => by rw [e]; exact (h.mem k).mp z⟩
  · rw [if_neg z]
    refine ⟨List.nodup_cons.mpr ⟨z, h.nd⟩, fun x => ?_⟩
    rw [List.mem_cons, h.mem, List.mem_append, List.mem_singleton]
    exact Or.comm
theorem SetOf.len {a L N : List Str} (h : SetOf a L) (k : ∀ x ∈ L, x ∈ N) : a.length ≤ N.length := nodup_len h.nd fun x hx => k x ((h.mem x).mp hx)
theorem SetOf.put_ok {a L N : List Str} (h : SetOf a L) (k : ∀ x ∈ L, x ∈ N) (n : N.length ≤ 60) (x : Str) : putS a (.fz (.str x)) = some (if x ∈ a then a else x :: a) := by
  have := h.len k
  show (if a.length + 1 < scanBound then some (if x ∈ a then a else x :: a) else none) = _
  rw [if_pos (by unfold scanBound; omega)]
/-- sorted, each once -/
structure Srt (ys L : List Str) : Prop where
  nd : ys.Nodup
  mem : ∀ x, x ∈ ys ↔ x ∈ L
  so : sortedS ys = true
theorem SetOf.srt {a L ys : List Str} (h : SetOf a L) (p : ys.Perm a) (s : sortedS ys = true) : Srt ys L := ⟨p.nodup_iff.mpr h.nd, fun x => (p.mem_iff).trans (h.mem x), s⟩
theorem Srt.len {ys L N : List Str} (h : Srt ys L) (k : ∀ x ∈ L, x ∈ N) : ys.length ≤ N.length := nodup_len h.nd fun x hx => k x ((h.mem x).mp hx)
theorem pyAll_mapfz (es : List PyData) : pyAll (es.map D.fz) = some es := by
  have := pyAll_map (fun e => e) es
  simpa using this
theorem pyAll_snoc (es : List PyData) (e : PyData) : pyAll (es.map D.fz ++ [D.fz e]) = some (es ++ [e]) := pyAll_app (pyAll_mapfz es) rfl
theorem enumD_map {α : Type} (g : α → PyData) (xs : List α) : enumD (xs.map g) = xs.zipIdx.map fun p => .fz (.tuple [.int (p.2 : Nat), g p.1]) := by
  unfold enumD
  apply List.ext_getElem
  · simp
  · intro i h1 h2
    simp at h1
    simp [h1]
theorem zip_mem {α : Type} {xs : List α} {p : α × Nat} (h : p ∈ xs.zipIdx) : p.1 ∈ xs := by
  obtain ⟨a, i⟩ := p
  obtain ⟨_, _, e⟩ := List.mem_zipIdx h
  rw [e]; exact List.getElem_mem _
theorem szA {n m : Nat} (h : n + m < 100000) : n + m ≤ sizeLine := szM h
theorem mem_mid {α : Type} {y x : α} {a b : List α} (h : y ∈ a ++ [x]) : y ∈ a ++ x :: b := by
  rcases List.mem_append.mp h with h | h
  · exact List.mem_append_left _ h
  · rw [List.mem_singleton.mp h]; exact List.mem_append_right _ List.mem_cons_self
theorem sl1g (n d : Nat) (q : Prop) : (¬ (HT.sIx (n + 1) d (some 1) = 0 ∧ q)) = True := by
  have : HT.sIx (n + 1) d (some ((1 : Nat) : Int)) = 1 := by rw [HT.sIx_nat]; omega
  have : HT.sIx (n + 1) d (some 1) = 1 := this
  rw [this]; simp
theorem sl1_1 (q : Prop) : (¬ (HT.sIx 1 0 (some 1) = 0 ∧ q)) = True := sl1g 0 0 q
theorem sl1_2 (q : Prop) : (¬ (HT.sIx 2 0 (some 1) = 0 ∧ q)) = True := sl1g 1 0 q
theorem sl1_3 (q : Prop) : (¬ (HT.sIx 3 0 (some 1) = 0 ∧ q)) = True := sl1g 2 0 q
theorem sl1_4 (q : Prop) : (¬ (HT.sIx 4 0 (some 1) = 0 ∧ q)) = True := sl1g 3 0 q
theorem cut1 {α : Type} (a : α) (xs : List α) : cutG (a :: xs) (some 1) none = xs := by
  unfold cutG
  have : HT.sIx (a :: xs).length 0 (some 1) = 1 := by
    have : HT.sIx (xs.length + 1) 0 (some ((1 : Nat) : Int)) = 1 := by rw [HT.sIx_nat]; omega
    exact this
  rw [this, HT.sIx_none]
  simp
theorem fzD_set (xs : List Str) : fzD (.set xs) = .set xs := rfl
theorem set_inj (xs ys : List Str) : (D.set xs = D.set ys) = (xs = ys) := by simp
theorem flD_str (x : Str) : flD (.str x) = some (.str x) := rfl
theorem flD_int (x : Int) : flD (.int x) = some (.int x) := rfl
theorem flA_nil : flA [] = some [] := rfl
theorem flA_str (x : Str) (r : List D) : flA (.fz (.str x) :: r) = (flA r).map (V.str x :: ·) := by
  unfold flA
  rw [List.mapM_cons]
  show Option.bind (some (V.str x)) (fun b => Option.bind (List.mapM _ r) fun bs => some (b :: bs)) = _
  cases List.mapM (m := Option) _ r <;> rfl
theorem flA_int (x : Int) (r : List D) : flA (.fz (.int x) :: r) = (flA r).map (V.int x :: ·) := by
  unfold flA
  rw [List.mapM_cons]
  show Option.bind (some (V.int x)) (fun b => Option.bind (List.mapM _ r) fun bs => some (b :: bs)) = _
  cases List.mapM (m := Option) _ r <;> rfl
theorem flA_map (xs : List Str) : flA (xs.map fun x => D.fz (.str x)) = some (xs.map V.str) := by
  induction xs with
  | nil => rfl
  | cons x xs ih => rw [List.map_cons, flA_str, ih]; rfl
theorem flA_strs (xs : List Str) : flA (strsD xs) = some (xs.map V.str) := flA_map xs
theorem inV_nil (x : V) : inV x [] = false := rfl
theorem eqV_str (x y : Str) : eqV (.str y) (.str x) = decide (x = y) := by
  show (y == x) = _
  by_cases h : x = y
  · subst h; simp
  · rw [decide_eq_false h]
    exact beq_false_of_ne fun e => h e.symm
theorem inV_str (x y : Str) (r : List V) : inV (.str x) (.str y :: r) = (decide (x = y) || inV (.str x) r) := by
  show (eqV (.str y) (.str x) || inV (.str x) r) = _
  rw [eqV_str]
theorem inV_strs (x : Str) (xs : List Str) : inV (.str x) (xs.map V.str) = decide (x ∈ xs) := by
  induction xs with
  | nil => rfl
  | cons y xs ih =>
    rw [List.map_cons, inV_str, ih]
    by_cases h : x = y
    · subst h; simp
    · by_cases k : x ∈ xs <;> simp [h, k]
def numsD (xs : List Int) : List D := xs.map fun x => .fz (.int x)
theorem ints_len (a : List Int) : (numsD a).length = a.length := List.length_map _
theorem pyAll_ints (xs : List Int) : pyAll (numsD xs) = some (xs.map .int) := pyAll_map PyData.int xs
theorem flA_mapI (xs : List Int) : flA (xs.map fun x => D.fz (.int x)) = some (xs.map V.int) := by
  induction xs with
  | nil => rfl
  | cons x xs ih => rw [List.map_cons, flA_int, ih]; rfl
theorem flA_ints (xs : List Int) : flA (numsD xs) = some (xs.map V.int) := flA_mapI xs
theorem inV_ints (x : Int) (xs : List Int) : inV (.int x) (xs.map V.int) = decide (x ∈ xs) := by
  induction xs with
  | nil => rfl
  | cons y xs ih =>
    show (y == x || inV (.int x) (xs.map V.int)) = _
    rw [ih]
    by_cases h : x = y
    · subst h; simp
    · have : (y == x) = false := beq_false_of_ne fun e => h e.symm
      rw [this]
      by_cases k : x ∈ xs <;> simp [h, k]
theorem ints_map (xs : List Int) : (xs.map fun x => D.fz (.int x)) = numsD xs := rfl
theorem elL_ints (xs : List Int) : elL (.own (numsD xs)) = some (numsD xs) := by
  unfold numsD
  rw [elL_own, if_pos (shr_map PyData.int xs)]
theorem fzD_tupfz (es : List PyData) : fzD (.tup (es.map D.fz)) = .fz (.tuple es) := by rw [fzD_tup, pyAll_mapfz]
theorem gCatT_fz (e1 e2 : List PyData) (δ : List D) (Q : W → List D → Prop) : gCatT (.tmp (.fz (.tuple e1))) (.tmp (.fz (.tuple e2))) δ Q = (e1 ≠ [] ∧ e1.length + e2.length ≤ sizeLine ∧ Q (.tmp (.fz (.tuple (e1 ++ e2)))) δ) := by
  have key : (if (e2.map D.fz).isEmpty then D.fz (.tuple e1) else fzD (.tup (e1.map .fz ++ e2.map .fz))) = .fz (.tuple (e1 ++ e2)) := by
    cases e2 with
    | nil => simp
    | cons a r => rw [if_neg (by simp), ← List.map_append, fzD_tupfz]
  apply propext
  unfold gCatT
  constructor
  · rintro ⟨a, b, h1, h2, h3, h4, q⟩
    cases h1
    obtain rfl : e2.map D.fz = b := Option.some.inj h2
    rw [key] at q
    rw [List.length_map] at h4
    exact ⟨h3, h4, q⟩
  · rintro ⟨h1, h2, q⟩
    exact ⟨e1, e2.map .fz, rfl, rfl, h1, by rw [List.length_map]; exact h2, by rw [key]; exact q⟩
/-! ### evaluation, where the value is known -/
theorem ev_vw_t (d : D) (δ : List D) : vw (.tmp d) δ = d := rfl
theorem ev_vw_s (i : Nat) (δ : List D) : vw (.slot i) δ = δ.getD i .hole := rfl
theorem ev_tk_t (d : D) (δ : List D) : tk (.tmp d) δ = (d, δ) := rfl
theorem ev_tk_s (i : Nat) (δ : List D) : tk (.slot i) δ = (δ.getD i .hole, δ.set i .hole) := rfl
theorem ev_tks_n (δ : List D) : tks [] δ = ([], δ) := rfl
theorem ev_tks_c (w : W) (ws : List W) (δ : List D) : tks (w :: ws) δ = ((tk w (tks ws δ).2).1 :: (tks ws δ).1, (tk w (tks ws δ).2).2) := rfl
theorem ev_fw_t (d : D) : fzW (.tmp d) = .tmp (fzD d) := rfl
theorem ev_fw_s (i : Nat) : fzW (.slot i) = .slot i := rfl
theorem ev_shr_fz (e : PyData) : shr (.fz e) = true := rfl
theorem ev_shr_dct (e : List (Str × PyData)) : shr (.dct e) = true := rfl
theorem ev_shr_ob (c : Nat) (ns : List Str) (es : List PyData) : shr (.ob c ns es) = true := rfl
theorem ev_shr_own (e : List D) : shr (.own e) = false := rfl
theorem ev_shr_tup (e : List D) : shr (.tup e) = false := rfl
theorem ev_shr_pur (e : Nat) : shr (.pur e) = false := rfl
theorem ev_shr_obj (c : Nat) (ns : List Str) (e : List D) : shr (.obj c ns e) = false := rfl
theorem ev_shr_set (e : List Str) : shr (.set e) = false := rfl
theorem ev_shr_odc (e : List (Str × PyData)) : shr (.odc e) = false := rfl
theorem ev_in_str (e : Str) : isNonD (.fz (.str e)) = some false := rfl
theorem ev_in_int (e : Int) : isNonD (.fz (.int e)) = some false := rfl
theorem ev_in_bool (e : Bool) : isNonD (.fz (.bool e)) = some false := rfl
theorem ev_in_list (e : List PyData) : isNonD (.fz (.list e)) = some false := rfl
theorem ev_in_tuple (e : List PyData) : isNonD (.fz (.tuple e)) = some false := rfl
theorem ev_in_none : isNonD (.fz .none) = some true := rfl
theorem ev_in_own (e : List D) : isNonD (.own e) = some false := rfl
theorem ev_in_tup (e : List D) : isNonD (.tup e) = some false := rfl
theorem ev_in_pur (e : Nat) : isNonD (.pur e) = some false := rfl
theorem ev_in_dct (e : List (Str × PyData)) : isNonD (.dct e) = some false := rfl
theorem ev_in_odc (e : List (Str × PyData)) : isNonD (.odc e) = some false := rfl
theorem ev_in_set (e : List Str) : isNonD (.set e) = some false := rfl
theorem ev_tr_none : truD (.fz .none) = some false := rfl
theorem ev_tr_bool (b : Bool) : truD (.fz (.bool b)) = some b := rfl
theorem ev_tr_int (b : Int) : truD (.fz (.int b)) = some (b != 0) := rfl
theorem ev_tr_list (b : List PyData) : truD (.fz (.list b)) = some (!b.isEmpty) := rfl
theorem ev_tr_tuple (b : List PyData) : truD (.fz (.tuple b)) = some (!b.isEmpty) := rfl
theorem ev_tr_own (b : List D) : truD (.own b) = some (!b.isEmpty) := rfl
theorem ev_tr_tup (b : List D) : truD (.tup b) = some (!b.isEmpty) := rfl
theorem ev_tr_dct (b : List (Str × PyData)) : truD (.dct b) = some (!b.isEmpty) := rfl
theorem ev_len_l (b : List PyData) : lenD (.fz (.list b)) = some b.length := rfl
theorem ev_len_t (b : List PyData) : lenD (.fz (.tuple b)) = some b.length := rfl
theorem ev_len_o (b : List D) : lenD (.own b) = some b.length := rfl
theorem ev_len_u (b : List D) : lenD (.tup b) = some b.length := rfl
theorem ev_fld_obj (c c' : Nat) (f : Str) (ns : List Str) (ds : List D) : fldD (.obj c' ns ds) c f = if c' = c then (ns.zip ds).lookup f else none := rfl
theorem ev_fld_ob (c c' : Nat) (f : Str) (ns : List Str) (ds : List PyData) : fldD (.ob c' ns ds) c f = if c' = c then (ns.zip (ds.map D.fz)).lookup f else none := rfl
theorem ev_ins_obj (c c' : Nat) (m : Str) (ns : List Str) (ds : List D) : insD c m (.obj c' ns ds) = (decide (c' = c) && !(ns.contains m)) := rfl
theorem ev_ins_ob (c c' : Nat) (m : Str) (ns : List Str) (ds : List PyData) : insD c m (.ob c' ns ds) = (decide (c' = c) && !(ns.contains m)) := rfl
theorem ev_tup_fz (n : Nat) (hs : List D → List D → (List D → Prop) → Prop) (es : List PyData) (δ : List D) (Q : List D → Prop) : fgTup n hs (.fz (.tuple es)) δ Q = ((es.map D.fz).length = n ∧ hs (es.map D.fz) δ Q) := rfl
theorem ev_tup_tup (n : Nat) (hs : List D → List D → (List D → Prop) → Prop) (es : List D) (δ : List D) (Q : List D → Prop) : fgTup n hs (.tup es) δ Q = (es.length = n ∧ hs es δ Q) := rfl
theorem ev_gc_cons (h : D → List D → (List D → Prop) → Prop) (hs : List D → List D → (List D → Prop) → Prop) (d : D) (r δ : List D) (Q : List D → Prop) : fgCons h hs (d :: r) δ Q = h d δ fun δ1 => hs r δ1 Q := rfl
theorem ev_gc_nil (δ : List D) (Q : List D → Prop) : fgNil [] δ Q = Q δ := rfl
theorem ev_mk1 (a : PyData) : mkT [.fz a] = .fz (.tuple [a]) := rfl
theorem ev_mk2 (a b : PyData) : mkT [.fz a, .fz b] = .fz (.tuple [a, b]) := rfl
theorem ev_mk3 (a b c : PyData) : mkT [.fz a, .fz b, .fz c] = .fz (.tuple [a, b, c]) := rfl
theorem ev_mk4 (a b c d : PyData) : mkT [.fz a, .fz b, .fz c, .fz d] = .fz (.tuple [a, b, c, d]) := rfl
theorem ev_mk_own0 (a : List D) (r : List D) : mkT (.own a :: r) = .tup (.own a :: r) := rfl
theorem ev_mk_tup0 (a : List D) (r : List D) : mkT (.tup a :: r) = .tup (.tup a :: r) := rfl
theorem ev_mk_own1 (x : D) (a : List D) (r : List D) : mkT (x :: .own a :: r) = .tup (x :: .own a :: r) := if_neg (by simp [shr])
theorem ev_mk_own2 (x y : D) (a : List D) (r : List D) : mkT (x :: y :: .own a :: r) = .tup (x :: y :: .own a :: r) := if_neg (by simp [shr])
theorem ev_mk_tup1 (x : D) (a : List D) (r : List D) : mkT (x :: .tup a :: r) = .tup (x :: .tup a :: r) := if_neg (by simp [shr])
theorem ev_mk_tup2 (x y : D) (a : List D) (r : List D) : mkT (x :: y :: .tup a :: r) = .tup (x :: y :: .tup a :: r) := if_neg (by simp [shr])
end OwnD
namespace OwnD
open PySem PySem.Spec PyProof.Rows L2 Own
/-! ### what a run of a row tells, by data -/
/-- a chain: word, name, number -/
abbrev Ch := List (Str × Str × Int)
inductive Out
  | ended
  | left
  | err (c : Ch)
  | asks (x : Str) (h : Option Ch)
def pyT (t : Str × Str × Int) : PyData := .tuple [.str t.1, .str t.2.1, .int t.2.2]
def pyC (c : Ch) : PyData := .tuple (c.map pyT)
def pyHd : Option Ch → PyData
  | none => .none
  | some c => pyC c
def pyO : Out → PyData
  | .ended => .tuple [.str "ended"]
  | .left => .tuple [.str "left"]
  | .err c => .tuple [.str "error", pyC c]
  | .asks x h => .tuple [.str "asks", .str x, pyHd h]
structure Rst where
  ran : List Str
  over : List Int
def chainOf (w x : Str) (k : Int) : Option Ch → Ch
  | none => [("told", x, k)]
  | some [] => [("told", x, k)]
  | some (t :: r) => if w = "hide" then [("told", x, k)] else ("told", x, k) :: ((if w = "from" then "from" else "during"), t.2) :: r
def catches : Option (List Str) → Ch → Bool
  | none, _ => true
  | some ns, c => match c with | t :: _ => decide (t.2.1 ∈ ns) | [] => false
def numsO : Option Ch → List Int
  | none => []
  | some c => c.map (·.2.2)
def gotOver (c : Ch) (h : Option Ch) (st : Rst) : Rst := ⟨st.ran, st.over ++ (c.map (·.2.2)).filter fun k => !decide (k ∈ numsO h)⟩
def wayOf (h : Option Ch) : Out → Option Ch
  | .err c => some c
  | _ => h
def isE : Out → Bool
  | .ended => true
  | _ => false
def isAsk : Out → Bool
  | .asks _ _ => true
  | _ => false
mutual
def runS (an : Str → Option Bool) : Stm → Option Ch → Rst → Out × Rst
  | .one w x, h, st => if w = "step" then
      match an x with
      | none => (.asks x h, st)
      | some true => (.err (chainOf "step" x st.ran.length h), ⟨st.ran ++ [x], st.over⟩)
      | some false => (.ended, ⟨st.ran ++ [x], st.over⟩)
    else (.err (chainOf w x (-1) h), st)
  | .again, h, st => (.err (h.getD []), st)
  | .leave, h, st => (.left, st)
  | .guard b hs l, h, st =>
    let q := runR an b h st
    let q2 := match q.1 with
      | .err c => runHs an hs c h q.2
      | _ => q
    if isAsk q2.1 then q2 else
      let q3 := runR an l (wayOf h q2.1) q2.2
      if isE q3.1 then (q2.1, q3.2) else q3
def runR (an : Str → Option Bool) : List Stm → Option Ch → Rst → Out × Rst
  | [], h, st => (.ended, st)
  | s :: r, h, st =>
    let q := runS an s h st
    if isE q.1 then runR an r h q.2 else q
def runH (an : Str → Option Bool) : Han → Ch → Option Ch → Rst → Out × Rst
  | .mk _ r, c, h, st =>
    let q := runR an r (some c) st
    if isE q.1 then (.ended, gotOver c h q.2) else q
def runHs (an : Str → Option Bool) : List Han → Ch → Option Ch → Rst → Out × Rst
  | [], c, h, st => (.err c, st)
  | .mk ns r :: hs, c, h, st => if catches ns c then runH an (.mk ns r) c h st else runHs an hs c h st
end
def hl : Option Ch → Nat
  | none => 0
  | some c => c.length
/-- what is being handled is a chain with an error -/
def Cok (c : Ch) : Prop := c ≠ [] ∧ ∀ t ∈ c, PyData.strOk t.1 = true ∧ PyData.strOk t.2.1 = true
def Hok (h : Option Ch) : Prop := ∀ c, h = some c → Cok c
theorem nmB_ok {x : Str} (h : nmB x = true) : PyData.strOk x = true := by
  unfold nmB at h
  simp only [Bool.and_eq_true, List.all_eq_true, decide_eq_true_eq] at h
  show x.cps.all (fun x => decide (x < 1114112)) = true
  rw [← Array.all_toList, List.all_eq_true]
  intro c hc
  have := h.2 c hc
  exact decide_eq_true (by omega)
/-- the bounds of a run -/
structure RB (h : Option Ch) (k m : Nat) (st : Rst) (q : Out × Rst) : Prop where
  ran : q.2.ran.length ≤ st.ran.length + k
  over : q.2.over.length ≤ st.over.length + 200 * m
  err : ∀ c, q.1 = .err c → Cok c ∧ c.length ≤ hl h + k
  asks : ∀ x g, q.1 = .asks x g → (PyData.strOk x = true ∧ Hok g) ∧ hl g ≤ hl h + k
theorem chainOf_ok (w : Str) {x : Str} (k : Int) {h : Option Ch} (hx : PyData.strOk x = true) (hh : Hok h) : Cok (chainOf w x k h) ∧ (chainOf w x k h).length ≤ hl h + 1 := by
  have one : Cok [("told", x, k)] := ⟨fun e => (by cases e), fun t ht => by rw [List.mem_singleton.mp ht]; exact ⟨(by show PyData.strOk "told" = true; decide +kernel), hx⟩⟩
  cases h with
  | none => exact ⟨one, Nat.le_refl _⟩
  | some c =>
    cases c with
    | nil => exact absurd rfl (hh [] rfl).1
    | cons t r =>
      have e : chainOf w x k (some (t :: r)) = ((if w = "hide" then [("told", x, k)] else ("told", x, k) :: ((if w = "from" then "from" else "during"), t.2) :: r) : Ch) := rfl
      rw [e]
      split
      · exact ⟨one, by simp⟩
      · refine ⟨⟨fun e => (by cases e), fun u hu => ?_⟩, by show r.length + 1 + 1 ≤ (t :: r).length + 1; simp⟩
        have ht := (hh _ rfl).2
        rcases List.mem_cons.mp hu with e | hu
        · subst e; exact ⟨by show PyData.strOk "told" = true; decide +kernel, hx⟩
        rcases List.mem_cons.mp hu with e | hu
        · subst e
          refine ⟨?_, (ht t List.mem_cons_self).2⟩
          show PyData.strOk (if w = "from" then "from" else "during") = true
          split <;> decide +kernel
        · exact ht u (List.mem_cons_of_mem _ hu)
theorem isE_eq : ∀ {o : Out}, isE o = true → o = .ended
  | .ended, _ => rfl
theorem Hok.some {c : Ch} (h : Cok c) : Hok (some c) := fun d e => by cases e; exact h
theorem hl_way {h : Option Ch} {o : Out} {m : Nat} (k : ∀ c, o = .err c → Cok c ∧ c.length ≤ hl h + m) (hh : Hok h) : Hok (wayOf h o) ∧ hl (wayOf h o) ≤ hl h + m := by
  cases o with
  | err c => exact ⟨Hok.some (k c rfl).1, (k c rfl).2⟩
  | ended => exact ⟨hh, Nat.le_add_right _ _⟩
  | left => exact ⟨hh, Nat.le_add_right _ _⟩
  | asks x g => exact ⟨hh, Nat.le_add_right _ _⟩
theorem way_some {h : Option Ch} (o : Out) (i : h.isSome = true) : (wayOf h o).isSome = true := by cases o <;> first | rfl | exact i
theorem gotOver_len (c : Ch) (h : Option Ch) (st : Rst) : (gotOver c h st).over.length ≤ st.over.length + c.length := by
  unfold gotOver
  have := List.length_filter_le (fun k => !decide (k ∈ numsO h)) (c.map (·.2.2))
  simp only [List.length_append, List.length_map] at this ⊢
  omega
mutual
theorem runS_b (an : Str → Option Bool) {N : List Str} (hN : Nams N) {i : Bool} : ∀ (s : Stm) (h : Option Ch) (st : Rst), fineS N i s = true → Hok h → (i = true → h.isSome = true) → hl h + cntS s ≤ 200 → RB h (cntS s) (cntS s) st (runS an s h st)
  | .one w x, h, st, hf, hh, hi, hb => by
    rw [runS]
    have e1 : cntS (.one w x) = 1 := rfl
    have hx : PyData.strOk x = true := by
      rw [fineS] at hf
      simp only [Bool.and_eq_true, decide_eq_true_eq] at hf
      exact nmB_ok (hN.ok x hf.1.2)
    split
    · cases an x with
      | none => exact ⟨by simp, by simp, fun c e => (by cases e), fun x g e => by cases e; exact ⟨⟨hx, hh⟩, Nat.le_add_right _ _⟩⟩
      | some b =>
        cases b with
        | false => exact ⟨by simp [e1], by simp, fun c e => (by cases e), fun x g e => by cases e⟩
        | true => exact ⟨by simp [e1], by simp, fun c e => (by cases e; exact chainOf_ok _ _ hx hh), fun x g e => by cases e⟩
    · exact ⟨by simp, by simp, fun c e => (by cases e; exact chainOf_ok _ _ hx hh), fun x g e => by cases e⟩
  | .again, h, st, hf, hh, hi, hb => by
    rw [runS]
    rw [fineS] at hf
    obtain ⟨c, rfl⟩ := Option.isSome_iff_exists.mp (hi hf)
    exact ⟨by simp, by simp, fun d e => (by cases e; exact ⟨hh c rfl, Nat.le_add_right _ _⟩), fun x g e => by cases e⟩
  | .leave, h, st, hf, hh, hi, hb => by
    rw [runS]
    exact ⟨by simp, by simp, fun d e => (by cases e), fun x g e => by cases e⟩
  | .guard b hs l, h, st, hf, hh, hi, hb => by
    rw [fineS] at hf
    simp only [Bool.and_eq_true] at hf
    obtain ⟨⟨⟨f1, f2⟩, f3⟩, f4⟩ := hf
    rw [cntS] at hb ⊢
    rw [runS]
    have r1 := runR_b an hN b h st f1 hh hi (by omega)
    generalize runR an b h st = q at r1
    obtain ⟨o, s1⟩ := q
    have r2 : RB h (cntR b + cntHs hs) (cntR b + cntHs hs + 1) st (match (generalizing := false) o with | .err c => runHs an hs c h s1 | _ => (o, s1)) := by
      cases o with
      | err c =>
        have hc := r1.err c rfl
        have e2 : hl (some c) = c.length := rfl
        have r := runHs_b an hN hs c h s1 f2 hc.1 hh (by have := hc.2; omega)
        have := hc.2
        have := r1.ran; have := r1.over; have := r.ran; have := r.over
        dsimp only at *
        exact ⟨by omega, by omega, fun d e => ⟨(r.err d e).1, by have := (r.err d e).2; omega⟩, fun x g e => ⟨(r.asks x g e).1, by have := (r.asks x g e).2; omega⟩⟩
      | _ =>
        have := r1.ran; have := r1.over
        dsimp only at *
        exact ⟨by dsimp only; omega, by dsimp only; omega, fun d e => (by cases e), fun x g e => ⟨(r1.asks x g e).1, by have := (r1.asks x g e).2; omega⟩⟩
    dsimp only
    generalize (match (generalizing := false) o with | .err c => runHs an hs c h s1 | _ => (o, s1)) = q2 at r2
    obtain ⟨o2, s2⟩ := q2
    have w : Hok (wayOf h o2) ∧ hl (wayOf h o2) ≤ hl h + (cntR b + cntHs hs) := hl_way (m := cntR b + cntHs hs) r2.err hh
    have r3 := runR_b an hN l (wayOf h o2) s2 f4 w.1 (fun z => way_some o2 (hi z)) (by have := w.2; omega)
    generalize runR an l (wayOf h o2) s2 = q3 at r3
    obtain ⟨o3, s3⟩ := q3
    have := w.2
    have := r2.ran; have := r2.over; have := r3.ran; have := r3.over
    dsimp only at *
    split
    · exact ⟨by dsimp only; omega, by dsimp only; omega, fun d e => ⟨(r2.err d e).1, by have := (r2.err d e).2; omega⟩, fun x g e => ⟨(r2.asks x g e).1, by have := (r2.asks x g e).2; omega⟩⟩
    split
    · exact ⟨by dsimp only; omega, by dsimp only; omega, fun d e => ⟨(r2.err d e).1, by have := (r2.err d e).2; omega⟩, fun x g e => ⟨(r2.asks x g e).1, by have := (r2.asks x g e).2; omega⟩⟩
    · exact ⟨by dsimp only; omega, by dsimp only; omega, fun d e => ⟨(r3.err d e).1, by have := (r3.err d e).2; omega⟩, fun x g e => ⟨(r3.asks x g e).1, by have := (r3.asks x g e).2; omega⟩⟩
theorem runR_b (an : Str → Option Bool) {N : List Str} (hN : Nams N) {i : Bool} : ∀ (r : List Stm) (h : Option Ch) (st : Rst), fineR N i r = true → Hok h → (i = true → h.isSome = true) → hl h + cntR r ≤ 200 → RB h (cntR r) (cntR r) st (runR an r h st)
  | [], h, st, hf, hh, hi, hb => by
    rw [runR]
    exact ⟨by simp, by simp, fun d e => (by cases e), fun x g e => by cases e⟩
  | s :: r, h, st, hf, hh, hi, hb => by
    rw [fineR, Bool.and_eq_true] at hf
    rw [cntR] at hb ⊢
    rw [runR]
    have r1 := runS_b an hN s h st hf.1 hh hi (by omega)
    generalize runS an s h st = q at r1
    obtain ⟨o, s1⟩ := q
    have r2 := runR_b an hN r h s1 hf.2 hh hi (by omega)
    have := r1.ran; have := r1.over; have := r2.ran; have := r2.over
    dsimp only at *
    split
    · exact ⟨by omega, by omega, fun d e => ⟨(r2.err d e).1, by have := (r2.err d e).2; omega⟩, fun x g e => ⟨(r2.asks x g e).1, by have := (r2.asks x g e).2; omega⟩⟩
    · exact ⟨by dsimp only; omega, by dsimp only; omega, fun d e => ⟨(r1.err d e).1, by have := (r1.err d e).2; omega⟩, fun x g e => ⟨(r1.asks x g e).1, by have := (r1.asks x g e).2; omega⟩⟩
theorem runH_b (an : Str → Option Bool) {N : List Str} (hN : Nams N) : ∀ (x : Han) (c : Ch) (h : Option Ch) (st : Rst), fineH N x = true → Cok c → Hok h → c.length + cntH x ≤ 200 → RB (some c) (cntH x) (cntH x + 1) st (runH an x c h st)
  | .mk ns r, c, h, st, hf, hc, hh, hb => by
    rw [fineH, Bool.and_eq_true] at hf
    rw [cntH] at hb ⊢
    rw [runH]
    have r1 := runR_b an hN r (some c) st hf.2 (Hok.some hc) (fun _ => rfl) hb
    generalize runR an r (some c) st = q at r1
    obtain ⟨o, s1⟩ := q
    have := r1.ran; have := r1.over
    have := gotOver_len c h s1
    have e : (gotOver c h s1).ran = s1.ran := rfl
    dsimp only at *
    split
    · exact ⟨by rw [e]; omega, by dsimp only; omega, fun d e => (by cases e), fun x g e => by cases e⟩
    · exact ⟨by dsimp only; omega, by dsimp only; omega, fun d e => ⟨(r1.err d e).1, by have := (r1.err d e).2; omega⟩, fun x g e => ⟨(r1.asks x g e).1, by have := (r1.asks x g e).2; omega⟩⟩
theorem runHs_b (an : Str → Option Bool) {N : List Str} (hN : Nams N) : ∀ (hs : List Han) (c : Ch) (h : Option Ch) (st : Rst), fineHs N hs = true → Cok c → Hok h → c.length + cntHs hs ≤ 200 → RB (some c) (cntHs hs) (cntHs hs + 1) st (runHs an hs c h st)
  | [], c, h, st, hf, hc, hh, hb => by
    rw [runHs]
    exact ⟨by simp, by simp, fun d e => (by cases e; exact ⟨hc, Nat.le_add_right _ _⟩), fun x g e => by cases e⟩
  | .mk ns r :: hs, c, h, st, hf, hc, hh, hb => by
    rw [fineHs, Bool.and_eq_true] at hf
    rw [cntHs] at hb ⊢
    rw [runHs]
    split
    · have r1 := runH_b an hN (.mk ns r) c h st hf.1 hc hh (by omega)
      have := r1.ran; have := r1.over
      exact ⟨by omega, by omega, fun d e => ⟨(r1.err d e).1, by have := (r1.err d e).2; omega⟩, fun x g e => ⟨(r1.asks x g e).1, by have := (r1.asks x g e).2; omega⟩⟩
    · have r1 := runHs_b an hN hs c h st hf.2 hc hh (by omega)
      have := r1.ran; have := r1.over
      exact ⟨by omega, by omega, fun d e => ⟨(r1.err d e).1, by have := (r1.err d e).2; omega⟩, fun x g e => ⟨(r1.asks x g e).1, by have := (r1.asks x g e).2; omega⟩⟩
end
def Ook : Out → Prop
  | .err c => Cok c
  | .asks x h => PyData.strOk x = true ∧ Hok h
  | _ => True
theorem RB.ok {h : Option Ch} {k m : Nat} {st : Rst} {q : Out × Rst} (r : RB h k m st q) : Ook q.1 := by
  obtain ⟨o, s⟩ := q
  cases o with
  | err c => exact (r.err c rfl).1
  | asks x g => exact (r.asks x g rfl).1
  | _ => trivial
theorem lay_c : ∀ c : Ch, (∀ t ∈ c, PyData.strOk t.1 = true ∧ PyData.strOk t.2.1 = true) → PyData.canLayAll0 (c.map pyT) = true ∧ PyData.depthAll (c.map pyT) ≤ 1
  | [], _ => ⟨rfl, Nat.zero_le _⟩
  | t :: r, h => by
    obtain ⟨a, b⟩ := lay_c r fun u hu => h u (List.mem_cons_of_mem _ hu)
    obtain ⟨h1, h2⟩ := h t List.mem_cons_self
    refine ⟨?_, ?_⟩
    · show (PyData.canLayAll0 [.str t.1, .str t.2.1, .int t.2.2] && PyData.canLayAll0 (r.map pyT)) = true
      rw [a, Bool.and_true]
      show (PyData.strOk t.1 && (PyData.strOk t.2.1 && (true && true))) = true
      rw [h1, h2]; rfl
    · show max (PyData.depth (pyT t)) (PyData.depthAll (r.map pyT)) ≤ 1
      have : PyData.depth (pyT t) = 1 := rfl
      omega
theorem lay_hd {h : Option Ch} (k : Hok h) : PyData.canLay0 (pyHd h) = true ∧ PyData.depth (pyHd h) ≤ 2 := by
  cases h with
  | none => exact ⟨rfl, Nat.zero_le _⟩
  | some c =>
    obtain ⟨a, b⟩ := lay_c c (k c rfl).2
    exact ⟨a, Nat.succ_le_succ b⟩
theorem shaped_O {o : Out} (h : Ook o) : SeqAt.shaped (pyO o) = true := by
  have go : ∀ {d : PyData}, d.canLay0 = true → d.depth ≤ 64 → SeqAt.shaped d = true := fun a b => by
    unfold SeqAt.shaped
    rw [a, decide_eq_true b]; rfl
  cases o with
  | ended => decide +kernel
  | left => decide +kernel
  | err c =>
    obtain ⟨a, b⟩ := lay_hd (h := some c) (fun d e => by cases e; exact h)
    refine go ?_ ?_
    · show (PyData.strOk "error" && (PyData.canLay0 (pyC c) && true)) = true
      rw [show PyData.canLay0 (pyC c) = true from a]; decide +kernel
    · show max (PyData.depth (.str "error")) (max (PyData.depth (pyC c)) 0) + 1 ≤ 64
      have : PyData.depth (.str "error") = 0 := rfl
      have : PyData.depth (pyC c) ≤ 2 := b
      omega
  | asks x g =>
    obtain ⟨a, b⟩ := lay_hd h.2
    refine go ?_ ?_
    · show (PyData.strOk "asks" && (PyData.strOk x && (PyData.canLay0 (pyHd g) && true))) = true
      rw [a, h.1]; decide +kernel
    · show max (PyData.depth (.str "asks")) (max (PyData.depth (.str x)) (max (PyData.depth (pyHd g)) 0)) + 1 ≤ 64
      have : PyData.depth (.str "asks") = 0 := rfl
      have : PyData.depth (.str x) = 0 := rfl
      omega
theorem shaped_E : SeqAt.shaped (.tuple [.str "ended"]) = true := by decide +kernel
theorem eqv_E (o : Out) : PyData.eqv (pyO o) (.tuple [.str "ended"]) = isE o := by
  cases o with
  | ended => decide +kernel
  | left => decide +kernel
  | err c =>
    show (("error" : Str) == ("ended" : Str) && PyData.eqvAll [pyC c] []) = false
    rw [show (("error" : Str) == ("ended" : Str)) = false by decide +kernel]; rfl
  | asks x h =>
    show (("asks" : Str) == ("ended" : Str) && PyData.eqvAll [.str x, pyHd h] []) = false
    rw [show (("asks" : Str) == ("ended" : Str)) = false by decide +kernel]; rfl
def objR (kvs : List (Str × PyData)) (st : Rst) : D := .obj 0 ["answers", "ran", "over"] [.dct kvs, .own (strsD st.ran), .own (numsD st.over)]
def Ans (kvs : List (Str × PyData)) (an : Str → Option Bool) : Prop := ∀ x, kvs.lookup x = (an x).map .bool
/-- what a run's call asks of its bounds -/
structure Rgo (k m : Nat) (i : Bool) (h : Option Ch) (st : Rst) : Prop where
  ok : Hok h
  some : i = true → h.isSome = true
  h : hl h + k ≤ 200
  ran : st.ran.length + k ≤ 1000
  over : st.over.length + 200 * m ≤ 30000
/-! ### names of fields -/
theorem fbanswers_ran : ((("answers" : Str)) == ("ran" : Str)) = false := by decide +kernel
theorem fbanswers_ran' : ((("answers" : Str)) = ("ran" : Str)) = False := eq_false (by decide +kernel)
theorem fbanswers_over : ((("answers" : Str)) == ("over" : Str)) = false := by decide +kernel
theorem fbanswers_over' : ((("answers" : Str)) = ("over" : Str)) = False := eq_false (by decide +kernel)
theorem fbanswers_out : ((("answers" : Str)) == ("out" : Str)) = false := by decide +kernel
theorem fbanswers_out' : ((("answers" : Str)) = ("out" : Str)) = False := eq_false (by decide +kernel)
theorem fbanswers_row : ((("answers" : Str)) == ("_row" : Str)) = false := by decide +kernel
theorem fbanswers_row' : ((("answers" : Str)) = ("_row" : Str)) = False := eq_false (by decide +kernel)
theorem fbanswers_steps : ((("answers" : Str)) == ("_steps" : Str)) = false := by decide +kernel
theorem fbanswers_steps' : ((("answers" : Str)) = ("_steps" : Str)) = False := eq_false (by decide +kernel)
theorem fbanswers_names : ((("answers" : Str)) == ("_names" : Str)) = false := by decide +kernel
theorem fbanswers_names' : ((("answers" : Str)) = ("_names" : Str)) = False := eq_false (by decide +kernel)
theorem fbran_answers : ((("ran" : Str)) == ("answers" : Str)) = false := by decide +kernel
theorem fbran_answers' : ((("ran" : Str)) = ("answers" : Str)) = False := eq_false (by decide +kernel)
theorem fbran_over : ((("ran" : Str)) == ("over" : Str)) = false := by decide +kernel
theorem fbran_over' : ((("ran" : Str)) = ("over" : Str)) = False := eq_false (by decide +kernel)
theorem fbran_out : ((("ran" : Str)) == ("out" : Str)) = false := by decide +kernel
theorem fbran_out' : ((("ran" : Str)) = ("out" : Str)) = False := eq_false (by decide +kernel)
theorem fbran_row : ((("ran" : Str)) == ("_row" : Str)) = false := by decide +kernel
theorem fbran_row' : ((("ran" : Str)) = ("_row" : Str)) = False := eq_false (by decide +kernel)
theorem fbran_steps : ((("ran" : Str)) == ("_steps" : Str)) = false := by decide +kernel
theorem fbran_steps' : ((("ran" : Str)) = ("_steps" : Str)) = False := eq_false (by decide +kernel)
theorem fbran_names : ((("ran" : Str)) == ("_names" : Str)) = false := by decide +kernel
theorem fbran_names' : ((("ran" : Str)) = ("_names" : Str)) = False := eq_false (by decide +kernel)
theorem fbover_answers : ((("over" : Str)) == ("answers" : Str)) = false := by decide +kernel
theorem fbover_answers' : ((("over" : Str)) = ("answers" : Str)) = False := eq_false (by decide +kernel)
theorem fbover_ran : ((("over" : Str)) == ("ran" : Str)) = false := by decide +kernel
theorem fbover_ran' : ((("over" : Str)) = ("ran" : Str)) = False := eq_false (by decide +kernel)
theorem fbover_out : ((("over" : Str)) == ("out" : Str)) = false := by decide +kernel
theorem fbover_out' : ((("over" : Str)) = ("out" : Str)) = False := eq_false (by decide +kernel)
theorem fbover_row : ((("over" : Str)) == ("_row" : Str)) = false := by decide +kernel
theorem fbover_row' : ((("over" : Str)) = ("_row" : Str)) = False := eq_false (by decide +kernel)
theorem fbover_steps : ((("over" : Str)) == ("_steps" : Str)) = false := by decide +kernel
theorem fbover_steps' : ((("over" : Str)) = ("_steps" : Str)) = False := eq_false (by decide +kernel)
theorem fbover_names : ((("over" : Str)) == ("_names" : Str)) = false := by decide +kernel
theorem fbover_names' : ((("over" : Str)) = ("_names" : Str)) = False := eq_false (by decide +kernel)
theorem fbout_answers : ((("out" : Str)) == ("answers" : Str)) = false := by decide +kernel
theorem fbout_answers' : ((("out" : Str)) = ("answers" : Str)) = False := eq_false (by decide +kernel)
theorem fbout_ran : ((("out" : Str)) == ("ran" : Str)) = false := by decide +kernel
theorem fbout_ran' : ((("out" : Str)) = ("ran" : Str)) = False := eq_false (by decide +kernel)
theorem fbout_over : ((("out" : Str)) == ("over" : Str)) = false := by decide +kernel
theorem fbout_over' : ((("out" : Str)) = ("over" : Str)) = False := eq_false (by decide +kernel)
theorem fbout_row : ((("out" : Str)) == ("_row" : Str)) = false := by decide +kernel
theorem fbout_row' : ((("out" : Str)) = ("_row" : Str)) = False := eq_false (by decide +kernel)
theorem fbout_steps : ((("out" : Str)) == ("_steps" : Str)) = false := by decide +kernel
theorem fbout_steps' : ((("out" : Str)) = ("_steps" : Str)) = False := eq_false (by decide +kernel)
theorem fbout_names : ((("out" : Str)) == ("_names" : Str)) = false := by decide +kernel
theorem fbout_names' : ((("out" : Str)) = ("_names" : Str)) = False := eq_false (by decide +kernel)
theorem fbrow_answers : ((("_row" : Str)) == ("answers" : Str)) = false := by decide +kernel
theorem fbrow_answers' : ((("_row" : Str)) = ("answers" : Str)) = False := eq_false (by decide +kernel)
theorem fbrow_ran : ((("_row" : Str)) == ("ran" : Str)) = false := by decide +kernel
theorem fbrow_ran' : ((("_row" : Str)) = ("ran" : Str)) = False := eq_false (by decide +kernel)
theorem fbrow_over : ((("_row" : Str)) == ("over" : Str)) = false := by decide +kernel
theorem fbrow_over' : ((("_row" : Str)) = ("over" : Str)) = False := eq_false (by decide +kernel)
theorem fbrow_out : ((("_row" : Str)) == ("out" : Str)) = false := by decide +kernel
theorem fbrow_out' : ((("_row" : Str)) = ("out" : Str)) = False := eq_false (by decide +kernel)
theorem fbrow_steps : ((("_row" : Str)) == ("_steps" : Str)) = false := by decide +kernel
theorem fbrow_steps' : ((("_row" : Str)) = ("_steps" : Str)) = False := eq_false (by decide +kernel)
theorem fbrow_names : ((("_row" : Str)) == ("_names" : Str)) = false := by decide +kernel
theorem fbrow_names' : ((("_row" : Str)) = ("_names" : Str)) = False := eq_false (by decide +kernel)
theorem fbsteps_answers : ((("_steps" : Str)) == ("answers" : Str)) = false := by decide +kernel
theorem fbsteps_answers' : ((("_steps" : Str)) = ("answers" : Str)) = False := eq_false (by decide +kernel)
theorem fbsteps_ran : ((("_steps" : Str)) == ("ran" : Str)) = false := by decide +kernel
theorem fbsteps_ran' : ((("_steps" : Str)) = ("ran" : Str)) = False := eq_false (by decide +kernel)
theorem fbsteps_over : ((("_steps" : Str)) == ("over" : Str)) = false := by decide +kernel
theorem fbsteps_over' : ((("_steps" : Str)) = ("over" : Str)) = False := eq_false (by decide +kernel)
theorem fbsteps_out : ((("_steps" : Str)) == ("out" : Str)) = false := by decide +kernel
theorem fbsteps_out' : ((("_steps" : Str)) = ("out" : Str)) = False := eq_false (by decide +kernel)
theorem fbsteps_row : ((("_steps" : Str)) == ("_row" : Str)) = false := by decide +kernel
theorem fbsteps_row' : ((("_steps" : Str)) = ("_row" : Str)) = False := eq_false (by decide +kernel)
theorem fbsteps_names : ((("_steps" : Str)) == ("_names" : Str)) = false := by decide +kernel
theorem fbsteps_names' : ((("_steps" : Str)) = ("_names" : Str)) = False := eq_false (by decide +kernel)
theorem fbnames_answers : ((("_names" : Str)) == ("answers" : Str)) = false := by decide +kernel
theorem fbnames_answers' : ((("_names" : Str)) = ("answers" : Str)) = False := eq_false (by decide +kernel)
theorem fbnames_ran : ((("_names" : Str)) == ("ran" : Str)) = false := by decide +kernel
theorem fbnames_ran' : ((("_names" : Str)) = ("ran" : Str)) = False := eq_false (by decide +kernel)
theorem fbnames_over : ((("_names" : Str)) == ("over" : Str)) = false := by decide +kernel
theorem fbnames_over' : ((("_names" : Str)) = ("over" : Str)) = False := eq_false (by decide +kernel)
theorem fbnames_out : ((("_names" : Str)) == ("out" : Str)) = false := by decide +kernel
theorem fbnames_out' : ((("_names" : Str)) = ("out" : Str)) = False := eq_false (by decide +kernel)
theorem fbnames_row : ((("_names" : Str)) == ("_row" : Str)) = false := by decide +kernel
theorem fbnames_row' : ((("_names" : Str)) = ("_row" : Str)) = False := eq_false (by decide +kernel)
theorem fbnames_steps : ((("_names" : Str)) == ("_steps" : Str)) = false := by decide +kernel
theorem fbnames_steps' : ((("_names" : Str)) = ("_steps" : Str)) = False := eq_false (by decide +kernel)
theorem fV_objR (kvs : List (Str × PyData)) (st : Rst) (i : Nat) (δ : List D) (Q : W → List D → Prop) : fVarD (objR kvs st) i δ Q = Q (.slot i) δ := rfl
theorem py_fz (e : PyData) : (D.fz e).py = some e := by rw [D.py]
theorem shr_objR (kvs : List (Str × PyData)) (st : Rst) : shr (objR kvs st) = false := rfl
theorem insR_run_row (kvs : List (Str × PyData)) (st : Rst) : insD 0 "run_row" (objR kvs st) = true := by
  show (decide (0 = 0) && !((["answers", "ran", "over"] : List Str).contains "run_row")) = true
  decide +kernel
theorem insR_run_statement (kvs : List (Str × PyData)) (st : Rst) : insD 0 "run_statement" (objR kvs st) = true := by
  show (decide (0 = 0) && !((["answers", "ran", "over"] : List Str).contains "run_statement")) = true
  decide +kernel
theorem insR_run_step (kvs : List (Str × PyData)) (st : Rst) : insD 0 "run_step" (objR kvs st) = true := by
  show (decide (0 = 0) && !((["answers", "ran", "over"] : List Str).contains "run_step")) = true
  decide +kernel
theorem insR_run_guard (kvs : List (Str × PyData)) (st : Rst) : insD 0 "run_guard" (objR kvs st) = true := by
  show (decide (0 = 0) && !((["answers", "ran", "over"] : List Str).contains "run_guard")) = true
  decide +kernel
theorem insR_run_handlers (kvs : List (Str × PyData)) (st : Rst) : insD 0 "run_handlers" (objR kvs st) = true := by
  show (decide (0 = 0) && !((["answers", "ran", "over"] : List Str).contains "run_handlers")) = true
  decide +kernel
theorem insR_get_over (kvs : List (Str × PyData)) (st : Rst) : insD 0 "get_over" (objR kvs st) = true := by
  show (decide (0 = 0) && !((["answers", "ran", "over"] : List Str).contains "get_over")) = true
  decide +kernel
theorem over_fm (L xs : List Int) : (xs.filterMap fun k => if k ∈ L then none else some (D.fz (.int k))) = numsD (xs.filter fun k => !decide (k ∈ L)) := by
  induction xs with
  | nil => rfl
  | cons x xs ih =>
    by_cases h : x ∈ L
    · simp only [List.filterMap_cons, h, if_true, List.filter_cons, decide_true, Bool.not_true, Bool.false_eq_true, if_false]; exact ih
    · simp only [List.filterMap_cons, h, if_false, List.filter_cons, decide_false, Bool.not_false, if_true]; rw [ih]; rfl
theorem nums_app (a b : List Int) : numsD a ++ numsD b = numsD (a ++ b) := (List.map_append).symm
theorem got_eq (c : Ch) (h : Option Ch) (st : Rst) : (gotOver c h st).over = st.over ++ (c.map (·.2.2)).filter fun k => !decide (k ∈ numsO h) := rfl
theorem got_ran (c : Ch) (h : Option Ch) (st : Rst) : (gotOver c h st).ran = st.ran := rfl
theorem runR_cons (an : Str → Option Bool) (x : Stm) (r : List Stm) (h : Option Ch) (st : Rst) : runR an (x :: r) h st = if isE (runS an x h st).1 then runR an r h (runS an x h st).2 else runS an x h st := by rw [runR]
theorem runR_nil (an : Str → Option Bool) (h : Option Ch) (st : Rst) : runR an [] h st = (.ended, st) := by rw [runR]
theorem cntR_app (a b : List Stm) : cntR (a ++ b) = cntR a + cntR b := by
  induction a with
  | nil => show _ = 0 + _; rw [Nat.zero_add]; rfl
  | cons x a ih => rw [List.cons_append, cntR, ih, cntR]; omega
theorem Rgo.sub {k m k' m' : Nat} {i : Bool} {h : Option Ch} {st st' : Rst} (g : Rgo k m i h st) (a : k' ≤ k) (b : st'.ran.length + k' ≤ 1000) (c : st'.over.length + 200 * m' ≤ 30000) : Rgo k' m' i h st' := ⟨g.ok, g.some, by have := g.h; omega, b, c⟩
theorem isE_no {o : Out} (h : isE o = false) : ∀ {P : Prop}, o = .ended → P := fun e => by rw [e] at h; cases h
def bodyOf (an : Str → Option Bool) (hs : List Han) (h : Option Ch) (q : Out × Rst) : Out × Rst := match q.1 with
  | .err c => runHs an hs c h q.2
  | _ => q
def lastOf (an : Str → Option Bool) (l : List Stm) (h : Option Ch) (q2 : Out × Rst) : Out × Rst :=
  if isAsk q2.1 then q2 else if isE (runR an l (wayOf h q2.1) q2.2).1 then (q2.1, (runR an l (wayOf h q2.1) q2.2).2) else runR an l (wayOf h q2.1) q2.2
theorem runG (an : Str → Option Bool) (b l : List Stm) (hs : List Han) (h : Option Ch) (st : Rst) : runS an (.guard b hs l) h st = lastOf an l h (bodyOf an hs h (runR an b h st)) := by
  rw [runS]; rfl
theorem guard_go (an : Str → Option Bool) {n : Nat} {N : List Str} (hN : Nams N) {i : Bool} {b l : List Stm} {hs : List Han} {h : Option Ch} {st : Rst} (hf : StmOk (n + 1) N i (.guard b hs l)) (g : Rgo (cntS (.guard b hs l)) (cntS (.guard b hs l)) i h st) :
    Rgo (cntR b) (cntR b) i h st ∧ (∀ c, (runR an b h st).1 = .err c → Cok c ∧ Rgo (cntHs hs) (cntHs hs + 1) false (some c) (runR an b h st).2) ∧
    Rgo (cntR l) (cntR l) i (wayOf h (bodyOf an hs h (runR an b h st)).1) (bodyOf an hs h (runR an b h st)).2 ∧ Ook (runR an l (wayOf h (bodyOf an hs h (runR an b h st)).1) (bodyOf an hs h (runR an b h st)).2).1 := by
  have hf2 := hf.fine
  rw [fineS] at hf2
  simp only [Bool.and_eq_true] at hf2
  obtain ⟨⟨⟨f1, f2⟩, f3⟩, f4⟩ := hf2
  have g1 := g.h; have g2 := g.ran; have g3 := g.over
  rw [cntS] at g1 g2 g3
  have go : Rgo (cntR b) (cntR b) i h st := ⟨g.ok, g.some, by omega, by omega, by omega⟩
  have r1 := runR_b an hN b h st f1 g.ok g.some (by omega)
  generalize runR an b h st = q1 at r1
  obtain ⟨o1, s1⟩ := q1
  have a1 := r1.ran; have a2 := r1.over
  dsimp only at a1 a2
  have hd : ∀ c, (o1, s1).1 = .err c → Cok c ∧ Rgo (cntHs hs) (cntHs hs + 1) false (some c) s1 := fun c e => by
    have := r1.err c e
    refine ⟨this.1, Hok.some this.1, fun z => (by cases z), ?_, by omega, by omega⟩
    show c.length + cntHs hs ≤ 200
    omega
  refine ⟨go, hd, ?_⟩
  have r2 : RB h (cntR b + cntHs hs) (cntR b + cntHs hs + 1) st (bodyOf an hs h (o1, s1)) := by
    cases o1 with
    | err c =>
      have e2 : hl (some c) = c.length := rfl
      have hc := r1.err c rfl
      have := hc.2
      have r := runHs_b an hN hs c h s1 f2 hc.1 g.ok (by omega)
      have := r.ran; have := r.over
      exact ⟨by show (runHs an hs c h s1).2.ran.length ≤ _; omega, by show (runHs an hs c h s1).2.over.length ≤ _; omega, fun d e => ⟨(r.err d e).1, by have := (r.err d e).2; omega⟩, fun x g e => ⟨(r.asks x g e).1, by have := (r.asks x g e).2; omega⟩⟩
    | ended => exact ⟨by show s1.ran.length ≤ _; omega, by show s1.over.length ≤ _; omega, fun d e => (by cases e), fun x g e => (by cases e)⟩
    | left => exact ⟨by show s1.ran.length ≤ _; omega, by show s1.over.length ≤ _; omega, fun d e => (by cases e), fun x g e => (by cases e)⟩
    | asks y k => exact ⟨by show s1.ran.length ≤ _; omega, by show s1.over.length ≤ _; omega, fun d e => (by cases e), fun x g e => ⟨(r1.asks x g e).1, by have := (r1.asks x g e).2; omega⟩⟩
  generalize bodyOf an hs h (o1, s1) = q2 at r2
  have w : Hok (wayOf h q2.1) ∧ hl (wayOf h q2.1) ≤ hl h + (cntR b + cntHs hs) := hl_way (m := cntR b + cntHs hs) r2.err g.ok
  have := w.2; have := r2.ran; have := r2.over
  have g4 : Rgo (cntR l) (cntR l) i (wayOf h q2.1) q2.2 := ⟨w.1, fun z => way_some q2.1 (g.some z), by omega, by omega, by omega⟩
  exact ⟨g4, (runR_b an hN l (wayOf h q2.1) q2.2 f4 g4.ok g4.some g4.h).ok⟩
theorem runHs_cons (an : Str → Option Bool) (ns : Option (List Str)) (r : List Stm) (hs : List Han) (c : Ch) (h : Option Ch) (st : Rst) : runHs an (.mk ns r :: hs) c h st = if catches ns c then (if isE (runR an r (some c) st).1 then (.ended, gotOver c h (runR an r (some c) st).2) else runR an r (some c) st) else runHs an hs c h st := by
  rw [runHs, runH]
theorem runHs_nil (an : Str → Option Bool) (c : Ch) (h : Option Ch) (st : Rst) : runHs an [] c h st = (.err c, st) := by rw [runHs]
theorem elT_pyC (c : Ch) : elT (.fz (pyC c)) = some (c.map fun t => .fz (pyT t)) := by
  show some ((c.map pyT).map D.fz) = _
  rw [List.map_map]; rfl
theorem elT_pyT (t : Str × Str × Int) : elT (.fz (pyT t)) = some [.fz (.str t.1), .fz (.str t.2.1), .fz (.int t.2.2)] := rfl
theorem pyHd_some (c : Ch) : pyHd (some c) = pyC c := rfl
theorem pyHd_none : pyHd none = .none := rfl
theorem pyO_ended : pyO .ended = .tuple [.str "ended"] := rfl
theorem pyO_left : pyO .left = .tuple [.str "left"] := rfl
theorem pyO_err (c : Ch) : pyO (.err c) = .tuple [.str "error", pyC c] := rfl
theorem pyO_asks (x : Str) (h : Option Ch) : pyO (.asks x h) = .tuple [.str "asks", .str x, pyHd h] := rfl
theorem isNonC (c : Ch) : isNonD (.fz (pyC c)) = some false := rfl
/-! ### words -/
theorem wn_step_raise : ((("step" : Str)) = ("raise" : Str)) = False := eq_false (by decide +kernel)
theorem wn_step_from : ((("step" : Str)) = ("from" : Str)) = False := eq_false (by decide +kernel)
theorem wn_step_hide : ((("step" : Str)) = ("hide" : Str)) = False := eq_false (by decide +kernel)
theorem wn_step_again : ((("step" : Str)) = ("again" : Str)) = False := eq_false (by decide +kernel)
theorem wn_step_leave : ((("step" : Str)) = ("leave" : Str)) = False := eq_false (by decide +kernel)
theorem wn_step_guard : ((("step" : Str)) = ("guard" : Str)) = False := eq_false (by decide +kernel)
theorem wn_step_ended : ((("step" : Str)) = ("ended" : Str)) = False := eq_false (by decide +kernel)
theorem wn_step_left : ((("step" : Str)) = ("left" : Str)) = False := eq_false (by decide +kernel)
theorem wn_step_error : ((("step" : Str)) = ("error" : Str)) = False := eq_false (by decide +kernel)
theorem wn_step_asks : ((("step" : Str)) = ("asks" : Str)) = False := eq_false (by decide +kernel)
theorem wn_raise_step : ((("raise" : Str)) = ("step" : Str)) = False := eq_false (by decide +kernel)
theorem wn_raise_from : ((("raise" : Str)) = ("from" : Str)) = False := eq_false (by decide +kernel)
theorem wn_raise_hide : ((("raise" : Str)) = ("hide" : Str)) = False := eq_false (by decide +kernel)
theorem wn_raise_again : ((("raise" : Str)) = ("again" : Str)) = False := eq_false (by decide +kernel)
theorem wn_raise_leave : ((("raise" : Str)) = ("leave" : Str)) = False := eq_false (by decide +kernel)
theorem wn_raise_guard : ((("raise" : Str)) = ("guard" : Str)) = False := eq_false (by decide +kernel)
theorem wn_raise_ended : ((("raise" : Str)) = ("ended" : Str)) = False := eq_false (by decide +kernel)
theorem wn_raise_left : ((("raise" : Str)) = ("left" : Str)) = False := eq_false (by decide +kernel)
theorem wn_raise_error : ((("raise" : Str)) = ("error" : Str)) = False := eq_false (by decide +kernel)
theorem wn_raise_asks : ((("raise" : Str)) = ("asks" : Str)) = False := eq_false (by decide +kernel)
theorem wn_from_step : ((("from" : Str)) = ("step" : Str)) = False := eq_false (by decide +kernel)
theorem wn_from_raise : ((("from" : Str)) = ("raise" : Str)) = False := eq_false (by decide +kernel)
theorem wn_from_hide : ((("from" : Str)) = ("hide" : Str)) = False := eq_false (by decide +kernel)
theorem wn_from_again : ((("from" : Str)) = ("again" : Str)) = False := eq_false (by decide +kernel)
theorem wn_from_leave : ((("from" : Str)) = ("leave" : Str)) = False := eq_false (by decide +kernel)
theorem wn_from_guard : ((("from" : Str)) = ("guard" : Str)) = False := eq_false (by decide +kernel)
theorem wn_from_ended : ((("from" : Str)) = ("ended" : Str)) = False := eq_false (by decide +kernel)
theorem wn_from_left : ((("from" : Str)) = ("left" : Str)) = False := eq_false (by decide +kernel)
theorem wn_from_error : ((("from" : Str)) = ("error" : Str)) = False := eq_false (by decide +kernel)
theorem wn_from_asks : ((("from" : Str)) = ("asks" : Str)) = False := eq_false (by decide +kernel)
theorem wn_hide_step : ((("hide" : Str)) = ("step" : Str)) = False := eq_false (by decide +kernel)
theorem wn_hide_raise : ((("hide" : Str)) = ("raise" : Str)) = False := eq_false (by decide +kernel)
theorem wn_hide_from : ((("hide" : Str)) = ("from" : Str)) = False := eq_false (by decide +kernel)
theorem wn_hide_again : ((("hide" : Str)) = ("again" : Str)) = False := eq_false (by decide +kernel)
theorem wn_hide_leave : ((("hide" : Str)) = ("leave" : Str)) = False := eq_false (by decide +kernel)
theorem wn_hide_guard : ((("hide" : Str)) = ("guard" : Str)) = False := eq_false (by decide +kernel)
theorem wn_hide_ended : ((("hide" : Str)) = ("ended" : Str)) = False := eq_false (by decide +kernel)
theorem wn_hide_left : ((("hide" : Str)) = ("left" : Str)) = False := eq_false (by decide +kernel)
theorem wn_hide_error : ((("hide" : Str)) = ("error" : Str)) = False := eq_false (by decide +kernel)
theorem wn_hide_asks : ((("hide" : Str)) = ("asks" : Str)) = False := eq_false (by decide +kernel)
theorem wn_again_step : ((("again" : Str)) = ("step" : Str)) = False := eq_false (by decide +kernel)
theorem wn_again_raise : ((("again" : Str)) = ("raise" : Str)) = False := eq_false (by decide +kernel)
theorem wn_again_from : ((("again" : Str)) = ("from" : Str)) = False := eq_false (by decide +kernel)
theorem wn_again_hide : ((("again" : Str)) = ("hide" : Str)) = False := eq_false (by decide +kernel)
theorem wn_again_leave : ((("again" : Str)) = ("leave" : Str)) = False := eq_false (by decide +kernel)
theorem wn_again_guard : ((("again" : Str)) = ("guard" : Str)) = False := eq_false (by decide +kernel)
theorem wn_again_ended : ((("again" : Str)) = ("ended" : Str)) = False := eq_false (by decide +kernel)
theorem wn_again_left : ((("again" : Str)) = ("left" : Str)) = False := eq_false (by decide +kernel)
theorem wn_again_error : ((("again" : Str)) = ("error" : Str)) = False := eq_false (by decide +kernel)
theorem wn_again_asks : ((("again" : Str)) = ("asks" : Str)) = False := eq_false (by decide +kernel)
theorem wn_leave_step : ((("leave" : Str)) = ("step" : Str)) = False := eq_false (by decide +kernel)
theorem wn_leave_raise : ((("leave" : Str)) = ("raise" : Str)) = False := eq_false (by decide +kernel)
theorem wn_leave_from : ((("leave" : Str)) = ("from" : Str)) = False := eq_false (by decide +kernel)
theorem wn_leave_hide : ((("leave" : Str)) = ("hide" : Str)) = False := eq_false (by decide +kernel)
theorem wn_leave_again : ((("leave" : Str)) = ("again" : Str)) = False := eq_false (by decide +kernel)
theorem wn_leave_guard : ((("leave" : Str)) = ("guard" : Str)) = False := eq_false (by decide +kernel)
theorem wn_leave_ended : ((("leave" : Str)) = ("ended" : Str)) = False := eq_false (by decide +kernel)
theorem wn_leave_left : ((("leave" : Str)) = ("left" : Str)) = False := eq_false (by decide +kernel)
theorem wn_leave_error : ((("leave" : Str)) = ("error" : Str)) = False := eq_false (by decide +kernel)
theorem wn_leave_asks : ((("leave" : Str)) = ("asks" : Str)) = False := eq_false (by decide +kernel)
theorem wn_guard_step : ((("guard" : Str)) = ("step" : Str)) = False := eq_false (by decide +kernel)
theorem wn_guard_raise : ((("guard" : Str)) = ("raise" : Str)) = False := eq_false (by decide +kernel)
theorem wn_guard_from : ((("guard" : Str)) = ("from" : Str)) = False := eq_false (by decide +kernel)
theorem wn_guard_hide : ((("guard" : Str)) = ("hide" : Str)) = False := eq_false (by decide +kernel)
theorem wn_guard_again : ((("guard" : Str)) = ("again" : Str)) = False := eq_false (by decide +kernel)
theorem wn_guard_leave : ((("guard" : Str)) = ("leave" : Str)) = False := eq_false (by decide +kernel)
theorem wn_guard_ended : ((("guard" : Str)) = ("ended" : Str)) = False := eq_false (by decide +kernel)
theorem wn_guard_left : ((("guard" : Str)) = ("left" : Str)) = False := eq_false (by decide +kernel)
theorem wn_guard_error : ((("guard" : Str)) = ("error" : Str)) = False := eq_false (by decide +kernel)
theorem wn_guard_asks : ((("guard" : Str)) = ("asks" : Str)) = False := eq_false (by decide +kernel)
theorem wn_ended_step : ((("ended" : Str)) = ("step" : Str)) = False := eq_false (by decide +kernel)
theorem wn_ended_raise : ((("ended" : Str)) = ("raise" : Str)) = False := eq_false (by decide +kernel)
theorem wn_ended_from : ((("ended" : Str)) = ("from" : Str)) = False := eq_false (by decide +kernel)
theorem wn_ended_hide : ((("ended" : Str)) = ("hide" : Str)) = False := eq_false (by decide +kernel)
theorem wn_ended_again : ((("ended" : Str)) = ("again" : Str)) = False := eq_false (by decide +kernel)
theorem wn_ended_leave : ((("ended" : Str)) = ("leave" : Str)) = False := eq_false (by decide +kernel)
theorem wn_ended_guard : ((("ended" : Str)) = ("guard" : Str)) = False := eq_false (by decide +kernel)
theorem wn_ended_left : ((("ended" : Str)) = ("left" : Str)) = False := eq_false (by decide +kernel)
theorem wn_ended_error : ((("ended" : Str)) = ("error" : Str)) = False := eq_false (by decide +kernel)
theorem wn_ended_asks : ((("ended" : Str)) = ("asks" : Str)) = False := eq_false (by decide +kernel)
theorem wn_left_step : ((("left" : Str)) = ("step" : Str)) = False := eq_false (by decide +kernel)
theorem wn_left_raise : ((("left" : Str)) = ("raise" : Str)) = False := eq_false (by decide +kernel)
theorem wn_left_from : ((("left" : Str)) = ("from" : Str)) = False := eq_false (by decide +kernel)
theorem wn_left_hide : ((("left" : Str)) = ("hide" : Str)) = False := eq_false (by decide +kernel)
theorem wn_left_again : ((("left" : Str)) = ("again" : Str)) = False := eq_false (by decide +kernel)
theorem wn_left_leave : ((("left" : Str)) = ("leave" : Str)) = False := eq_false (by decide +kernel)
theorem wn_left_guard : ((("left" : Str)) = ("guard" : Str)) = False := eq_false (by decide +kernel)
theorem wn_left_ended : ((("left" : Str)) = ("ended" : Str)) = False := eq_false (by decide +kernel)
theorem wn_left_error : ((("left" : Str)) = ("error" : Str)) = False := eq_false (by decide +kernel)
theorem wn_left_asks : ((("left" : Str)) = ("asks" : Str)) = False := eq_false (by decide +kernel)
theorem wn_error_step : ((("error" : Str)) = ("step" : Str)) = False := eq_false (by decide +kernel)
theorem wn_error_raise : ((("error" : Str)) = ("raise" : Str)) = False := eq_false (by decide +kernel)
theorem wn_error_from : ((("error" : Str)) = ("from" : Str)) = False := eq_false (by decide +kernel)
theorem wn_error_hide : ((("error" : Str)) = ("hide" : Str)) = False := eq_false (by decide +kernel)
theorem wn_error_again : ((("error" : Str)) = ("again" : Str)) = False := eq_false (by decide +kernel)
theorem wn_error_leave : ((("error" : Str)) = ("leave" : Str)) = False := eq_false (by decide +kernel)
theorem wn_error_guard : ((("error" : Str)) = ("guard" : Str)) = False := eq_false (by decide +kernel)
theorem wn_error_ended : ((("error" : Str)) = ("ended" : Str)) = False := eq_false (by decide +kernel)
theorem wn_error_left : ((("error" : Str)) = ("left" : Str)) = False := eq_false (by decide +kernel)
theorem wn_error_asks : ((("error" : Str)) = ("asks" : Str)) = False := eq_false (by decide +kernel)
theorem wn_asks_step : ((("asks" : Str)) = ("step" : Str)) = False := eq_false (by decide +kernel)
theorem wn_asks_raise : ((("asks" : Str)) = ("raise" : Str)) = False := eq_false (by decide +kernel)
theorem wn_asks_from : ((("asks" : Str)) = ("from" : Str)) = False := eq_false (by decide +kernel)
theorem wn_asks_hide : ((("asks" : Str)) = ("hide" : Str)) = False := eq_false (by decide +kernel)
theorem wn_asks_again : ((("asks" : Str)) = ("again" : Str)) = False := eq_false (by decide +kernel)
theorem wn_asks_leave : ((("asks" : Str)) = ("leave" : Str)) = False := eq_false (by decide +kernel)
theorem wn_asks_guard : ((("asks" : Str)) = ("guard" : Str)) = False := eq_false (by decide +kernel)
theorem wn_asks_ended : ((("asks" : Str)) = ("ended" : Str)) = False := eq_false (by decide +kernel)
theorem wn_asks_left : ((("asks" : Str)) = ("left" : Str)) = False := eq_false (by decide +kernel)
theorem wn_asks_error : ((("asks" : Str)) = ("error" : Str)) = False := eq_false (by decide +kernel)
theorem runS_one (an : Str → Option Bool) (w x : Str) (h : Option Ch) (st : Rst) (n : ¬ w = "step") : runS an (.one w x) h st = (.err (chainOf w x (-1) h), st) := by rw [runS, if_neg n]
theorem runS_again (an : Str → Option Bool) (h : Option Ch) (st : Rst) : runS an .again h st = (.err (h.getD []), st) := by rw [runS]
theorem runS_leave (an : Str → Option Bool) (h : Option Ch) (st : Rst) : runS an .leave h st = (.left, st) := by rw [runS]
theorem lk_map (x : Str) (e : PyData) (y : Str) : ∀ kvs : List (Str × PyData), (kvs.map (fun p => if p.1 = x then (p.1, e) else p)).lookup y = if y = x then (kvs.lookup y).map (fun _ => e) else kvs.lookup y
  | [] => by simp
  | (k, v) :: r => by
    have ih := lk_map x e y r
    rw [List.map_cons]
    by_cases hk : k = x
    · rw [if_pos hk, List.lookup_cons, List.lookup_cons]
      by_cases hy : y = k
      · subst hy; simp [hk]
      · have : (y == k) = false := beq_false_of_ne hy
        rw [this]; exact ih
    · rw [if_neg hk, List.lookup_cons, List.lookup_cons]
      by_cases hy : y = k
      · subst hy; simp [hk]
      · have : (y == k) = false := beq_false_of_ne hy
        rw [this]; exact ih
theorem lk_app (x : Str) (e : PyData) (y : Str) : ∀ kvs : List (Str × PyData), (kvs ++ [(x, e)]).lookup y = match kvs.lookup y with | some v => some v | none => if y = x then some e else none
  | [] => by
    rw [List.nil_append, List.lookup_cons]
    by_cases hy : y = x
    · subst hy; simp
    · have : (y == x) = false := beq_false_of_ne hy
      rw [this]; simp [hy]
  | (k, v) :: r => by
    rw [List.cons_append, List.lookup_cons, List.lookup_cons]
    by_cases hy : y = k
    · subst hy; simp
    · have : (y == k) = false := beq_false_of_ne hy
      rw [this]; exact lk_app x e y r
theorem lk_any (x : Str) : ∀ kvs : List (Str × PyData), (kvs.any (fun p => decide (p.1 = x))) = (kvs.lookup x).isSome
  | [] => rfl
  | (k, v) :: r => by
    rw [List.any_cons, List.lookup_cons, lk_any x r]
    by_cases hy : x = k
    · subst hy; simp
    · have h1 : (x == k) = false := beq_false_of_ne hy
      have h2 : decide ((k, v).1 = x) = false := decide_eq_false fun z => hy z.symm
      rw [h1, h2]; rfl
theorem lk_put (kvs : List (Str × PyData)) (x : Str) (e : PyData) (y : Str) : (putD kvs x e).lookup y = if y = x then some e else kvs.lookup y := by
  unfold putD
  rw [lk_any]
  cases h : kvs.lookup x with
  | some v =>
    rw [if_pos (by rfl), lk_map]
    by_cases hy : y = x
    · subst hy; rw [if_pos rfl, if_pos rfl, h]; rfl
    · rw [if_neg hy, if_neg hy]
  | none =>
    rw [if_neg (by simp), lk_app]
    by_cases hy : y = x
    · subst hy; rw [h, if_pos rfl]
    · rw [if_neg hy, if_neg hy]; cases kvs.lookup y <;> rfl
theorem putD_len (kvs : List (Str × PyData)) (x : Str) (e : PyData) : (putD kvs x e).length ≤ kvs.length + 1 := by
  unfold putD
  split <;> simp
theorem turnK_cons {us : List Nat} {h : D → List D → (List D → Prop) → Prop} {ft : List D → (Bool → List D → Prop) → Prop} {fk fv : List D → (W → List D → Prop) → Prop} {K : List (Str × PyData) → List D → Prop} {d : D} {r : List D} {a : List (Str × PyData)} {δ : List D} :
    turnK us h ft fk fv K (d :: r) a δ = h d (wipeD δ us) fun δ1 => ft δ1 fun b δ2 => if b = true then fk δ2 fun w δ3 => fv δ3 fun u δ4 => ∃ x e, vw w δ4 = .fz (.str x) ∧ vw (fzW u) δ4 = .fz e ∧ a.length < sizeLine ∧ turnK us h ft fk fv K r (putD a x e) δ4 else turnK us h ft fk fv K r a δ2 := rfl
theorem turnK_acc {α : Type} {us : List Nat} {h : D → List D → (List D → Prop) → Prop} {ft : List D → (Bool → List D → Prop) → Prop} {fk fv : List D → (W → List D → Prop) → Prop} {K : List (Str × PyData) → List D → Prop} (y : α → D) (I : List α → List (Str × PyData) → List D → Prop) (xs : List α) (a : List (Str × PyData)) (δ : List D) (h0 : I [] a δ)
    (st : ∀ (x : α) (done rest : List α) (a : List (Str × PyData)) (δ : List D), xs = done ++ x :: rest → I done a δ → (∀ a' δ', I (done ++ [x]) a' δ' → turnK us h ft fk fv K (rest.map y) a' δ') → turnK us h ft fk fv K (y x :: rest.map y) a δ) (hd : ∀ a δ, I xs a δ → K a δ) : turnK us h ft fk fv K (xs.map y) a δ := by
  have key : ∀ (rest done : List α) (a : List (Str × PyData)) (δ : List D), done ++ rest = xs → I done a δ → turnK us h ft fk fv K (rest.map y) a δ := by
    intro rest
    induction rest with
    | nil =>
      intro done a δ e i
      rw [List.append_nil] at e
      subst e
      exact hd a δ i
    | cons x rest ih =>
      intro done a δ e i
      refine st x done rest a δ e.symm i fun a' δ' i' => ih (done ++ [x]) a' δ' (by rw [← e]; simp) i'
  exact key xs [] a δ rfl h0
/-- answers by lot, for some names -/
def anLot (ys lot : List Str) (x : Str) : Option Bool := if x ∈ ys then some (decide (x ∈ lot)) else none
theorem ans_of {kvs : List (Str × PyData)} {ys lot : List Str} (h : ∀ x, kvs.lookup x = if x ∈ ys then some (.bool (decide (x ∈ lot))) else none) : Ans kvs (anLot ys lot) := by
  intro x
  rw [h x]
  unfold anLot
  split <;> rfl
def objO (kvs : List (Str × PyData)) (st : Rst) (o : Out) : D := .obj 0 ["answers", "ran", "over", "out"] [.dct kvs, .own (strsD st.ran), .own (numsD st.over), .fz (pyO o)]
/-- a program, made: its row, its steps, its names -/
def obP (r : List Stm) (ys zs : List Str) : D := .ob 1 ["_row", "_steps", "_names"] [.list (pyR r), .list (ys.map .str), .list (zs.map .str)]
theorem fV_obP (r : List Stm) (ys zs : List Str) (i : Nat) (δ : List D) (Q : W → List D → Prop) : fVarD (obP r ys zs) i δ Q = Q (.tmp (obP r ys zs)) δ := rfl
theorem shr_obP (r : List Stm) (ys zs : List Str) : shr (obP r ys zs) = true := rfl
theorem fzD_obP (r : List Stm) (ys zs : List Str) : fzD (obP r ys zs) = obP r ys zs := rfl
theorem fldP_row (r : List Stm) (ys zs : List Str) : fldD (obP r ys zs) 1 "_row" = some (.fz (.list (pyR r))) := by
  unfold obP
  rw [ev_fld_ob, if_pos rfl]
  simp only [List.map_cons, List.zip_cons_cons, List.lookup_cons, beq_self_eq_true]
theorem fldP_steps (r : List Stm) (ys zs : List Str) : fldD (obP r ys zs) 1 "_steps" = some (.fz (.list (ys.map .str))) := by
  unfold obP
  rw [ev_fld_ob, if_pos rfl]
  simp only [List.map_cons, List.zip_cons_cons, List.lookup_cons, beq_self_eq_true, fbsteps_row]
theorem fldP_names (r : List Stm) (ys zs : List Str) : fldD (obP r ys zs) 1 "_names" = some (.fz (.list (zs.map .str))) := by
  unfold obP
  rw [ev_fld_ob, if_pos rfl]
  simp only [List.map_cons, List.zip_cons_cons, List.lookup_cons, beq_self_eq_true, fbnames_row, fbnames_steps]
theorem insP_tells (r : List Stm) (ys zs : List Str) : insD 1 "tells" (obP r ys zs) = true := by
  show (decide (1 = 1) && !((["_row", "_steps", "_names"] : List Str).contains "tells")) = true
  decide +kernel
theorem insP_run (r : List Stm) (ys zs : List Str) : insD 1 "run" (obP r ys zs) = true := by
  show (decide (1 = 1) && !((["_row", "_steps", "_names"] : List Str).contains "run")) = true
  decide +kernel
theorem insP_row (r : List Stm) (ys zs : List Str) : insD 1 "row" (obP r ys zs) = true := by
  show (decide (1 = 1) && !((["_row", "_steps", "_names"] : List Str).contains "row")) = true
  decide +kernel
theorem insP_steps (r : List Stm) (ys zs : List Str) : insD 1 "steps" (obP r ys zs) = true := by
  show (decide (1 = 1) && !((["_row", "_steps", "_names"] : List Str).contains "steps")) = true
  decide +kernel
theorem insP_names (r : List Stm) (ys zs : List Str) : insD 1 "names" (obP r ys zs) = true := by
  show (decide (1 = 1) && !((["_row", "_steps", "_names"] : List Str).contains "names")) = true
  decide +kernel
theorem insP__run_with (r : List Stm) (ys zs : List Str) : insD 1 "_run_with" (obP r ys zs) = true := by
  show (decide (1 = 1) && !((["_row", "_steps", "_names"] : List Str).contains "_run_with")) = true
  decide +kernel
theorem insP_at (r : List Stm) (ys zs : List Str) : insD 1 "at" (obP r ys zs) = true := by
  show (decide (1 = 1) && !((["_row", "_steps", "_names"] : List Str).contains "at")) = true
  decide +kernel
theorem insP_without (r : List Stm) (ys zs : List Str) : insD 1 "without" (obP r ys zs) = true := by
  show (decide (1 = 1) && !((["_row", "_steps", "_names"] : List Str).contains "without")) = true
  decide +kernel
theorem obP_of (r : List Stm) (ys zs : List Str) : fzD (.obj 1 ["_row", "_steps", "_names"] [.own (ownR r), .own (strsD ys), .own (strsD zs)]) = obP r ys zs := by
  rw [fzD_obj]
  simp only [pyAll, D.py, py_ownR, pyAll_strs]
  rfl
end OwnD
namespace OwnD
open PySem PySem.Spec PyProof.Rows L2 Own
/-! ### a purse: from the hand layer's promises to data -/
section
variable {Z : Zx} {F H H' : Hp}
/-- what comes of a call that changes a purse alone and gives a number -/
theorem Aft.coin {p : Addr} {n n' : Nat} {x : PyData} {u v : V} {r : PyData} {μ : Mu} (s : Same F H) (h : RA Z F H [.pur n, .fz x] [.ref p, u] μ) (o : ∀ a, μ a ≤ 1) (f : ∀ a, μ a ≠ 0 → F a = none)
    (b : But [p] H H') (q : Pu H' p n') (k : Sc v r) : Aft Z F H μ [.ref p, u] (.fz r) [.pur n', .fz x] v H' := by
  rw [RA] at h
  obtain ⟨_, _, μ1, μ2, e, h1, h2, h3⟩ := h
  cases e
  rw [R] at h1
  obtain ⟨p', e, hp, m1⟩ := h1
  cases e
  rw [RA] at h2
  obtain ⟨_, _, μ3, μ4, e, h4, h5, h6⟩ := h2
  cases e
  rw [R] at h4
  rw [RA] at h5
  obtain ⟨_, m5⟩ := h5
  obtain ⟨h4, m4⟩ := h4
  have mu : ∀ a, μ a = if a = p then 1 else 0 := fun a => by rw [h3, m1, h6, m4, m5]; simp
  have s' : Same F H' := fun a w e => by
    have hn : a ≠ p := fun z => by
      have := f p (by rw [mu, if_pos rfl]; decide)
      rw [z] at e; rw [this] at e; cases e
    exact b a w (by simpa using hn) (s a w e)
  refine ⟨F, fun _ => 0, μ, s', by rw [R]; exact ⟨k _ _, fun _ => rfl⟩, ?_, fun a => by have := o a; show 0 + μ a ≤ 1; omega, fun a n => ?_, fun a w e z => ?_, fun _ _ _ => rfl⟩
  · rw [RA]
    refine ⟨_, _, μ1, μ2, rfl, ?_, ?_, h3⟩
    · rw [R]; exact ⟨p, rfl, q, m1⟩
    · rw [RA]
      refine ⟨_, _, μ3, μ4, rfl, by rw [R]; exact ⟨h4, m4⟩, by rw [RA]; exact ⟨rfl, m5⟩, h6⟩
  · have z : μ a ≠ 0 := by have : 0 + μ a ≠ 0 := n; omega
    exact ⟨f a z, .inl z⟩
  · have hn : a ≠ p := fun y => by rw [mu, if_pos y] at z; cases z
    exact b a w (by simpa using hn) e
def gCoin : GD := fun ds Q => ∃ (n : Nat) (m : Int), ds = [.pur n, .fz (.int m)] ∧ n < 10 ^ 20 ∧ 0 < m ∧ m < 10 ^ 25 ∧ ∀ r : Int, 0 ≤ r → r < m → Q (.fz (.int r)) [.pur (n + 1), .fz (.int m)]
def gPurse : GD := fun ds Q => ∃ (ns : List Int) (i : Int), ds = [.fz (.list (ns.map .int)), .fz (.int i)] ∧ ns.length ≤ 63 ∧ 0 ≤ i ∧ i < 100 ∧ Q (.pur 0) [.fz (.list (ns.map .int)), .fz (.int i)]
theorem coin_in {vs : List V} {Q : VK} {E : XK} (h : spD Z gCoin vs H Q E) : ∃ (p : Addr) (m : Int) (n : Nat), vs = [.ref p, .int m] ∧ Pu H p n ∧ n < 10 ^ 20 ∧ 0 < m ∧ m < 10 ^ 25 ∧
    ∀ (r : Int) (H' : Hp), 0 ≤ r → r < m → But [p] H H' → Pu H' p (n + 1) → Q (.int r) H' := by
  obtain ⟨ds, F, μ, s, r, o, f, Q0, k, n, m, rfl, hn, h0, h1, q⟩ := h
  have r0 := r
  rw [RA] at r
  obtain ⟨_, _, μ1, μ2, rfl, h1', h2, h3⟩ := r
  rw [R] at h1'
  obtain ⟨p, rfl, hp, m1⟩ := h1'
  rw [RA] at h2
  obtain ⟨_, _, μ3, μ4, rfl, h4, h5, h6⟩ := h2
  rw [R] at h4
  rw [RA] at h5
  obtain ⟨rfl, m5⟩ := h5
  obtain ⟨h4, m4⟩ := h4
  cases h4
  exact ⟨p, m, n, rfl, hp, hn, h0, h1, fun x H' a b c d => k _ _ (q x a b) _ _ (Aft.coin s r0 o f c d fun _ _ => .int x)⟩
theorem purse_in {vs : List V} {Q : VK} {E : XK} (h : spD Z gPurse vs H Q E) : ∃ (a : Addr) (ns : List Int) (i : Int), vs = [.ref a, .int i] ∧ SqL Z.K H a (ns.map V.int) ∧ ns.length ≤ 63 ∧ 0 ≤ i ∧ i < 100 ∧
    ∀ p, H p = none → ∀ H', Same H H' → Pu H' p 0 → Q (.ref p) H' := by
  obtain ⟨ds, F, μ, s, r, o, f, Q0, k, ns, i, rfl, hn, h0, h1, q⟩ := h
  have r0 := r
  rw [RA] at r
  obtain ⟨_, _, μ1, μ2, rfl, h1', h2, h3⟩ := r
  rw [R] at h1'
  obtain ⟨h1', m1⟩ := h1'
  rw [RA] at h2
  obtain ⟨_, _, μ3, μ4, rfl, h4, h5, h6⟩ := h2
  rw [R] at h4
  rw [RA] at h5
  obtain ⟨rfl, m5⟩ := h5
  obtain ⟨h4, m4⟩ := h4
  cases h4
  have mu : ∀ a, μ a = 0 := fun a => by rw [h3, m1, h6, m4, m5]
  have key : ∀ {ds : List Int} {vs : List V} {G : Hp}, DqAll Z.K G vs (ds.map .int) → vs = ds.map V.int := by
    intro ds
    induction ds with
    | nil => intro vs G h; cases h; rfl
    | cons x ds ih =>
      intro vs G h
      cases h with
      | cons a b => cases a; rw [ih b]; rfl
  cases h1' with
  | lst hq hd =>
    rename_i a xs
    obtain rfl := key hd
    refine ⟨a, ns, i, rfl, .inl (.inl (s _ _ hq)), hn, h0, h1, fun p np H' sH hp => k _ _ q _ _ ⟨F, fun b => if b = p then 1 else 0, μ, fun a w e => sH _ _ (s _ _ e), by rw [R]; exact ⟨p, rfl, hp, fun b => rfl⟩, r0.mono (fun _ _ e => e) (fun a z => absurd (mu a) z), fun a => ?_, fun a z => ?_, fun b w e _ => sH _ _ e, fun _ _ _ => rfl⟩⟩
    · rw [mu]
      show (if a = p then 1 else 0) + 0 ≤ 1
      split <;> omega
    · rw [mu] at z
      have z : (if a = p then 1 else 0) + 0 ≠ 0 := z
      by_cases e : a = p
      · subst e
        refine ⟨?_, .inr np⟩
        cases e : F a with
        | none => rfl
        | some w => rw [s _ _ e] at np; cases np
      · rw [if_neg e] at z; exact absurd rfl z
end
theorem intsD_nat (n : Nat) : intsD 0 n = (List.range n).map fun i => D.fz (.int (i : Nat)) := by
  unfold intsD
  refine List.map_congr_left fun i _ => ?_
  rw [Int.zero_add]
/-- each item gives a text -/
theorem compD_txt {α : Type} {vs : List Nat} {h : D → List D → (List D → Prop) → Prop} {ft : List D → (Bool → List D → Prop) → Prop} {fe : List D → (W → List D → Prop) → Prop} {Q : List D → List D → Prop} (y : α → D) (Pr : Str → Prop) (δ0 : List D) : ∀ (xs : List α) (ys : List Str) (δ : List D), ys.length + xs.length ≤ 1000 → wipeD δ vs = δ0 → (∀ z ∈ ys, Pr z) →
    (∀ (x : α) (r : List D) (ys : List Str) (δ : List D), x ∈ xs → ys.length < sizeLine → wipeD δ vs = δ0 → (∀ δ' s, Pr s → wipeD δ' vs = δ0 → compD vs h ft fe Q r (strsD (ys ++ [s])) δ') → compD vs h ft fe Q (y x :: r) (strsD ys) δ) →
    (∀ zs : List Str, zs.length = ys.length + xs.length → (∀ z ∈ zs, Pr z) → Q (strsD zs) δ0) → compD vs h ft fe Q (xs.map y) (strsD ys) δ
  | [], ys, δ, _, hw, hp, _, q => by
    show Q (strsD ys) (wipeD δ vs)
    rw [hw]; exact q ys rfl hp
  | d :: r, ys, δ, hl, hw, hp, st, q => by
    rw [List.length_cons] at hl
    refine st d _ ys δ List.mem_cons_self (small1000 (by omega)) hw fun δ' s hs hw' => ?_
    refine compD_txt y Pr δ0 r (ys ++ [s]) δ' (by rw [List.length_append, List.length_singleton]; omega) hw' (fun z hz => ?_) (fun d' r' acc' δ'' hm => st d' r' acc' δ'' (List.mem_cons_of_mem _ hm)) fun zs hz hp2 => q zs (by rw [hz, List.length_append, List.length_singleton, List.length_cons]; omega) hp2
    rcases List.mem_append.mp hz with h | h
    · exact hp z h
    · rw [List.mem_singleton.mp h]; exact hs
theorem strs_at {xs : List Str} {r : Int} (h0 : 0 ≤ r) (h1 : r < (xs.length : Nat)) : ∃ x, x ∈ xs ∧ atI (strsD xs) r = some (.fz (.str x)) := by
  have hk : r.toNat < xs.length := by omega
  refine ⟨xs[r.toNat], List.getElem_mem hk, ?_⟩
  have e := atI_nat (xs := strsD xs) (j := r.toNat) (v := D.fz (.str xs[r.toNat])) (by unfold strsD; rw [List.getElem?_map, List.getElem?_eq_getElem hk]; rfl)
  rwa [show ((r.toNat : Nat) : Int) = r by omega] at e
theorem cut_map {α β : Type} (f : α → β) (xs : List α) (lo hi : Option Int) : cutG (xs.map f) lo hi = (cutG xs lo hi).map f := by
  unfold cutG
  rw [List.length_map, List.map_take, List.map_drop]
theorem pyAll_sn (xs : List Str) (y : Str) : pyAll ((xs.map fun x => D.fz (.str x)) ++ [D.fz (.str y)]) = some ((xs ++ [y]).map .str) := by
  rw [List.map_append]; exact pyAll_app (pyAll_map PyData.str xs) rfl
theorem pyAll_ap (xs ys : List Str) : pyAll ((xs.map fun x => D.fz (.str x)) ++ (ys.map fun x => D.fz (.str x))) = some ((xs ++ ys).map .str) := by
  rw [List.map_append]; exact pyAll_app (pyAll_map PyData.str xs) (pyAll_map PyData.str ys)
theorem cut_mem {α : Type} {xs : List α} {lo hi : Option Int} {x : α} (h : x ∈ cutG xs lo hi) : x ∈ xs := List.mem_of_mem_drop (List.mem_of_mem_take h)
theorem cut_two {α : Type} (xs : List α) {t : Int} (h : 0 ≤ t) : (cutG xs none (some t)).length + (cutG xs (some t) none).length = xs.length := by
  unfold cutG
  have e : ∀ d, HT.sIx xs.length d (some t) = min t.toNat xs.length := fun d => by
    have q := HT.sIx_nat xs.length d t.toNat
    rwa [show ((t.toNat : Nat) : Int) = t by omega] at q
  rw [e, e, HT.sIx_none, HT.sIx_none]
  simp only [List.length_take, List.length_drop]
  omega
theorem fineR_snoc {N : List Str} {i : Bool} : ∀ {r : List Stm} {s : Stm}, fineR N i r = true → fineS N i s = true → fineR N i (r ++ [s]) = true
  | [], s, _, h => by rw [List.nil_append, fineR, h]; rfl
  | x :: r, s, h, h2 => by
    rw [fineR, Bool.and_eq_true] at h
    rw [List.cons_append, fineR, h.1, fineR_snoc h.2 h2]; rfl
theorem stms_snoc (r : List Stm) (s : Stm) : stmsD r ++ [D.fz (pyS s)] = stmsD (r ++ [s]) := by unfold stmsD; rw [List.map_append]; rfl
theorem fine_one {N : List Str} {i : Bool} {x : Str} (h : x ∈ N) (w : Str) (hw : wordB w = true) (hf : i = true ∨ ¬ w = "from") : fineS N i (.one w x) = true := by
  rw [fineS, hw, decide_eq_true h]
  rcases hf with rfl | hf
  · rfl
  · rw [decide_eq_false hf]; cases i <;> rfl
/-! ### a variable that is frozen where it is used -/
section
variable {Z : Zx} {F H : Hp} {E : Ent} {ps : Pend} {δ : List D} {σ : L2.St} {v : V}
theorem Rel.dup {e : PyData} (h : Rel Z E ((v, .fz e) :: ps) δ σ H) : Rel Z E ((v, .fz e) :: (v, .fz e) :: ps) δ σ H := by
  obtain ⟨F, μ, ν, w1, s1, r1, pn⟩ := h
  have r2 := r1
  rw [List.map_cons, List.map_cons, RA] at r2
  obtain ⟨_, _, μ1, μ2, e1, r3, _, _⟩ := r2
  cases e1
  rw [R] at r3
  exact ⟨F, μ, fun a => 0 + ν a, w1.eq fun a => by show μ a + (0 + ν a) = μ a + ν a; omega, s1, RA.push (R.fz r3.1) r1, pn⟩
def fVarZ (i : Nat) (δ : List D) (Q : W → List D → Prop) : Prop := ∃ e, fzD (δ.getD i .hole) = .fz e ∧ Q (.tmp (.fz e)) (δ.set i (.fz e))
theorem dVZ (i : Nat) : DO Z E (tVar i) (fVarZ i) := by
  refine ⟨fun δ Q Q' k ⟨e, a, h⟩ => ⟨e, a, k _ _ h⟩, fun ps δ σ H Q r ⟨e, a, h⟩ => ?_⟩
  have n : δ.getD i .hole ≠ .hole := fun z => by rw [z] at a; cases a
  obtain ⟨F, μ, ν, w1, s1, r1, pn⟩ := id r
  obtain ⟨v, μ1, es, hv⟩ := s1.at_ n
  have r2 := (r.slotOut es).freeze
  rw [a] at r2
  have r3 := r2.dup.slotIn es
  rw [List.set_set] at r3
  exact ⟨v, es, h v H (RelW.of r3)⟩
end
end OwnD
namespace OwnD
open PySem PySem.Spec PyProof.Rows L2 Own
/-! ### what a run tells is of the names of the row -/
def okT (N : List Str) (t : Str × Str × Int) : Prop := (t.1 = "told" ∨ t.1 = "during" ∨ t.1 = "from") ∧ t.2.1 ∈ N
def okC (N : List Str) (c : Ch) : Prop := ∀ t ∈ c, okT N t
def okH (N : List Str) (h : Option Ch) : Prop := ∀ c, h = some c → okC N c
structure RN (N : List Str) (q : Out × Rst) : Prop where
  err : ∀ c, q.1 = .err c → okC N c
  ran : ∀ x ∈ q.2.ran, x ∈ N
theorem okH.none {N : List Str} : okH N none := fun c e => by cases e
theorem chainOf_N {N : List Str} (w : Str) {x : Str} (k : Int) {h : Option Ch} (hx : x ∈ N) (hh : okH N h) : okC N (chainOf w x k h) := by
  have one : okC N [("told", x, k)] := fun t ht => by rw [List.mem_singleton.mp ht]; exact ⟨.inl rfl, hx⟩
  cases h with
  | none => exact one
  | some c =>
    cases c with
    | nil => exact one
    | cons t r =>
      have e : chainOf w x k (some (t :: r)) = ((if w = "hide" then [("told", x, k)] else ("told", x, k) :: ((if w = "from" then "from" else "during"), t.2) :: r) : Ch) := rfl
      rw [e]
      split
      · exact one
      · intro u hu
        have ht := hh _ rfl
        rcases List.mem_cons.mp hu with e | hu
        · subst e; exact ⟨.inl rfl, hx⟩
        rcases List.mem_cons.mp hu with e | hu
        · subst e
          refine ⟨?_, (ht t List.mem_cons_self).2⟩
          show (if w = "from" then ("from" : Str) else "during") = "told" ∨ (if w = "from" then ("from" : Str) else "during") = "during" ∨ (if w = "from" then ("from" : Str) else "during") = "from"
          split
          · exact .inr (.inr rfl)
          · exact .inr (.inl rfl)
        · exact ht u (List.mem_cons_of_mem _ hu)
theorem way_N {N : List Str} {h : Option Ch} {o : Out} (hh : okH N h) (k : ∀ c, o = .err c → okC N c) : okH N (wayOf h o) := by
  cases o with
  | err c => exact fun d e => by cases e; exact k c rfl
  | ended => exact hh
  | left => exact hh
  | asks x g => exact hh
theorem ran_snoc {N : List Str} {st : Rst} {x : Str} (hr : ∀ x ∈ st.ran, x ∈ N) (hx : x ∈ N) : ∀ y ∈ st.ran ++ [x], y ∈ N := fun y hy => by
  rcases List.mem_append.mp hy with h | h
  · exact hr y h
  · rw [List.mem_singleton.mp h]; exact hx
mutual
theorem runS_N (an : Str → Option Bool) {N : List Str} {i : Bool} : ∀ (s : Stm) (h : Option Ch) (st : Rst), fineS N i s = true → okH N h → (∀ x ∈ st.ran, x ∈ N) → RN N (runS an s h st)
  | .one w x, h, st, hf, hh, hr => by
    have hx : x ∈ N := by
      rw [fineS] at hf
      simp only [Bool.and_eq_true, decide_eq_true_eq] at hf
      exact hf.1.2
    rw [runS]
    split
    · cases an x with
      | none => exact ⟨fun c e => (by cases e), hr⟩
      | some b =>
        cases b with
        | false => exact ⟨fun c e => (by cases e), ran_snoc hr hx⟩
        | true => exact ⟨fun c e => (by cases e; exact chainOf_N _ _ hx hh), ran_snoc hr hx⟩
    · exact ⟨fun c e => (by cases e; exact chainOf_N _ _ hx hh), hr⟩
  | .again, h, st, hf, hh, hr => by
    rw [runS]
    refine ⟨fun d e => ?_, hr⟩
    cases e
    cases h with
    | none => exact fun t ht => nomatch ht
    | some c => exact hh c rfl
  | .leave, h, st, hf, hh, hr => by
    rw [runS]
    exact ⟨fun d e => (by cases e), hr⟩
  | .guard b hs l, h, st, hf, hh, hr => by
    rw [fineS] at hf
    simp only [Bool.and_eq_true] at hf
    obtain ⟨⟨⟨f1, f2⟩, f3⟩, f4⟩ := hf
    have r1 := runR_N an b h st f1 hh hr
    rw [runG]
    generalize runR an b h st = q at r1
    have r2 : RN N (bodyOf an hs h q) := by
      obtain ⟨o, s1⟩ := q
      cases o with
      | err c => exact runHs_N an hs c h s1 f2 (r1.err c rfl) hh r1.ran
      | _ => exact r1
    generalize bodyOf an hs h q = q2 at r2
    obtain ⟨o2, s2⟩ := q2
    have w : okH N (wayOf h o2) := way_N hh r2.err
    have r3 := runR_N an l (wayOf h o2) s2 f4 w r2.ran
    unfold lastOf
    dsimp only
    generalize runR an l (wayOf h o2) s2 = q3 at r3
    obtain ⟨o3, s3⟩ := q3
    split
    · exact r2
    split
    · exact ⟨r2.err, r3.ran⟩
    · exact r3
theorem runR_N (an : Str → Option Bool) {N : List Str} {i : Bool} : ∀ (r : List Stm) (h : Option Ch) (st : Rst), fineR N i r = true → okH N h → (∀ x ∈ st.ran, x ∈ N) → RN N (runR an r h st)
  | [], h, st, hf, hh, hr => by
    rw [runR]
    exact ⟨fun d e => (by cases e), hr⟩
  | s :: r, h, st, hf, hh, hr => by
    rw [fineR, Bool.and_eq_true] at hf
    rw [runR]
    have r1 := runS_N an s h st hf.1 hh hr
    generalize runS an s h st = q at r1
    obtain ⟨o, s1⟩ := q
    try dsimp only
    split
    · exact runR_N an r h s1 hf.2 hh r1.ran
    · exact r1
theorem runH_N (an : Str → Option Bool) {N : List Str} : ∀ (x : Han) (c : Ch) (h : Option Ch) (st : Rst), fineH N x = true → okC N c → okH N h → (∀ x ∈ st.ran, x ∈ N) → RN N (runH an x c h st)
  | .mk ns r, c, h, st, hf, hc, hh, hr => by
    rw [fineH, Bool.and_eq_true] at hf
    rw [runH]
    have r1 := runR_N an r (some c) st hf.2 (fun d e => by cases e; exact hc) hr
    generalize runR an r (some c) st = q at r1
    obtain ⟨o, s1⟩ := q
    try dsimp only
    split
    · exact ⟨fun d e => (by cases e), r1.ran⟩
    · exact r1
theorem runHs_N (an : Str → Option Bool) {N : List Str} : ∀ (hs : List Han) (c : Ch) (h : Option Ch) (st : Rst), fineHs N hs = true → okC N c → okH N h → (∀ x ∈ st.ran, x ∈ N) → RN N (runHs an hs c h st)
  | [], c, h, st, hf, hc, hh, hr => by
    rw [runHs]
    exact ⟨fun d e => (by cases e; exact hc), hr⟩
  | .mk ns r :: hs, c, h, st, hf, hc, hh, hr => by
    rw [fineHs, Bool.and_eq_true] at hf
    rw [runHs]
    split
    · exact runH_N an (.mk ns r) c h st hf.1 hc hh hr
    · exact runHs_N an hs c h st hf.2 hc hh hr
end
/-! ### a run with all answers asks nothing -/
def ansF (an : Str → Option Bool) (ts : List Stm) : Prop := ∀ t ∈ ts, ∀ y ∈ stepNm t, an y ≠ none
theorem ansF.l {an : Str → Option Bool} {a b : List Stm} (h : ansF an (a ++ b)) : ansF an a := fun t ht => h t (List.mem_append_left _ ht)
theorem ansF.r {an : Str → Option Bool} {a b : List Stm} (h : ansF an (a ++ b)) : ansF an b := fun t ht => h t (List.mem_append_right _ ht)
mutual
theorem runS_na (an : Str → Option Bool) : ∀ (s : Stm) (h : Option Ch) (st : Rst), ansF an (flatS s) → isAsk (runS an s h st).1 = false
  | .one w x, h, st, ha => by
    rw [runS]
    split
    · rename_i e
      have hn := ha _ (show Stm.one w x ∈ [Stm.one w x] from List.mem_singleton.mpr rfl) x (by show x ∈ (if w = "step" then [x] else []); rw [if_pos e]; exact List.mem_singleton.mpr rfl)
      cases z : an x with
      | none => exact absurd z hn
      | some b => cases b <;> rfl
    · rfl
  | .again, h, st, ha => by rw [runS]; rfl
  | .leave, h, st, ha => by rw [runS]; rfl
  | .guard b hs l, h, st, ha => by
    rw [flatS] at ha
    have ha2 : ansF an (flatR b ++ (flatR l ++ flatHs hs)) := fun t ht => ha t (List.mem_cons_of_mem _ ht)
    have r1 := runR_na an b h st ha2.l
    rw [runG]
    generalize runR an b h st = q at r1
    have r2 : isAsk (bodyOf an hs h q).1 = false := by
      obtain ⟨o, s1⟩ := q
      cases o with
      | err c => exact runHs_na an hs c h s1 ha2.r.r
      | _ => exact r1
    generalize bodyOf an hs h q = q2 at r2
    obtain ⟨o2, s2⟩ := q2
    have r3 := runR_na an l (wayOf h o2) s2 ha2.r.l
    unfold lastOf
    dsimp only
    generalize runR an l (wayOf h o2) s2 = q3 at r3
    obtain ⟨o3, s3⟩ := q3
    split
    · exact r2
    split
    · exact r2
    · exact r3
theorem runR_na (an : Str → Option Bool) : ∀ (r : List Stm) (h : Option Ch) (st : Rst), ansF an (flatR r) → isAsk (runR an r h st).1 = false
  | [], h, st, ha => by rw [runR]; rfl
  | s :: r, h, st, ha => by
    rw [flatR] at ha
    rw [runR]
    have r1 := runS_na an s h st ha.l
    generalize runS an s h st = q at r1
    obtain ⟨o, s1⟩ := q
    try dsimp only
    split
    · exact runR_na an r h s1 ha.r
    · exact r1
theorem runH_na (an : Str → Option Bool) : ∀ (x : Han) (c : Ch) (h : Option Ch) (st : Rst), ansF an (flatH x) → isAsk (runH an x c h st).1 = false
  | .mk ns r, c, h, st, ha => by
    rw [flatH] at ha
    rw [runH]
    have r1 := runR_na an r (some c) st ha
    generalize runR an r (some c) st = q at r1
    obtain ⟨o, s1⟩ := q
    try dsimp only
    split
    · rfl
    · exact r1
theorem runHs_na (an : Str → Option Bool) : ∀ (hs : List Han) (c : Ch) (h : Option Ch) (st : Rst), ansF an (flatHs hs) → isAsk (runHs an hs c h st).1 = false
  | [], c, h, st, ha => by rw [runHs]; rfl
  | .mk ns r :: hs, c, h, st, ha => by
    rw [flatHs] at ha
    rw [runHs]
    split
    · exact runH_na an (.mk ns r) c h st ha.l
    · exact runHs_na an hs c h st ha.r
end
theorem mem_steps {r : List Stm} {x : Str} : x ∈ stepsR r ↔ ∃ t ∈ flatR r, x ∈ stepNm t := by
  unfold stepsR
  rw [List.mem_flatten]
  constructor
  · rintro ⟨l, hl, hx⟩
    obtain ⟨t, ht, rfl⟩ := List.mem_map.mp hl
    exact ⟨t, ht, hx⟩
  · rintro ⟨t, ht, hx⟩
    exact ⟨_, List.mem_map.mpr ⟨t, ht, rfl⟩, hx⟩
theorem ans_lot {r : List Stm} {ys lot : List Str} (h : Srt ys (stepsR r)) : ansF (anLot ys lot) (flatR r) := fun t ht y hy => by
  unfold anLot
  rw [if_pos ((h.mem y).mpr (mem_steps.mpr ⟨t, ht, hy⟩))]
  exact fun e => by cases e
theorem an_lot {r : List Stm} {ys lot : List Str} (h : Srt ys (stepsR r)) : ∀ y ∈ stepsR r, anLot ys lot y = some (decide (y ∈ lot)) := fun y hy => by
  unfold anLot
  rw [if_pos ((h.mem y).mpr hy)]
theorem fine_flat {N : List Str} : ∀ {t : Stm} {i : Bool}, fineS N i t = true → ∀ y ∈ stepNm t, y ∈ N
  | .one w x, i, h, y, hy => by
    have hy : y ∈ (if w = "step" then [x] else []) := hy
    split at hy
    · rw [List.mem_singleton.mp hy]
      rw [fineS] at h
      simp only [Bool.and_eq_true, decide_eq_true_eq] at h
      exact h.1.2
    · cases hy
  | .again, i, h, y, hy => nomatch hy
  | .leave, i, h, y, hy => nomatch hy
  | .guard _ _ _, i, h, y, hy => nomatch hy
mutual
theorem fineS_steps {N : List Str} : ∀ (s : Stm) {i : Bool}, fineS N i s = true → ∀ t ∈ flatS s, ∀ y ∈ stepNm t, y ∈ N
  | .one w x, i, h, t, ht, y, hy => by
    have ht : t = .one w x := List.mem_singleton.mp ht
    subst ht; exact fine_flat h y hy
  | .again, i, h, t, ht, y, hy => by
    have ht : t = .again := List.mem_singleton.mp ht
    subst ht; cases hy
  | .leave, i, h, t, ht, y, hy => by
    have ht : t = .leave := List.mem_singleton.mp ht
    subst ht; cases hy
  | .guard b hs l, i, h, t, ht, y, hy => by
    rw [fineS] at h
    simp only [Bool.and_eq_true] at h
    rw [flatS] at ht
    rcases List.mem_cons.mp ht with e | ht
    · subst e; cases hy
    rcases List.mem_append.mp ht with ht | ht
    · exact fineR_steps b h.1.1.1 t ht y hy
    rcases List.mem_append.mp ht with ht | ht
    · exact fineR_steps l h.2 t ht y hy
    · exact fineHs_steps hs h.1.1.2 t ht y hy
theorem fineR_steps {N : List Str} : ∀ (r : List Stm) {i : Bool}, fineR N i r = true → ∀ t ∈ flatR r, ∀ y ∈ stepNm t, y ∈ N
  | [], i, h, t, ht, y, hy => nomatch ht
  | s :: r, i, h, t, ht, y, hy => by
    rw [fineR, Bool.and_eq_true] at h
    rw [flatR] at ht
    rcases List.mem_append.mp ht with ht | ht
    · exact fineS_steps s h.1 t ht y hy
    · exact fineR_steps r h.2 t ht y hy
theorem fineH_steps {N : List Str} : ∀ (x : Han), fineH N x = true → ∀ t ∈ flatH x, ∀ y ∈ stepNm t, y ∈ N
  | .mk ns r, h, t, ht, y, hy => by
    rw [fineH, Bool.and_eq_true] at h
    rw [flatH] at ht
    exact fineR_steps r h.2 t ht y hy
theorem fineHs_steps {N : List Str} : ∀ (hs : List Han), fineHs N hs = true → ∀ t ∈ flatHs hs, ∀ y ∈ stepNm t, y ∈ N
  | [], h, t, ht, y, hy => nomatch ht
  | x :: hs, h, t, ht, y, hy => by
    rw [fineHs, Bool.and_eq_true] at h
    rw [flatHs] at ht
    rcases List.mem_append.mp ht with ht | ht
    · exact fineH_steps x h.1 t ht y hy
    · exact fineHs_steps hs h.2 t ht y hy
end
theorem Row.steps {n : Nat} {N : List Str} {i : Bool} {r : List Stm} (h : Row n N i r) : ∀ x ∈ stepsR r, x ∈ N := fun x hx => by
  obtain ⟨t, ht, hy⟩ := mem_steps.mp hx
  exact fineR_steps r h.fine t ht x hy
theorem Srt.le {n : Nat} {N : List Str} {i : Bool} {r : List Stm} {ys : List Str} (h : Srt ys (stepsR r)) (hr : Row n N i r) (hN : Nams N) : ys.length ≤ 60 := Nat.le_trans (h.len hr.steps) hN.len
/-! ### what is told, as data -/
def pyTold : Out → PyData
  | .err c => .tuple [.str "error", .list (c.map fun t => .tuple [.str t.1, .str t.2.1])]
  | .left => .tuple [.str "left"]
  | _ => .tuple [.str "ended"]
/-- as it is told: the chain without numbers, a list of its own -/
def ownO : Out → D
  | .err c => .tup [.fz (.str "error"), .own (c.map fun t => .fz (.tuple [.str t.1, .str t.2.1]))]
  | o => .fz (pyO o)
theorem py_ownO {o : Out} (h : isAsk o = false) : (ownO o).py = some (pyTold o) := by
  cases o with
  | ended => rfl
  | left => rfl
  | err c =>
    show D.py (.tup [.fz (.str "error"), .own (c.map fun t => .fz (.tuple [.str t.1, .str t.2.1]))]) = _
    rw [D.py, pyAll, pyAll, D.py, D.py, pyAll_map fun t : Str × Str × Int => PyData.tuple [.str t.1, .str t.2.1]]
    rfl
  | asks x g => cases h
theorem fz_ownO {o : Out} (h : isAsk o = false) : fzD (ownO o) = .fz (pyTold o) := by
  have e := py_ownO h
  cases o with
  | ended => rfl
  | left => rfl
  | err c =>
    show fzD (.tup [.fz (.str "error"), .own (c.map fun t => .fz (.tuple [.str t.1, .str t.2.1]))]) = _
    have e : D.py (.tup [.fz (.str "error"), .own (c.map fun t => .fz (.tuple [.str t.1, .str t.2.1]))]) = some (pyTold (.err c)) := e
    unfold fzD
    try dsimp only
    rw [e]
  | asks x g => cases h
theorem nm_word {w : Str} (h : w = "told" ∨ w = "during" ∨ w = "from") : Nm 8 w := by
  have k : ∀ w : Str, nmB w = true → Nm 8 w := fun w h => by
    unfold nmB at h
    simp only [Bool.and_eq_true, List.all_eq_true, decide_eq_true_eq] at h
    exact ⟨h.1.1, h.1.2, fun c hc => h.2 c hc⟩
  rcases h with rfl | rfl | rfl <;> exact k _ (by decide +kernel)
theorem nm_of8 {w : Str} (h : nmB w = true) : Nm 8 w := by
  unfold nmB at h
  simp only [Bool.and_eq_true, List.all_eq_true, decide_eq_true_eq] at h
  exact ⟨h.1.1, h.1.2, fun c hc => h.2 c hc⟩
theorem told_szO {N : List Str} (hN : Nams N) {o : Out} (h : ∀ c, o = .err c → okC N c ∧ c.length ≤ 200) : Sz (pyTold o) 4000 3 := by
  have w : ∀ w : Str, nmB w = true → Sz (.tuple [.str w]) 4000 3 := fun w hw => ((SzAll.cons (Sz.str (nm_of8 hw)) SzAll.nil).tup).mono (by decide) (by decide)
  cases o with
  | ended => exact w _ (by decide +kernel)
  | left => exact w _ (by decide +kernel)
  | asks x g => exact w _ (by decide +kernel)
  | err c =>
    obtain ⟨h1, h2⟩ := h c rfl
    have a : SzAll (c.map fun t => PyData.tuple [.str t.1, .str t.2.1]) ((18 + 1) * (c.map fun t => PyData.tuple [.str t.1, .str t.2.1]).length) 1 := SzAll.all fun d z => by
      obtain ⟨t, ht, rfl⟩ := List.mem_map.mp z
      obtain ⟨a, b⟩ := h1 t ht
      exact ((SzAll.cons (Sz.str (nm_word a)) (SzAll.cons (Sz.str (nm_of8 (hN.ok _ b))) SzAll.nil)).tup).mono (by decide) (by decide)
    rw [List.length_map] at a
    exact ((SzAll.cons (Sz.str (n := 8) (nm_of8 (w := "error") (by decide +kernel))) (SzAll.cons a.lst SzAll.nil)).tup).mono (by omega) (by decide)
theorem strs_sz {N : List Str} (hN : Nams N) {xs : List Str} (h : ∀ x ∈ xs, x ∈ N) {n : Nat} (hl : xs.length ≤ n) : Sz (.list (xs.map .str)) (9 * n) 1 := by
  have a : SzAll (xs.map PyData.str) ((8 + 1) * (xs.map PyData.str).length) 0 := SzAll.all fun d z => by
    obtain ⟨t, ht, rfl⟩ := List.mem_map.mp z
    exact Sz.str (nm_of8 (hN.ok _ (h t ht)))
  rw [List.length_map] at a
  exact a.lst.mono (by omega) (by decide)
/-- what a program tells for a lot of its steps -/
theorem asked_ok {n : Nat} {N : List Str} {r : List Stm} {ys : List Str} (hr : Row n N false r) (hN : Nams N) (hys : Srt ys (stepsR r)) (lot : List Str) :
    isAsk (runR (anLot ys lot) r none ⟨[], []⟩).1 = false ∧ Sz (pyTold (runR (anLot ys lot) r none ⟨[], []⟩).1) 4000 3 ∧ Sz (.list ((runR (anLot ys lot) r none ⟨[], []⟩).2.ran.map .str)) 540 1 ∧ (runR (anLot ys lot) r none ⟨[], []⟩).2.ran.length ≤ 60 := by
  have na := runR_na (anLot ys lot) r none ⟨[], []⟩ (ans_lot hys)
  have rn := runR_N (anLot ys lot) (N := N) r none ⟨[], []⟩ hr.fine okH.none (fun x hx => nomatch hx)
  have hc := hr.cnt
  have rb := runR_b (anLot ys lot) hN r none ⟨[], []⟩ hr.fine (fun c e => by cases e) (fun z => by cases z) (by show 0 + _ ≤ 200; omega)
  have hran : (runR (anLot ys lot) r none ⟨[], []⟩).2.ran.length ≤ 60 := by
    have := rb.ran
    have e : (([] : List Str)).length = 0 := rfl
    dsimp only at this
    omega
  refine ⟨na, told_szO hN fun c e => ⟨rn.err c e, ?_⟩, strs_sz hN rn.ran hran, hran⟩
  have := (rb.err c e).2
  have e3 : hl none = 0 := rfl
  omega
/-- told and run, one list -/
theorem both_sz {a b : PyData} {n m : Nat} (ha : Sz a n 3) (hb : Sz b m 1) : Sz (.list [a, b]) (n + m + 2) 4 := ((SzAll.cons ha (SzAll.cons hb SzAll.nil)).lst).mono (by omega) (by decide)
theorem own2_py {a b : D} {x y : PyData} (ha : a.py = some x) (hb : b.py = some y) : (D.own [a, b]).py = some (.list [x, y]) := by
  rw [D.py, pyAll, pyAll, pyAll, ha, hb]; rfl
theorem strs_py (xs : List Str) : (D.own (strsD xs)).py = some (.list (xs.map .str)) := by
  rw [D.py, pyAll_strs]; rfl
theorem insP_e (r : List Stm) (ys zs : List Str) : insD 1 "" (obP r ys zs) = true := by
  show (decide (1 = 1) && !((["_row", "_steps", "_names"] : List Str).contains "")) = true
  decide +kernel
theorem pyAll_both {o : Out} (h : isAsk o = false) (xs : List Str) : pyAll [ownO o, .own (strsD xs)] = some [pyTold o, .list (xs.map .str)] := by
  rw [pyAll, pyAll, pyAll, py_ownO h, strs_py]
theorem pyAll_both2 {o : Out} (h : isAsk o = false) (xs : List Str) : pyAll [.own (strsD xs), ownO o] = some [.list (xs.map .str), pyTold o] := by
  rw [pyAll, pyAll, pyAll, py_ownO h, strs_py]
end OwnD
namespace OwnD
open PySem PySem.Spec PyProof.Rows L2 Own
section
variable {Z : Zx} {F H : Hp} {E : Ent} {ps : Pend} {δ : List D} {σ : L2.St} {v : V} {te : TE} {fe : List D → (W → List D → Prop) → Prop}
/-! ### xs[::-1] -/
theorem RA.rev0 : ∀ {ds : List D} {vs : List V}, RA Z F H ds vs (fun _ => 0) → RA Z F H ds.reverse vs.reverse (fun _ => 0)
  | [], vs, h => by rw [RA] at h; rw [h.1]; exact RA.z
  | d :: ds, vs, h => by
    rw [RA] at h
    obtain ⟨v, ws, μ1, μ2, rfl, h1, h2, h3⟩ := h
    have z : μ2 = fun _ => 0 := funext fun a => by have := h3 a; omega
    have z1 : μ1 = fun _ => 0 := funext fun a => by have := h3 a; omega
    subst z z1
    rw [List.reverse_cons, List.reverse_cons]
    exact RA.app (RA.rev0 h2) (RA.push h1 RA.z)
def gRevL (w : W) (δ : List D) (Q : W → List D → Prop) : Prop := ∃ ds, elL (vw w δ) = some ds ∧ Q (.tmp (.own ds.reverse)) δ
def f1 (fe : List D → (W → List D → Prop) → Prop) (g : W → List D → (W → List D → Prop) → Prop) (δ : List D) (Q : W → List D → Prop) : Prop := fe δ fun w δ1 => g (fzW w) δ1 Q
theorem dRevL (he : DO Z E te fe) : DO Z E (tRevL Z.K te) (f1 fe gRevL) :=
  ⟨fun δ Q Q' k q => he.mo δ _ _ (fun w δ1 ⟨x, a, q⟩ => ⟨x, a, k _ _ q⟩) q, fun ps δ σ H Q r0 h =>
    he.run ps δ σ H _ r0 (he.mo δ _ _ (fun w δ1 ⟨ds, a, q⟩ v H1 r1 => by
      have r := RelW.frz1 r1
      obtain ⟨p1, xs, e1, h1, l1⟩ := r.elL (k := 0) rfl rfl a
      refine ⟨p1, xs, e1, .inl (.inl h1), fun p np => q _ _ (r.lstOf (fun F μ ν s hs s1 r1 => ?_) np)⟩
      obtain ⟨μ1, q1, _⟩ := see_core (k := 0) hs s1 r1 rfl rfl
      obtain ⟨a1, x1, g1, g2, g3⟩ := q1.elL s a
      rw [e1] at g1; cases g1; rw [h1] at g2; cases g2
      exact RA.rev0 g3) h)⟩
/-! ### a, b, c = xs -/
def partsL : D → Option (List D)
  | .fz (.list es) => some (es.map .fz)
  | _ => none
def fgUnl (n : Nat) (hs : List D → List D → (List D → Prop) → Prop) (d : D) (δ : List D) (Q : List D → Prop) : Prop := match partsL d with | some ds => ds.length = n ∧ hs ds δ Q | none => False
theorem ev_unl_fz (n : Nat) (hs : List D → List D → (List D → Prop) → Prop) (es : List PyData) (δ : List D) (Q : List D → Prop) : fgUnl n hs (.fz (.list es)) δ Q = ((es.map D.fz).length = n ∧ hs (es.map D.fz) δ Q) := rfl
theorem dgUnl {S : SRel} {n : Nat} {gs : TGs} {hs : List D → List D → (List D → Prop) → Prop} (hgs : DGs Z E S gs hs) : DG Z E S (gUnl Z.K n gs) (fgUnl n hs) :=
  ⟨fun d δ Q Q' k q => by
    unfold fgUnl at q ⊢
    cases e : partsL d with
    | none => rw [e] at q; exact q
    | some ds => rw [e] at q; exact ⟨q.1, hgs.mo _ _ _ _ k q.2⟩, fun ps δ σ H d v Q r q => by
    unfold fgUnl at q
    cases a : partsL d with
    | none => rw [a] at q; exact q.elim
    | some ds =>
    rw [a] at q
    obtain ⟨b, q⟩ := q
    obtain ⟨F, μ, ν, w1, s1, r1, pn⟩ := r
    rw [List.map_cons, List.map_cons, RA] at r1
    obtain ⟨_, _, μ1, μ2, e, r2, r3, r4⟩ := r1
    cases e
    have key : ∃ p xs κ, v = .ref p ∧ SqL Z.K H p xs ∧ RA Z F H ds xs κ ∧ ∀ a, κ a ≤ μ1 a := by
      have r2' : R Z F H d v μ1 := r2
      cases d with
      | fz e =>
        cases e with
        | list es =>
          cases a
          rw [R] at r2'
          obtain ⟨h, _⟩ := r2'
          cases h with
          | lst h1 h2 => exact ⟨_, _, _, rfl, .inl (.inl (w1.sub _ _ h1)), RA.fzs h2, fun a => Nat.zero_le _⟩
        | _ => cases a
      | _ => cases a
    obtain ⟨p, xs, κ, rfl, h1, h2, h3⟩ := key
    refine ⟨p, xs, rfl, h1, h2.len.trans b, hgs.run ps δ σ H ds xs Q ⟨F, μ, κ, μ2, w1.le fun a => ?_, s1, h2, r3, pn⟩ q⟩
    have := h3 a; have := r4 a
    show μ a + κ a + μ2 a ≤ μ a + ν a
    omega⟩
end
theorem pyAll_o (xs ds : List D) : pyAll (.own xs :: ds) = (pyAll xs).bind fun es => (pyAll ds).map (PyData.list es :: ·) := by
  rw [pyAll, D.py]
  cases pyAll xs <;> cases pyAll ds <;> rfl
theorem pyAll_t (xs ds : List D) : pyAll (.tup xs :: ds) = (pyAll xs).bind fun es => (pyAll ds).map (PyData.tuple es :: ·) := by
  rw [pyAll, D.py]
  cases pyAll xs <;> cases pyAll ds <;> rfl
theorem ev_mk_own3 (x y z : D) (a : List D) (r : List D) : mkT (x :: y :: z :: .own a :: r) = .tup (x :: y :: z :: .own a :: r) := if_neg (by simp [shr])
theorem atI_4 {α : Type} {x y z u v : α} {xs : List α} : atI (x :: y :: z :: u :: v :: xs) 4 = some v := by simp [atI, ixN]; rw [if_pos (by omega)]; simp
theorem cut_0 {α : Type} (xs : List α) : cutG xs none (some 0) = [] := by
  unfold cutG
  have : HT.sIx xs.length xs.length (some ((0 : Nat) : Int)) = 0 := by rw [HT.sIx_nat]; omega
  have : HT.sIx xs.length xs.length (some 0) = 0 := this
  rw [this]; simp
theorem cut_11 {α : Type} (x : α) : cutG [x] none (some 1) = [x] := by
  unfold cutG
  have : HT.sIx 1 1 (some ((1 : Nat) : Int)) = 1 := by rw [HT.sIx_nat]; omega
  have : HT.sIx 1 1 (some 1) = 1 := this
  show (([x] : List α).drop (HT.sIx 1 0 none)).take (HT.sIx 1 1 (some 1) - HT.sIx 1 0 none) = [x]
  rw [this, HT.sIx_none]; rfl
end OwnD
namespace OwnD
open PySem PySem.Spec PyProof.Rows L2 Own
/-- rows without guards, of these names -/
def flatB : Stm → Bool
  | .guard _ _ _ => false
  | _ => true
/-! ### the law's own run of rows without guards -/
def flatRun (fl : Str → Bool) : List Stm → Option Ch → List Str → Out × List Str
  | [], _, tr => (.ended, tr)
  | .one w x :: r, h, tr => if w = "step" then (if fl x then (.err (chainOf "step" x tr.length h), tr ++ [x]) else flatRun fl r h (tr ++ [x])) else (.err (chainOf w x (-1) h), tr)
  | .again :: _, h, tr => (.err (h.getD []), tr)
  | .leave :: _, _, tr => (.left, tr)
  | .guard _ _ _ :: _, _, tr => (.ended, tr)
theorem flat_run (fl : Str → Bool) (an : Str → Option Bool) : ∀ (r : List Stm) (h : Option Ch) (tr : List Str) (ov : List Int), r.all flatB = true → (∀ x ∈ stepsR r, an x = some (fl x)) → runR an r h ⟨tr, ov⟩ = ((flatRun fl r h tr).1, ⟨(flatRun fl r h tr).2, ov⟩)
  | [], h, tr, ov, _, _ => by rw [runR_nil]; rfl
  | .guard b hs l :: r, h, tr, ov, hf, _ => by simp [flatB] at hf
  | .again :: r, h, tr, ov, hf, _ => by rw [runR_cons, runS_again]; rfl
  | .leave :: r, h, tr, ov, hf, _ => by rw [runR_cons, runS_leave]; rfl
  | .one w x :: r, h, tr, ov, hf, hs => by
    have hf2 : r.all flatB = true := by rw [List.all_cons, Bool.and_eq_true] at hf; exact hf.2
    have hs2 : ∀ y ∈ stepsR r, an y = some (fl y) := fun y hy => hs y (by
      unfold stepsR at hy ⊢
      rw [flatR, List.map_append, List.flatten_append]
      exact List.mem_append_right _ hy)
    rw [runR_cons, flatRun]
    by_cases z : w = "step"
    · subst z
      have e : an x = some (fl x) := hs x (by
        unfold stepsR
        rw [flatR, List.map_append, List.flatten_append]
        refine List.mem_append_left _ ?_
        show x ∈ ([Stm.one "step" x].map stepNm).flatten
        simp [stepNm])
      rw [if_pos rfl, runS, if_pos rfl, e]
      cases hfl : fl x with
      | true => rw [if_pos rfl]; rfl
      | false => exact flat_run fl an r h (tr ++ [x]) ov hf2 hs2
    · rw [if_neg z, runS_one _ _ _ _ _ z]; rfl
def pyW : Option Ch → PyData
  | none => .list []
  | some c => .list (c.map fun t => .tuple [.str t.1, .str t.2.1])
theorem lay_w : ∀ c : Ch, (∀ t ∈ c, PyData.strOk t.1 = true ∧ PyData.strOk t.2.1 = true) → PyData.canLayAll0 (c.map fun t => .tuple [.str t.1, .str t.2.1]) = true ∧ PyData.depthAll (c.map fun t => .tuple [.str t.1, .str t.2.1]) ≤ 1
  | [], _ => ⟨rfl, Nat.zero_le _⟩
  | t :: r, h => by
    obtain ⟨a, b⟩ := lay_w r fun u hu => h u (List.mem_cons_of_mem _ hu)
    obtain ⟨h1, h2⟩ := h t List.mem_cons_self
    refine ⟨?_, ?_⟩
    · show (PyData.canLayAll0 [.str t.1, .str t.2.1] && PyData.canLayAll0 (r.map fun t => .tuple [.str t.1, .str t.2.1])) = true
      rw [a, Bool.and_true]
      show (PyData.strOk t.1 && (PyData.strOk t.2.1 && true)) = true
      rw [h1, h2]; rfl
    · show max (PyData.depth (.tuple [.str t.1, .str t.2.1])) (PyData.depthAll (r.map fun t => .tuple [.str t.1, .str t.2.1])) ≤ 1
      have : PyData.depth (.tuple [.str t.1, .str t.2.1]) = 1 := rfl
      omega
theorem shaped_W {h : Option Ch} (k : Hok h) : SeqAt.shaped (pyW h) = true := by
  cases h with
  | none => decide +kernel
  | some c =>
    obtain ⟨a, b⟩ := lay_w c (k c rfl).2
    unfold SeqAt.shaped
    have a2 : (pyW (some c)).canLay0 = true := a
    have b2 : (pyW (some c)).depth ≤ 64 := by
      show PyData.depthAll (c.map fun t => .tuple [.str t.1, .str t.2.1]) + 1 ≤ 64
      omega
    rw [a2, decide_eq_true b2]; rfl
theorem shaped_n : SeqAt.shaped (.list []) = true := by decide +kernel
theorem eqv_n : PyData.eqv (.list []) (.list []) = true := by decide +kernel
theorem eqv_c (x : PyData) (xs : List PyData) : PyData.eqv (.list (x :: xs)) (.list []) = false := rfl
def pyF : Out → PyData
  | .err c => .list [.str "error", pyW (some c)]
  | .left => .list [.str "left", .list []]
  | _ => .list [.str "ended", .list []]
theorem fz_err (x y l : Str) (cr : Ch) : fzD (D.own [.fz (.str "error"), .own (.fz (.tuple [.str "told", .str x]) :: .fz (.tuple [.str l, .str y]) :: cr.map fun t => .fz (.tuple [.str t.1, .str t.2.1]))]) = .fz (.list [.str "error", .list (.tuple [.str "told", .str x] :: .tuple [.str l, .str y] :: cr.map fun t => .tuple [.str t.1, .str t.2.1])]) := by
  unfold fzD
  simp only [D.py, pyAll, pyAll_map]
  rfl
theorem chain_d {wd : Str} (x : Str) (k : Int) (h : ¬ wd = "hide" ∧ ¬ wd = "from") {t : Str × Str × Int} {r : Ch} : chainOf wd x k (some (t :: r)) = ((("told" : Str), x, k) :: (("during" : Str), t.2) :: r : Ch) := by
  have e : chainOf wd x k (some (t :: r)) = ((if wd = "hide" then [("told", x, k)] else ("told", x, k) :: ((if wd = "from" then "from" else "during"), t.2) :: r) : Ch) := rfl
  rw [e, if_neg h.1, if_neg h.2]
theorem chain_f {wd : Str} (x : Str) (k : Int) (h : ¬ wd = "hide" ∧ wd = "from") {t : Str × Str × Int} {r : Ch} : chainOf wd x k (some (t :: r)) = ((("told" : Str), x, k) :: (("from" : Str), t.2) :: r : Ch) := by
  have e : chainOf wd x k (some (t :: r)) = ((if wd = "hide" then [("told", x, k)] else ("told", x, k) :: ((if wd = "from" then "from" else "during"), t.2) :: r) : Ch) := rfl
  rw [e, if_neg h.1, if_pos h.2]
/-! ### one guard, by the law's own run -/
theorem fz_two (e : PyData) (xs : List Str) : fzD (D.own [.fz e, .own (strsD xs)]) = .fz (.list [e, .list (xs.map .str)]) := by
  unfold fzD
  simp only [D.py, pyAll, pyAll_strs]
  rfl
def firstH : List Han → Ch → Option (List Stm)
  | [], _ => none
  | .mk ns r :: hs, c => if catches ns c then some r else firstH hs c
def lawHs (fl : Str → Bool) (hs : List Han) (q : Out × List Str) : Out × List Str := match q.1 with
  | .err c => (match firstH hs c with
    | some r => flatRun fl r (some c) q.2
    | none => q)
  | _ => q
def lawLast (fl : Str → Bool) (l bh : List Stm) (q2 : Out × List Str) : Out × List Str :=
  let q3 := flatRun fl l (wayOf none q2.1) q2.2
  let q4 : Out × List Str := (if isE q3.1 then q2.1 else q3.1, q3.2)
  if isE q4.1 then flatRun fl bh none q4.2 else q4
theorem flat_noask (fl : Str → Bool) : ∀ (r : List Stm) (h : Option Ch) (tr : List Str), isAsk (flatRun fl r h tr).1 = false
  | [], h, tr => rfl
  | .guard b hs l :: r, h, tr => rfl
  | .again :: r, h, tr => rfl
  | .leave :: r, h, tr => rfl
  | .one w x :: r, h, tr => by
    rw [flatRun]
    split
    · split
      · rfl
      · exact flat_noask fl r h _
    · rfl
theorem law_hs (fl : Str → Bool) (an : Str → Option Bool) (h : Option Ch) (c : Ch) (tr : List Str) (ov : List Int) : ∀ hs : List Han, (∀ x ∈ hs, (rowOf x).all flatB = true ∧ ∀ y ∈ stepsR (rowOf x), an y = some (fl y)) →
    (runHs an hs c h ⟨tr, ov⟩).1 = (lawHs fl hs (.err c, tr)).1 ∧ (runHs an hs c h ⟨tr, ov⟩).2.ran = (lawHs fl hs (.err c, tr)).2
  | [], _ => by rw [runHs_nil]; exact ⟨rfl, rfl⟩
  | .mk ns r :: hs, hh => by
    rw [runHs_cons]
    have e1 : lawHs fl (.mk ns r :: hs) (.err c, tr) = if catches ns c then flatRun fl r (some c) tr else lawHs fl hs (.err c, tr) := by
      show (match (if catches ns c then some r else firstH hs c) with | some r => flatRun fl r (some c) tr | none => (Out.err c, tr)) = _
      cases catches ns c <;> rfl
    rw [e1]
    cases catches ns c with
    | false => exact law_hs fl an h c tr ov hs fun x hx => hh x (List.mem_cons_of_mem _ hx)
    | true =>
      obtain ⟨a, b⟩ := hh _ List.mem_cons_self
      have e2 := flat_run fl an r (some c) tr ov a b
      rw [if_pos rfl, if_pos rfl, e2]
      dsimp only
      cases eo : isE (flatRun fl r (some c) tr).1 with
      | true => rw [if_pos rfl]; exact ⟨(isE_eq eo).symm, rfl⟩
      | false => rw [if_neg (by decide)]; exact ⟨rfl, rfl⟩
theorem law_hs_noask (fl : Str → Bool) (hs : List Han) (q : Out × List Str) (h : isAsk q.1 = false) : isAsk (lawHs fl hs q).1 = false := by
  unfold lawHs
  split
  · split
    · exact flat_noask fl _ _ _
    · exact h
  · exact h
/-- the program's run of a guard and what stands behind it, by the law's own run -/
theorem law_guard (fl : Str → Bool) (an : Str → Option Bool) {b l bh : List Stm} {hs : List Han} (fb : b.all flatB = true) (fl' : l.all flatB = true) (fbh : bh.all flatB = true) (fh : ∀ x ∈ hs, (rowOf x).all flatB = true)
    (ha : ∀ y ∈ stepsR (.guard b hs l :: bh), an y = some (fl y)) :
    (runR an (.guard b hs l :: bh) none ⟨[], []⟩).1 = (lawLast fl l bh (lawHs fl hs (flatRun fl b none []))).1 ∧ (runR an (.guard b hs l :: bh) none ⟨[], []⟩).2.ran = (lawLast fl l bh (lawHs fl hs (flatRun fl b none []))).2 := by
  have sub : ∀ (r : List Stm), (∀ t ∈ flatR r, t ∈ flatR (.guard b hs l :: bh)) → ∀ y ∈ stepsR r, an y = some (fl y) := fun r hr y hy => ha y (by
    unfold stepsR at hy ⊢
    obtain ⟨z, hz, hy⟩ := List.mem_flatten.mp hy
    obtain ⟨t, ht, rfl⟩ := List.mem_map.mp hz
    exact List.mem_flatten.mpr ⟨_, List.mem_map.mpr ⟨t, hr t ht, rfl⟩, hy⟩)
  have eF : flatR (.guard b hs l :: bh) = (.guard b hs l :: (flatR b ++ (flatR l ++ flatHs hs))) ++ flatR bh := by rw [flatR, flatS]
  have sb := sub b fun t ht => by rw [eF]; simp [ht]
  have sl := sub l fun t ht => by rw [eF]; simp [ht]
  have sbh := sub bh fun t ht => by rw [eF]; simp [ht]
  have sh : ∀ x ∈ hs, ∀ y ∈ stepsR (rowOf x), an y = some (fl y) := fun x hx => sub (rowOf x) fun t ht => by
    rw [eF, flatHs_eq]
    have : t ∈ ((hs.map rowOf).map flatR).flatten := List.mem_flatten.mpr ⟨_, List.mem_map.mpr ⟨_, List.mem_map.mpr ⟨x, hx, rfl⟩, rfl⟩, ht⟩
    simp only [List.mem_append, List.mem_cons]
    exact .inl (.inr (.inr (.inr this)))
  rw [runR_cons, runG, flat_run fl an b none [] [] fb sb]
  have na := flat_noask fl b none []
  generalize flatRun fl b none [] = q1 at na
  obtain ⟨o1, t1⟩ := q1
  have key : ∀ ov, ∃ ov', bodyOf an hs none (o1, ⟨t1, ov⟩) = ((lawHs fl hs (o1, t1)).1, ⟨(lawHs fl hs (o1, t1)).2, ov'⟩) := fun ov => by
    cases o1 with
    | err c =>
      obtain ⟨a1, a2⟩ := law_hs fl an none c t1 ov hs fun x hx => ⟨fh x hx, sh x hx⟩
      refine ⟨(runHs an hs c none ⟨t1, ov⟩).2.over, ?_⟩
      show runHs an hs c none ⟨t1, ov⟩ = _
      rw [← a1, ← a2]
    | ended => exact ⟨ov, rfl⟩
    | left => exact ⟨ov, rfl⟩
    | asks x g => cases na
  obtain ⟨ov', e2⟩ := key []
  dsimp only
  rw [e2]
  have na2 := law_hs_noask fl hs (o1, t1) na
  generalize lawHs fl hs (o1, t1) = q2 at na2
  obtain ⟨o2, t2⟩ := q2
  dsimp only at na2 ⊢
  unfold lastOf lawLast
  dsimp only
  simp only [na2, Bool.false_eq_true, if_false]
  rw [flat_run fl an l (wayOf none o2) t2 ov' fl' sl]
  dsimp only
  generalize flatRun fl l (wayOf none o2) t2 = q3
  obtain ⟨o3, t3⟩ := q3
  dsimp only
  cases e3 : isE o3 with
  | true =>
    simp only [if_true]
    cases e4 : isE o2 with
    | true =>
      simp only [if_true]
      rw [flat_run fl an bh none t3 ov' fbh sbh]
      exact ⟨rfl, rfl⟩
    | false => simp
  | false => simp [e3]
theorem flat_b (fl : Str → Bool) {N : List Str} (hN : Nams N) {i : Bool} : ∀ (r : List Stm) (h : Option Ch) (tr : List Str), fineR N i r = true → Hok h → (i = true → h.isSome = true) →
    (∀ c, (flatRun fl r h tr).1 = .err c → Cok c ∧ c.length ≤ OwnD.hl h + 1) ∧ (flatRun fl r h tr).2.length ≤ tr.length + r.length
  | [], h, tr, _, _, _ => ⟨fun c e => (by cases e), Nat.le_refl _⟩
  | .guard b hs l :: r, h, tr, _, _, _ => ⟨fun c e => (by cases e), Nat.le_add_right _ _⟩
  | .leave :: r, h, tr, _, _, _ => ⟨fun c e => (by cases e), Nat.le_add_right _ _⟩
  | .again :: r, h, tr, hf, hh, hi => by
    rw [fineR, Bool.and_eq_true, fineS] at hf
    obtain ⟨c, rfl⟩ := Option.isSome_iff_exists.mp (hi hf.1)
    exact ⟨fun d e => (by cases e; exact ⟨hh c rfl, Nat.le_add_right _ _⟩), Nat.le_add_right _ _⟩
  | .one w x :: r, h, tr, hf, hh, hi => by
    rw [fineR, Bool.and_eq_true, fineS] at hf
    simp only [Bool.and_eq_true, decide_eq_true_eq] at hf
    have hx : PyData.strOk x = true := nmB_ok (hN.ok x hf.1.1.2)
    rw [flatRun]
    split
    · split
      · exact ⟨fun d e => (by cases e; exact chainOf_ok _ _ hx hh), by simp⟩
      · obtain ⟨a, b⟩ := flat_b fl hN r h (tr ++ [x]) hf.2 hh hi
        exact ⟨a, by simp only [List.length_append, List.length_cons, List.length_nil] at b ⊢; omega⟩
    · exact ⟨fun d e => (by cases e; exact chainOf_ok _ _ hx hh), Nat.le_add_right _ _⟩
theorem flat_dep : ∀ {r : List Stm}, r.all flatB = true → depR r = 0 ∧ cntR r = r.length
  | [], _ => ⟨rfl, rfl⟩
  | s :: r, h => by
    rw [List.all_cons, Bool.and_eq_true] at h
    obtain ⟨a, b⟩ := flat_dep h.2
    have : depS s = 0 ∧ cntS s = 1 := by
      cases s with
      | guard b hs l => cases h.1
      | _ => exact ⟨rfl, rfl⟩
    rw [depR, cntR, List.length_cons]
    omega
end OwnD
namespace OwnD
open PySem PySem.Spec PyProof.Rows L2 Own
section
variable {Z : Zx} {F H : Hp} {E : Ent} {ps : Pend} {δ : List D} {σ : L2.St} {v : V}
/-! ### a part of an own thing, taken out or looked at -/
theorem RA.cutN : ∀ {ds : List D} {vs : List V} {μ : Mu} {a : Nat} {g : D}, RA Z F H ds vs μ → ds[a]? = some g → ∃ u μ1 μ2, vs[a]? = some u ∧ R Z F H g u μ1 ∧ RA Z F H (ds.set a .hole) vs μ2 ∧ ∀ x, μ x = μ1 x + μ2 x
  | [], _, _, _, _, _, e => by simp at e
  | d :: ds, vs, μ, 0, g, h, e => by
    rw [RA] at h
    obtain ⟨v, ws, μ1, μ2, rfl, h1, h2, h3⟩ := h
    cases e
    exact ⟨v, μ1, _, rfl, h1, RA.push (μ1 := fun _ => 0) (by rw [R]; exact fun _ => rfl) h2, fun x => by have := h3 x; show μ x = μ1 x + (0 + μ2 x); omega⟩
  | d :: ds, vs, μ, a + 1, g, h, e => by
    rw [RA] at h
    obtain ⟨v, ws, μ1, μ2, rfl, h1, h2, h3⟩ := h
    obtain ⟨u, κ1, κ2, q1, q2, q3, q4⟩ := RA.cutN (a := a) h2 (by simpa using e)
    exact ⟨u, κ1, _, by simpa using q1, q2, RA.push h1 q3, fun x => by have := h3 x; have := q4 x; show μ x = κ1 x + (μ1 x + κ2 x); omega⟩
theorem RA.joinN : ∀ {ds : List D} {vs : List V} {μ μ0 : Mu} {a : Nat} {g : D} {u : V}, RA Z F H (ds.set a .hole) vs μ → vs[a]? = some u → R Z F H g u μ0 → RA Z F H (ds.set a g) vs (fun x => μ x + μ0 x)
  | [], vs, _, _, _, _, _, h, e, _ => by
    have h2 := h
    rw [List.set_nil, RA] at h2
    rw [h2.1] at e; simp at e
  | d :: ds, vs, μ, μ0, 0, g, u, h, e, hg => by
    rw [List.set_cons_zero, RA] at h
    obtain ⟨v, ws, μ1, μ2, rfl, h1, h2, h3⟩ := h
    cases e
    rw [R] at h1
    have q := RA.push hg h2
    have e : (fun x => μ0 x + μ2 x) = fun x => μ x + μ0 x := funext fun x => by have := h3 x; have := h1 x; omega
    rw [← e]; exact q
  | d :: ds, vs, μ, μ0, a + 1, g, u, h, e, hg => by
    rw [List.set_cons_succ, RA] at h
    obtain ⟨v, ws, μ1, μ2, rfl, h1, h2, h3⟩ := h
    have q := RA.push h1 (RA.joinN (a := a) h2 (by simpa using e) hg)
    have e : (fun x => μ1 x + (μ2 x + μ0 x)) = fun x => μ x + μ0 x := funext fun x => by have := h3 x; omega
    rw [← e]; exact q
theorem RA.getS {ds : List D} {vs : List V} {μ : Mu} {a : Nat} {g : D} (h : RA Z F H ds vs μ) (e : ds[a]? = some g) (k : shr g = true) : ∃ u, vs[a]? = some u ∧ R Z F H g u (fun _ => 0) := by
  obtain ⟨u, μ1, μ2, q1, q2, _, _⟩ := RA.cutN h e
  have z : μ1 = fun _ => 0 := by
    cases g with
    | fz d => rw [R] at q2; exact funext q2.2
    | dct d => rw [R] at q2; exact funext q2.2
    | ob c ns d => rw [R] at q2; exact funext q2.2
    | _ => cases k
  subst z
  exact ⟨u, q1, q2⟩
theorem Rel.cutL {ds : List D} {a : Nat} {g : D} (h : Rel Z E ((v, .own ds) :: ps) δ σ H) (e : ds[a]? = some g) : ∃ p vs u, v = .ref p ∧ H p = some (.lst vs) ∧ vs[a]? = some u ∧ Rel Z E ((v, .own (ds.set a .hole)) :: (u, g) :: ps) δ σ H := by
  obtain ⟨F, μ, ν, w1, s1, r1, pn⟩ := h
  rw [List.map_cons, List.map_cons, RA] at r1
  obtain ⟨_, _, μ1, μ2, e', r2, r3, r4⟩ := r1
  cases e'
  have r2' : R Z F H (.own ds) v μ1 := r2
  rw [R] at r2'
  obtain ⟨p, vs, κ, rfl, g1, g2, g3⟩ := r2'
  obtain ⟨u, κ1, κ2, q1, q2, q3, q4⟩ := RA.cutN g2 e
  refine ⟨p, vs, u, rfl, g1, q1, F, μ, fun b => (κ2 b + (if b = p then 1 else 0)) + (κ1 b + μ2 b), w1.eq fun b => ?_, s1, RA.push ?_ (RA.push q2 r3), pn⟩
  · have := g3 b; have := q4 b; have := r4 b
    show μ b + ((κ2 b + _) + (κ1 b + μ2 b)) = μ b + ν b
    omega
  · show R Z F H (.own _) (.ref p) _
    rw [R]
    exact ⟨p, vs, κ2, rfl, g1, q3, fun _ => rfl⟩
theorem Rel.cutT {ds : List D} {a : Nat} {g : D} (h : Rel Z E ((v, .tup ds) :: ps) δ σ H) (e : ds[a]? = some g) : ∃ p vs u, v = .ref p ∧ H p = some (.tup vs) ∧ vs[a]? = some u ∧ Rel Z E ((v, .tup (ds.set a .hole)) :: (u, g) :: ps) δ σ H := by
  obtain ⟨F, μ, ν, w1, s1, r1, pn⟩ := h
  rw [List.map_cons, List.map_cons, RA] at r1
  obtain ⟨_, _, μ1, μ2, e', r2, r3, r4⟩ := r1
  cases e'
  have r2' : R Z F H (.tup ds) v μ1 := r2
  rw [R] at r2'
  obtain ⟨p, vs, κ, rfl, g1, g2, g3⟩ := r2'
  obtain ⟨u, κ1, κ2, q1, q2, q3, q4⟩ := RA.cutN g2 e
  refine ⟨p, vs, u, rfl, g1, q1, F, μ, fun b => (κ2 b + (if b = p then 1 else 0)) + (κ1 b + μ2 b), w1.eq fun b => ?_, s1, RA.push ?_ (RA.push q2 r3), pn⟩
  · have := g3 b; have := q4 b; have := r4 b
    show μ b + ((κ2 b + _) + (κ1 b + μ2 b)) = μ b + ν b
    omega
  · show R Z F H (.tup _) (.ref p) _
    rw [R]
    exact ⟨p, vs, κ2, rfl, g1, q3, fun _ => rfl⟩
/-- a tuple within a list, and a part of it -/
theorem Rel.cutLT {ds ds' : List D} {a b : Nat} {g : D} (h : Rel Z E ((v, .own ds) :: ps) δ σ H) (e : ds[a]? = some (.tup ds')) (e2 : ds'[b]? = some g) : ∃ p vs q ws u, v = .ref p ∧ H p = some (.lst vs) ∧ vs[a]? = some (.ref q) ∧ H q = some (.tup ws) ∧ ws[b]? = some u ∧
    Rel Z E ((v, .own (ds.set a (.tup (ds'.set b .hole)))) :: (u, g) :: ps) δ σ H := by
  obtain ⟨F, μ, ν, w1, s1, r1, pn⟩ := h
  rw [List.map_cons, List.map_cons, RA] at r1
  obtain ⟨_, _, μ1, μ2, e', r2, r3, r4⟩ := r1
  cases e'
  have r2' : R Z F H (.own ds) v μ1 := r2
  rw [R] at r2'
  obtain ⟨p, vs, κ, rfl, g1, g2, g3⟩ := r2'
  obtain ⟨x, κ1, κ2, q1, q2, q3, q4⟩ := RA.cutN g2 e
  rw [R] at q2
  obtain ⟨q, ws, κ3, rfl, k1, k2, k3⟩ := q2
  obtain ⟨u, κ4, κ5, j1, j2, j3, j4⟩ := RA.cutN k2 e2
  have t : R Z F H (.tup (ds'.set b .hole)) (.ref q) (fun b => κ5 b + (if b = q then 1 else 0)) := by
    rw [R]; exact ⟨q, ws, κ5, rfl, k1, j3, fun _ => rfl⟩
  have jn := RA.joinN q3 q1 t
  refine ⟨p, vs, q, ws, u, rfl, g1, q1, k1, j1, F, μ, fun b => ((κ2 b + (κ5 b + (if b = q then 1 else 0))) + (if b = p then 1 else 0)) + (κ4 b + μ2 b), w1.eq fun b => ?_, s1, RA.push ?_ (RA.push j2 r3), pn⟩
  · have := g3 b; have := q4 b; have := r4 b; have := k3 b; have := j4 b
    show μ b + (((κ2 b + (κ5 b + _)) + _) + (κ4 b + μ2 b)) = μ b + ν b
    omega
  · show R Z F H (.own _) (.ref p) _
    rw [R]
    exact ⟨p, vs, _, rfl, g1, jn, fun _ => rfl⟩
theorem Rel.slot_at {i : Nat} (r : Rel Z E ps δ σ H) (n : δ.getD i .hole ≠ .hole) : ∃ v, σ[i]? = some (some v) := by
  obtain ⟨F, μ, ν, w1, s1, r1, pn⟩ := id r
  obtain ⟨v, μ1, e1, _⟩ := s1.at_ (i := i) n
  exact ⟨v, e1⟩
/-- x[a], taken out of a tuple -/
def fMvT (i a : Nat) (δ : List D) (Q : W → List D → Prop) : Prop := ∃ ds g, δ.getD i .hole = .tup ds ∧ ds[a]? = some g ∧ Q (.tmp g) (δ.set i (.tup (ds.set a .hole)))
theorem dMvT (i a : Nat) : DO Z E (tOp (rIxT Z.K) (tVar i) (tC (.int (a : Nat)))) (fMvT i a) := by
  refine ⟨fun δ Q Q' k ⟨ds, g, a, b, q⟩ => ⟨ds, g, a, b, k _ _ q⟩, fun ps δ σ H Q r ⟨ds, g, e1, e2, q⟩ => ?_⟩
  obtain ⟨v, es⟩ := r.slot_at (i := i) (by rw [e1]; exact fun z => nomatch z)
  have r2 := r.slotOut es
  rw [e1] at r2
  obtain ⟨p, vs, u, rfl, h1, h2, r3⟩ := r2.cutT e2
  have r4 := r3.slotIn es
  rw [List.set_set] at r4
  exact ⟨_, es, p, vs, _, u, rfl, rfl, .inl (.inl h1), atI_nat h2, q _ _ (RelW.of r4)⟩
/-- x[a], taken out of a list -/
def fMvL (i a : Nat) (δ : List D) (Q : W → List D → Prop) : Prop := ∃ ds g, δ.getD i .hole = .own ds ∧ ds[a]? = some g ∧ Q (.tmp g) (δ.set i (.own (ds.set a .hole)))
theorem dMvL (i a : Nat) : DO Z E (tOp (rIxL Z.K) (tVar i) (tC (.int (a : Nat)))) (fMvL i a) := by
  refine ⟨fun δ Q Q' k ⟨ds, g, a, b, q⟩ => ⟨ds, g, a, b, k _ _ q⟩, fun ps δ σ H Q r ⟨ds, g, e1, e2, q⟩ => ?_⟩
  obtain ⟨v, es⟩ := r.slot_at (i := i) (by rw [e1]; exact fun z => nomatch z)
  have r2 := r.slotOut es
  rw [e1] at r2
  obtain ⟨p, vs, u, rfl, h1, h2, r3⟩ := r2.cutL e2
  have r4 := r3.slotIn es
  rw [List.set_set] at r4
  exact ⟨_, es, p, vs, _, u, rfl, rfl, .inl (.inl h1), atI_nat h2, q _ _ (RelW.of r4)⟩
/-- x[a][b], taken out of a tuple in a list -/
def fMvLT (i a b : Nat) (δ : List D) (Q : W → List D → Prop) : Prop := ∃ ds ds' g, δ.getD i .hole = .own ds ∧ ds[a]? = some (.tup ds') ∧ ds'[b]? = some g ∧ Q (.tmp g) (δ.set i (.own (ds.set a (.tup (ds'.set b .hole)))))
theorem dMvLT (i a b : Nat) : DO Z E (tOp (rIxT Z.K) (tOp (rIxL Z.K) (tVar i) (tC (.int (a : Nat)))) (tC (.int (b : Nat)))) (fMvLT i a b) := by
  refine ⟨fun δ Q Q' k ⟨ds, ds', g, a, b, c, q⟩ => ⟨ds, ds', g, a, b, c, k _ _ q⟩, fun ps δ σ H Q r ⟨ds, ds', g, e1, e2, e3, q⟩ => ?_⟩
  obtain ⟨v, es⟩ := r.slot_at (i := i) (by rw [e1]; exact fun z => nomatch z)
  have r2 := r.slotOut es
  rw [e1] at r2
  obtain ⟨p, vs, p2, ws, u, rfl, h1, h2, h3, h4, r3⟩ := r2.cutLT e2 e3
  have r4 := r3.slotIn es
  rw [List.set_set] at r4
  exact ⟨_, es, p, vs, _, _, rfl, rfl, .inl (.inl h1), atI_nat h2, p2, ws, _, u, rfl, rfl, .inl (.inl h3), atI_nat h4, q _ _ (RelW.of r4)⟩
/-- x[a], looked at in a tuple whose other parts are own -/
def fPkT (i a : Nat) (δ : List D) (Q : W → List D → Prop) : Prop := ∃ ds g, δ.getD i .hole = .tup ds ∧ ds[a]? = some g ∧ shr g = true ∧ Q (.tmp g) δ
theorem Rel.lookT {ds : List D} {a i : Nat} {g : D} (r : Rel Z E ps δ σ H) (e1 : δ.getD i .hole = .tup ds) (e2 : ds[a]? = some g) (k : shr g = true) : ∃ p vs u, σ[i]? = some (some (.ref p)) ∧ H p = some (.tup vs) ∧ vs[a]? = some u ∧ Rel Z E ((u, g) :: ps) δ σ H := by
  obtain ⟨F, μ, ν, w1, s1, r1, pn⟩ := id r
  obtain ⟨v, μ1, es, hv⟩ := s1.at_ (i := i) (by rw [e1]; exact fun z => nomatch z)
  rw [e1, R] at hv
  obtain ⟨p, vs, κ, rfl, g1, g2, g3⟩ := hv
  obtain ⟨u, q1, q2⟩ := RA.getS g2 e2 k
  exact ⟨p, vs, u, es, g1, q1, F, μ, fun b => 0 + ν b, w1.eq fun b => by show μ b + (0 + ν b) = μ b + ν b; omega, s1, RA.push q2 r1, pn⟩
theorem dPkT (i a : Nat) : DO Z E (tOp (rIxT Z.K) (tVar i) (tC (.int (a : Nat)))) (fPkT i a) := by
  refine ⟨fun δ Q Q' k ⟨ds, g, a, b, c, q⟩ => ⟨ds, g, a, b, c, k _ _ q⟩, fun ps δ σ H Q r ⟨ds, g, e1, e2, e3, q⟩ => ?_⟩
  obtain ⟨p, vs, u, es, h1, h2, r3⟩ := r.lookT e1 e2 e3
  exact ⟨_, es, p, vs, _, u, rfl, rfl, .inl (.inl h1), atI_nat h2, q _ _ (RelW.of r3)⟩
/-- x[a][b], looked at in a tuple in a list -/
def fPkLT (i a b : Nat) (δ : List D) (Q : W → List D → Prop) : Prop := ∃ ds ds' g, δ.getD i .hole = .own ds ∧ ds[a]? = some (.tup ds') ∧ ds'[b]? = some g ∧ shr g = true ∧ Q (.tmp g) δ
theorem dPkLT (i a b : Nat) : DO Z E (tOp (rIxT Z.K) (tOp (rIxL Z.K) (tVar i) (tC (.int (a : Nat)))) (tC (.int (b : Nat)))) (fPkLT i a b) := by
  refine ⟨fun δ Q Q' k ⟨ds, ds', g, a, b, c, d, q⟩ => ⟨ds, ds', g, a, b, c, d, k _ _ q⟩, fun ps δ σ H Q r ⟨ds, ds', g, e1, e2, e3, e4, q⟩ => ?_⟩
  obtain ⟨F, μ, ν, w1, s1, r1, pn⟩ := id r
  obtain ⟨v, μ1, es, hv⟩ := s1.at_ (i := i) (by rw [e1]; exact fun z => nomatch z)
  rw [e1, R] at hv
  obtain ⟨p, vs, κ, rfl, g1, g2, g3⟩ := hv
  obtain ⟨x, κ1, κ2, q1, q2, _, _⟩ := RA.cutN g2 e2
  rw [R] at q2
  obtain ⟨p2, ws, κ3, rfl, k1, k2, k3⟩ := q2
  obtain ⟨u, j1, j2⟩ := RA.getS k2 e3 e4
  exact ⟨_, es, p, vs, _, _, rfl, rfl, .inl (.inl g1), atI_nat q1, p2, ws, _, u, rfl, rfl, .inl (.inl k1), atI_nat j1,
    q _ _ (RelW.of ⟨F, μ, fun b => 0 + ν b, w1.eq fun b => by show μ b + (0 + ν b) = μ b + ν b; omega, s1, RA.push j2 r1, pn⟩)⟩
end
end OwnD
namespace OwnD
open PySem PySem.Spec PyProof.Rows L2 Own
/-! ### an own thing lent to a call that only reads it -/
/-- data that reach nothing but tuples of plain values -/
def scalB : PyData → Bool
  | .none => true
  | .bool _ => true
  | .int _ => true
  | .str _ => true
  | _ => false
def flatP : PyData → Bool
  | .tuple es => es.all scalB
  | e => scalB e
mutual
def flatD : D → Bool
  | .fz e => flatP e
  | .own ds => flatDs ds
  | .tup ds => flatDs ds
  | .obj _ _ ds => flatDs ds
  | .pur _ => true
  | .set _ => true
  | .hole => true
  | .ptr _ => true
  | _ => false
def flatDs : List D → Bool
  | [] => true
  | d :: ds => flatD d && flatDs ds
end
/-- lists, and tuples with a list or such a tuple in them -/
def isOwn : D → Bool
  | .own _ => true
  | .tup _ => true
  | _ => false
mutual
def ownB : D → Bool
  | .fz _ => true
  | .own ds => ownBs ds
  | .tup ds => ds.any isOwn && ownBs ds
  | _ => false
def ownBs : List D → Bool
  | [] => true
  | d :: ds => ownB d && ownBs ds
end
def isRefV : V → Bool
  | .ref _ => true
  | _ => false
def NF (o : HO) : Prop := (∃ vs, o = .lst vs) ∨ ∃ vs, o = .tup vs ∧ vs.any isRefV = true
section
variable {Z : Zx} {F F' F2 H H' : Hp}
theorem R.ownRef {d : D} {v : V} {μ : Mu} (h : R Z F H d v μ) (k : isOwn d = true) : isRefV v = true := by
  cases d with
  | own ds => rw [R] at h; obtain ⟨a, _, _, rfl, _⟩ := h; rfl
  | tup ds => rw [R] at h; obtain ⟨a, _, _, rfl, _⟩ := h; rfl
  | _ => cases k
theorem RA.ownRef : ∀ {ds : List D} {vs : List V} {μ : Mu}, RA Z F H ds vs μ → ds.any isOwn = true → vs.any isRefV = true
  | [], _, _, _, k => by cases k
  | d :: ds, vs, μ, h, k => by
    rw [RA] at h
    obtain ⟨v, ws, μ1, μ2, rfl, h1, h2, h3⟩ := h
    rw [List.any_cons, Bool.or_eq_true] at k ⊢
    rcases k with k | k
    · exact .inl (h1.ownRef k)
    · exact .inr (RA.ownRef h2 k)
mutual
theorem R.nf : ∀ {d : D} {v : V} {μ : Mu}, R Z F H d v μ → ownB d = true → ∀ a, μ a ≠ 0 → ∃ o, H a = some o ∧ NF o
  | .fz e, v, μ, h, k, a, n => by rw [R] at h; exact absurd (h.2 a) n
  | .own ds, v, μ, h, k, a, n => by
    rw [R] at h
    obtain ⟨b, vs, ν, rfl, h1, h2, h3⟩ := h
    by_cases z : a = b
    · rw [z]; exact ⟨_, h1, .inl ⟨vs, rfl⟩⟩
    · rw [h3 a, if_neg z] at n
      exact RA.nf h2 k a (by omega)
  | .tup ds, v, μ, h, k, a, n => by
    rw [R] at h
    obtain ⟨b, vs, ν, rfl, h1, h2, h3⟩ := h
    rw [ownB, Bool.and_eq_true] at k
    by_cases z : a = b
    · rw [z]; exact ⟨_, h1, .inr ⟨vs, rfl, h2.ownRef k.1⟩⟩
    · rw [h3 a, if_neg z] at n
      exact RA.nf h2 k.2 a (by omega)
  | .dct _, _, _, _, k, _, _ => by rw [ownB] at k <;> first | cases k | (intros; contradiction)
  | .ob _ _ _, _, _, _, k, _, _ => by rw [ownB] at k <;> first | cases k | (intros; contradiction)
  | .pur _, _, _, _, k, _, _ => by rw [ownB] at k <;> first | cases k | (intros; contradiction)
  | .obj _ _ _, _, _, _, k, _, _ => by rw [ownB] at k <;> first | cases k | (intros; contradiction)
  | .set _, _, _, _, k, _, _ => by rw [ownB] at k <;> first | cases k | (intros; contradiction)
  | .odc _, _, _, _, k, _, _ => by rw [ownB] at k <;> first | cases k | (intros; contradiction)
  | .ptr _, _, _, _, k, _, _ => by rw [ownB] at k <;> first | cases k | (intros; contradiction)
  | .hole, _, _, _, k, _, _ => by rw [ownB] at k <;> first | cases k | (intros; contradiction)
theorem RA.nf : ∀ {ds : List D} {vs : List V} {μ : Mu}, RA Z F H ds vs μ → ownBs ds = true → ∀ a, μ a ≠ 0 → ∃ o, H a = some o ∧ NF o
  | [], vs, μ, h, k, a, n => by rw [RA] at h; exact absurd (h.2 a) n
  | d :: ds, vs, μ, h, k, a, n => by
    rw [RA] at h
    obtain ⟨v, ws, μ1, μ2, rfl, h1, h2, h3⟩ := h
    rw [ownBs, Bool.and_eq_true] at k
    rw [h3 a] at n
    by_cases z : μ1 a = 0
    · exact RA.nf h2 k.2 a (by omega)
    · exact R.nf h1 k.1 a z
end
theorem scal_dq {K : PySem.W.Frag} {v : V} {e : PyData} (h : Dq K F v e) (k : scalB e = true) : isRefV v = false ∧ ∀ G, Dq K G v e := by
  cases h with
  | non => exact ⟨rfl, fun _ => .non⟩
  | bl b => exact ⟨rfl, fun _ => .bl b⟩
  | int i => exact ⟨rfl, fun _ => .int i⟩
  | str x => exact ⟨rfl, fun _ => .str x⟩
  | lst _ _ => cases k
  | tup _ _ => cases k
theorem scal_dqa {K : PySem.W.Frag} : ∀ {es : List PyData} {vs : List V}, DqAll K F vs es → es.all scalB = true → vs.any isRefV = false ∧ ∀ G, DqAll K G vs es
  | [], _, h, _ => by cases h; exact ⟨rfl, fun _ => .nil⟩
  | e :: es, _, h, k => by
    cases h with
    | cons a b =>
      rw [List.all_cons, Bool.and_eq_true] at k
      obtain ⟨a1, a2⟩ := scal_dq a k.1
      obtain ⟨b1, b2⟩ := scal_dqa b k.2
      exact ⟨by rw [List.any_cons, a1, b1]; rfl, fun G => .cons (a2 G) (b2 G)⟩
/-- some lists and tuples of refs left out -/
structure Out2 (F F2 : Hp) : Prop where
  eq : ∀ a o, F a = some o → F2 a = some o ∨ NF o
theorem flat_dq {K : PySem.W.Frag} {v : V} {e : PyData} (s : Out2 F F2) (h : Dq K F v e) (k : flatP e = true) : Dq K F2 v e := by
  cases h with
  | non => exact .non
  | bl b => exact .bl b
  | int i => exact .int i
  | str x => exact .str x
  | lst _ _ => cases k
  | tup hs ha =>
    obtain ⟨b1, b2⟩ := scal_dqa ha k
    refine .tup ?_ (b2 F2)
    rcases hs with (h | ⟨o, h⟩) | h
    · rcases s.eq _ _ h with h | h
      · exact .inl (.inl h)
      · rcases h with ⟨vs, e⟩ | ⟨vs, e, r⟩
        · cases e
        · cases e; rw [b1] at r; cases r
    · rcases s.eq _ _ h with h | h
      · exact .inl (.inr ⟨o, h⟩)
      · rcases h with ⟨vs, e⟩ | ⟨vs, e, r⟩ <;> cases e
    · exact .inr h
mutual
theorem R.out (s : Out2 F F2) : ∀ {d : D} {v : V} {μ : Mu}, R Z F H d v μ → flatD d = true → R Z F2 H d v μ
  | .fz e, v, μ, h, k => by rw [R] at h ⊢; exact ⟨flat_dq s h.1 k, h.2⟩
  | .own ds, v, μ, h, k => by
    rw [R] at h ⊢
    obtain ⟨b, vs, ν, e, h1, h2, h3⟩ := h
    exact ⟨b, vs, ν, e, h1, RA.out s h2 k, h3⟩
  | .tup ds, v, μ, h, k => by
    rw [R] at h ⊢
    obtain ⟨b, vs, ν, e, h1, h2, h3⟩ := h
    exact ⟨b, vs, ν, e, h1, RA.out s h2 k, h3⟩
  | .obj c ns ds, v, μ, h, k => by
    rw [R] at h ⊢
    obtain ⟨b, dx, vs, ν, e, h1, h0, h2, h3⟩ := h
    exact ⟨b, dx, vs, ν, e, h1, h0, RA.out s h2 k, h3⟩
  | .pur n, v, μ, h, k => by rw [R] at h ⊢; exact h
  | .set xs, v, μ, h, k => by rw [R] at h ⊢; exact h
  | .hole, v, μ, h, k => by rw [R] at h ⊢; exact h
  | .ptr u, v, μ, h, k => by rw [R] at h ⊢; exact h
  | .dct _, _, _, _, k => by rw [flatD] at k <;> first | cases k | (intros; contradiction)
  | .ob _ _ _, _, _, _, k => by rw [flatD] at k <;> first | cases k | (intros; contradiction)
  | .odc _, _, _, _, k => by rw [flatD] at k <;> first | cases k | (intros; contradiction)
theorem RA.out (s : Out2 F F2) : ∀ {ds : List D} {vs : List V} {μ : Mu}, RA Z F H ds vs μ → flatDs ds = true → RA Z F2 H ds vs μ
  | [], vs, μ, h, k => by rw [RA] at h ⊢; exact h
  | d :: ds, vs, μ, h, k => by
    rw [RA] at h ⊢
    obtain ⟨v, ws, μ1, μ2, e, h1, h2, h3⟩ := h
    rw [flatDs, Bool.and_eq_true] at k
    exact ⟨v, ws, μ1, μ2, e, R.out s h1 k.1, RA.out s h2 k.2, h3⟩
end
/-- an argument is flat behind the call, or shared and as it was -/
def keepD (d d' : D) : Prop := flatD d' = true ∨ (shr d = true ∧ d' = d)
def keepAll : List D → List D → Prop
  | [], [] => True
  | d :: ds, d' :: ds' => keepD d d' ∧ keepAll ds ds'
  | _, _ => False
theorem R.shr0 {d : D} {v : V} {μ : Mu} (h : R Z F H d v μ) (k : shr d = true) : (∀ a, μ a = 0) ∧ ∀ {F2 H2 : Hp}, Same F F2 → R Z F2 H2 d v μ := by
  have z : ∀ a, μ a = 0 := by
    cases d with
    | fz d => rw [R] at h; exact h.2
    | dct d => rw [R] at h; exact h.2
    | ob c ns d => rw [R] at h; exact h.2
    | _ => cases k
  exact ⟨z, fun s => R.mono s h fun a n => absurd (z a) n⟩
theorem RA.keep {G : Hp} (s : Out2 F' F2) (s2 : Same F F2) : ∀ {ds ds' : List D} {vs : List V} {μ μ' : Mu}, RA Z F H ds vs μ → RA Z F' H' ds' vs μ' → keepAll ds ds' → RA Z F2 H' ds' vs μ'
  | [], [], vs, μ, μ', h, h', k => by rw [RA] at h' ⊢; exact h'
  | [], _ :: _, _, _, _, _, _, k => k.elim
  | _ :: _, [], _, _, _, _, _, k => k.elim
  | d :: ds, d' :: ds', vs, μ, μ', h, h', k => by
    rw [RA] at h h'
    obtain ⟨v, ws, μ1, μ2, rfl, h1, h2, h3⟩ := h
    obtain ⟨_, _, μ3, μ4, e, h4, h5, h6⟩ := h'
    cases e
    rw [RA]
    refine ⟨v, ws, μ3, μ4, rfl, ?_, RA.keep (G := G) s s2 h2 h5 k.2, h6⟩
    rcases k.1 with k1 | ⟨k1, rfl⟩
    · exact R.out s h4 k1
    · have a := (h1.shr0 k1).1
      have b := (h4.shr0 k1).1
      have e : μ3 = μ1 := funext fun x => by rw [a x, b x]
      rw [e]
      exact (h1.shr0 k1).2 s2
/-- the last argument is lent: an own thing in place of a shared one -/
def gB (g : GD) : GD := fun ds Q => ∃ ds0 x e, ds = ds0 ++ [x] ∧ x.py = some e ∧ ownB x = true ∧ g (ds0 ++ [.fz e]) fun d ds' => ∃ ds1, ds' = ds1 ++ [.fz e] ∧ flatD d = true ∧ keepAll ds0 ds1 ∧ Q d (ds1 ++ [x])
theorem keep_len : ∀ {ds ds' : List D}, keepAll ds ds' → ds.length = ds'.length
  | [], [], _ => rfl
  | [], _ :: _, k => k.elim
  | _ :: _, [], k => k.elim
  | _ :: ds, _ :: ds', k => by rw [List.length_cons, List.length_cons, keep_len k.2]
theorem lend {g : GD} {vs : List V} {Q : VK} {E : XK} (h : spD Z (gB g) vs H Q E) : spD Z g vs H Q E := by
  obtain ⟨ds, F, μ, s, r, o, f, Q0, kq, ds0, x, e, rfl, hpy, hown, hg⟩ := h
  obtain ⟨vs0, vx, rfl, hvl⟩ : ∃ vs0 vx, vs = vs0 ++ [vx] ∧ vs0.length = ds0.length := by
    have hl := r.len
    rw [List.length_append, List.length_singleton] at hl
    have hne : vs ≠ [] := fun z => by rw [z] at hl; simp at hl
    refine ⟨vs.dropLast, vs.getLast hne, (List.dropLast_concat_getLast hne).symm, ?_⟩
    rw [List.length_dropLast]; omega
  obtain ⟨μ0, μx', r0, rx, hm⟩ := RA.split r hvl
  rw [RA] at rx
  obtain ⟨_, _, μx, μz, ex, rx, rz, hm2⟩ := rx
  cases ex
  rw [RA] at rz
  obtain ⟨_, rz⟩ := rz
  have hmu : ∀ a, μ a = μ0 a + μx a := fun a => by rw [hm a, hm2 a, rz a, Nat.add_zero]
  let Fp : Hp := fun a => if μx a = 0 then F a else H a
  have hFp0 : ∀ a, μx a = 0 → Fp a = F a := fun a z => if_pos z
  have hFp1 : ∀ a, μx a ≠ 0 → Fp a = H a := fun a z => if_neg z
  have sF : Same F Fp := fun a w e => by
    have z : μx a = 0 := by
      by_cases z : μx a = 0
      · exact z
      · have := f a (by rw [hmu]; omega)
        rw [this] at e; cases e
    rw [hFp0 a z]; exact e
  have sFp : Same Fp H := fun a w e => by
    by_cases z : μx a = 0
    · rw [hFp0 a z] at e; exact s _ _ e
    · rw [hFp1 a z] at e; exact e
  have dx : Dq Z.K Fp vx e := R.dp sF rx (fun a z => hFp1 a z) hpy
  have rn : RA Z Fp H (ds0 ++ [.fz e]) (vs0 ++ [vx]) (fun a => μ0 a + (0 + 0)) := RA.app (RA.mono sF r0 fun _ _ => rfl) (RA.push (R.fz dx) RA.z)
  refine ⟨ds0 ++ [.fz e], Fp, _, sFp, rn, fun a => ?_, fun a z => ?_, _, ?_, hg⟩
  · have := o a; rw [hmu] at this
    show μ0 a + (0 + 0) ≤ 1
    omega
  · have z : μ0 a + (0 + 0) ≠ 0 := z
    have h1 := o a
    rw [hmu] at h1
    rw [hFp0 a (by omega)]
    exact f a (by rw [hmu]; omega)
  · rintro d ds' ⟨ds1, rfl, hfl, hk, q⟩ v H' ⟨F', μr, μ', s', rr, ra, o', m', fr, frF⟩
    have live := R.live rx
    have nf := R.nf rx hown
    let F2 : Hp := fun a => if μx a = 0 then F' a else none
    have h20 : ∀ a, μx a = 0 → F2 a = F' a := fun a z => if_pos z
    have h21 : ∀ a, μx a ≠ 0 → F2 a = none := fun a z => if_neg z
    have hx0 : ∀ a, μx a ≠ 0 → μ0 a = 0 := fun a z => by have := o a; rw [hmu] at this; omega
    have out : Out2 F' F2 := ⟨fun a w e => by
      by_cases z : μx a = 0
      · exact .inl (by rw [h20 a z]; exact e)
      · refine .inr ?_
        obtain ⟨w2, e2, n2⟩ := nf a z
        have e3 := fr a w2 e2 (by show μ0 a + (0 + 0) = 0; rw [hx0 a z])
        have e4 := s' _ _ e
        rw [e3] at e4; cases e4
        exact n2⟩
    have sF2 : Same F F2 := fun a w e => by
      have z : μx a = 0 := by
        by_cases z : μx a = 0
        · exact z
        · have := f a (by rw [hmu]; omega)
          rw [this] at e; cases e
      have z0 : μ0 a = 0 := by
        by_cases z0 : μ0 a = 0
        · exact z0
        · have := f a (by rw [hmu]; omega)
          rw [this] at e; cases e
      rw [h20 a z, frF a (by rw [s _ _ e]; exact fun z => nomatch z) (by show μ0 a + (0 + 0) = 0; rw [z0]), hFp0 a z]
      exact e
    have hl1 : vs0.length = ds1.length := hvl.trans (keep_len hk)
    obtain ⟨μ1, μy, ra1, ra2, hm3⟩ := RA.split ra hl1
    rw [RA] at ra2
    obtain ⟨_, _, μ5, μ6, e5, ra3, ra4, hm4⟩ := ra2
    cases e5
    rw [R] at ra3
    rw [RA] at ra4
    have hm5 : ∀ a, μ' a = μ1 a := fun a => by rw [hm3 a, hm4 a, ra3.2 a, ra4.2 a]; rfl
    have rk := RA.keep (G := H) out sF2 r0 ra1 hk
    have rx2 : R Z F2 H' x vx μx := R.mono sF2 rx fun a z => by
      cases e : H a with
      | none => exact absurd e (live a z)
      | some w => exact fr a w e (by show μ0 a + (0 + 0) = 0; rw [hx0 a z])
    have own0 : ∀ a, μx a ≠ 0 → μr a + μ' a = 0 := fun a z => by
      by_cases y : μr a + μ' a = 0
      · exact y
      · have := (m' a y).2
        rcases this with h | h
        · exact absurd (show μ0 a + (0 + 0) = 0 by rw [hx0 a z]) h
        · exact absurd h (live a z)
    refine kq _ _ q v H' ⟨F2, μr, fun a => μ1 a + (μx a + 0), fun a w e => ?_, R.out out rr hfl, RA.app rk (RA.push rx2 RA.z), fun a => ?_, fun a z => ?_, fun b w e z => ?_, fun b n z => ?_⟩
    · by_cases z : μx a = 0
      · rw [h20 a z] at e; exact s' _ _ e
      · rw [h21 a z] at e; cases e
    · have h1 := o' a; rw [hm5 a] at h1
      have h2 := o a; rw [hmu] at h2
      show μr a + (μ1 a + (μx a + 0)) ≤ 1
      by_cases z : μx a = 0
      · omega
      · have := own0 a z; rw [hm5 a] at this; omega
    · have z : μr a + (μ1 a + (μx a + 0)) ≠ 0 := z
      by_cases y : μx a = 0
      · have := m' a (by rw [hm5 a]; omega)
        refine ⟨by rw [h20 a y]; exact this.1, ?_⟩
        rcases this.2 with h | h
        · have h : μ0 a + (0 + 0) ≠ 0 := h
          exact .inl (by rw [hmu]; omega)
        · exact .inr h
      · exact ⟨h21 a y, .inl (by rw [hmu]; omega)⟩
    · rw [hmu] at z
      exact fr b w e (by show μ0 b + (0 + 0) = 0; omega)
    · rw [hmu] at z
      rw [h20 b (by omega), frF b n (by show μ0 b + (0 + 0) = 0; omega), hFp0 b (by omega)]
end
end OwnD
namespace OwnD
open PySem PySem.Spec PyProof.Rows L2 Own
section
variable {Z : Zx} {F F' H H' : Hp} {E : Ent} {ps : Pend} {δ : List D} {σ : L2.St} {v : V} {te : TE} {fe : List D → (W → List D → Prop) → Prop} {tA : TA} {fA : List D → (List W → List D → Prop) → Prop}
/-- shared, or lent -/
def gBB (g : GD) : GD := fun ds Q => g ds Q ∨ gB g ds Q
theorem lend2 {g : GD} {vs : List V} {Q : VK} {E : XK} (h : spD Z (gBB g) vs H Q E) : spD Z g vs H Q E := by
  obtain ⟨ds, F, μ, s, r, o, f, Q0, kq, h⟩ := h
  rcases h with h | h
  · exact ⟨ds, F, μ, s, r, o, f, Q0, kq, h⟩
  · exact lend ⟨ds, F, μ, s, r, o, f, Q0, kq, h⟩
/-- what is put behind a list is frozen -/
def fAppendZ (i : Nat) (fe : List D → (W → List D → Prop) → Prop) (δ : List D) (Q : W → List D → Prop) : Prop :=
  (∃ ds, δ.getD i .hole = .own ds) ∧ fe δ fun w δ1 => ∃ ds, (tk (fzW w) δ1).2.getD i .hole = .own ds ∧ ds.length < sizeLine ∧ Q (.tmp (.fz .none)) ((tk (fzW w) δ1).2.set i (.own (ds ++ [(tk (fzW w) δ1).1])))
theorem dAppendZ (i : Nat) (he : DO Z E te fe) : DO Z E (tBM Z.K "list" rAppend (tVar i) (tCons te tNil)) (fAppendZ i fe) := by
  refine ⟨fun δ Q Q' k ⟨a, q⟩ => ⟨a, he.mo _ _ _ (fun w δ1 ⟨ds, b, c, q⟩ => ⟨ds, b, c, k _ _ q⟩) q⟩, fun ps δ σ H Q r ⟨⟨ds0, e0⟩, q⟩ => ?_⟩
  obtain ⟨F, μ, ν, w1, s1, r1, pn⟩ := id r
  obtain ⟨a, xs, ea, h1, hl⟩ := s1.own e0
  refine ⟨.ref a, ea, .inl ⟨rfl, xs, .inl (.inl h1)⟩, he.run ps δ σ H _ r (he.mo _ _ _ (fun w δ1 ⟨ds, b, c, q⟩ v H1 r2 => ?_) q)⟩
  have t := r2.frz1.take
  have o := Rel.slotOut t ea
  rw [b] at o
  obtain ⟨ys, e1, e2, g⟩ := o.swap.grow
  refine ⟨a, ys, v, rfl, rfl, e1, by rw [e2]; exact c, q _ _ (RelW.of ?_)⟩
  have z := g.slotIn ea
  rw [List.set_set] at z
  exact z.pushSc scN
/-- set(xs) of texts -/
def gSetL (ws : List W) (δ : List D) (Q : W → List D → Prop) : Prop := ∃ w xs, ws = [w] ∧ elL (vw w δ) = some (strsD xs) ∧ xs.length < scanBound ∧ Q (.tmp (.set (OwnS.once [] xs))) δ
theorem Rel.newSetOf {p : Addr} (xs : List Str) (h : Rel Z E ps δ σ H) (np : H p = none) : Rel Z E ((.ref p, .set xs) :: ps) δ σ (upd H p (OwnS.SO Z.w p xs)) := by
  obtain ⟨F, μ, ν, w1, s1, r1, pn⟩ := h
  have t1 : μ p = 0 := Classical.byContradiction fun n => s1.live p n np
  have t2 : ν p = 0 := Classical.byContradiction fun n => r1.live p n np
  refine ⟨F, μ, fun a => (if a = p then 1 else 0) + ν a, w1.alloc np (by show μ p + ν p = 0; omega) fun a => by show μ a + (_ + ν a) ≤ μ a + ν a + _; omega, s1.mono (fun _ _ e => e) (upd_keep t1), ?_, pn⟩
  refine RA.push ?_ (r1.mono (fun _ _ e => e) (upd_keep t2))
  rw [R]
  exact ⟨p, rfl, upd_same, fun _ => rfl⟩
theorem dSetL (ha : DA Z E tA fA) : DO Z E (tCB (fun vs H Q => ∃ (a : Addr) (xs : List Str), vs = [V.ref a] ∧ SqL Z.K H a (xs.map V.str) ∧ xs.length < scanBound ∧ ∀ p, H p = none → Q (.ref p) (upd H p (OwnS.SO Z.w p (OwnS.once [] xs)))) tA) (fCB fA gSetL) :=
  dCB (fun ws δ Q Q' k ⟨w, n, a, b, c, q⟩ => ⟨w, n, a, b, c, k _ _ q⟩) (fun ws vs ps δ σ H Q r ⟨w, xs, a, b, c, q⟩ => by
    subst a
    obtain ⟨v, rfl⟩ := r.one
    obtain ⟨_, hs, F, μ, ν, w1', s1, r1, pn⟩ := id r
    obtain ⟨μ1, q1, _⟩ := see_core (k := 0) hs s1 r1 rfl rfl
    obtain ⟨p, ys, e, h1, h2⟩ := q1.elL w1'.sub b
    obtain rfl := h2.strs
    exact ⟨p, xs, e ▸ rfl, .inl (.inl h1), c, fun u nu => q _ _ (RelW.of ((RelW.drop r).newSetOf _ nu))⟩) ha
/-- repr of a list of variables that stay as they are -/
def tVars : List Nat → TA
  | [] => tNil
  | i :: is => tCons (tVar i) (tVars is)
def fReprL (is : List Nat) (δ : List D) (Q : W → List D → Prop) : Prop := ∃ es, pyAll (is.map fun i => δ.getD i .hole) = some es ∧ is.length ≤ sizeLine ∧ (PyData.list es).showable = true ∧ (PyData.list es).depth ≤ 60 ∧ (PyData.list es).shown.length ≤ sizeLine ∧ Q (.tmp (.fz (.str (PyData.list es).shown))) δ
theorem vars_at (s : Same F H) {μ : Mu} (s1 : RS Z F H δ σ μ) : ∀ {is : List Nat} {es : List PyData}, pyAll (is.map fun i => δ.getD i .hole) = some es → ∃ vs, vs.length = is.length ∧ DqAll Z.K H vs es ∧ ∀ Q, Q vs H → tVars is σ H Q
  | [], es, e => by
    have e : some [] = some es := e
    cases e
    exact ⟨[], rfl, .nil, fun Q q => q⟩
  | i :: is, es, e => by
    rw [List.map_cons] at e
    obtain ⟨x, r, rfl, e1, e2⟩ := pyAll_cons e
    obtain ⟨v, μ1, ev, hv⟩ := s1.at_ (i := i) (fun z => by rw [z] at e1; cases e1)
    obtain ⟨vs, h1, h2, h3⟩ := vars_at s s1 e2
    exact ⟨v :: vs, by rw [List.length_cons, List.length_cons, h1], .cons (R.dp s hv (fun _ _ => rfl) e1) h2, fun Q q => ⟨v, ev, h3 _ q⟩⟩
theorem dReprL (is : List Nat) : DO Z E (tCB (rRep Z.K) (tCons (tLst (tVars is)) tNil)) (fReprL is) := by
  refine ⟨fun δ Q Q' k ⟨es, a, b, c, d, e, q⟩ => ⟨es, a, b, c, d, e, k _ _ q⟩, fun ps δ σ H Q r ⟨es, a, b, c, d, e, q⟩ => ?_⟩
  obtain ⟨F, μ, ν, w1, s1, r1, pn⟩ := id r
  obtain ⟨vs, h1, h2, h3⟩ := vars_at w1.sub s1 a
  refine h3 _ ⟨by rw [h1]; exact b, fun p np => ?_⟩
  have hp : Dp Z.K (upd H p (.lst vs)) (.ref p) (.list es) := (Dq.lst upd_same (dqaSame (fun a w e => by rw [upd_ne (fun z => by rw [z, np] at e; cases e)]; exact e) h2)).dp
  have key : ∀ vs : List V, RA Z F H (vs.map D.ptr) vs (fun _ => 0) := fun vs => by
    induction vs with
    | nil => exact RA.z
    | cons v vs ih => exact RA.push (μ1 := fun _ => 0) (by rw [R]; exact ⟨rfl, fun _ => rfl⟩) ih
  have rl : RelT Z E (vs.map D.ptr) vs ps δ σ H := ⟨F, μ, fun _ => 0, ν, w1.le fun a => by show μ a + 0 + ν a ≤ μ a + ν a; omega, s1, key vs, r1, pn⟩
  have r2 := RelW.of (rl.lst np)
  exact ⟨p, .list es, rfl, hp, c, d, e, q _ _ (r2.sc (scS _))⟩
/-- by one rule or the other -/
theorem dAlt {t : TE} {f g : List D → (W → List D → Prop) → Prop} (h1 : DO Z E t f) (h2 : DO Z E t g) : DO Z E t (fun δ Q => f δ Q ∨ g δ Q) :=
  ⟨fun δ Q Q' k q => q.elim (fun q => .inl (h1.mo _ _ _ k q)) (fun q => .inr (h2.mo _ _ _ k q)), fun ps δ σ H Q r q => q.elim (fun q => h1.run ps δ σ H Q r q) (fun q => h2.run ps δ σ H Q r q)⟩
end
/-! ### the places of all statements -/
mutual
def spS (w : List Int) : Stm → List (List Int × Stm)
  | .guard b hs l => (w, .guard b hs l) :: (spR (w ++ [0]) 0 b ++ (spR (w ++ [1]) 0 l ++ spHs w 2 hs))
  | s => [(w, s)]
def spR (w : List Int) (k : Int) : List Stm → List (List Int × Stm)
  | [] => []
  | s :: r => spS (w ++ [k]) s ++ spR w (k + 1) r
def spH (w : List Int) : Han → List (List Int × Stm)
  | .mk _ r => spR w 0 r
def spHs (w : List Int) (k : Int) : List Han → List (List Int × Stm)
  | [] => []
  | h :: hs => spH (w ++ [k]) h ++ spHs w (k + 1) hs
end
mutual
theorem spS_flat : ∀ (s : Stm) (w : List Int), (spS w s).map (·.2) = flatS s
  | .guard b hs l, w => by
    rw [spS, List.map_cons, List.map_append, List.map_append, spR_flat b, spR_flat l, spHs_flat hs, flatS]
  | .one x y, w => rfl
  | .again, w => rfl
  | .leave, w => rfl
theorem spR_flat : ∀ (r : List Stm) (w : List Int) (k : Int), (spR w k r).map (·.2) = flatR r
  | [], w, k => rfl
  | s :: r, w, k => by rw [spR, List.map_append, spS_flat s, spR_flat r, flatR]
theorem spH_flat : ∀ (h : Han) (w : List Int), (spH w h).map (·.2) = flatH h
  | .mk ns r, w => by rw [spH, spR_flat r, flatH]
theorem spHs_flat : ∀ (hs : List Han) (w : List Int) (k : Int), (spHs w k hs).map (·.2) = flatHs hs
  | [], w, k => rfl
  | h :: hs, w, k => by rw [spHs, List.map_append, spH_flat h, spHs_flat hs, flatHs]
end
theorem spR_len (r : List Stm) (w : List Int) (k : Int) : (spR w k r).length = cntR r := by
  rw [← flatR_len, ← spR_flat r w k, List.length_map]
theorem spS_len (s : Stm) (w : List Int) : (spS w s).length = cntS s := by
  rw [← flatS_len, ← spS_flat s w, List.length_map]
theorem spHs_len (hs : List Han) (w : List Int) (k : Int) : (spHs w k hs).length = cntHs hs := by
  rw [← flatHs_len, ← spHs_flat hs w k, List.length_map]
def pySp (p : List Int × Stm) : PyData := .tuple [.list (p.1.map .int), pyS p.2]
theorem spR_snoc : ∀ (r : List Stm) (w : List Int) (k : Int) (s : Stm), spR w k (r ++ [s]) = spR w k r ++ spS (w ++ [k + r.length]) s
  | [], w, k, s => by
    rw [List.nil_append, spR, spR, spR, List.append_nil, List.nil_append]
    rw [show k + (([] : List Stm).length : Nat) = k by simp]
  | x :: r, w, k, s => by
    rw [List.cons_append, spR, spR_snoc r, spR, List.append_assoc]
    rw [show k + 1 + (r.length : Nat) = k + ((x :: r).length : Nat) by rw [List.length_cons]; omega]
theorem spHs_snoc : ∀ (hs : List Han) (w : List Int) (k : Int) (h : Han), spHs w k (hs ++ [h]) = spHs w k hs ++ spH (w ++ [k + hs.length]) h
  | [], w, k, s => by
    rw [List.nil_append, spHs, spHs, spHs, List.append_nil, List.nil_append]
    rw [show k + (([] : List Han).length : Nat) = k by simp]
  | x :: r, w, k, s => by
    rw [List.cons_append, spHs, spHs_snoc r, spHs, List.append_assoc]
    rw [show k + 1 + (r.length : Nat) = k + ((x :: r).length : Nat) by rw [List.length_cons]; omega]
theorem zip_ix {α : Type} {xs : List α} {a b : List (α × Nat)} {p : α × Nat} (e : xs.zipIdx = a ++ p :: b) : p.2 = a.length ∧ a.map (·.1) ++ p.1 :: b.map (·.1) = xs := by
  have h1 : (xs.zipIdx)[a.length]? = some p := by rw [e]; simp
  rw [List.getElem?_zipIdx] at h1
  constructor
  · cases h : xs[a.length]? with
    | none => rw [h] at h1; cases h1
    | some y => rw [h] at h1; cases h1; simp
  · have := congrArg (List.map (·.1)) e
    rw [List.map_append, List.map_cons] at this
    rw [← this]
    have : ∀ (l : List α) (n : Nat), (l.zipIdx n).map (·.1) = l := fun l => by
      induction l with
      | nil => intro n; rfl
      | cons x l ih => intro n; rw [List.zipIdx_cons, List.map_cons, ih]
    exact this xs 0
theorem steps_len (r : List Stm) : (stepsR r).length ≤ cntR r := by
  rw [← flatR_len]
  unfold stepsR
  have key : ∀ l : List Stm, ((l.map stepNm).flatten).length ≤ l.length := by
    intro l
    induction l with
    | nil => exact Nat.le_refl _
    | cons x l ih =>
      rw [List.map_cons, List.flatten_cons, List.length_append, List.length_cons]
      have : (stepNm x).length ≤ 1 := by
        cases x with
        | one w y =>
          show (if w = "step" then [y] else []).length ≤ 1
          split <;> simp
        | _ => exact Nat.zero_le _
      omega
  exact key _
theorem once_set (L : List Str) : SetOf (OwnS.once [] L) L := ⟨OwnS.once_nodup L [] List.nodup_nil, fun x => by rw [OwnS.once_mem]; simp⟩
mutual
theorem flatD_S : ∀ s : Stm, flatD (ownS s) = true
  | .one w x => rfl
  | .again => rfl
  | .leave => rfl
  | .guard b hs l => by
    show (true && (flatDs (ownR b) && (flatDs (ownHs hs) && (flatDs (ownR l) && true)))) = true
    rw [flatD_R b, flatD_Hs hs, flatD_R l]; rfl
theorem flatD_R : ∀ r : List Stm, flatDs (ownR r) = true
  | [] => rfl
  | s :: r => by
    show (flatD (ownS s) && flatDs (ownR r)) = true
    rw [flatD_S s, flatD_R r]; rfl
theorem flatD_H : ∀ h : Han, flatD (ownH h) = true
  | .mk ns r => by
    show (flatD (ownN ns) && (flatDs (ownR r) && true)) = true
    have : flatD (ownN ns) = true := by
      cases ns with
      | none => rfl
      | some xs => exact flatD_strs xs
    rw [this, flatD_R r]; rfl
theorem flatD_Hs : ∀ r : List Han, flatDs (ownHs r) = true
  | [] => rfl
  | h :: r => by
    show (flatD (ownH h) && flatDs (ownHs r)) = true
    rw [flatD_H h, flatD_Hs r]; rfl
theorem flatD_strs : ∀ xs : List Str, flatDs (strsD xs) = true
  | [] => rfl
  | x :: xs => by
    show (true && flatDs (strsD xs)) = true
    rw [flatD_strs xs]; rfl
end
theorem flatD_O {o : Out} (h : isAsk o = false) : flatD (ownO o) = true := by
  cases o with
  | asks x g => cases h
  | ended => decide +kernel
  | left => decide +kernel
  | err c =>
    show (true && (flatDs (c.map fun t => D.fz (.tuple [.str t.1, .str t.2.1])) && true)) = true
    have : ∀ c : Ch, flatDs (c.map fun t => D.fz (.tuple [.str t.1, .str t.2.1])) = true := fun c => by
      induction c with
      | nil => rfl
      | cons t c ih => show (true && flatDs _) = true; rw [ih]; rfl
    rw [this]; rfl
theorem ownB_fz : ∀ es : List PyData, ownBs (es.map D.fz) = true
  | [] => rfl
  | e :: es => by show (true && ownBs (es.map D.fz)) = true; rw [ownB_fz es]; rfl
theorem ownB_stms (r : List Stm) : ownB (.own (stmsD r)) = true := by
  show ownBs (stmsD r) = true
  have := ownB_fz (r.map pyS)
  rw [List.map_map] at this
  exact this
theorem ownB_strs (xs : List Str) : ownB (.own (strsD xs)) = true := by
  show ownBs (strsD xs) = true
  have := ownB_fz (xs.map .str)
  rw [List.map_map] at this
  exact this
theorem stms_py (r : List Stm) : (D.own (stmsD r)).py = some (.list (pyR r)) := by
  rw [D.py, pyAll_stms, pyR_map]; rfl
theorem keep_self {d : D} (h : shr d = true) : keepAll [d] [d] := ⟨.inr ⟨h, rfl⟩, trivial⟩
theorem sz_flat {N : List Str} (hN : Nams N) {i : Bool} {r : List Stm} (hf : r.all OwnD.flatB = true) (hfi : fineR N i r = true) {n : Nat} (hl : r.length ≤ n) : Sz (.list (pyR r)) (19 * n) 2 := by
  have a : SzAll (pyR r) ((18 + 1) * (pyR r).length) 1 := SzAll.all fun d z => by
    rw [pyR_map] at z
    obtain ⟨s, hs, rfl⟩ := List.mem_map.mp z
    have h1 := fineR_mem hfi hs
    have h2 : OwnD.flatB s = true := List.all_eq_true.mp hf s hs
    have w : ∀ w : Str, nmB w = true → Sz (.tuple [.str w]) 18 1 := fun w hw => ((SzAll.cons (Sz.str (nm_of8 hw)) SzAll.nil).tup).mono (by decide) (by decide)
    cases s with
    | guard b hs l => cases h2
    | again => exact w _ (by decide +kernel)
    | leave => exact w _ (by decide +kernel)
    | one wd x =>
      rw [fineS] at h1
      simp only [Bool.and_eq_true, decide_eq_true_eq] at h1
      have hw : nmB wd = true := by
        rcases word_of h1.1.1 with rfl | rfl | rfl | rfl <;> decide +kernel
      exact ((SzAll.cons (Sz.str (nm_of8 hw)) (SzAll.cons (Sz.str (nm_of8 (hN.ok _ h1.1.2))) SzAll.nil)).tup).mono (by decide) (by decide)
  have e : (pyR r).length = r.length := by rw [pyR_map, List.length_map]
  rw [e] at a
  exact a.lst.mono (by omega) (by decide)
theorem thr_sz {a b c : PyData} {n m k : Nat} (ha : Sz a n 3) (hb : Sz b m 1) (hc : Sz c k 1) : Sz (.list [a, b, c]) (n + m + k + 3) 4 := ((SzAll.cons ha (SzAll.cons hb (SzAll.cons hc SzAll.nil))).lst).mono (by omega) (by decide)
theorem pyAll_thr {o : Out} (h : isAsk o = false) (xs ys : List Str) : pyAll [ownO o, .own (strsD xs), .own (strsD ys)] = some [pyTold o, .list (xs.map .str), .list (ys.map .str)] := by
  rw [pyAll, pyAll, pyAll, pyAll, py_ownO h, strs_py, strs_py]
theorem sp_step {r : List Stm} {x : Stm} {t : Nat} {dn rest : List (Stm × Nat)} (w : List Int) (e : r.zipIdx = dn ++ (x, t) :: rest) :
    spR w 0 ((dn ++ [(x, t)]).map (·.1)) = spR w 0 (dn.map (·.1)) ++ spS (w ++ [(t : Int)]) x ∧ (spR w 0 (dn.map (·.1))).length + cntS x ≤ cntR r := by
  obtain ⟨h1, h2⟩ := zip_ix e
  refine ⟨?_, ?_⟩
  · rw [List.map_append, List.map_singleton, spR_snoc, List.length_map, ← h1]
    show _ = _ ++ spS (w ++ [((t : Nat) : Int)]) x
    rw [Int.zero_add]
  · rw [spR_len, ← h2, cntR_app, cntR]
    show _ + cntS x ≤ _ + (cntS x + _)
    omega
theorem sph_step {hs : List Han} {x : Han} {t : Nat} {dn rest : List (Han × Nat)} (w : List Int) (e : hs.zipIdx = dn ++ (x, t) :: rest) :
    spHs w 2 ((dn ++ [(x, t)]).map (·.1)) = spHs w 2 (dn.map (·.1)) ++ spH (w ++ [(t : Int) + 2]) x ∧ (spHs w 2 (dn.map (·.1))).length + cntH x ≤ cntHs hs := by
  obtain ⟨h1, h2⟩ := zip_ix e
  have cntA : ∀ a b : List Han, cntHs (a ++ b) = cntHs a + cntHs b := fun a b => by
    induction a with
    | nil => simp [cntHs]
    | cons x a ih => rw [List.cons_append, cntHs, ih, cntHs]; omega
  refine ⟨?_, ?_⟩
  · rw [List.map_append, List.map_singleton, spHs_snoc, List.length_map, ← h1]
    show _ = _ ++ spH (w ++ [((t : Nat) : Int) + 2]) x
    rw [Int.add_comm]
  · rw [spHs_len, ← h2, cntA, cntHs]
    show _ + cntH x ≤ _ + (cntH x + _)
    omega
theorem pyAll_im (w : List Int) (ds : List D) : pyAll ((w.map fun x => D.fz (.int x)) ++ ds) = (pyAll ds).map (w.map PyData.int ++ ·) := by
  induction w with
  | nil => cases h : pyAll ds <;> simp [h]
  | cons x w ih =>
    rw [List.map_cons, List.cons_append, pyAll_fz, ih, Option.map_map]; rfl
theorem isRef_told (o : Out) : isRefD (.fz (pyTold o)) = true := by cases o <;> rfl
end OwnD
namespace Toy
open PySem L2 Own OwnD
def top (i : Nat) : Stmt := PySem.Challenge.pw_toldatlast_k02_rows_without_guards.main.body.getD i (.Pass ⟨0, 0, 0, 0⟩)
abbrev s_check_row : Stmt := top 15
theorem sc_check_row : FnScope ["row", "way", "handled", "at", "statement"] ["row", "way", "handled"] (defScope s_check_row) := ⟨rfl, rfl, rfl, by decide +kernel, rfl, by decide +kernel, by decide +kernel⟩
abbrev s_check_statement : Stmt := top 16
theorem sc_check_statement : FnScope ["statement", "place", "handled"] ["statement", "place", "handled"] (defScope s_check_statement) := ⟨rfl, rfl, rfl, by decide +kernel, rfl, by decide +kernel, by decide +kernel⟩
abbrev s_check_guard : Stmt := top 17
theorem sc_check_guard : FnScope ["guard", "place", "handled", "_", "body", "handlers", "last", "at", "names", "row"] ["guard", "place", "handled"] (defScope s_check_guard) := ⟨rfl, rfl, rfl, by decide +kernel, rfl, by decide +kernel, by decide +kernel⟩
abbrev s_check_names : Stmt := top 18
theorem sc_check_names : FnScope ["names", "name"] ["names"] (defScope s_check_names) := ⟨rfl, rfl, rfl, by decide +kernel, rfl, by decide +kernel, by decide +kernel⟩
abbrev s_is_statement : Stmt := top 19
theorem sc_is_statement : FnScope ["statement"] ["statement"] (defScope s_is_statement) := ⟨rfl, rfl, rfl, by decide +kernel, rfl, by decide +kernel, by decide +kernel⟩
abbrev s_is_name : Stmt := top 20
theorem sc_is_name : FnScope ["text", "letter"] ["text"] (defScope s_is_name) := ⟨rfl, rfl, rfl, by decide +kernel, rfl, by decide +kernel, by decide +kernel⟩
abbrev s_copied_row : Stmt := top 21
theorem sc_copied_row : FnScope ["row", "statement"] ["row"] (defScope s_copied_row) := ⟨rfl, rfl, rfl, by decide +kernel, rfl, by decide +kernel, by decide +kernel⟩
abbrev s_copied_statement : Stmt := top 22
theorem sc_copied_statement : FnScope ["statement", "_", "body", "handlers", "last", "handler"] ["statement"] (defScope s_copied_statement) := ⟨rfl, rfl, rfl, by decide +kernel, rfl, by decide +kernel, by decide +kernel⟩
abbrev s_copied_handler : Stmt := top 23
theorem sc_copied_handler : FnScope ["handler", "names", "row"] ["handler"] (defScope s_copied_handler) := ⟨rfl, rfl, rfl, by decide +kernel, rfl, by decide +kernel, by decide +kernel⟩
abbrev s_inner_rows : Stmt := top 24
theorem sc_inner_rows : FnScope ["statement", "_", "body", "handlers", "last", "handler"] ["statement"] (defScope s_inner_rows) := ⟨rfl, rfl, rfl, by decide +kernel, rfl, by decide +kernel, by decide +kernel⟩
abbrev s_all_statements : Stmt := top 25
theorem sc_all_statements : FnScope ["row", "found", "statement", "inner"] ["row"] (defScope s_all_statements) := ⟨rfl, rfl, rfl, by decide +kernel, rfl, by decide +kernel, by decide +kernel⟩
abbrev s_row_steps : Stmt := top 27
theorem sc_row_steps : FnScope ["row", "statement"] ["row"] (defScope s_row_steps) := ⟨rfl, rfl, rfl, by decide +kernel, rfl, by decide +kernel, by decide +kernel⟩
abbrev s_row_names : Stmt := top 28
theorem sc_row_names : FnScope ["row", "statement", "name"] ["row"] (defScope s_row_names) := ⟨rfl, rfl, rfl, by decide +kernel, rfl, by decide +kernel, by decide +kernel⟩
abbrev s_own_names : Stmt := top 29
theorem sc_own_names : FnScope ["statement", "names", "_", "name"] ["statement"] (defScope s_own_names) := ⟨rfl, rfl, rfl, by decide +kernel, rfl, by decide +kernel, by decide +kernel⟩
abbrev s_Run___init__ : Stmt := inClass (top 34) 0
theorem sc_Run___init__ : FnScope ["self", "row", "handled", "answers"] ["self", "row", "handled", "answers"] (defScope s_Run___init__) := ⟨rfl, rfl, rfl, by decide +kernel, rfl, by decide +kernel, by decide +kernel⟩
abbrev s_Run_run_row : Stmt := inClass (top 34) 2
theorem sc_Run_run_row : FnScope ["self", "row", "handled", "statement", "out"] ["self", "row", "handled"] (defScope s_Run_run_row) := ⟨rfl, rfl, rfl, by decide +kernel, rfl, by decide +kernel, by decide +kernel⟩
abbrev s_Run_run_statement : Stmt := inClass (top 34) 3
theorem sc_Run_run_statement : FnScope ["self", "statement", "handled", "word"] ["self", "statement", "handled"] (defScope s_Run_run_statement) := ⟨rfl, rfl, rfl, by decide +kernel, rfl, by decide +kernel, by decide +kernel⟩
abbrev s_Run_run_step : Stmt := inClass (top 34) 4
theorem sc_Run_run_step : FnScope ["self", "name", "handled"] ["self", "name", "handled"] (defScope s_Run_run_step) := ⟨rfl, rfl, rfl, by decide +kernel, rfl, by decide +kernel, by decide +kernel⟩
abbrev s_Run_run_guard : Stmt := inClass (top 34) 5
theorem sc_Run_run_guard : FnScope ["self", "guard", "handled", "_", "body", "handlers", "last", "out", "under_way", "behind"] ["self", "guard", "handled"] (defScope s_Run_run_guard) := ⟨rfl, rfl, rfl, by decide +kernel, rfl, by decide +kernel, by decide +kernel⟩
abbrev s_Run_run_handlers : Stmt := inClass (top 34) 6
theorem sc_Run_run_handlers : FnScope ["self", "handlers", "out", "handled", "chain", "names", "row", "behind"] ["self", "handlers", "out", "handled"] (defScope s_Run_run_handlers) := ⟨rfl, rfl, rfl, by decide +kernel, rfl, by decide +kernel, by decide +kernel⟩
abbrev s_Run_get_over : Stmt := inClass (top 34) 7
theorem sc_Run_get_over : FnScope ["self", "chain", "handled", "still", "number"] ["self", "chain", "handled"] (defScope s_Run_get_over) := ⟨rfl, rfl, rfl, by decide +kernel, rfl, by decide +kernel, by decide +kernel⟩
abbrev s_numbers_of : Stmt := top 35
theorem sc_numbers_of : FnScope ["chain", "word", "name", "number"] ["chain"] (defScope s_numbers_of) := ⟨rfl, rfl, rfl, by decide +kernel, rfl, by decide +kernel, by decide +kernel⟩
abbrev s_chain_of : Stmt := top 36
theorem sc_chain_of : FnScope ["word", "name", "number", "handled", "beginning", "link"] ["word", "name", "number", "handled"] (defScope s_chain_of) := ⟨rfl, rfl, rfl, by decide +kernel, rfl, by decide +kernel, by decide +kernel⟩
abbrev s_told_anew : Stmt := top 37
theorem sc_told_anew : FnScope ["out"] ["out"] (defScope s_told_anew) := ⟨rfl, rfl, rfl, by decide +kernel, rfl, by decide +kernel, by decide +kernel⟩
abbrev s_chain_anew : Stmt := top 38
theorem sc_chain_anew : FnScope ["chain", "word", "name", "number"] ["chain"] (defScope s_chain_anew) := ⟨rfl, rfl, rfl, by decide +kernel, rfl, by decide +kernel, by decide +kernel⟩
abbrev s_run_of_lot : Stmt := top 39
theorem sc_run_of_lot : FnScope ["row", "steps", "lot", "step"] ["row", "steps", "lot"] (defScope s_run_of_lot) := ⟨rfl, rfl, rfl, by decide +kernel, rfl, by decide +kernel, by decide +kernel⟩
abbrev s_Program___init__ : Stmt := inClass (top 41) 0
theorem sc_Program___init__ : FnScope ["self", "row"] ["self", "row"] (defScope s_Program___init__) := ⟨rfl, rfl, rfl, by decide +kernel, rfl, by decide +kernel, by decide +kernel⟩
abbrev s_Program_row : Stmt := inClass (top 41) 1
theorem sc_Program_row : FnScope ["self"] ["self"] (defScope s_Program_row) := ⟨rfl, rfl, rfl, by decide +kernel, rfl, by decide +kernel, by decide +kernel⟩
abbrev s_Program_steps : Stmt := inClass (top 41) 2
theorem sc_Program_steps : FnScope ["self"] ["self"] (defScope s_Program_steps) := ⟨rfl, rfl, rfl, by decide +kernel, rfl, by decide +kernel, by decide +kernel⟩
abbrev s_Program_tells : Stmt := inClass (top 41) 4
theorem sc_Program_tells : FnScope ["self", "lot"] ["self", "lot"] (defScope s_Program_tells) := ⟨rfl, rfl, rfl, by decide +kernel, rfl, by decide +kernel, by decide +kernel⟩
abbrev s_Program_run : Stmt := inClass (top 41) 5
theorem sc_Program_run : FnScope ["self", "lot"] ["self", "lot"] (defScope s_Program_run) := ⟨rfl, rfl, rfl, by decide +kernel, rfl, by decide +kernel, by decide +kernel⟩
abbrev s_Program__run_with : Stmt := inClass (top 41) 10
theorem sc_Program__run_with : FnScope ["self", "lot", "name"] ["self", "lot"] (defScope s_Program__run_with) := ⟨rfl, rfl, rfl, by decide +kernel, rfl, by decide +kernel, by decide +kernel⟩
abbrev s__law_well : Stmt := top 43
theorem sc__law_well : FnScope ["script", "spot", "cell"] ["script", "spot"] (defScope s__law_well) := ⟨rfl, rfl, rfl, by decide +kernel, rfl, by decide +kernel, by decide +kernel⟩
abbrev s__law_draw : Stmt := top 44
theorem sc__law_draw : FnScope ["well", "many", "digit", "stirred"] ["well", "many"] (defScope s__law_draw) := ⟨rfl, rfl, rfl, by decide +kernel, rfl, by decide +kernel, by decide +kernel⟩
abbrev s__law_titles : Stmt := top 45
theorem sc__law_titles : FnScope ["well", "many", "letters", "way", "words", "stem", "turn", "start", "rank", "size", "at", "found", "title"] ["well", "many"] (defScope s__law_titles) := ⟨rfl, rfl, rfl, by decide +kernel, rfl, by decide +kernel, by decide +kernel⟩
abbrev s__law_spots : Stmt := top 46
theorem sc__law_spots : FnScope ["lines", "ahead", "found", "at", "one", "part", "handler"] ["lines", "ahead"] (defScope s__law_spots) := ⟨rfl, rfl, rfl, by decide +kernel, rfl, by decide +kernel, by decide +kernel⟩
abbrev s__law_steps_of : Stmt := top 47
theorem sc__law_steps_of : FnScope ["lines", "spot", "one"] ["lines"] (defScope s__law_steps_of) := ⟨rfl, rfl, rfl, by decide +kernel, rfl, by decide +kernel, by decide +kernel⟩
abbrev s__law_some : Stmt := top 48
theorem sc__law_some : FnScope ["well", "titles", "some", "title", "at"] ["well", "titles"] (defScope s__law_some) := ⟨rfl, rfl, rfl, by decide +kernel, rfl, by decide +kernel, by decide +kernel⟩
abbrev s__law_plain_row : Stmt := top 49
theorem sc__law_plain_row : FnScope ["well", "titles", "size", "found", "turn", "way", "title"] ["well", "titles", "size"] (defScope s__law_plain_row) := ⟨rfl, rfl, rfl, by decide +kernel, rfl, by decide +kernel, by decide +kernel⟩
abbrev s__law_plain_owed : Stmt := top 50
theorem sc__law_plain_owed : FnScope ["lines", "some", "trail", "one"] ["lines", "some"] (defScope s__law_plain_owed) := ⟨rfl, rfl, rfl, by decide +kernel, rfl, by decide +kernel, by decide +kernel⟩
abbrev s__law_right : Stmt := top 51
theorem sc__law_right : FnScope ["well", "great", "titles", "lines", "handed", "made", "given", "turn", "some", "title", "owed", "told_now", "run_now", "chain"] ["well"] (defScope s__law_right) := ⟨rfl, rfl, rfl, by decide +kernel, rfl, by decide +kernel, by decide +kernel⟩
abbrev s_law : Stmt := top 52
theorem sc_law : FnScope ["script", "spot", "well", "turn"] ["script"] (defScope s_law) := ⟨rfl, rfl, rfl, by decide +kernel, rfl, by decide +kernel, by decide +kernel⟩
structure Txt (w : World) (K : PySem.W.Frag) (mg : Str → Option Value) where
  C_Run : Addr
  cl_Run : Cls K C_Run
  m_Run : mg "Run" = some (.ref C_Run)
  na_Run_answers : NoAttr K C_Run "answers"
  na_Run_ran : NoAttr K C_Run "ran"
  na_Run_over : NoAttr K C_Run "over"
  na_Run_out : NoAttr K C_Run "out"
  C_Program : Addr
  cl_Program : Cls K C_Program
  m_Program : mg "Program" = some (.ref C_Program)
  na_Program__row : NoAttr K C_Program "_row"
  na_Program__steps : NoAttr K C_Program "_steps"
  na_Program__names : NoAttr K C_Program "_names"
  f_check_row : Addr
  d_check_row : FuncData
  F_check_row : Fun K "check_row" "check_row" s_check_row f_check_row d_check_row
  b_check_row : Binds K d_check_row ["row", "way", "handled"] []
  m_check_row : mg "check_row" = some (.ref f_check_row)
  f_check_statement : Addr
  d_check_statement : FuncData
  F_check_statement : Fun K "check_statement" "check_statement" s_check_statement f_check_statement d_check_statement
  b_check_statement : Binds K d_check_statement ["statement", "place", "handled"] []
  m_check_statement : mg "check_statement" = some (.ref f_check_statement)
  f_check_guard : Addr
  d_check_guard : FuncData
  F_check_guard : Fun K "check_guard" "check_guard" s_check_guard f_check_guard d_check_guard
  b_check_guard : Binds K d_check_guard ["guard", "place", "handled"] []
  m_check_guard : mg "check_guard" = some (.ref f_check_guard)
  f_check_names : Addr
  d_check_names : FuncData
  F_check_names : Fun K "check_names" "check_names" s_check_names f_check_names d_check_names
  b_check_names : Binds K d_check_names ["names"] []
  m_check_names : mg "check_names" = some (.ref f_check_names)
  f_is_statement : Addr
  d_is_statement : FuncData
  F_is_statement : Fun K "is_statement" "is_statement" s_is_statement f_is_statement d_is_statement
  b_is_statement : Binds K d_is_statement ["statement"] []
  m_is_statement : mg "is_statement" = some (.ref f_is_statement)
  f_is_name : Addr
  d_is_name : FuncData
  F_is_name : Fun K "is_name" "is_name" s_is_name f_is_name d_is_name
  b_is_name : Binds K d_is_name ["text"] []
  m_is_name : mg "is_name" = some (.ref f_is_name)
  f_copied_row : Addr
  d_copied_row : FuncData
  F_copied_row : Fun K "copied_row" "copied_row" s_copied_row f_copied_row d_copied_row
  b_copied_row : Binds K d_copied_row ["row"] []
  m_copied_row : mg "copied_row" = some (.ref f_copied_row)
  f_copied_statement : Addr
  d_copied_statement : FuncData
  F_copied_statement : Fun K "copied_statement" "copied_statement" s_copied_statement f_copied_statement d_copied_statement
  b_copied_statement : Binds K d_copied_statement ["statement"] []
  m_copied_statement : mg "copied_statement" = some (.ref f_copied_statement)
  f_copied_handler : Addr
  d_copied_handler : FuncData
  F_copied_handler : Fun K "copied_handler" "copied_handler" s_copied_handler f_copied_handler d_copied_handler
  b_copied_handler : Binds K d_copied_handler ["handler"] []
  m_copied_handler : mg "copied_handler" = some (.ref f_copied_handler)
  f_inner_rows : Addr
  d_inner_rows : FuncData
  F_inner_rows : Fun K "inner_rows" "inner_rows" s_inner_rows f_inner_rows d_inner_rows
  b_inner_rows : Binds K d_inner_rows ["statement"] []
  m_inner_rows : mg "inner_rows" = some (.ref f_inner_rows)
  f_all_statements : Addr
  d_all_statements : FuncData
  F_all_statements : Fun K "all_statements" "all_statements" s_all_statements f_all_statements d_all_statements
  b_all_statements : Binds K d_all_statements ["row"] []
  m_all_statements : mg "all_statements" = some (.ref f_all_statements)
  f_row_steps : Addr
  d_row_steps : FuncData
  F_row_steps : Fun K "row_steps" "row_steps" s_row_steps f_row_steps d_row_steps
  b_row_steps : Binds K d_row_steps ["row"] []
  m_row_steps : mg "row_steps" = some (.ref f_row_steps)
  f_row_names : Addr
  d_row_names : FuncData
  F_row_names : Fun K "row_names" "row_names" s_row_names f_row_names d_row_names
  b_row_names : Binds K d_row_names ["row"] []
  m_row_names : mg "row_names" = some (.ref f_row_names)
  f_own_names : Addr
  d_own_names : FuncData
  F_own_names : Fun K "own_names" "own_names" s_own_names f_own_names d_own_names
  b_own_names : Binds K d_own_names ["statement"] []
  m_own_names : mg "own_names" = some (.ref f_own_names)
  f_Run___init__ : Addr
  d_Run___init__ : FuncData
  F_Run___init__ : Fun K "__init__" "Run.__init__" s_Run___init__ f_Run___init__ d_Run___init__
  b_Run___init__ : Binds K d_Run___init__ ["self", "row", "handled", "answers"] []
  M_Run : Mk K C_Run f_Run___init__
  f_Run_run_row : Addr
  d_Run_run_row : FuncData
  F_Run_run_row : Fun K "run_row" "Run.run_row" s_Run_run_row f_Run_run_row d_Run_run_row
  b_Run_run_row : Binds K d_Run_run_row ["self", "row", "handled"] []
  mt_Run_run_row : Meth K C_Run "run_row" f_Run_run_row
  f_Run_run_statement : Addr
  d_Run_run_statement : FuncData
  F_Run_run_statement : Fun K "run_statement" "Run.run_statement" s_Run_run_statement f_Run_run_statement d_Run_run_statement
  b_Run_run_statement : Binds K d_Run_run_statement ["self", "statement", "handled"] []
  mt_Run_run_statement : Meth K C_Run "run_statement" f_Run_run_statement
  f_Run_run_step : Addr
  d_Run_run_step : FuncData
  F_Run_run_step : Fun K "run_step" "Run.run_step" s_Run_run_step f_Run_run_step d_Run_run_step
  b_Run_run_step : Binds K d_Run_run_step ["self", "name", "handled"] []
  mt_Run_run_step : Meth K C_Run "run_step" f_Run_run_step
  f_Run_run_guard : Addr
  d_Run_run_guard : FuncData
  F_Run_run_guard : Fun K "run_guard" "Run.run_guard" s_Run_run_guard f_Run_run_guard d_Run_run_guard
  b_Run_run_guard : Binds K d_Run_run_guard ["self", "guard", "handled"] []
  mt_Run_run_guard : Meth K C_Run "run_guard" f_Run_run_guard
  f_Run_run_handlers : Addr
  d_Run_run_handlers : FuncData
  F_Run_run_handlers : Fun K "run_handlers" "Run.run_handlers" s_Run_run_handlers f_Run_run_handlers d_Run_run_handlers
  b_Run_run_handlers : Binds K d_Run_run_handlers ["self", "handlers", "out", "handled"] []
  mt_Run_run_handlers : Meth K C_Run "run_handlers" f_Run_run_handlers
  f_Run_get_over : Addr
  d_Run_get_over : FuncData
  F_Run_get_over : Fun K "get_over" "Run.get_over" s_Run_get_over f_Run_get_over d_Run_get_over
  b_Run_get_over : Binds K d_Run_get_over ["self", "chain", "handled"] []
  mt_Run_get_over : Meth K C_Run "get_over" f_Run_get_over
  f_numbers_of : Addr
  d_numbers_of : FuncData
  F_numbers_of : Fun K "numbers_of" "numbers_of" s_numbers_of f_numbers_of d_numbers_of
  b_numbers_of : Binds K d_numbers_of ["chain"] []
  m_numbers_of : mg "numbers_of" = some (.ref f_numbers_of)
  f_chain_of : Addr
  d_chain_of : FuncData
  F_chain_of : Fun K "chain_of" "chain_of" s_chain_of f_chain_of d_chain_of
  b_chain_of : Binds K d_chain_of ["word", "name", "number", "handled"] []
  m_chain_of : mg "chain_of" = some (.ref f_chain_of)
  f_told_anew : Addr
  d_told_anew : FuncData
  F_told_anew : Fun K "told_anew" "told_anew" s_told_anew f_told_anew d_told_anew
  b_told_anew : Binds K d_told_anew ["out"] []
  m_told_anew : mg "told_anew" = some (.ref f_told_anew)
  f_chain_anew : Addr
  d_chain_anew : FuncData
  F_chain_anew : Fun K "chain_anew" "chain_anew" s_chain_anew f_chain_anew d_chain_anew
  b_chain_anew : Binds K d_chain_anew ["chain"] []
  m_chain_anew : mg "chain_anew" = some (.ref f_chain_anew)
  f_run_of_lot : Addr
  d_run_of_lot : FuncData
  F_run_of_lot : Fun K "run_of_lot" "run_of_lot" s_run_of_lot f_run_of_lot d_run_of_lot
  b_run_of_lot : Binds K d_run_of_lot ["row", "steps", "lot"] []
  m_run_of_lot : mg "run_of_lot" = some (.ref f_run_of_lot)
  f_Program___init__ : Addr
  d_Program___init__ : FuncData
  F_Program___init__ : Fun K "__init__" "Program.__init__" s_Program___init__ f_Program___init__ d_Program___init__
  b_Program___init__ : Binds K d_Program___init__ ["self", "row"] []
  M_Program : Mk K C_Program f_Program___init__
  f_Program_row : Addr
  d_Program_row : FuncData
  F_Program_row : Fun K "row" "Program.row" s_Program_row f_Program_row d_Program_row
  b_Program_row : Binds K d_Program_row ["self"] []
  p_Program_row : Addr
  pr_Program_row : PropOf K C_Program "row" p_Program_row f_Program_row
  f_Program_steps : Addr
  d_Program_steps : FuncData
  F_Program_steps : Fun K "steps" "Program.steps" s_Program_steps f_Program_steps d_Program_steps
  b_Program_steps : Binds K d_Program_steps ["self"] []
  p_Program_steps : Addr
  pr_Program_steps : PropOf K C_Program "steps" p_Program_steps f_Program_steps
  f_Program_tells : Addr
  d_Program_tells : FuncData
  F_Program_tells : Fun K "tells" "Program.tells" s_Program_tells f_Program_tells d_Program_tells
  b_Program_tells : Binds K d_Program_tells ["self", "lot"] []
  mt_Program_tells : Meth K C_Program "tells" f_Program_tells
  f_Program_run : Addr
  d_Program_run : FuncData
  F_Program_run : Fun K "run" "Program.run" s_Program_run f_Program_run d_Program_run
  b_Program_run : Binds K d_Program_run ["self", "lot"] []
  mt_Program_run : Meth K C_Program "run" f_Program_run
  f_Program__run_with : Addr
  d_Program__run_with : FuncData
  F_Program__run_with : Fun K "_run_with" "Program._run_with" s_Program__run_with f_Program__run_with d_Program__run_with
  b_Program__run_with : Binds K d_Program__run_with ["self", "lot"] []
  mt_Program__run_with : Meth K C_Program "_run_with" f_Program__run_with
  f__law_well : Addr
  d__law_well : FuncData
  F__law_well : Fun K "_law_well" "_law_well" s__law_well f__law_well d__law_well
  b__law_well : Binds K d__law_well ["script", "spot"] []
  m__law_well : mg "_law_well" = some (.ref f__law_well)
  f__law_draw : Addr
  d__law_draw : FuncData
  F__law_draw : Fun K "_law_draw" "_law_draw" s__law_draw f__law_draw d__law_draw
  b__law_draw : Binds K d__law_draw ["well", "many"] []
  m__law_draw : mg "_law_draw" = some (.ref f__law_draw)
  f__law_titles : Addr
  d__law_titles : FuncData
  F__law_titles : Fun K "_law_titles" "_law_titles" s__law_titles f__law_titles d__law_titles
  b__law_titles : Binds K d__law_titles ["well", "many"] []
  m__law_titles : mg "_law_titles" = some (.ref f__law_titles)
  f__law_spots : Addr
  d__law_spots : FuncData
  F__law_spots : Fun K "_law_spots" "_law_spots" s__law_spots f__law_spots d__law_spots
  b__law_spots : Binds K d__law_spots ["lines", "ahead"] []
  m__law_spots : mg "_law_spots" = some (.ref f__law_spots)
  f__law_steps_of : Addr
  d__law_steps_of : FuncData
  F__law_steps_of : Fun K "_law_steps_of" "_law_steps_of" s__law_steps_of f__law_steps_of d__law_steps_of
  b__law_steps_of : Binds K d__law_steps_of ["lines"] []
  m__law_steps_of : mg "_law_steps_of" = some (.ref f__law_steps_of)
  f__law_some : Addr
  d__law_some : FuncData
  F__law_some : Fun K "_law_some" "_law_some" s__law_some f__law_some d__law_some
  b__law_some : Binds K d__law_some ["well", "titles"] []
  m__law_some : mg "_law_some" = some (.ref f__law_some)
  f__law_plain_row : Addr
  d__law_plain_row : FuncData
  F__law_plain_row : Fun K "_law_plain_row" "_law_plain_row" s__law_plain_row f__law_plain_row d__law_plain_row
  b__law_plain_row : Binds K d__law_plain_row ["well", "titles", "size"] []
  m__law_plain_row : mg "_law_plain_row" = some (.ref f__law_plain_row)
  f__law_plain_owed : Addr
  d__law_plain_owed : FuncData
  F__law_plain_owed : Fun K "_law_plain_owed" "_law_plain_owed" s__law_plain_owed f__law_plain_owed d__law_plain_owed
  b__law_plain_owed : Binds K d__law_plain_owed ["lines", "some"] []
  m__law_plain_owed : mg "_law_plain_owed" = some (.ref f__law_plain_owed)
  f__law_right : Addr
  d__law_right : FuncData
  F__law_right : Fun K "_law_right" "_law_right" s__law_right f__law_right d__law_right
  b__law_right : Binds K d__law_right ["well"] []
  m__law_right : mg "_law_right" = some (.ref f__law_right)
  f_law : Addr
  d_law : FuncData
  F_law : Fun K "law" "law" s_law f_law d_law
  b_law : Binds K d_law ["script"] []
  m_law : mg "law" = some (.ref f_law)
  k_Program_tells_lot : KBn K d_Program_tells ["self", "lot"] 1 ["lot"] (fun us ws => us ++ ws) (fun us ws => us ++ ws)
  k_Program_run_lot : KBn K d_Program_run ["self", "lot"] 1 ["lot"] (fun us ws => us ++ ws) (fun us ws => us ++ ws)
  k_Program___init___row : KBn K d_Program___init__ ["self", "row"] 1 ["row"] (fun us ws => us ++ ws) (fun us ws => us ++ ws)
  u_BODY : Value
  g_BODY : mg "BODY" = some u_BODY
  r_BODY : RelV (V.int (0)) u_BODY
  a_ENDED : Addr
  g_ENDED : mg "ENDED" = some (.ref a_ENDED)
  r_ENDED : RelV (V.ref a_ENDED) (.ref a_ENDED)
  q_ENDED : ∀ H, SqT K H a_ENDED [V.str "ended"]
  u_FIRST_HANDLER : Value
  g_FIRST_HANDLER : mg "FIRST_HANDLER" = some u_FIRST_HANDLER
  r_FIRST_HANDLER : RelV (V.int (2)) u_FIRST_HANDLER
  u_LAST : Value
  g_LAST : mg "LAST" = some u_LAST
  r_LAST : RelV (V.int (1)) u_LAST
  a_LEFT : Addr
  g_LEFT : mg "LEFT" = some (.ref a_LEFT)
  r_LEFT : RelV (V.ref a_LEFT) (.ref a_LEFT)
  q_LEFT : ∀ H, SqT K H a_LEFT [V.str "left"]
  u_LETTERS : Value
  g_LETTERS : mg "LETTERS" = some u_LETTERS
  r_LETTERS : RelV (V.str "abcdefghijklmnopqrstuvwxyz") u_LETTERS
  u_LONGEST_NAME : Value
  g_LONGEST_NAME : mg "LONGEST_NAME" = some u_LONGEST_NAME
  r_LONGEST_NAME : RelV (V.int (8)) u_LONGEST_NAME
  u_NO_STEP : Value
  g_NO_STEP : mg "NO_STEP" = some u_NO_STEP
  r_NO_STEP : RelV (V.int (-1)) u_NO_STEP
  a_SIZES : Addr
  g_SIZES : mg "SIZES" = some (.ref a_SIZES)
  r_SIZES : RelV (V.ref a_SIZES) (.ref a_SIZES)
  es_SIZES : Array DictEntry
  n_SIZES : Nat
  D_SIZES : KDict K w a_SIZES es_SIZES n_SIZES
  e_SIZES_step : ∃ u, PySem.W.nsIn K a_SIZES "step" = some (some u) ∧ RelV (V.int 2) u
  e_SIZES_raise : ∃ u, PySem.W.nsIn K a_SIZES "raise" = some (some u) ∧ RelV (V.int 2) u
  e_SIZES_from : ∃ u, PySem.W.nsIn K a_SIZES "from" = some (some u) ∧ RelV (V.int 2) u
  e_SIZES_hide : ∃ u, PySem.W.nsIn K a_SIZES "hide" = some (some u) ∧ RelV (V.int 2) u
  e_SIZES_again : ∃ u, PySem.W.nsIn K a_SIZES "again" = some (some u) ∧ RelV (V.int 1) u
  e_SIZES_leave : ∃ u, PySem.W.nsIn K a_SIZES "leave" = some (some u) ∧ RelV (V.int 1) u
  e_SIZES_guard : ∃ u, PySem.W.nsIn K a_SIZES "guard" = some (some u) ∧ RelV (V.int 4) u
  z_abs : mg "abs" = none
  z_all : mg "all" = none
  z_bool : mg "bool" = none
  z_enumerate : mg "enumerate" = none
  z_int : mg "int" = none
  z_len : mg "len" = none
  z_list : mg "list" = none
  z_max : mg "max" = none
  z_min : mg "min" = none
  z_range : mg "range" = none
  z_repr : mg "repr" = none
  z_set : mg "set" = none
  z_sorted : mg "sorted" = none
abbrev cv_BODY {w : World} {K : PySem.W.Frag} {mg : Str → Option Value} (T : Txt w K mg) : V := V.int (0)
abbrev cv_ENDED {w : World} {K : PySem.W.Frag} {mg : Str → Option Value} (T : Txt w K mg) : V := V.ref T.a_ENDED
abbrev cv_FIRST_HANDLER {w : World} {K : PySem.W.Frag} {mg : Str → Option Value} (T : Txt w K mg) : V := V.int (2)
abbrev cv_LAST {w : World} {K : PySem.W.Frag} {mg : Str → Option Value} (T : Txt w K mg) : V := V.int (1)
abbrev cv_LEFT {w : World} {K : PySem.W.Frag} {mg : Str → Option Value} (T : Txt w K mg) : V := V.ref T.a_LEFT
abbrev cv_LETTERS {w : World} {K : PySem.W.Frag} {mg : Str → Option Value} (T : Txt w K mg) : V := V.str "abcdefghijklmnopqrstuvwxyz"
abbrev cv_LONGEST_NAME {w : World} {K : PySem.W.Frag} {mg : Str → Option Value} (T : Txt w K mg) : V := V.int (8)
abbrev cv_NO_STEP {w : World} {K : PySem.W.Frag} {mg : Str → Option Value} (T : Txt w K mg) : V := V.int (-1)
abbrev cv_SIZES {w : World} {K : PySem.W.Frag} {mg : Str → Option Value} (T : Txt w K mg) : V := V.ref T.a_SIZES
def Zt {w : World} {K : PySem.W.Frag} {mg : Str → Option Value} (T : Txt w K mg) : Zx := ⟨w, K, fun n => match n with | 0 => T.C_Run | 1 => T.C_Program | _ => 0⟩
end Toy
namespace Toy
open PySem L2 Own
section
variable {P : Program} {w : World} {K : PySem.W.Frag} {mg : Str → Option Value} {base : Heap}

open OwnD
local macro_rules | `(tactic| walk_at "ev") => `(tactic| (simp only [f1, gRevL, ev_unl_fz, pyAll_o, pyAll_t, Option.bind_some, ev_mk_own3, cut_0, cut_11, atI_4, List.reverse_cons, List.reverse_nil, fVar_eq, fV_fz, fV_dct, fV_ob, fV_own, fV_tup, fV_pur, fV_obj, f2, f3, fI, fCB, fCall, fTst, fTruth, fNeg, fParF, fFld, fProp, fMeth, fMake, fSetF, fAppF, fExtF, fLenF, fAppend, fExtend, fClear, fReverse, fgSub, gKGet, gDIn, gDGet, gBoolT, fzD_fz, frB, backs, bkD, startD, endD, elL_fz, elL_own, elT_fz, elT_tup, elS_fl, elS_ft, fzD_own, fzD_tup, fzD_odc, fzD_dct, fzD_pur, fzD_ob, pyAll_nil, pyAll_fz, pyAll_map, pyAll_strs, pyAll_stms, fVarZ, Int.reduceLT, Int.reduceSub, Int.reduceEq, Int.reduceAdd, gSlL, cut_map, pyAll_sn, pyAll_ap, gAddS, gSlS, fV_obP, shr_obP, fzD_obP, fldP_row, fldP_steps, fldP_names, insP_tells, insP_run, insP_row, insP_steps, insP_names, insP__run_with, insP_at, insP_without, insP_e, obP_of, Nat.reduceLT, or_false, false_or, or_true, true_or, pyO_err, pyO_ended, pyO_left, pyO_asks, wn_step_raise, wn_step_from, wn_step_hide, wn_step_again, wn_step_leave, wn_step_guard, wn_step_ended, wn_step_left, wn_step_error, wn_step_asks, wn_raise_step, wn_raise_from, wn_raise_hide, wn_raise_again, wn_raise_leave, wn_raise_guard, wn_raise_ended, wn_raise_left, wn_raise_error, wn_raise_asks, wn_from_step, wn_from_raise, wn_from_hide, wn_from_again, wn_from_leave, wn_from_guard, wn_from_ended, wn_from_left, wn_from_error, wn_from_asks, wn_hide_step, wn_hide_raise, wn_hide_from, wn_hide_again, wn_hide_leave, wn_hide_guard, wn_hide_ended, wn_hide_left, wn_hide_error, wn_hide_asks, wn_again_step, wn_again_raise, wn_again_from, wn_again_hide, wn_again_leave, wn_again_guard, wn_again_ended, wn_again_left, wn_again_error, wn_again_asks, wn_leave_step, wn_leave_raise, wn_leave_from, wn_leave_hide, wn_leave_again, wn_leave_guard, wn_leave_ended, wn_leave_left, wn_leave_error, wn_leave_asks, wn_guard_step, wn_guard_raise, wn_guard_from, wn_guard_hide, wn_guard_again, wn_guard_leave, wn_guard_ended, wn_guard_left, wn_guard_error, wn_guard_asks, wn_ended_step, wn_ended_raise, wn_ended_from, wn_ended_hide, wn_ended_again, wn_ended_leave, wn_ended_guard, wn_ended_left, wn_ended_error, wn_ended_asks, wn_left_step, wn_left_raise, wn_left_from, wn_left_hide, wn_left_again, wn_left_leave, wn_left_guard, wn_left_ended, wn_left_error, wn_left_asks, wn_error_step, wn_error_raise, wn_error_from, wn_error_hide, wn_error_again, wn_error_leave, wn_error_guard, wn_error_ended, wn_error_left, wn_error_asks, wn_asks_step, wn_asks_raise, wn_asks_from, wn_asks_hide, wn_asks_again, wn_asks_leave, wn_asks_guard, wn_asks_ended, wn_asks_left, wn_asks_error, elT_pyC, elT_pyT, isNonC, pyAll_ints, elL_ints, ints_len, flA_ints, flA_mapI, flD_int, flA_int, inV_ints, fV_objR, py_fz, shr_objR, insR_run_row, insR_run_statement, insR_run_step, insR_run_guard, insR_run_handlers, insR_get_over, ev_vw_t, ev_vw_s, ev_tk_t, ev_tk_s, ev_tks_n, ev_tks_c, ev_fw_t, ev_fw_s, ev_shr_fz, ev_shr_dct, ev_shr_ob, ev_shr_own, ev_shr_tup, ev_shr_pur, ev_shr_obj, ev_shr_set, ev_shr_odc, ev_in_str, ev_in_int, ev_in_bool, ev_in_list, ev_in_tuple, ev_in_none, ev_in_own, ev_in_tup, ev_in_pur, ev_in_dct, ev_in_odc, ev_in_set, ev_tr_none, ev_tr_bool, ev_tr_int, ev_tr_list, ev_tr_tuple, ev_tr_own, ev_tr_tup, ev_tr_dct, ev_len_l, ev_len_t, ev_len_o, ev_len_u, ev_fld_obj, ev_fld_ob, ev_ins_obj, ev_ins_ob, ev_tup_fz, ev_tup_tup, ev_gc_cons, ev_gc_nil, ev_mk1, ev_mk2, ev_mk3, ev_mk4, ev_mk_own0, ev_mk_tup0, ev_mk_own1, ev_mk_own2, ev_mk_tup1, ev_mk_tup2, strs_snoc, Option.isSome_some, Option.isSome_none, Option.map_none, fbanswers_ran, fbanswers_ran', fbanswers_over, fbanswers_over', fbanswers_out, fbanswers_out', fbanswers_row, fbanswers_row', fbanswers_steps, fbanswers_steps', fbanswers_names, fbanswers_names', fbran_answers, fbran_answers', fbran_over, fbran_over', fbran_out, fbran_out', fbran_row, fbran_row', fbran_steps, fbran_steps', fbran_names, fbran_names', fbover_answers, fbover_answers', fbover_ran, fbover_ran', fbover_out, fbover_out', fbover_row, fbover_row', fbover_steps, fbover_steps', fbover_names, fbover_names', fbout_answers, fbout_answers', fbout_ran, fbout_ran', fbout_over, fbout_over', fbout_row, fbout_row', fbout_steps, fbout_steps', fbout_names, fbout_names', fbrow_answers, fbrow_answers', fbrow_ran, fbrow_ran', fbrow_over, fbrow_over', fbrow_out, fbrow_out', fbrow_steps, fbrow_steps', fbrow_names, fbrow_names', fbsteps_answers, fbsteps_answers', fbsteps_ran, fbsteps_ran', fbsteps_over, fbsteps_over', fbsteps_out, fbsteps_out', fbsteps_row, fbsteps_row', fbsteps_names, fbsteps_names', fbnames_answers, fbnames_answers', fbnames_ran, fbnames_ran', fbnames_over, fbnames_over', fbnames_out, fbnames_out', fbnames_row, fbnames_row', fbnames_steps, fbnames_steps', gCatT_fz, ne_eq, not_false_eq_true, flD_str, flA_nil, flA_str, flA_map, flA_strs, inV_nil, inV_str, inV_strs, fzD_set, D.set.injEq, gSortedT, sl1g, sl1_1, sl1_2, sl1_3, sl1_4, cut1, pyAll_mapfz, pyAll_snoc, Option.map_some, fz_map, shr_map, gEqS, gEqI, gEqD, gIxT, gIxL, gIxS, gLen, gLenS, gInt, gListOf, gIs, gIn, gCat, gSlT, gSlL, OwnD.gAll, gInS, putO, rpl, wipeD, List.getD_cons_zero, List.getD_cons_succ, List.set_cons_zero, List.set_cons_succ, List.length_cons, List.length_nil, List.replicate, List.map_cons, List.map_nil, List.cons_append, List.nil_append, List.all_cons, List.all_nil, List.zip_cons_cons, List.zip_nil_left, List.lookup_cons, List.lookup_nil, List.isEmpty_cons, List.isEmpty_nil, List.length_map, stms_len, strs_len, D.fz.injEq, D.own.injEq, D.dct.injEq, D.obj.injEq, PyData.str.injEq, PyData.int.injEq, PyData.list.injEq, PyData.tuple.injEq, PyData.bool.injEq, Option.some.injEq, List.cons.injEq, exists_eq_left', exists_eq_left, exists_eq_right', exists_eq_right, and_true, true_and, Bool.and_true, Bool.true_and, reduceCtorEq, decide_true, decide_false, decide_eq_true_eq, Bool.not_true, Bool.not_false, Bool.false_eq_true, Bool.false_and, Bool.and_false, Bool.true_or, Bool.false_or, Bool.or_false, Bool.or_eq_true, Bool.or_true, Bool.or_false, beq_self_eq_true, ite_true, ite_false, ite_self, exists_const, exists_eq, exists_eq', atI_0, atI_1, atI_2, atI_3, szl0, szl1, szl2, szl3, szl4, exists_and_left, and_assoc, if_true, if_false, Nat.reduceAdd, Nat.reduceSub, Nat.sub_self]))
/-! ### copies -/
def gCopyR (n : Nat) : GD := fun ds Q => ∃ r N i, ds = [.fz (.list (pyR r))] ∧ Row n N i r ∧ Q (.own (ownR r)) [.fz (.list (pyR r))]
def gCopyS (n : Nat) : GD := fun ds Q => ∃ s N i, ds = [.fz (pyS s)] ∧ StmOk n N i s ∧ Q (ownS s) [.fz (pyS s)]
def gCopyH (n : Nat) : GD := fun ds Q => ∃ h N, ds = [.fz (pyH h)] ∧ HanOk n N h ∧ Q (ownH h) [.fz (pyH h)]
theorem st_row (T : Txt w K mg) {n k : Nat} (G_copied_statement : FnOk P w K mg base CX0 k T.f_copied_statement T.d_copied_statement ["statement"] (spD (Zt T) (gCopyS n))) :
    FnOk P w K mg base CX0 (k + 1) T.f_copied_row T.d_copied_row ["row"] (spD (Zt T) (gCopyR n)) := by
  refine defO [true] T.F_copied_row sc_copied_row rfl (fun ds Q h => by obtain ⟨r, N, i, rfl, _⟩ := h; rfl) (fun cdv A outer s H E hr => ?_)
  have hR := hr
  refine ⟨_, _, (pss_one (ps_ret (pe_lc (own := [("statement", 1)]) (g := gName 1) rfl sc_copied_row.nd (pi_list (pv 0)) (blkOk_by (own := [("statement", 1)]) (N := ["row", "statement"]) (sc := defScope s_copied_row) (by decide +kernel)) (fun _ _ _ _ _ => pg_name (i := 1) sc_copied_row.nd rfl (Or.inl rfl)) (fun _ _ _ _ _ => pts_nil) (fun _ _ _ _ _ => (pe_call G_copied_statement (hR.mono (by omega)) rfl T.m_copied_statement T.F_copied_statement.kp T.b_copied_statement .nil pass0 (pa_cons (pv 1) pa_nil)))))), (fun En hp => (dLast (dRet (dLc (pinAll hp (by decide)) (dIList (dV 0)) (dgNameF (hp 1 rfl) (sw (by decide))) dYes (dCall (dCons (dV 1) dNil)))))), ?_⟩
  rintro ds Q ⟨r, N, i, rfl, hr, q⟩
  walk_at "ev"
  rw [fzR]
  refine compD_map (α := Stm) _ ownS _ r [] _ (by have := hr.len; simp; omega) rfl (fun x rs acc δ hx ha hw k => ?_) (by rw [← ownR_map]; exact q)
  rw [compD_cons, hw]
  walk_at "ev"
  exact gC.of ⟨x, N, i, rfl, hr.mem hx, rfl, ha, k _ rfl⟩
theorem st_han (T : Txt w K mg) {n k : Nat} (G_copied_row : FnOk P w K mg base CX0 k T.f_copied_row T.d_copied_row ["row"] (spD (Zt T) (gCopyR n))) :
    FnOk P w K mg base CX0 (k + 1) T.f_copied_handler T.d_copied_handler ["handler"] (spD (Zt T) (gCopyH n)) := by
  refine defO [true] T.F_copied_handler sc_copied_handler rfl (fun ds Q h => by obtain ⟨r, N, rfl, _⟩ := h; rfl) (fun cdv A outer s H E hr => ?_)
  have hR := hr
  refine ⟨_, _, (pss_cons (ps_asg (pv 0) (pg_tup (by rfl) (pgs_cons (pg_name (i := 1) sc_copied_handler.nd rfl (by first | exact Or.inl rfl | exact Or.inr rfl)) (pgs_cons (pg_name (i := 2) sc_copied_handler.nd rfl (by first | exact Or.inl rfl | exact Or.inr rfl)) pgs_nil))))
      (pss_cons (ps_if (pt_cmpR op_isN (pv 1) pe_non (nomark _))
      (pss_one (ps_ret (pe_tup (pa_cons pe_non (pa_cons (pe_call G_copied_row (hR.mono (by omega)) rfl T.m_copied_row T.F_copied_row.kp T.b_copied_row .nil pass0 (pa_cons (pv 2) pa_nil)) pa_nil)))))
      pss_nil)
      (pss_one (ps_ret (pe_tup (pa_cons (pe_callTy call_list_of (by rfl) T.z_list (by decide +kernel) (pa_cons (pv 1) pa_nil)) (pa_cons (pe_call G_copied_row (hR.mono (by omega)) rfl T.m_copied_row T.F_copied_row.kp T.b_copied_row .nil pass0 (pa_cons (pv 2) pa_nil)) pa_nil))))))), (fun En hp => (dSeq (dAsg (dV 0) (dgTup (n := 2) (dgCons (dgNameF (S := sAny) (hp 1 rfl) sOk) (dgCons (dgNameF (S := sAny) (hp 2 rfl) sOk) dgNil))))
      (dSeq (dIf (dTest (dIsN (dV 1) dNon))
      (dLast (dRet (dTup (dCons dNon (dCons (dCall (dCons (dV 2) dNil)) dNil)))))
      dNext)
      (dLast (dRet (dTup (dCons (dListOf (dCons (dV 1) dNil)) (dCons (dCall (dCons (dV 2) dNil)) dNil)))))))), ?_⟩
  rintro ds Q ⟨⟨ns, r⟩, N, rfl, hd, q⟩
  have hh := hd.row
  rw [pyH] at q ⊢
  cases ns with
  | none =>
    rw [pyN] at q ⊢
    walk_at "ev"
    exact gC.of ⟨r, N, true, rfl, hh.1, rfl, q⟩
  | some xs =>
    rw [pyN] at q ⊢
    walk_at "ev"
    exact gC.of ⟨r, N, true, rfl, hh.1, rfl, q⟩
theorem st_stm (T : Txt w K mg) {n k : Nat} {gr gh : GD} (er : 0 < n → gr = gCopyR (n - 1)) (eh : 0 < n → gh = gCopyH (n - 1)) (G_copied_row : FnOk P w K mg base CX0 k T.f_copied_row T.d_copied_row ["row"] (spD (Zt T) gr)) (G_copied_handler : FnOk P w K mg base CX0 k T.f_copied_handler T.d_copied_handler ["handler"] (spD (Zt T) gh)) :
    FnOk P w K mg base CX0 (k + 1) T.f_copied_statement T.d_copied_statement ["statement"] (spD (Zt T) (gCopyS n)) := by
  refine defO [true] T.F_copied_statement sc_copied_statement rfl (fun ds Q h => by obtain ⟨r, N, i, rfl, _⟩ := h; rfl) (fun cdv A outer s H E hr => ?_)
  have hR := hr
  refine ⟨_, _, (pss_cons (ps_if (pt_cmpR op_ne (pe_ix (r := rIxT K) ix_tup (pv 0) pe_int (fun _ _ => rfl)) pe_str (nomark _))
      (pss_one (ps_ret (pv 0)))
      pss_nil)
      (pss_cons (ps_asg (pv 0) (pg_tup (by rfl) (pgs_cons (pg_name (i := 1) sc_copied_statement.nd rfl (by first | exact Or.inl rfl | exact Or.inr rfl)) (pgs_cons (pg_name (i := 2) sc_copied_statement.nd rfl (by first | exact Or.inl rfl | exact Or.inr rfl)) (pgs_cons (pg_name (i := 3) sc_copied_statement.nd rfl (by first | exact Or.inl rfl | exact Or.inr rfl)) (pgs_cons (pg_name (i := 4) sc_copied_statement.nd rfl (by first | exact Or.inl rfl | exact Or.inr rfl)) pgs_nil))))))
      (pss_one (ps_ret (pe_tup (pa_cons pe_str (pa_cons (pe_call G_copied_row (hR.mono (by omega)) rfl T.m_copied_row T.F_copied_row.kp T.b_copied_row .nil pass0 (pa_cons (pv 2) pa_nil)) (pa_cons (pe_lc (own := [("handler", 5)]) (g := gName 5) rfl sc_copied_statement.nd (pi_list (pv 3)) (blkOk_by (own := [("handler", 5)]) (N := ["statement", "_", "body", "handlers", "last", "handler"]) (sc := defScope s_copied_statement) (by decide +kernel)) (fun _ _ _ _ _ => pg_name (i := 5) sc_copied_statement.nd rfl (Or.inl rfl)) (fun _ _ _ _ _ => pts_nil) (fun _ _ _ _ _ => (pe_call G_copied_handler (hR.mono (by omega)) rfl T.m_copied_handler T.F_copied_handler.kp T.b_copied_handler .nil pass0 (pa_cons (pv 5) pa_nil)))) (pa_cons (pe_call G_copied_row (hR.mono (by omega)) rfl T.m_copied_row T.F_copied_row.kp T.b_copied_row .nil pass0 (pa_cons (pv 4) pa_nil)) pa_nil))))))))), (fun En hp => (dSeq (dIf (dTest (dNeS (dIxT (dV 0) (dInt _)) (dStr _)))
      (dLast (dRet (dV 0)))
      dNext)
      (dSeq (dAsg (dV 0) (dgTup (n := 4) (dgCons (dgNameF (S := sAny) (hp 1 rfl) sOk) (dgCons (dgNameF (S := sAny) (hp 2 rfl) sOk) (dgCons (dgNameF (S := sAny) (hp 3 rfl) sOk) (dgCons (dgNameF (S := sAny) (hp 4 rfl) sOk) dgNil))))))
      (dLast (dRet (dTup (dCons (dStr _) (dCons (dCall (dCons (dV 2) dNil)) (dCons (dLc (pinAll hp (by decide)) (dIList (dV 3)) (dgNameF (hp 5 rfl) (sw (by decide))) dYes (dCall (dCons (dV 5) dNil))) (dCons (dCall (dCons (dV 4) dNil)) dNil)))))))))), ?_⟩
  rintro ds Q ⟨st, N, i, rfl, hf, q⟩
  rcases stm_split hf with ⟨b, hs, l, rfl⟩ | ⟨eo, wd, es, e, ng⟩
  · obtain ⟨m, rfl⟩ := hf.pos
    obtain rfl := er (Nat.succ_pos m)
    obtain rfl := eh (Nat.succ_pos m)
    obtain ⟨hb, hl, hh, hn⟩ := hf.guard
    rw [pyS] at q ⊢
    walk_at "ev"
    refine gC.of ⟨b, N, i, rfl, hb, rfl, ?_⟩
    walk_at "ev"
    rw [fzHs]
    refine compD_map (α := Han) _ ownH _ hs [] _ (by simp; omega) rfl (fun x rs acc δ hx ha hw k => ?_) ?_
    · rw [compD_cons, hw]
      walk_at "ev"
      exact gC.of ⟨x, N, rfl, hh x hx, rfl, ha, k _ rfl⟩
    · skip
      walk_at "ev"
      refine gC.of ⟨l, N, i, rfl, hl, rfl, ?_⟩
      walk_at "ev"
      rw [← ownHs_map]
      exact q
  · rw [eo, e] at q
    rw [e]
    walk_at "ev"
    rw [decide_eq_false ng]
    exact q
theorem ok_copies (T : Txt w K mg) : ∀ n, FnOk P w K mg base CX0 (3 * n + 2) T.f_copied_row T.d_copied_row ["row"] (spD (Zt T) (gCopyR n)) ∧ FnOk P w K mg base CX0 (3 * n + 3) T.f_copied_handler T.d_copied_handler ["handler"] (spD (Zt T) (gCopyH n)) ∧
    FnOk P w K mg base CX0 (3 * n + 1) T.f_copied_statement T.d_copied_statement ["statement"] (spD (Zt T) (gCopyS n))
  | 0 => by
    have s := st_stm (base := base) (P := P) T (n := 0) (k := 0) (gr := gNone) (gh := gNone) (fun h => absurd h (by decide)) (fun h => absurd h (by decide)) none_ok none_ok
    have r := st_row T s
    exact ⟨r, st_han T r, s⟩
  | n + 1 => by
    obtain ⟨r0, h0, _⟩ := ok_copies T n
    have s := st_stm (base := base) (P := P) T (n := n + 1) (k := 3 * n + 3) (gr := gCopyR n) (gh := gCopyH n) (fun _ => rfl) (fun _ => rfl) (r0.mono (by omega)) h0
    have r := st_row T s
    exact ⟨r, st_han T r, s⟩
/-! ### the rows of a guard, all statements -/
def gInner : GD := fun ds Q => ∃ s n N i, ds = [.fz (pyS s)] ∧ StmOk n N i s ∧ Q (.own ((rowsS s).map fun r => .fz (.list (pyR r)))) [.fz (pyS s)]
theorem ok_inner (T : Txt w K mg) : FnOk P w K mg base CX0 1 T.f_inner_rows T.d_inner_rows ["statement"] (spD (Zt T) gInner) := by
  refine defO [true] T.F_inner_rows sc_inner_rows rfl (fun ds Q h => by obtain ⟨r, n, N, i, rfl, _⟩ := h; rfl) (fun cdv A outer s H E hr => ?_)
  have hR := hr
  refine ⟨_, _, (pss_cons (ps_if (pt_cmpR op_ne (pe_ix (r := rIxT K) ix_tup (pv 0) pe_int (fun _ _ => rfl)) pe_str (nomark _))
      (pss_one (ps_ret (pe_lst pa_nil)))
      pss_nil)
      (pss_cons (ps_asg (pv 0) (pg_tup (by rfl) (pgs_cons (pg_name (i := 1) sc_inner_rows.nd rfl (by first | exact Or.inl rfl | exact Or.inr rfl)) (pgs_cons (pg_name (i := 2) sc_inner_rows.nd rfl (by first | exact Or.inl rfl | exact Or.inr rfl)) (pgs_cons (pg_name (i := 3) sc_inner_rows.nd rfl (by first | exact Or.inl rfl | exact Or.inr rfl)) (pgs_cons (pg_name (i := 4) sc_inner_rows.nd rfl (by first | exact Or.inl rfl | exact Or.inr rfl)) pgs_nil))))))
      (pss_one (ps_ret (pe_op op_cat (pe_lst (pa_cons (pv 2) (pa_cons (pv 4) pa_nil))) (pe_lc (own := [("handler", 5)]) (g := gName 5) rfl sc_inner_rows.nd (pi_list (pv 3)) (blkOk_by (own := [("handler", 5)]) (N := ["statement", "_", "body", "handlers", "last", "handler"]) (sc := defScope s_inner_rows) (by decide +kernel)) (fun _ _ _ _ _ => pg_name (i := 5) sc_inner_rows.nd rfl (Or.inl rfl)) (fun _ _ _ _ _ => pts_nil) (fun _ _ _ _ _ => (pe_ix (r := rIxT K) ix_tup (pv 5) pe_int (fun _ _ => rfl))))))))), (fun En hp => (dSeq (dIf (dTest (dNeS (dIxT (dV 0) (dInt _)) (dStr _)))
      (dLast (dRet (dLst dNil)))
      dNext)
      (dSeq (dAsg (dV 0) (dgTup (n := 4) (dgCons (dgNameF (S := sAny) (hp 1 rfl) sOk) (dgCons (dgNameF (S := sAny) (hp 2 rfl) sOk) (dgCons (dgNameF (S := sAny) (hp 3 rfl) sOk) (dgCons (dgNameF (S := sAny) (hp 4 rfl) sOk) dgNil))))))
      (dLast (dRet (dCat (dLst (dCons (dV 2) (dCons (dV 4) dNil))) (dLc (pinAll hp (by decide)) (dIList (dV 3)) (dgNameF (hp 5 rfl) (sw (by decide))) dYes (dIxT (dV 5) (dInt _))))))))), ?_⟩
  rintro ds Q ⟨st, n, N, i, rfl, hf, q⟩
  rcases stm_split hf with ⟨b, hs, l, rfl⟩ | ⟨eo, wd, es, e, ng⟩
  · obtain ⟨m, rfl⟩ := hf.pos
    obtain ⟨hb, hl, hh, hn⟩ := hf.guard
    rw [rowsS] at q
    rw [pyS] at q ⊢
    walk_at "ev"
    rw [fzHs]
    refine compD_map (α := Han) _ (fun x => .fz (.list (pyR (rowOf x)))) _ hs [] _ (by simp; omega) rfl (fun x rs acc δ hx ha hw k => ?_) ?_
    · rw [compD_cons, hw]
      obtain ⟨ns, r⟩ := x
      rw [pyH]
      walk_at "ev"
      exact ⟨ha, k _ rfl⟩
    · skip
      walk_at "ev"
      refine ⟨sz4 (by omega), ?_⟩
      rw [List.map_cons, List.map_cons, List.map_map] at q
      exact q
  · have er : rowsS st = [] := by
      cases st with
      | guard b hs l => cases eo
      | _ => rfl
    rw [er, e] at q
    rw [e]
    walk_at "ev"
    rw [decide_eq_false ng]
    exact q
def gAll (n : Nat) : GD := fun ds Q => ∃ r N i, ds = [.fz (.list (pyR r))] ∧ Row n N i r ∧ Q (.own (stmsD (flatR r))) [.fz (.list (pyR r))]
theorem st_all (T : Txt w K mg) {n k : Nat} {ga : GD} (hk : 1 ≤ k) (ea : 0 < n → ga = gAll (n - 1)) (G_all_statements : FnOk P w K mg base CX0 k T.f_all_statements T.d_all_statements ["row"] (spD (Zt T) ga)) :
    FnOk P w K mg base CX0 (k + 1) T.f_all_statements T.d_all_statements ["row"] (spD (Zt T) (gAll n)) := by
  refine defO [true] T.F_all_statements sc_all_statements rfl (fun ds Q h => by obtain ⟨r, N, i, rfl, _⟩ := h; rfl) (fun cdv A outer s H E hr => ?_)
  have hR := hr
  have G_inner_rows := ok_inner (P := P) (base := base) T
  refine ⟨_, _, (pss_cons (ps_set (i := 1) sc_all_statements.nd rfl (by first | exact Or.inl rfl | exact Or.inr rfl) (pe_lst pa_nil))
      (pss_cons (ps_for PassesOwn.never rfl (pi_list (pv 0)) (pg_name (i := 2) sc_all_statements.nd rfl (by first | exact Or.inl rfl | exact Or.inr rfl))
      (pss_cons (ps_expr (pe_bm PySem.F.plainAttrs_list PySem.F.slot_list_append PySem.F.type_list_append mt_append (pv 1) (pa_cons (pv 2) pa_nil)))
      (pss_one (ps_for PassesOwn.never rfl (pi_list (pe_call G_inner_rows (hR.mono (by omega)) rfl T.m_inner_rows T.F_inner_rows.kp T.b_inner_rows .nil pass0 (pa_cons (pv 2) pa_nil))) (pg_name (i := 3) sc_all_statements.nd rfl (by first | exact Or.inl rfl | exact Or.inr rfl))
      (pss_one (ps_expr (pe_bm PySem.F.plainAttrs_list PySem.F.slot_list_extend PySem.F.type_list_extend mt_extend (pv 1) (pa_cons (pe_call G_all_statements (hR.mono (by omega)) rfl T.m_all_statements T.F_all_statements.kp T.b_all_statements .nil pass0 (pa_cons (pv 3) pa_nil)) pa_nil))))))))
      (pss_one (ps_ret (pv 1))))), (fun En hp => (dSeq (dAsg (dLst dNil) (dgName (S := sAny) (hp 1 rfl) sOk))
      (dSeq (dFor (dIList (dV 0)) (dgNameF (S := sAny) (hp 2 rfl) sOk)
      (dSeq (dDrop (dAppend 1 (dV 2)))
      (dLast (dFor (dIList (dCall (dCons (dV 2) dNil))) (dgNameF (S := sAny) (hp 3 rfl) sOk)
      (dLast (dDrop (dExtend 1 (dCall (dCons (dV 3) dNil)))))))))
      (dLast (dRet (dV 1)))))), ?_⟩
  rintro ds Q ⟨r, N, i, rfl, hf, q⟩
  walk_at "ev"
  rw [fzR]
  refine loopD_acc (fun s => D.fz (pyS s)) (fun done δ => ∃ a b, δ = [.fz (.list (pyR r)), .own (stmsD (flatR done)), a, b]) r _ ⟨_, _, rfl⟩ ?_ ?_
  · rintro x done rest δ er ⟨a, b, rfl⟩ k
    have hx : StmOk n N i x := hf.mem (by rw [er]; simp)
    have hle := hf.flat_le er
    rw [loopD_cons]
    walk_at "ev"
    refine ⟨small1000 (by omega), gC.of ⟨x, n, N, i, rfl, hx, rfl, ?_⟩⟩
    walk_at "ev"
    cases n with
    | zero =>
      have e0 := rowsS_zero hx
      rw [e0]
      walk_at "ev"
      rw [loopD_nil]
      refine k _ ⟨.fz (pyS x), b, ?_⟩
      rw [flatR_snoc, flatS_eq, e0, ← stms_app]; rfl
    | succ m =>
      obtain rfl := ea (Nat.succ_pos m)
      refine loopD_acc (fun rr => D.fz (.list (pyR rr))) (fun dn δ => ∃ a b, δ = [.fz (.list (pyR r)), .own (stmsD (flatR done ++ x :: (dn.map flatR).flatten)), a, b]) (rowsS x) _ ⟨.fz (pyS x), b, by unfold stmsD; rw [List.map_append]; rfl⟩ ?_ ?_
      · rintro y dn rst δ e2 ⟨a, b, rfl⟩ k2
        obtain ⟨j, hy⟩ := hx.rows y (by rw [e2]; simp)
        rw [loopD_cons]
        walk_at "ev"
        refine gC.of ⟨y, N, j, rfl, hy, rfl, ?_⟩
        walk_at "ev"
        have hl2 : (flatR done ++ x :: (dn.map flatR).flatten).length + (flatR y).length ≤ 60 := by
          have e3 : flatS x = x :: (((dn.map flatR).flatten ++ flatR y) ++ (rst.map flatR).flatten) := by
            rw [flatS_eq, e2, List.map_append, List.flatten_append, List.map_cons, List.flatten_cons, List.append_assoc]
          rw [e3] at hle
          simp only [List.length_append, List.length_cons] at hle ⊢
          omega
        have e4 : stmsD (flatR done ++ x :: (dn.map flatR).flatten) ++ (flatR y).map (fun s => D.fz (pyS s)) = stmsD (flatR done ++ x :: ((dn ++ [y]).map flatR).flatten) := by
          rw [show (flatR y).map (fun s => D.fz (pyS s)) = stmsD (flatR y) from rfl, stms_app, List.map_append, List.flatten_append, List.append_assoc, List.cons_append]
          simp
        rw [e4]
        exact ⟨sz4 (by omega), k2 _ ⟨_, _, rfl⟩⟩
      · rintro δ ⟨a, b, rfl⟩
        exact k _ ⟨_, _, by rw [flatR_snoc, flatS_eq]⟩
  · rintro δ ⟨a, b, rfl⟩
    walk_at "ev"
    exact q
theorem ok_all (T : Txt w K mg) : ∀ n, FnOk P w K mg base CX0 (n + 2) T.f_all_statements T.d_all_statements ["row"] (spD (Zt T) (gAll n))
  | 0 => st_all T (k := 1) (ga := gNone) (Nat.le_refl _) (fun h => absurd h (by decide)) none_ok
  | n + 1 => st_all T (k := n + 2) (ga := gAll n) (by omega) (fun _ => rfl) (ok_all T n)
/-! ### names -/
def gOwnNm : GD := fun ds Q => ∃ s n N i, ds = [.fz (pyS s)] ∧ StmOk n N i s ∧ Q (.own (strsD (ownNm s))) [.fz (pyS s)]
theorem ok_own (T : Txt w K mg) : FnOk P w K mg base CX0 1 T.f_own_names T.d_own_names ["statement"] (spD (Zt T) gOwnNm) := by
  refine defO [true] T.F_own_names sc_own_names rfl (fun ds Q h => by obtain ⟨r, n, N, i, rfl, _⟩ := h; rfl) (fun cdv A outer s H E hr => ?_)
  have hR := hr
  refine ⟨_, _, (pss_cons (ps_if (pt_cmpR op_ne (pe_ix (r := rIxT K) ix_tup (pv 0) pe_int (fun _ _ => rfl)) pe_str (nomark _))
      (pss_one (ps_ret (pe_callTy call_list_of (by rfl) T.z_list (by decide +kernel) (pa_cons (pe_slice sl_tup (pv 0) (po_some pe_int) po_none) pa_nil))))
      pss_nil)
      (pss_one (ps_ret (pe_lc2 (own := [("names", 1), ("_", 2), ("name", 3)]) (vs1 := [3]) (g := (gTup K 2 (gCons (gName 1) (gCons (gName 2) gNil)))) (g1 := (gName 3)) rfl sc_own_names.nd (pi_list (pe_ix (r := rIxT K) ix_tup (pv 0) pe_int (fun _ _ => rfl))) (blkOk_by (own := [("names", 1), ("_", 2), ("name", 3)]) (N := ["statement", "names", "_", "name"]) (sc := defScope s_own_names) (by decide +kernel)) (by decide) (by exact (fun _ _ _ _ _ => (pg_tup (by rfl) (pgs_cons (pg_name (i := 1) sc_own_names.nd rfl (by first | exact Or.inl rfl | exact Or.inr rfl)) (pgs_cons (pg_name (i := 2) sc_own_names.nd rfl (by first | exact Or.inl rfl | exact Or.inr rfl)) pgs_nil))))) (by exact (fun _ _ _ _ _ => (pts_one (pt_cmpR op_notN (pv 1) pe_non (nomark _))))) (hi1 := by exact (fun _ _ _ _ _ => (pi_list (pv 1)))) (hg1 := by exact (fun _ _ _ _ _ => pg_name (i := 3) sc_own_names.nd rfl (Or.inl rfl))) (ht1 := by exact (fun _ _ _ _ _ => pts_nil)) (he := by exact (fun _ _ _ _ _ => (pv 3))))))), (fun En hp => (dSeq (dIf (dTest (dNeS (dIxT (dV 0) (dInt _)) (dStr _)))
      (dLast (dRet (dListOf (dCons (dSlT (dV 0) (dPart (dInt _)) dNoPart) dNil))))
      dNext)
      (dLast (dRet (dLc2 (pinAll hp (by decide)) (pinAll hp (by decide)) (by decide) (dIList (dIxT (dV 0) (dInt _))) (dgTup (n := 2) (dgCons (dgNameF (hp 1 rfl) (sw (by decide))) (dgCons (dgNameF (hp 2 rfl) (sw (by decide))) dgNil))) (dTest (dNotN (dV 1) dNon)) (dIList (dV 1)) (dgNameF (hp 3 rfl) (sw (by decide))) dYes (dV 3)))))), ?_⟩
  rintro ds Q ⟨st, n, N, i, rfl, hf, q⟩
  cases st with
  | guard b hs l =>
    obtain ⟨m, rfl⟩ := hf.pos
    obtain ⟨hb, hl, hh, hn⟩ := hf.guard
    rw [pyS] at q ⊢
    walk_at "ev"
    rw [fzHs]
    refine fS2_acc (fun h => D.fz (pyH h)) (fun dn a δ => ∃ x y z, δ = [.fz (.tuple [.str "guard", .list (pyR b), .list (pyHs hs), .list (pyR l)]), x, y, z] ∧ a = strsD ((dn.map hanNm).flatten)) hs _ _ ⟨_, _, _, rfl, rfl⟩ ?_ ?_
    · rintro x dn rest a δ e ⟨x1, x2, x3, rfl, rfl⟩ k
      rw [fS2_cons]
      obtain ⟨ns, r⟩ := x
      rw [pyH]
      have hle := hans_len (dn ++ [Han.mk ns r]) (n := m) (N := N) fun y hy => hh y (e ▸ mem_mid hy)
      have hl2 : (dn ++ [Han.mk ns r]).length ≤ 60 := by rw [e] at hn; simp only [List.length_append, List.length_cons, List.length_nil] at hn ⊢; omega
      cases ns with
      | none =>
        rw [pyN]
        walk_at "ev"
        exact k _ _ ⟨_, _, _, rfl, by simp [hanNm, nmsO]⟩
      | some xs =>
        rw [pyN]
        walk_at "ev"
        refine turnD_acc (fun x => D.fz (.str x)) (fun d2 a δ => ∃ x, δ = [.fz (.tuple [.str "guard", .list (pyR b), .list (pyHs hs), .list (pyR l)]), .fz (.list (xs.map .str)), .fz (.list (pyR r)), x] ∧ a = strsD ((dn.map hanNm).flatten ++ d2)) xs _ _ ⟨_, rfl, by rw [List.append_nil]⟩ ?_ ?_
        · rintro y d2 r2 a δ e2 ⟨x4, rfl, rfl⟩ k2
          rw [turnD_cons]
          walk_at "ev"
          have hl3 : ((dn.map hanNm).flatten ++ d2).length < 100000 := by
            have : ((dn ++ [Han.mk (some xs) r]).map hanNm).flatten = (dn.map hanNm).flatten ++ xs := by simp [hanNm, nmsO]
            rw [this, e2] at hle
            simp only [List.length_append, List.length_cons] at hle hl2 ⊢
            omega
          unfold putL
          rw [if_pos (by rw [strs_len]; exact szN hl3)]
          refine ⟨_, rfl, k2 _ _ ⟨_, rfl, ?_⟩⟩
          rw [strs_snoc, List.append_assoc]
        · rintro a δ ⟨x4, rfl, rfl⟩
          · skip
            walk_at "ev"
            exact k _ _ ⟨_, _, _, rfl, by simp [hanNm, nmsO]⟩
    · rintro a δ ⟨x1, x2, x3, rfl, rfl⟩
      · skip
        walk_at "ev"
        exact q
  | one wd x =>
    rw [pyS] at q ⊢
    walk_at "ev"
    rw [decide_eq_false (word_ng hf.one.1).1]
    walk_at "ev"
    exact q
  | again =>
    rw [pyS] at q ⊢
    walk_at "ev"
    exact q
  | leave =>
    rw [pyS] at q ⊢
    walk_at "ev"
    exact q
theorem ev_steps (s : Stm) : (∃ w es, pyS s = .tuple (.str w :: es) ∧ ((w = "step" ∧ ∃ x, es = [.str x] ∧ stepNm s = [x]) ∨ (¬ w = "step" ∧ stepNm s = []))) := by
  cases s with
  | one w x =>
    refine ⟨w, [.str x], rfl, ?_⟩
    by_cases z : w = "step"
    · exact .inl ⟨z, x, rfl, if_pos z⟩
    · exact .inr ⟨z, if_neg z⟩
  | again => exact ⟨_, _, rfl, .inr ⟨by decide +kernel, rfl⟩⟩
  | leave => exact ⟨_, _, rfl, .inr ⟨by decide +kernel, rfl⟩⟩
  | guard b hs l => exact ⟨_, _, rfl, .inr ⟨by decide +kernel, rfl⟩⟩
/-- the steps (names) of a row, sorted: whatever list it is -/
def gSteps (n : Nat) : GD := fun ds Q => ∃ r N i, ds = [.fz (.list (pyR r))] ∧ Row n N i r ∧ N.length ≤ 60 ∧ ∀ ys, Srt ys (stepsR r) → Q (.own (strsD ys)) [.fz (.list (pyR r))]
def gNames (n : Nat) : GD := fun ds Q => ∃ r N i, ds = [.fz (.list (pyR r))] ∧ Row n N i r ∧ N.length ≤ 60 ∧ ∀ ys, Srt ys (namesR r) → Q (.own (strsD ys)) [.fz (.list (pyR r))]
theorem ok_steps (T : Txt w K mg) (n : Nat) : FnOk P w K mg base CX0 (n + 3) T.f_row_steps T.d_row_steps ["row"] (spD (Zt T) (gSteps n)) := by
  refine defO [true] T.F_row_steps sc_row_steps rfl (fun ds Q h => by obtain ⟨r, N, i, rfl, _⟩ := h; rfl) (fun cdv A outer s H E hr => ?_)
  have hR := hr
  have G_all_statements := ok_all (P := P) (base := base) T n
  refine ⟨_, _, (pss_one (ps_ret (pe_callB (OwnS.cr_sortedT rfl) (by rfl) T.z_sorted (by decide +kernel) (pa_cons (OwnS.pe_s1 (own := [("statement", 1)]) rfl sc_row_steps.nd (pi_list (pe_call G_all_statements (hR.mono (by omega)) rfl T.m_all_statements T.F_all_statements.kp T.b_all_statements .nil pass0 (pa_cons (pv 0) pa_nil))) (blkOk_by (own := [("statement", 1)]) (N := ["row", "statement"]) (sc := defScope s_row_steps) (by decide +kernel)) (fun _ _ _ _ _ => pg_name (i := 1) sc_row_steps.nd rfl (Or.inl rfl)) (fun _ _ _ _ _ => (pts_one (pt_cmpR op_eq (pe_ix (r := rIxT K) ix_tup (pv 1) pe_int (fun _ _ => rfl)) pe_str (nomark _)))) (fun _ _ _ _ _ => (pe_ix (r := rIxT K) ix_tup (pv 1) pe_int (fun _ _ => rfl)))) pa_nil)))), (fun En hp => (dLast (dRet (dSortedT (dCons (dS1 (pinAll hp (by decide)) (dIList (dCall (dCons (dV 0) dNil))) (dgNameF (hp 1 rfl) (sw (by decide))) (dTest (dEqS (dIxT (dV 1) (dInt _)) (dStr _))) (dIxT (dV 1) (dInt _))) dNil))))), ?_⟩
  rintro ds Q ⟨r, N, i, rfl, hf, hN, q⟩
  walk_at "ev"
  refine gC.of ⟨r, N, i, rfl, hf, rfl, ?_⟩
  walk_at "ev"
  have hin : ∀ t ∈ flatR r, ∀ x ∈ stepNm t, x ∈ N := fun t ht x hx => by
    obtain ⟨m, j, h⟩ := flatR_ok r hf t ht
    exact stepNm_in h x hx
  refine turnD_acc (fun s => D.fz (pyS s)) (fun dn a δ => ∃ x, δ = [.fz (.list (pyR r)), x] ∧ SetOf a ((dn.map stepNm).flatten)) (flatR r) _ _ ⟨_, rfl, SetOf.nil⟩ ?_ ?_
  · rintro x dn rest a δ e ⟨x1, rfl, ha⟩ k
    rw [turnD_cons]
    have hs : ∀ y ∈ (dn.map stepNm).flatten, y ∈ N := by
      intro y hy
      obtain ⟨l, hl, hy⟩ := List.mem_flatten.mp hy
      obtain ⟨t, ht, rfl⟩ := List.mem_map.mp hl
      exact hin t (by rw [e]; exact List.mem_append_left _ ht) y hy
    obtain ⟨wd, es, e1, ⟨rfl, y, rfl, e2⟩ | ⟨nw, e2⟩⟩ := ev_steps x
    · rw [e1]
      walk_at "ev"
      refine ⟨_, ha.put_ok hs hN y, k _ _ ⟨_, rfl, ?_⟩⟩
      have := ha.put y
      rwa [List.map_append, List.flatten_append, List.map_singleton, List.flatten_singleton, e2]
    · rw [e1]
      walk_at "ev"
      rw [if_neg nw]
      refine k _ _ ⟨_, rfl, ?_⟩
      rwa [List.map_append, List.flatten_append, List.map_singleton, List.flatten_singleton, e2, List.append_nil]
  · rintro a δ ⟨x, rfl, ha⟩
    · skip
      walk_at "ev"
      have hl : a.length ≤ 60 := by
        refine Nat.le_trans (ha.len (N := N) ?_) hN
        intro y hy
        obtain ⟨l, hl, hy⟩ := List.mem_flatten.mp hy
        obtain ⟨t, ht, rfl⟩ := List.mem_map.mp hl
        exact hin t ht y hy
      exact ⟨by omega, fun ys p so => q ys (ha.srt p so)⟩
theorem ok_rnames (T : Txt w K mg) (n : Nat) : FnOk P w K mg base CX0 (n + 3) T.f_row_names T.d_row_names ["row"] (spD (Zt T) (gNames n)) := by
  refine defO [true] T.F_row_names sc_row_names rfl (fun ds Q h => by obtain ⟨r, N, i, rfl, _⟩ := h; rfl) (fun cdv A outer s H E hr => ?_)
  have hR := hr
  have G_all_statements := ok_all (P := P) (base := base) T n
  have G_own_names := ok_own (P := P) (base := base) T
  refine ⟨_, _, (pss_one (ps_ret (pe_callB (OwnS.cr_sortedT rfl) (by rfl) T.z_sorted (by decide +kernel) (pa_cons (OwnS.pe_s2 (own := [("statement", 1), ("name", 2)]) (vs1 := [2]) rfl sc_row_names.nd (pi_list (pe_call G_all_statements (hR.mono (by omega)) rfl T.m_all_statements T.F_all_statements.kp T.b_all_statements .nil pass0 (pa_cons (pv 0) pa_nil))) (blkOk_by (own := [("statement", 1), ("name", 2)]) (N := ["row", "statement", "name"]) (sc := defScope s_row_names) (by decide +kernel)) (by decide) (by exact (fun _ _ _ _ _ => pg_name (i := 1) sc_row_names.nd rfl (Or.inl rfl))) (by exact (fun _ _ _ _ _ => pts_nil)) (by exact (fun _ _ _ _ _ => (pv 2))) (hi1 := by exact (fun _ _ _ _ _ => (pi_list (pe_call G_own_names (hR.mono (by omega)) rfl T.m_own_names T.F_own_names.kp T.b_own_names .nil pass0 (pa_cons (pv 1) pa_nil))))) (hg1 := by exact (fun _ _ _ _ _ => pg_name (i := 2) sc_row_names.nd rfl (Or.inl rfl))) (ht1 := by exact (fun _ _ _ _ _ => pts_nil))) pa_nil)))), (fun En hp => (dLast (dRet (dSortedT (dCons (dS2 (pinAll hp (by decide)) (pinAll hp (by decide)) (by decide) (dIList (dCall (dCons (dV 0) dNil))) (dgNameF (hp 1 rfl) (sw (by decide))) dYes (dIList (dCall (dCons (dV 1) dNil))) (dgNameF (hp 2 rfl) (sw (by decide))) dYes (dV 2)) dNil))))), ?_⟩
  rintro ds Q ⟨r, N, i, rfl, hf, hN, q⟩
  walk_at "ev"
  refine gC.of ⟨r, N, i, rfl, hf, rfl, ?_⟩
  walk_at "ev"
  have hin : ∀ t ∈ flatR r, ∀ x ∈ ownNm t, x ∈ N := fun t ht x hx => by
    obtain ⟨m, j, h⟩ := flatR_ok r hf t ht
    exact ownNm_in h x hx
  refine fS2_acc (fun s => D.fz (pyS s)) (fun dn a δ => ∃ x y, δ = [.fz (.list (pyR r)), x, y] ∧ SetOf a ((dn.map ownNm).flatten)) (flatR r) _ _ ⟨_, _, rfl, SetOf.nil⟩ ?_ ?_
  · rintro x dn rest a δ e ⟨x1, x2, rfl, ha⟩ k
    rw [fS2_cons]
    have hx : x ∈ flatR r := by rw [e]; simp
    obtain ⟨m, j, hx2⟩ := flatR_ok r hf x hx
    have hs : ∀ y ∈ (dn.map ownNm).flatten, y ∈ N := by
      intro y hy
      obtain ⟨l, hl, hy⟩ := List.mem_flatten.mp hy
      obtain ⟨t, ht, rfl⟩ := List.mem_map.mp hl
      exact hin t (by rw [e]; exact List.mem_append_left _ ht) y hy
    walk_at "ev"
    refine gC.of ⟨x, m, N, j, rfl, hx2, rfl, ?_⟩
    walk_at "ev"
    refine turnD_acc (fun x => D.fz (.str x)) (fun d2 a δ => ∃ y, δ = [.fz (.list (pyR r)), .fz (pyS x), y] ∧ SetOf a ((dn.map ownNm).flatten ++ d2)) (ownNm x) _ _ ⟨_, rfl, by rw [List.append_nil]; exact ha⟩ ?_ ?_
    · rintro y d2 r2 a δ e2 ⟨x4, rfl, ha⟩ k2
      rw [turnD_cons]
      walk_at "ev"
      refine ⟨_, ha.put_ok (N := N) ?_ hN y, k2 _ _ ⟨_, rfl, ?_⟩⟩
      · intro z hz
        rcases List.mem_append.mp hz with hz | hz
        · exact hs z hz
        · exact hin x hx z (by rw [e2]; exact List.mem_append_left _ hz)
      · rw [← List.append_assoc]; exact ha.put y
    · rintro a δ ⟨x4, rfl, ha⟩
      · skip
        walk_at "ev"
        refine k _ _ ⟨_, _, rfl, ?_⟩
        rwa [List.map_append, List.flatten_append, List.map_singleton, List.flatten_singleton]
  · rintro a δ ⟨x, y, rfl, ha⟩
    · skip
      walk_at "ev"
      have hl : a.length ≤ 60 := by
        refine Nat.le_trans (ha.len (N := N) ?_) hN
        intro y hy
        obtain ⟨l, hl, hy⟩ := List.mem_flatten.mp hy
        obtain ⟨t, ht, rfl⟩ := List.mem_map.mp hl
        exact hin t ht y hy
      exact ⟨by omega, fun ys p so => q ys (ha.srt p so)⟩
/-! ### what is refused: nothing of a fine row -/
theorem letter_in {c : Nat} (h : 97 ≤ c ∧ c ≤ 122) : (!(Builtin.Str.occurrences ("abcdefghijklmnopqrstuvwxyz" : Str) ⟨#[c]⟩ 0 ("abcdefghijklmnopqrstuvwxyz" : Str).length 1).isEmpty) = true := by
  have key : ∀ k : Fin 26, (!(Builtin.Str.occurrences ("abcdefghijklmnopqrstuvwxyz" : Str) ⟨#[97 + k.1]⟩ 0 ("abcdefghijklmnopqrstuvwxyz" : Str).length 1).isEmpty) = true := by decide +kernel
  have q := key ⟨c - 97, by omega⟩
  rwa [show 97 + (c - 97) = c by omega] at q
def gIsName : GD := fun ds Q => ∃ x : Str, ds = [.fz (.str x)] ∧ nmB x = true ∧ Q (.fz (.bool true)) [.fz (.str x)]
theorem ok_isname (T : Txt w K mg) : FnOk P w K mg base CX0 1 T.f_is_name T.d_is_name ["text"] (spD (Zt T) gIsName) := by
  refine defO [true] T.F_is_name sc_is_name rfl (fun ds Q h => by obtain ⟨x, rfl, _⟩ := h; rfl) (fun cdv A outer s H E hr => ?_)
  have hR := hr
  refine ⟨_, _, (pss_one (ps_ret (pe_and (pe_chain op_le op_le pe_int (pe_callB call_len_str (by rfl) T.z_len (by decide +kernel) (pa_cons (pv 0) pa_nil)) (pe_glob (v := cv_LONGEST_NAME T) rfl T.g_LONGEST_NAME T.r_LONGEST_NAME)) (pe_one (pe_callB (cr_all rfl) (by rfl) T.z_all (by decide +kernel) (pa_cons (pe_lc (own := [("letter", 1)]) (g := gName 1) rfl sc_is_name.nd (pi_str (pv 0)) (blkOk_by (own := [("letter", 1)]) (N := ["text", "letter"]) (sc := defScope s_is_name) (by decide +kernel)) (fun _ _ _ _ _ => pg_name (i := 1) sc_is_name.nd rfl (Or.inl rfl)) (fun _ _ _ _ _ => pts_nil) (fun _ _ _ _ _ => (pe_cmpR op_in_str (pv 1) (pe_glob (v := cv_LETTERS T) rfl T.g_LETTERS T.r_LETTERS) rfl))) pa_nil)))))), (fun En hp => (dLast (dRet (dAndV (dChainI (dInt _) (dLenS (dCons (dV 0) dNil)) (dInt _)) (dAll (dCons (dLc (pinAll hp (by decide)) (dIStr (dV 0)) (dgNameF (hp 1 rfl) (sw (by decide))) dYes (dInS (dV 1) (dStr _))) dNil)))))), ?_⟩
  rintro ds Q ⟨x, rfl, hx, q⟩
  walk_at "ev"
  have h := hx
  unfold nmB at h
  simp only [Bool.and_eq_true, decide_eq_true_eq, List.all_eq_true] at h
  obtain ⟨⟨h1, h2⟩, h3⟩ := h
  refine ⟨szM (by omega), ?_⟩
  rw [if_pos (by omega), if_pos (by omega)]
  unfold signs
  refine compD_map (fun c : Nat => D.fz (.str ⟨#[c]⟩)) (fun _ => D.fz (.bool true)) [.fz (.str x), .hole] x.cps.toList [] _ (by have : x.cps.toList.length = x.length := rfl; simp only [List.length_nil]; omega) rfl (fun c rs acc δ hc ha hw k => ?_) ?_
  · rw [compD_cons, hw]
    walk_at "ev"
    rw [letter_in (h3 c hc)]
    exact ⟨ha, k _ rfl⟩
  · skip
    walk_at "ev"
    refine ⟨x.cps.toList.map fun _ => true, ?_, ?_⟩
    · unfold bolsD; rw [List.map_map]; rfl
    · rw [show (x.cps.toList.map fun _ => true).all id = true by simp]
      exact q
/-- the sizes -/
def szI (x : Str) : Option Int := if x = "step" then some 2 else if x = "raise" then some 2 else if x = "from" then some 2 else if x = "hide" then some 2 else if x = "again" then some 1 else if x = "leave" then some 1 else if x = "guard" then some 4 else none
def szOf (x : Str) : Option PyData := (szI x).map .int
theorem hk_SIZES (T : Txt w K mg) : ∀ x e, szOf x = some e → ∃ (r : Option Value) (v : V), PySem.W.nsIn K T.a_SIZES x = some r ∧ RelV v (r.getD .none) ∧ Sc v e := by
  intro x e h
  have fin : ∀ {i : Int} {y : Str}, (∃ u, PySem.W.nsIn K T.a_SIZES y = some (some u) ∧ RelV (V.int i) u) → ∃ (r : Option Value) (v : V), PySem.W.nsIn K T.a_SIZES y = some r ∧ RelV v (r.getD .none) ∧ Sc v (.int i) := fun ⟨u, a, b⟩ => ⟨some u, _, a, b, fun _ _ => .int _⟩
  unfold szOf at h
  obtain ⟨i, h, rfl⟩ := Option.map_eq_some_iff.mp h
  unfold szI at h
  split at h
  · rename_i z; subst z; cases h; exact fin T.e_SIZES_step
  split at h
  · rename_i z; subst z; cases h; exact fin T.e_SIZES_raise
  split at h
  · rename_i z; subst z; cases h; exact fin T.e_SIZES_from
  split at h
  · rename_i z; subst z; cases h; exact fin T.e_SIZES_hide
  split at h
  · rename_i z; subst z; cases h; exact fin T.e_SIZES_again
  split at h
  · rename_i z; subst z; cases h; exact fin T.e_SIZES_leave
  split at h
  · rename_i z; subst z; cases h; exact fin T.e_SIZES_guard
  · cases h
def gIsStm : GD := fun ds Q => ∃ s n N i, ds = [.fz (pyS s)] ∧ StmOk n N i s ∧ Q (.fz (.bool true)) [.fz (pyS s)]
theorem sz_stm {n : Nat} {N : List Str} {i : Bool} {s : Stm} (h : StmOk n N i s) : ∃ w es, pyS s = .tuple (.str w :: es) ∧ szOf w = some (.int ((es.length + 1 : Nat) : Int)) := by
  have key : ∀ {w : Str} {i : Int}, szI w = some i → szOf w = some (.int i) := fun h => by unfold szOf; rw [h]; rfl
  cases s with
  | one wd x =>
    refine ⟨wd, [.str x], rfl, key ?_⟩
    show szI wd = some 2
    rcases word_of h.one.1 with rfl | rfl | rfl | rfl <;> decide +kernel
  | again => exact ⟨_, _, rfl, key (i := 1) (by decide +kernel)⟩
  | leave => exact ⟨_, _, rfl, key (i := 1) (by decide +kernel)⟩
  | guard b hs l => exact ⟨_, _, rfl, key (i := 4) (by decide +kernel)⟩
theorem ok_isstm (T : Txt w K mg) : FnOk P w K mg base CX0 1 T.f_is_statement T.d_is_statement ["statement"] (spD (Zt T) gIsStm) := by
  refine defO [true] T.F_is_statement sc_is_statement rfl (fun ds Q h => by obtain ⟨r, n, N, i, rfl, _⟩ := h; rfl) (fun cdv A outer s H E hr => ?_)
  have hR := hr
  refine ⟨_, _, (pss_one (ps_ret (pe_and (pe_callTy OwnQ.call_boolT (by rfl) T.z_bool (by decide +kernel) (pa_cons (pv 0) pa_nil)) (pe_one (pe_cmpR op_eq (OwnQ.pe_kget T.D_SIZES (pe_glob (v := cv_SIZES T) rfl T.g_SIZES T.r_SIZES) (pe_ix (r := rIxT K) ix_tup (pv 0) pe_int (fun _ _ => rfl))) (pe_callB call_len_seq (by rfl) T.z_len (by decide +kernel) (pa_cons (pv 0) pa_nil)) (nomark _)))))), (fun En hp => (dLast (dRet (dAndV (dBoolT (dCons (dV 0) dNil)) (dEqI (dKGet (hk_SIZES T) (dIxT (dV 0) (dInt _))) (dLen (dCons (dV 0) dNil))))))), ?_⟩
  rintro ds Q ⟨st, n, N, i, rfl, hf, q⟩
  obtain ⟨wd, es, e1, e2⟩ := sz_stm hf
  rw [e1] at q ⊢
  walk_at "ev"
  exact ⟨_, e2, _, rfl, by rw [decide_eq_true rfl]; exact q⟩
def gChkN : GD := fun ds Q => ∃ (N xs : List Str), ds = [.fz (.tuple (xs.map .str))] ∧ Nams N ∧ (∀ x ∈ xs, x ∈ N) ∧ Q (.fz .none) [.fz (.tuple (xs.map .str))]
def gChkL : GD := fun ds Q => ∃ (N xs : List Str), ds = [.fz (.list (xs.map .str))] ∧ Nams N ∧ (∀ x ∈ xs, x ∈ N) ∧ Q (.fz .none) [.fz (.list (xs.map .str))]
theorem ok_chkN (T : Txt w K mg) : FnOk P w K mg base CX0 2 T.f_check_names T.d_check_names ["names"] (spD (Zt T) gChkN) := by
  refine defO [true] T.F_check_names sc_check_names rfl (fun ds Q h => by obtain ⟨N, x, rfl, _⟩ := h; rfl) (fun cdv A outer s H E hr => ?_)
  have hR := hr
  have G_is_name := ok_isname (P := P) (base := base) T
  refine ⟨_, _, (pss_one (ps_for PassesOwn.never rfl (pi_tup (pv 0)) (pg_name (i := 1) sc_check_names.nd rfl (by first | exact Or.inl rfl | exact Or.inr rfl))
      (pss_one (ps_if (pt_not (pt_val (pe_call G_is_name (hR.mono (by omega)) rfl T.m_is_name T.F_is_name.kp T.b_is_name .nil pass0 (pa_cons (pv 1) pa_nil))))
      (pss_one ps_never)
      pss_nil)))), (fun En hp => (dLast (dFor (dITup (dV 0)) (dgNameF (S := sAny) (hp 1 rfl) sOk)
      (dLast (dIf (dNot (dTB (dCall (dCons (dV 1) dNil))))
      (dLast dNever)
      dNext))))), ?_⟩
  rintro ds Q ⟨N, xs, rfl, hN, hx, q⟩
  walk_at "ev"
  refine loopD_acc (fun x => D.fz (.str x)) (fun _ δ => ∃ y, δ = [.fz (.tuple (xs.map .str)), y]) xs _ ⟨_, rfl⟩ ?_ ?_
  · rintro x dn rest δ e ⟨y, rfl⟩ k
    rw [loopD_cons]
    walk_at "ev"
    refine gC.of ⟨x, rfl, hN.ok x (hx x (by rw [e]; simp)), ?_⟩
    walk_at "ev"
    exact k _ ⟨_, rfl⟩
  · rintro δ ⟨y, rfl⟩
    · skip
      walk_at "ev"
      exact q
theorem ok_chkL (T : Txt w K mg) : FnOk P w K mg base CX0 2 T.f_check_names T.d_check_names ["names"] (spD (Zt T) gChkL) := by
  refine defO [true] T.F_check_names sc_check_names rfl (fun ds Q h => by obtain ⟨N, x, rfl, _⟩ := h; rfl) (fun cdv A outer s H E hr => ?_)
  have hR := hr
  have G_is_name := ok_isname (P := P) (base := base) T
  refine ⟨_, _, (pss_one (ps_for PassesOwn.never rfl (pi_list (pv 0)) (pg_name (i := 1) sc_check_names.nd rfl (by first | exact Or.inl rfl | exact Or.inr rfl))
      (pss_one (ps_if (pt_not (pt_val (pe_call G_is_name (hR.mono (by omega)) rfl T.m_is_name T.F_is_name.kp T.b_is_name .nil pass0 (pa_cons (pv 1) pa_nil))))
      (pss_one ps_never)
      pss_nil)))), (fun En hp => (dLast (dFor (dIList (dV 0)) (dgNameF (S := sAny) (hp 1 rfl) sOk)
      (dLast (dIf (dNot (dTB (dCall (dCons (dV 1) dNil))))
      (dLast dNever)
      dNext))))), ?_⟩
  rintro ds Q ⟨N, xs, rfl, hN, hx, q⟩
  walk_at "ev"
  refine loopD_acc (fun x => D.fz (.str x)) (fun _ δ => ∃ y, δ = [.fz (.list (xs.map .str)), y]) xs _ ⟨_, rfl⟩ ?_ ?_
  · rintro x dn rest δ e ⟨y, rfl⟩ k
    rw [loopD_cons]
    walk_at "ev"
    refine gC.of ⟨x, rfl, hN.ok x (hx x (by rw [e]; simp)), ?_⟩
    walk_at "ev"
    exact k _ ⟨_, rfl⟩
  · rintro δ ⟨y, rfl⟩
    · skip
      walk_at "ev"
      exact q
def gChkR (n : Nat) : GD := fun ds Q => ∃ r N i ws h, ds = [.fz (.list (pyR r)), .fz (.list ws), .fz (.bool h)] ∧ Row n N i r ∧ Nams N ∧ (i = true → h = true) ∧ ws.length + 2 * n < 1000 ∧ Q (.fz .none) [.fz (.list (pyR r)), .fz (.list ws), .fz (.bool h)]
def gChkS (n : Nat) : GD := fun ds Q => ∃ s N i ws h, ds = [.fz (pyS s), .fz (.list ws), .fz (.bool h)] ∧ StmOk n N i s ∧ Nams N ∧ (i = true → h = true) ∧ ws.length + 2 * n < 1001 ∧ Q (.fz .none) [.fz (pyS s), .fz (.list ws), .fz (.bool h)]
def gChkG (n : Nat) : GD := fun ds Q => ∃ b hs l N i ws h, ds = [.fz (pyS (.guard b hs l)), .fz (.list ws), .fz (.bool h)] ∧ Guard n N i b hs l ∧ Nams N ∧ (i = true → h = true) ∧ ws.length + 2 * n < 999 ∧ Q (.fz .none) [.fz (pyS (.guard b hs l)), .fz (.list ws), .fz (.bool h)]
theorem st_chkG (T : Txt w K mg) {n k : Nat} (hk : 2 ≤ k) (G_check_row : FnOk P w K mg base CX0 k T.f_check_row T.d_check_row ["row", "way", "handled"] (spD (Zt T) (gChkR n))) :
    FnOk P w K mg base CX0 (k + 1) T.f_check_guard T.d_check_guard ["guard", "place", "handled"] (spD (Zt T) (gChkG n)) := by
  refine defO [true, true, true] T.F_check_guard sc_check_guard rfl (fun ds Q h => by obtain ⟨b, hs, l, N, i, ws, h, rfl, _⟩ := h; rfl) (fun cdv A outer s H E hr => ?_)
  have hR := hr
  have G_check_names := ok_chkL (P := P) (base := base) T
  refine ⟨_, _, (pss_cons (ps_asg (pv 0) (pg_tup (by rfl) (pgs_cons (pg_name (i := 3) sc_check_guard.nd rfl (by first | exact Or.inl rfl | exact Or.inr rfl)) (pgs_cons (pg_name (i := 4) sc_check_guard.nd rfl (by first | exact Or.inl rfl | exact Or.inr rfl)) (pgs_cons (pg_name (i := 5) sc_check_guard.nd rfl (by first | exact Or.inl rfl | exact Or.inr rfl)) (pgs_cons (pg_name (i := 6) sc_check_guard.nd rfl (by first | exact Or.inl rfl | exact Or.inr rfl)) pgs_nil))))))
      (pss_cons (ps_expr (pe_call G_check_row (hR.mono (by omega)) rfl T.m_check_row T.F_check_row.kp T.b_check_row .nil pass0 (pa_cons (pv 4) (pa_cons (pe_op op_cat (pv 1) (pe_lst (pa_cons (pe_glob (v := cv_BODY T) rfl T.g_BODY T.r_BODY) pa_nil))) (pa_cons (pv 2) pa_nil)))))
      (pss_cons (ps_for PassesOwn.never rfl (pi_enum (by rfl) T.z_enumerate (pa_cons (pv 5) pa_nil)) (pg_tup (by rfl) (pgs_cons (pg_name (i := 7) sc_check_guard.nd rfl (by first | exact Or.inl rfl | exact Or.inr rfl)) (pgs_cons (pg_tup (by rfl) (pgs_cons (pg_name (i := 8) sc_check_guard.nd rfl (by first | exact Or.inl rfl | exact Or.inr rfl)) (pgs_cons (pg_name (i := 9) sc_check_guard.nd rfl (by first | exact Or.inl rfl | exact Or.inr rfl)) pgs_nil))) pgs_nil)))
      (pss_cons (ps_if (pt_cmpR op_notN (pv 8) pe_non (nomark _))
      (pss_one (ps_expr (pe_call G_check_names (hR.mono (by omega)) rfl T.m_check_names T.F_check_names.kp T.b_check_names .nil pass0 (pa_cons (pv 8) pa_nil))))
      pss_nil)
      (pss_one (ps_expr (pe_call G_check_row (hR.mono (by omega)) rfl T.m_check_row T.F_check_row.kp T.b_check_row .nil pass0 (pa_cons (pv 9) (pa_cons (pe_op op_cat (pv 1) (pe_lst (pa_cons (pe_op op_add (pe_glob (v := cv_FIRST_HANDLER T) rfl T.g_FIRST_HANDLER T.r_FIRST_HANDLER) (pv 7)) pa_nil))) (pa_cons pe_bl pa_nil))))))))
      (pss_one (ps_expr (pe_call G_check_row (hR.mono (by omega)) rfl T.m_check_row T.F_check_row.kp T.b_check_row .nil pass0 (pa_cons (pv 6) (pa_cons (pe_op op_cat (pv 1) (pe_lst (pa_cons (pe_glob (v := cv_LAST T) rfl T.g_LAST T.r_LAST) pa_nil))) (pa_cons (pv 2) pa_nil))))))))), (fun En hp => (dSeq (dAsg (dV 0) (dgTup (n := 4) (dgCons (dgNameF (S := sAny) (hp 3 rfl) sOk) (dgCons (dgNameF (S := sAny) (hp 4 rfl) sOk) (dgCons (dgNameF (S := sAny) (hp 5 rfl) sOk) (dgCons (dgNameF (S := sAny) (hp 6 rfl) sOk) dgNil))))))
      (dSeq (dDrop (dCall (dCons (dV 4) (dCons (dCat (dV 1) (dLst (dCons (dInt _) dNil))) (dCons (dV 2) dNil)))))
      (dSeq (dFor (dIEnum (dCons (dV 5) dNil)) (dgTup (n := 2) (dgCons (dgNameF (S := sAny) (hp 7 rfl) sOk) (dgCons (dgTup (n := 2) (dgCons (dgNameF (S := sAny) (hp 8 rfl) sOk) (dgCons (dgNameF (S := sAny) (hp 9 rfl) sOk) dgNil))) dgNil)))
      (dSeq (dIf (dTest (dNotN (dV 8) dNon))
      (dLast (dDrop (dCall (dCons (dV 8) dNil))))
      dNext)
      (dLast (dDrop (dCall (dCons (dV 9) (dCons (dCat (dV 1) (dLst (dCons (dAdd (dInt _) (dV 7)) dNil))) (dCons (dBl _) dNil))))))))
      (dLast (dDrop (dCall (dCons (dV 6) (dCons (dCat (dV 1) (dLst (dCons (dInt _) dNil))) (dCons (dV 2) dNil)))))))))), ?_⟩
  rintro ds Q ⟨b, hs, l, N, i, ws, h, rfl, hg, hN, hi, hw, q⟩
  rw [pyS] at q ⊢
  walk_at "ev"
  refine ⟨szM (by omega), gC.of ⟨b, N, i, _, h, rfl, hg.b, hN, hi, by simp only [List.length_append, List.length_singleton]; omega, ?_⟩⟩
  walk_at "ev"
  rw [pyHs_map, enumD_map]
  refine loopD_acc (fun p : Han × Nat => D.fz (.tuple [.int (p.2 : Nat), pyH p.1])) (fun _ δ => ∃ a1 a2 a3, δ = [.fz (.tuple [.str "guard", .list (pyR b), .list (hs.map pyH), .list (pyR l)]), .fz (.list ws), .fz (.bool h), .fz (.str "guard"), .fz (.list (pyR b)), .fz (.list (hs.map pyH)), .fz (.list (pyR l)), a1, a2, a3]) hs.zipIdx _ ⟨_, _, _, rfl⟩ ?_ ?_
  · rintro ⟨⟨ns, r⟩, t⟩ dn rest δ e ⟨a1, a2, a3, rfl⟩ k
    rw [loopD_cons]
    have hx : HanOk n N (.mk ns r) := hg.h _ (zip_mem (p := (Han.mk ns r, t)) (by rw [e]; simp))
    rw [pyH]
    cases ns with
    | none =>
      rw [pyN]
      walk_at "ev"
      refine ⟨szM (by omega), gC.of ⟨r, N, true, _, true, rfl, hx.row.1, hN, fun _ => rfl, by simp only [List.length_append, List.length_singleton]; omega, ?_⟩⟩
      walk_at "ev"
      exact k _ ⟨_, _, _, rfl⟩
    | some xs =>
      rw [pyN]
      walk_at "ev"
      refine gC.of ⟨N, xs, rfl, hN, (hx.row.2 xs rfl).2, ?_⟩
      walk_at "ev"
      refine ⟨szM (by omega), gC.of ⟨r, N, true, _, true, rfl, hx.row.1, hN, fun _ => rfl, by simp only [List.length_append, List.length_singleton]; omega, ?_⟩⟩
      walk_at "ev"
      exact k _ ⟨_, _, _, rfl⟩
  · rintro δ ⟨a1, a2, a3, rfl⟩
    · skip
      walk_at "ev"
      refine ⟨szM (by omega), gC.of ⟨l, N, i, _, h, rfl, hg.l, hN, hi, by simp only [List.length_append, List.length_singleton]; omega, ?_⟩⟩
      walk_at "ev"
      rw [pyHs_map] at q
      exact q
theorem st_chkS (T : Txt w K mg) {n k : Nat} (hk : 2 ≤ k) {g : GD} (eg : 0 < n → g = gChkG (n - 1)) (G_check_guard : FnOk P w K mg base CX0 k T.f_check_guard T.d_check_guard ["guard", "place", "handled"] (spD (Zt T) g)) :
    FnOk P w K mg base CX0 (k + 1) T.f_check_statement T.d_check_statement ["statement", "place", "handled"] (spD (Zt T) (gChkS n)) := by
  refine defO [true, true, true] T.F_check_statement sc_check_statement rfl (fun ds Q h => by obtain ⟨s, N, i, ws, h, rfl, _⟩ := h; rfl) (fun cdv A outer s H E hr => ?_)
  have hR := hr
  have G_check_names := ok_chkN (P := P) (base := base) T
  have G_is_statement := ok_isstm (P := P) (base := base) T
  refine ⟨_, _, (pss_cons (ps_if (pt_not (pt_val (pe_call G_is_statement (hR.mono (by omega)) rfl T.m_is_statement T.F_is_statement.kp T.b_is_statement .nil pass0 (pa_cons (pv 0) pa_nil))))
      (pss_one ps_never)
      pss_nil)
      (pss_cons (ps_if (pt_cmpR op_eq (pe_ix (r := rIxT K) ix_tup (pv 0) pe_int (fun _ _ => rfl)) pe_str (nomark _))
      (pss_cons (ps_expr (pe_call G_check_guard (hR.mono (by omega)) rfl T.m_check_guard T.F_check_guard.kp T.b_check_guard .nil pass0 (pa_cons (pv 0) (pa_cons (pv 1) (pa_cons (pv 2) pa_nil)))))
      (pss_one ps_retN))
      pss_nil)
      (pss_cons (ps_expr (pe_call G_check_names (hR.mono (by omega)) rfl T.m_check_names T.F_check_names.kp T.b_check_names .nil pass0 (pa_cons (pe_slice sl_tup (pv 0) (po_some pe_int) po_none) pa_nil)))
      (pss_one (ps_if (PW.pt (pw_and (pt_cmpR (r := rIn K false) op_in_seq (pe_ix (r := rIxT K) ix_tup (pv 0) pe_int (fun _ _ => rfl)) (pe_tup (pa_cons pe_str (pa_cons pe_str pa_nil))) (by rfl)) (pw_and1 (pt_not (pt_val (pv 2))))))
      (pss_one ps_never)
      pss_nil))))), (fun En hp => (dSeq (dIf (dNot (dTB (dCall (dCons (dV 0) dNil))))
      (dLast dNever)
      dNext)
      (dSeq (dIf (dTest (dEqS (dIxT (dV 0) (dInt _)) (dStr _)))
      (dSeq (dDrop (dCall (dCons (dV 0) (dCons (dV 1) (dCons (dV 2) dNil)))))
      (dLast dRetN))
      dNext)
      (dSeq (dDrop (dCall (dCons (dSlT (dV 0) (dPart (dInt _)) dNoPart) dNil)))
      (dLast (dIf (dAnd (dTest (dIn false (dIxT (dV 0) (dInt _)) (dTup (dCons (dStr _) (dCons (dStr _) dNil))))) (dNot (dTB (dV 2))))
      (dLast dNever)
      dNext)))))), ?_⟩
  rintro ds Q ⟨st, N, i, ws, h, rfl, hf, hN, hi, hw, q⟩
  walk_at "ev"
  refine gC.of ⟨st, n, N, i, rfl, hf, rfl, ?_⟩
  cases st with
  | guard b hs l =>
    obtain ⟨m, rfl⟩ := hf.pos
    obtain rfl := eg (Nat.succ_pos m)
    rw [pyS] at q ⊢
    walk_at "ev"
    refine gC.of ⟨b, hs, l, N, i, ws, h, by rw [pyS], hf.guard, hN, hi, by show _ + 2 * m < _; omega, rfl, ?_⟩
    walk_at "ev"
    exact q
  | one wd x =>
    rw [pyS] at q ⊢
    walk_at "ev"
    rw [if_neg (word_ng hf.one.1).1]
    refine gC.of ⟨N, [x], rfl, hN, fun y hy => by rw [List.mem_singleton.mp hy]; exact hf.one.2.1, rfl, ?_⟩
    walk_at "ev"
    by_cases z : wd = "from"
    · obtain rfl := hi (hf.one.2.2 z)
      rw [if_pos (.inr z)]
      walk_at "ev"
      exact q
    · rw [if_neg (fun a => a.elim (word_ng hf.one.1).2.1 z)]
      exact q
  | again =>
    obtain rfl := hi hf.ag
    rw [pyS] at q ⊢
    walk_at "ev"
    refine gC.of ⟨N, [], rfl, hN, fun y hy => (nomatch hy), rfl, ?_⟩
    walk_at "ev"
    exact q
  | leave =>
    rw [pyS] at q ⊢
    walk_at "ev"
    refine gC.of ⟨N, [], rfl, hN, fun y hy => (nomatch hy), rfl, ?_⟩
    walk_at "ev"
    exact q
theorem st_chkR (T : Txt w K mg) {n k : Nat} (G_check_statement : FnOk P w K mg base CX0 k T.f_check_statement T.d_check_statement ["statement", "place", "handled"] (spD (Zt T) (gChkS n))) :
    FnOk P w K mg base CX0 (k + 1) T.f_check_row T.d_check_row ["row", "way", "handled"] (spD (Zt T) (gChkR n)) := by
  refine defO [true, true, true] T.F_check_row sc_check_row rfl (fun ds Q h => by obtain ⟨s, N, i, ws, h, rfl, _⟩ := h; rfl) (fun cdv A outer s H E hr => ?_)
  have hR := hr
  refine ⟨_, _, (pss_one (ps_for PassesOwn.never rfl (pi_enum (by rfl) T.z_enumerate (pa_cons (pv 0) pa_nil)) (pg_tup (by rfl) (pgs_cons (pg_name (i := 3) sc_check_row.nd rfl (by first | exact Or.inl rfl | exact Or.inr rfl)) (pgs_cons (pg_name (i := 4) sc_check_row.nd rfl (by first | exact Or.inl rfl | exact Or.inr rfl)) pgs_nil)))
      (pss_one (ps_expr (pe_call G_check_statement (hR.mono (by omega)) rfl T.m_check_statement T.F_check_statement.kp T.b_check_statement .nil pass0 (pa_cons (pv 4) (pa_cons (pe_op op_cat (pv 1) (pe_lst (pa_cons (pv 3) pa_nil))) (pa_cons (pv 2) pa_nil)))))))), (fun En hp => (dLast (dFor (dIEnum (dCons (dV 0) dNil)) (dgTup (n := 2) (dgCons (dgNameF (S := sAny) (hp 3 rfl) sOk) (dgCons (dgNameF (S := sAny) (hp 4 rfl) sOk) dgNil)))
      (dLast (dDrop (dCall (dCons (dV 4) (dCons (dCat (dV 1) (dLst (dCons (dV 3) dNil))) (dCons (dV 2) dNil))))))))), ?_⟩
  rintro ds Q ⟨r, N, i, ws, h, rfl, hf, hN, hi, hw, q⟩
  walk_at "ev"
  rw [pyR_map, enumD_map]
  refine loopD_acc (fun p : Stm × Nat => D.fz (.tuple [.int (p.2 : Nat), pyS p.1])) (fun _ δ => ∃ a b, δ = [.fz (.list (r.map pyS)), .fz (.list ws), .fz (.bool h), a, b]) r.zipIdx _ ⟨_, _, rfl⟩ ?_ ?_
  · rintro ⟨x, t⟩ dn rest δ e ⟨a, b, rfl⟩ k
    rw [loopD_cons]
    have hx : StmOk n N i x := hf.mem (zip_mem (p := (x, t)) (by rw [e]; simp))
    walk_at "ev"
    refine ⟨szM (by omega), gC.of ⟨x, N, i, _, h, rfl, hx, hN, hi, by simp only [List.length_append, List.length_singleton]; omega, rfl, ?_⟩⟩
    walk_at "ev"
    exact k _ ⟨_, _, rfl⟩
  · rintro δ ⟨a, b, rfl⟩
    · skip
      walk_at "ev"
      rw [← pyR_map]
      exact q
theorem ok_chk (T : Txt w K mg) : ∀ n, FnOk P w K mg base CX0 (3 * n + 4) T.f_check_row T.d_check_row ["row", "way", "handled"] (spD (Zt T) (gChkR n))
  | 0 => st_chkR T (st_chkS T (k := 2) (g := gNone) (Nat.le_refl _) (fun h => absurd h (by decide)) none_ok)
  | n + 1 => by
    have r := ok_chk T n
    have g := st_chkG T (by omega) r
    exact st_chkR T (st_chkS T (n := n + 1) (by omega) (fun _ => rfl) g)
end
end Toy
namespace Toy
open PySem L2 Own
section
variable {P : Program} {w : World} {K : PySem.W.Frag} {mg : Str → Option Value} {base : Heap}

open OwnD
local macro_rules | `(tactic| walk_at "ev") => `(tactic| (simp only [f1, gRevL, ev_unl_fz, pyAll_o, pyAll_t, Option.bind_some, ev_mk_own3, cut_0, cut_11, atI_4, List.reverse_cons, List.reverse_nil, fVar_eq, fV_fz, fV_dct, fV_ob, fV_own, fV_tup, fV_pur, fV_obj, f2, f3, fI, fCB, fCall, fTst, fTruth, fNeg, fParF, fFld, fProp, fMeth, fMake, fSetF, fAppF, fExtF, fLenF, fAppend, fExtend, fClear, fReverse, fgSub, gKGet, gDIn, gDGet, gBoolT, fzD_fz, frB, backs, bkD, startD, endD, elL_fz, elL_own, elT_fz, elT_tup, elS_fl, elS_ft, fzD_own, fzD_tup, fzD_odc, fzD_dct, fzD_pur, fzD_ob, pyAll_nil, pyAll_fz, pyAll_map, pyAll_strs, pyAll_stms, fVarZ, Int.reduceLT, Int.reduceSub, Int.reduceEq, Int.reduceAdd, gSlL, cut_map, pyAll_sn, pyAll_ap, gAddS, gSlS, fV_obP, shr_obP, fzD_obP, fldP_row, fldP_steps, fldP_names, insP_tells, insP_run, insP_row, insP_steps, insP_names, insP__run_with, insP_at, insP_without, insP_e, obP_of, Nat.reduceLT, or_false, false_or, or_true, true_or, pyO_err, pyO_ended, pyO_left, pyO_asks, wn_step_raise, wn_step_from, wn_step_hide, wn_step_again, wn_step_leave, wn_step_guard, wn_step_ended, wn_step_left, wn_step_error, wn_step_asks, wn_raise_step, wn_raise_from, wn_raise_hide, wn_raise_again, wn_raise_leave, wn_raise_guard, wn_raise_ended, wn_raise_left, wn_raise_error, wn_raise_asks, wn_from_step, wn_from_raise, wn_from_hide, wn_from_again, wn_from_leave, wn_from_guard, wn_from_ended, wn_from_left, wn_from_error, wn_from_asks, wn_hide_step, wn_hide_raise, wn_hide_from, wn_hide_again, wn_hide_leave, wn_hide_guard, wn_hide_ended, wn_hide_left, wn_hide_error, wn_hide_asks, wn_again_step, wn_again_raise, wn_again_from, wn_again_hide, wn_again_leave, wn_again_guard, wn_again_ended, wn_again_left, wn_again_error, wn_again_asks, wn_leave_step, wn_leave_raise, wn_leave_from, wn_leave_hide, wn_leave_again, wn_leave_guard, wn_leave_ended, wn_leave_left, wn_leave_error, wn_leave_asks, wn_guard_step, wn_guard_raise, wn_guard_from, wn_guard_hide, wn_guard_again, wn_guard_leave, wn_guard_ended, wn_guard_left, wn_guard_error, wn_guard_asks, wn_ended_step, wn_ended_raise, wn_ended_from, wn_ended_hide, wn_ended_again, wn_ended_leave, wn_ended_guard, wn_ended_left, wn_ended_error, wn_ended_asks, wn_left_step, wn_left_raise, wn_left_from, wn_left_hide, wn_left_again, wn_left_leave, wn_left_guard, wn_left_ended, wn_left_error, wn_left_asks, wn_error_step, wn_error_raise, wn_error_from, wn_error_hide, wn_error_again, wn_error_leave, wn_error_guard, wn_error_ended, wn_error_left, wn_error_asks, wn_asks_step, wn_asks_raise, wn_asks_from, wn_asks_hide, wn_asks_again, wn_asks_leave, wn_asks_guard, wn_asks_ended, wn_asks_left, wn_asks_error, elT_pyC, elT_pyT, isNonC, pyAll_ints, elL_ints, ints_len, flA_ints, flA_mapI, flD_int, flA_int, inV_ints, fV_objR, py_fz, shr_objR, insR_run_row, insR_run_statement, insR_run_step, insR_run_guard, insR_run_handlers, insR_get_over, ev_vw_t, ev_vw_s, ev_tk_t, ev_tk_s, ev_tks_n, ev_tks_c, ev_fw_t, ev_fw_s, ev_shr_fz, ev_shr_dct, ev_shr_ob, ev_shr_own, ev_shr_tup, ev_shr_pur, ev_shr_obj, ev_shr_set, ev_shr_odc, ev_in_str, ev_in_int, ev_in_bool, ev_in_list, ev_in_tuple, ev_in_none, ev_in_own, ev_in_tup, ev_in_pur, ev_in_dct, ev_in_odc, ev_in_set, ev_tr_none, ev_tr_bool, ev_tr_int, ev_tr_list, ev_tr_tuple, ev_tr_own, ev_tr_tup, ev_tr_dct, ev_len_l, ev_len_t, ev_len_o, ev_len_u, ev_fld_obj, ev_fld_ob, ev_ins_obj, ev_ins_ob, ev_tup_fz, ev_tup_tup, ev_gc_cons, ev_gc_nil, ev_mk1, ev_mk2, ev_mk3, ev_mk4, ev_mk_own0, ev_mk_tup0, ev_mk_own1, ev_mk_own2, ev_mk_tup1, ev_mk_tup2, strs_snoc, Option.isSome_some, Option.isSome_none, Option.map_none, fbanswers_ran, fbanswers_ran', fbanswers_over, fbanswers_over', fbanswers_out, fbanswers_out', fbanswers_row, fbanswers_row', fbanswers_steps, fbanswers_steps', fbanswers_names, fbanswers_names', fbran_answers, fbran_answers', fbran_over, fbran_over', fbran_out, fbran_out', fbran_row, fbran_row', fbran_steps, fbran_steps', fbran_names, fbran_names', fbover_answers, fbover_answers', fbover_ran, fbover_ran', fbover_out, fbover_out', fbover_row, fbover_row', fbover_steps, fbover_steps', fbover_names, fbover_names', fbout_answers, fbout_answers', fbout_ran, fbout_ran', fbout_over, fbout_over', fbout_row, fbout_row', fbout_steps, fbout_steps', fbout_names, fbout_names', fbrow_answers, fbrow_answers', fbrow_ran, fbrow_ran', fbrow_over, fbrow_over', fbrow_out, fbrow_out', fbrow_steps, fbrow_steps', fbrow_names, fbrow_names', fbsteps_answers, fbsteps_answers', fbsteps_ran, fbsteps_ran', fbsteps_over, fbsteps_over', fbsteps_out, fbsteps_out', fbsteps_row, fbsteps_row', fbsteps_names, fbsteps_names', fbnames_answers, fbnames_answers', fbnames_ran, fbnames_ran', fbnames_over, fbnames_over', fbnames_out, fbnames_out', fbnames_row, fbnames_row', fbnames_steps, fbnames_steps', gCatT_fz, ne_eq, not_false_eq_true, flD_str, flA_nil, flA_str, flA_map, flA_strs, inV_nil, inV_str, inV_strs, fzD_set, D.set.injEq, gSortedT, sl1g, sl1_1, sl1_2, sl1_3, sl1_4, cut1, pyAll_mapfz, pyAll_snoc, Option.map_some, fz_map, shr_map, gEqS, gEqI, gEqD, gIxT, gIxL, gIxS, gLen, gLenS, gInt, gListOf, gIs, gIn, gCat, gSlT, gSlL, OwnD.gAll, gInS, putO, rpl, wipeD, List.getD_cons_zero, List.getD_cons_succ, List.set_cons_zero, List.set_cons_succ, List.length_cons, List.length_nil, List.replicate, List.map_cons, List.map_nil, List.cons_append, List.nil_append, List.all_cons, List.all_nil, List.zip_cons_cons, List.zip_nil_left, List.lookup_cons, List.lookup_nil, List.isEmpty_cons, List.isEmpty_nil, List.length_map, stms_len, strs_len, D.fz.injEq, D.own.injEq, D.dct.injEq, D.obj.injEq, PyData.str.injEq, PyData.int.injEq, PyData.list.injEq, PyData.tuple.injEq, PyData.bool.injEq, Option.some.injEq, List.cons.injEq, exists_eq_left', exists_eq_left, exists_eq_right', exists_eq_right, and_true, true_and, Bool.and_true, Bool.true_and, reduceCtorEq, decide_true, decide_false, decide_eq_true_eq, Bool.not_true, Bool.not_false, Bool.false_eq_true, Bool.false_and, Bool.and_false, Bool.true_or, Bool.false_or, Bool.or_false, Bool.or_eq_true, Bool.or_true, Bool.or_false, beq_self_eq_true, ite_true, ite_false, ite_self, exists_const, exists_eq, exists_eq', atI_0, atI_1, atI_2, atI_3, szl0, szl1, szl2, szl3, szl4, exists_and_left, and_assoc, if_true, if_false, Nat.reduceAdd, Nat.reduceSub, Nat.sub_self]))
/-! ### chains -/
theorem hu64 {A : Around} {k : Nat} (hr : Room k A) : A.units + 64 < cLine := by have := hr.un; omega
def gNums : GD := fun ds Q => ∃ c : Ch, ds = [.fz (pyC c)] ∧ c.length ≤ 1000 ∧ Q (.own (numsD (c.map (·.2.2)))) [.fz (pyC c)]
theorem ok_nums (T : Txt w K mg) : FnOk P w K mg base CX0 1 T.f_numbers_of T.d_numbers_of ["chain"] (spD (Zt T) gNums) := by
  refine defO [true] T.F_numbers_of sc_numbers_of rfl (fun ds Q h => by obtain ⟨c, rfl, _⟩ := h; rfl) (fun cdv A outer s H E hr => ?_)
  have hR := hr
  refine ⟨_, _, (pss_one (ps_ret (pe_lc (own := [("word", 1), ("name", 2), ("number", 3)]) (g := gTup K 3 (gCons (gName 1) (gCons (gName 2) (gCons (gName 3) gNil)))) rfl sc_numbers_of.nd (pi_tup (pv 0)) (blkOk_by (own := [("word", 1), ("name", 2), ("number", 3)]) (N := ["chain", "word", "name", "number"]) (sc := defScope s_numbers_of) (by decide +kernel)) (fun _ _ _ _ _ => (pg_tup (by rfl) (pgs_cons (pg_name (i := 1) sc_numbers_of.nd rfl (by first | exact Or.inl rfl | exact Or.inr rfl)) (pgs_cons (pg_name (i := 2) sc_numbers_of.nd rfl (by first | exact Or.inl rfl | exact Or.inr rfl)) (pgs_cons (pg_name (i := 3) sc_numbers_of.nd rfl (by first | exact Or.inl rfl | exact Or.inr rfl)) pgs_nil))))) (fun _ _ _ _ _ => pts_nil) (fun _ _ _ _ _ => (pv 3))))), (fun En hp => (dLast (dRet (dLc (pinAll hp (by decide)) (dITup (dV 0)) (dgTup (n := 3) (dgCons (dgNameF (hp 1 rfl) (sw (by decide))) (dgCons (dgNameF (hp 2 rfl) (sw (by decide))) (dgCons (dgNameF (hp 3 rfl) (sw (by decide))) dgNil)))) dYes (dV 3))))), ?_⟩
  rintro ds Q ⟨c, rfl, hc, q⟩
  rw [pyC] at q ⊢
  walk_at "ev"
  refine compD_map (fun t => D.fz (pyT t)) (fun t => D.fz (.int t.2.2)) [.fz (.tuple (c.map pyT)), .hole, .hole, .hole] c [] _ (by simpa using hc) rfl (fun t rs acc δ hx ha hw k => ?_) ?_
  · rw [compD_cons, hw, pyT]
    walk_at "ev"
    exact ⟨ha, k _ rfl⟩
  · skip
    walk_at "ev"
    rw [show (c.map fun t => D.fz (.int t.2.2)) = numsD (c.map (·.2.2)) by unfold numsD; rw [List.map_map]; rfl]
    exact q
def gChain : GD := fun ds Q => ∃ (wd x : Str) (k : Int) (h : Option Ch), ds = [.fz (.str wd), .fz (.str x), .fz (.int k), .fz (pyHd h)] ∧ Hok h ∧ hl h ≤ 1000 ∧ Q (.fz (pyC (chainOf wd x k h))) [.fz (.str wd), .fz (.str x), .fz (.int k), .fz (pyHd h)]
theorem ok_chain (T : Txt w K mg) : FnOk P w K mg base CX0 1 T.f_chain_of T.d_chain_of ["word", "name", "number", "handled"] (spD (Zt T) gChain) := by
  refine defO [true, true, true, true] T.F_chain_of sc_chain_of rfl (fun ds Q h => by obtain ⟨a, b, c, d, rfl, _⟩ := h; rfl) (fun cdv A outer s H E hr => ?_)
  have hR := hr
  refine ⟨_, _, (pss_cons (ps_set (i := 4) sc_chain_of.nd rfl (by first | exact Or.inl rfl | exact Or.inr rfl) (pe_tup (pa_cons (pe_tup (pa_cons pe_str (pa_cons (pv 1) (pa_cons (pv 2) pa_nil)))) pa_nil)))
      (pss_cons (ps_if (PW.pt (pw_or (pt_cmpR op_isN (pv 3) pe_non (nomark _)) (pw_or1 (pt_cmpR op_eq (pv 0) pe_str (nomark _)))))
      (pss_one (ps_ret (pv 4)))
      pss_nil)
      (pss_cons (ps_set (i := 5) sc_chain_of.nd rfl (by first | exact Or.inl rfl | exact Or.inr rfl) (pe_ifExp (pt_cmpR op_eq (pv 0) pe_str (nomark _)) pe_str pe_str))
      (pss_one (ps_ret (pe_op op_catT (pe_op op_catT (pv 4) (pe_tup (pa_cons (pe_op op_catT (pe_tup (pa_cons (pv 5) pa_nil)) (pe_slice sl_tup (pe_ix (r := rIxT K) ix_tup (pv 3) pe_int (fun _ _ => rfl)) (po_some pe_int) po_none)) pa_nil))) (pe_slice sl_tup (pv 3) (po_some pe_int) po_none))))))), (fun En hp => (dSeq (dAsg (dTup (dCons (dTup (dCons (dStr _) (dCons (dV 1) (dCons (dV 2) dNil)))) dNil)) (dgNameF (S := sAny) (hp 4 rfl) sOk))
      (dSeq (dIf (dOr (dTest (dIsN (dV 3) dNon)) (dTest (dEqS (dV 0) (dStr _))))
      (dLast (dRet (dV 4)))
      dNext)
      (dSeq (dAsg (dIfE (dTest (dEqS (dV 0) (dStr _))) (dStr _) (dStr _)) (dgNameF (S := sAny) (hp 5 rfl) sOk))
      (dLast (dRet (dCatT (dCatT (dV 4) (dTup (dCons (dCatT (dTup (dCons (dV 5) dNil)) (dSlT (dIxT (dV 3) (dInt _)) (dPart (dInt _)) dNoPart)) dNil))) (dSlT (dV 3) (dPart (dInt _)) dNoPart)))))))), ?_⟩
  rintro ds Q ⟨wd, x, k, h, rfl, hh, hb, q⟩
  cases h with
  | none =>
    rw [pyHd] at q ⊢
    walk_at "ev"
    exact q
  | some c =>
    cases c with
    | nil => exact absurd rfl (hh [] rfl).1
    | cons t r =>
      have e : pyHd (some (t :: r)) = .tuple (.tuple [.str t.1, .str t.2.1, .int t.2.2] :: r.map pyT) := rfl
      rw [e] at q ⊢
      walk_at "ev"
      have e2 : chainOf wd x k (some (t :: r)) = ((if wd = "hide" then [("told", x, k)] else ("told", x, k) :: ((if wd = "from" then "from" else "during"), t.2) :: r) : Ch) := rfl
      rw [e2] at q
      have hr2 : r.length + 1 ≤ 1000 := hb
      by_cases h1 : wd = "hide"
      · rw [if_pos h1] at q ⊢
        exact q
      rw [if_neg h1] at q ⊢
      by_cases h2 : wd = "from"
      · rw [if_pos h2] at q ⊢
        exact ⟨szM (by omega), q⟩
      · rw [if_neg h2] at q ⊢
        exact ⟨szM (by omega), q⟩
/-! ### the run -/
def gStep : GD := fun ds Q => ∃ kvs an st x h, ds = [objR kvs st, .fz (.str x), .fz (pyHd h)] ∧ Ans kvs an ∧ Hok h ∧ hl h ≤ 1000 ∧ st.ran.length ≤ 1000 ∧ Q (.fz (pyO (runS an (.one "step" x) h st).1)) [objR kvs (runS an (.one "step" x) h st).2, .fz (.str x), .fz (pyHd h)]
theorem ok_step (T : Txt w K mg) : FnOk P w K mg base CX0 2 T.f_Run_run_step T.d_Run_run_step ["self", "name", "handled"] (spD (Zt T) gStep) := by
  refine defO [true, true, true] T.F_Run_run_step sc_Run_run_step rfl (fun ds Q h => by obtain ⟨a, b, c, d, e, rfl, _⟩ := h; rfl) (fun cdv A outer s H E hr => ?_)
  have hR := hr
  have hD := hu_of hr
  have G_chain_of := ok_chain (P := P) (base := base) T
  refine ⟨_, _, (pss_cons (ps_if (pt_cmp (pc_dnotin hD (pv 1) (pe_fld (pv 0) rfl)))
      (pss_one (ps_ret (pe_tup (pa_cons pe_str (pa_cons (pv 1) (pa_cons (pv 2) pa_nil))))))
      pss_nil)
      (pss_cons (ps_expr (pe_bm PySem.F.plainAttrs_list PySem.F.slot_list_append PySem.F.type_list_append mt_append (pe_fld (pv 0) rfl) (pa_cons (pv 1) pa_nil)))
      (pss_cons (ps_if (pt_val (pe_dget hD (pe_fld (pv 0) rfl) (pv 1) (fun _ _ => rfl)))
      (pss_one (ps_ret (pe_tup (pa_cons pe_str (pa_cons (pe_call G_chain_of (hR.mono (by omega)) rfl T.m_chain_of T.F_chain_of.kp T.b_chain_of .nil pass0 (pa_cons pe_str (pa_cons (pv 1) (pa_cons (pe_op op_sub (pe_callB call_len_seq (by rfl) T.z_len (by decide +kernel) (pa_cons (pe_fld (pv 0) rfl) pa_nil)) pe_int) (pa_cons (pv 2) pa_nil))))) pa_nil)))))
      pss_nil)
      (pss_one (ps_ret (pe_glob (v := cv_ENDED T) rfl T.g_ENDED T.r_ENDED)))))), (fun En hp => (dSeq (dIf (dTB (dDIn1 (dV 1) (dFld 0 T.cl_Run T.na_Run_answers (dV 0))))
      (dLast (dRet (dTup (dCons (dStr _) (dCons (dV 1) (dCons (dV 2) dNil))))))
      dNext)
      (dSeq (dDrop (dAppendF 0 0 T.cl_Run T.na_Run_ran (dV 1)))
      (dSeq (dIf (dTB (dDGet (dFld 0 T.cl_Run T.na_Run_answers (dV 0)) (dV 1)))
      (dLast (dRet (dTup (dCons (dStr _) (dCons (dCall (dCons (dStr _) (dCons (dV 1) (dCons (dSub (dLenF 0 0 T.cl_Run T.na_Run_ran) (dInt _)) (dCons (dV 2) dNil))))) dNil)))))
      dNext)
      (dLast (dRet (dC (e := .tuple [.str "ended"]) fun F => .tup (T.q_ENDED F) (.cons (.str _) .nil)))))))), ?_⟩
  rintro ds Q ⟨kvs, an, st, x, h, rfl, ha, hh, hb, hs, q⟩
  have e : runS an (.one "step" x) h st = match an x with
      | none => (.asks x h, st)
      | some true => (.err (chainOf "step" x st.ran.length h), ⟨st.ran ++ [x], st.over⟩)
      | some false => (.ended, ⟨st.ran ++ [x], st.over⟩) := by rw [runS]; rfl
  rw [e] at q
  have hx := ha x
  unfold objR at q ⊢
  cases ea : an x with
  | none =>
    rw [ea] at q hx
    walk_at "ev"
    rw [hx]
    walk_at "ev"
    exact q
  | some b =>
    rw [ea] at q hx
    walk_at "ev"
    rw [hx]
    walk_at "ev"
    refine ⟨szN (by omega), ?_⟩
    cases b with
    | false =>
      walk_at "ev"
      exact q
    | true =>
      walk_at "ev"
      have ek : (((st.ran ++ [x]).length : Nat) : Int) - 1 = st.ran.length := by simp
      rw [ek]
      refine gC.of ⟨_, _, _, h, rfl, hh, hb, ?_⟩
      walk_at "ev"
      exact q
def gStm (n : Nat) : GD := fun ds Q => ∃ kvs an st s N i h, ds = [objR kvs st, .fz (pyS s), .fz (pyHd h)] ∧ Ans kvs an ∧ StmOk n N i s ∧ Nams N ∧ Rgo (cntS s) (cntS s) i h st ∧ Q (.fz (pyO (runS an s h st).1)) [objR kvs (runS an s h st).2, .fz (pyS s), .fz (pyHd h)]
def gRow (n : Nat) : GD := fun ds Q => ∃ kvs an st r N i h, ds = [objR kvs st, .fz (.list (pyR r)), .fz (pyHd h)] ∧ Ans kvs an ∧ Row n N i r ∧ Nams N ∧ Rgo (cntR r) (cntR r) i h st ∧ Q (.fz (pyO (runR an r h st).1)) [objR kvs (runR an r h st).2, .fz (.list (pyR r)), .fz (pyHd h)]
def gGuard (n : Nat) : GD := fun ds Q => ∃ kvs an st b hs l N i h, ds = [objR kvs st, .fz (pyS (.guard b hs l)), .fz (pyHd h)] ∧ Ans kvs an ∧ StmOk (n + 1) N i (.guard b hs l) ∧ Nams N ∧ Rgo (cntS (.guard b hs l)) (cntS (.guard b hs l)) i h st ∧ Q (.fz (pyO (runS an (.guard b hs l) h st).1)) [objR kvs (runS an (.guard b hs l) h st).2, .fz (pyS (.guard b hs l)), .fz (pyHd h)]
/-- the handlers, of an error c -/
def gHans (n : Nat) : GD := fun ds Q => ∃ kvs an st hs N c h, ds = [objR kvs st, .fz (.list (pyHs hs)), .fz (pyO (.err c)), .fz (pyHd h)] ∧ Ans kvs an ∧ (∀ x ∈ hs, HanOk n N x) ∧ Nams N ∧ Cok c ∧ Rgo (cntHs hs) (cntHs hs + 1) false (some c) st ∧ Hok h ∧ hl h ≤ 1000 ∧ Q (.fz (pyO (runHs an hs c h st).1)) [objR kvs (runHs an hs c h st).2, .fz (.list (pyHs hs)), .fz (pyO (.err c)), .fz (pyHd h)]
def gOver : GD := fun ds Q => ∃ kvs st c h, ds = [objR kvs st, .fz (pyC c), .fz (pyHd h)] ∧ hl h ≤ 1000 ∧ c.length ≤ 1000 ∧ st.over.length ≤ 50000 ∧ Q (.fz .none) [objR kvs (gotOver c h st), .fz (pyC c), .fz (pyHd h)]
theorem ok_over (T : Txt w K mg) : FnOk P w K mg base CX0 2 T.f_Run_get_over T.d_Run_get_over ["self", "chain", "handled"] (spD (Zt T) gOver) := by
  refine defO [true, true, true] T.F_Run_get_over sc_Run_get_over rfl (fun ds Q h => by obtain ⟨a, b, c, d, rfl, _⟩ := h; rfl) (fun cdv A outer s H E hr => ?_)
  have hR := hr
  have hU := hu64 hr
  have G_numbers_of := ok_nums (P := P) (base := base) T
  refine ⟨_, _, (pss_cons (ps_set (i := 3) sc_Run_get_over.nd rfl (by first | exact Or.inl rfl | exact Or.inr rfl) (pe_ifExp (pt_cmpR op_notN (pv 2) pe_non (nomark _)) (pe_call G_numbers_of (hR.mono (by omega)) rfl T.m_numbers_of T.F_numbers_of.kp T.b_numbers_of .nil pass0 (pa_cons (pv 2) pa_nil)) (pe_lst pa_nil)))
      (pss_one (ps_expr (pe_bm PySem.F.plainAttrs_list PySem.F.slot_list_extend PySem.F.type_list_extend mt_extend (pe_fld (pv 0) rfl) (pa_cons (pe_lc (own := [("number", 4)]) (g := gName 4) rfl sc_Run_get_over.nd (pi_list (pe_call G_numbers_of (hR.mono (by omega)) rfl T.m_numbers_of T.F_numbers_of.kp T.b_numbers_of .nil pass0 (pa_cons (pv 1) pa_nil))) (blkOk_by (own := [("number", 4)]) (N := ["self", "chain", "handled", "still", "number"]) (sc := defScope s_Run_get_over) (by decide +kernel)) (fun _ _ _ _ _ => pg_name (i := 4) sc_Run_get_over.nd rfl (Or.inl rfl)) (fun _ _ _ _ _ => (pts_one (pt_cmpR (r := rIn K true) op_notIn_seq (pv 4) (pv 3) (by rfl)))) (fun _ _ _ _ _ => (pv 4))) pa_nil))))), (fun En hp => (dSeq (dAsg (dIfE (dTest (dNotN (dV 2) dNon)) (dCall (dCons (dV 2) dNil)) (dLst dNil)) (dgNameF (S := sAny) (hp 3 rfl) sOk))
      (dLast (dDrop (dExtendF 0 0 T.cl_Run T.na_Run_over (dLc (pinAll hp (by decide)) (dIList (dCall (dCons (dV 1) dNil))) (dgNameF (hp 4 rfl) (sw (by decide))) (dTest (dIn true (dV 4) (dV 3))) (dV 4))))))), ?_⟩
  rintro ds Q ⟨kvs, st, c, h, rfl, hb, hc, hs, q⟩
  unfold objR at q ⊢
  cases h with
  | none =>
    rw [pyHd] at q ⊢
    walk_at "ev"
    refine gC.of ⟨c, rfl, hc, rfl, ?_⟩
    walk_at "ev"
    refine compD_fm (fun k : Int => D.fz (.int k)) (fun k => if k ∈ numsO none then none else some (D.fz (.int k))) [.hole, .fz (pyC c), .fz (pyHd none), .fz (.list ((numsO none).map .int)), .hole] (c.map (·.2.2)) [] _ (by simpa using hc) ?_ (fun t rs acc δ hx ha hw k => ?_) ?_
    · rfl
    · rw [compD_cons, hw]
      walk_at "ev"
      by_cases z : t ∈ numsO none
      · rw [if_pos z] at k
        simp only [Option.toList_none, List.append_nil] at k
        rw [decide_eq_true z, Bool.not_true, if_neg (by decide)]
        exact k _ rfl
      · rw [if_neg z] at k
        rw [decide_eq_false z, Bool.not_false, if_pos rfl]
        exact ⟨ha, k _ rfl⟩
    · rw [List.nil_append, over_fm]
      walk_at "ev"
      have hl2 := List.length_filter_le (fun k => !decide (k ∈ numsO none)) (c.map (·.2.2))
      rw [List.length_map] at hl2
      rw [got_eq, got_ran, ← nums_app] at q
      exact ⟨szM (by omega), q⟩
  | some d =>
    rw [pyHd] at q ⊢
    have hb2 : d.length ≤ 1000 := hb
    rw [show pyC d = .tuple (d.map pyT) from rfl] at q ⊢
    walk_at "ev"
    refine gC.of ⟨d, rfl, hb2, rfl, ?_⟩
    walk_at "ev"
    refine gC.of ⟨c, rfl, hc, rfl, ?_⟩
    walk_at "ev"
    refine compD_fm (fun k : Int => D.fz (.int k)) (fun k => if k ∈ numsO (some d) then none else some (D.fz (.int k))) [.hole, .fz (pyC c), .fz (pyHd (some d)), .fz (.list ((numsO (some d)).map .int)), .hole] (c.map (·.2.2)) [] _ (by simpa using hc) ?_ (fun t rs acc δ hx ha hw k => ?_) ?_
    · rfl
    · rw [compD_cons, hw]
      walk_at "ev"
      by_cases z : t ∈ numsO (some d)
      · rw [if_pos z] at k
        simp only [Option.toList_none, List.append_nil] at k
        rw [decide_eq_true z, Bool.not_true, if_neg (by decide)]
        exact k _ rfl
      · rw [if_neg z] at k
        rw [decide_eq_false z, Bool.not_false, if_pos rfl]
        exact ⟨ha, k _ rfl⟩
    · rw [List.nil_append, over_fm]
      walk_at "ev"
      have hl2 := List.length_filter_le (fun k => !decide (k ∈ numsO (some d))) (c.map (·.2.2))
      rw [List.length_map] at hl2
      rw [got_eq, got_ran, ← nums_app] at q
      exact ⟨szM (by omega), q⟩
end
end Toy
namespace Toy
open PySem L2 Own
section
variable {P : Program} {w : World} {K : PySem.W.Frag} {mg : Str → Option Value} {base : Heap}

open OwnD
local macro_rules | `(tactic| walk_at "ev") => `(tactic| (simp only [f1, gRevL, ev_unl_fz, pyAll_o, pyAll_t, Option.bind_some, ev_mk_own3, cut_0, cut_11, atI_4, List.reverse_cons, List.reverse_nil, fVar_eq, fV_fz, fV_dct, fV_ob, fV_own, fV_tup, fV_pur, fV_obj, f2, f3, fI, fCB, fCall, fTst, fTruth, fNeg, fParF, fFld, fProp, fMeth, fMake, fSetF, fAppF, fExtF, fLenF, fAppend, fExtend, fClear, fReverse, fgSub, gKGet, gDIn, gDGet, gBoolT, fzD_fz, frB, backs, bkD, startD, endD, elL_fz, elL_own, elT_fz, elT_tup, elS_fl, elS_ft, fzD_own, fzD_tup, fzD_odc, fzD_dct, fzD_pur, fzD_ob, pyAll_nil, pyAll_fz, pyAll_map, pyAll_strs, pyAll_stms, fVarZ, Int.reduceLT, Int.reduceSub, Int.reduceEq, Int.reduceAdd, gSlL, cut_map, pyAll_sn, pyAll_ap, gAddS, gSlS, fV_obP, shr_obP, fzD_obP, fldP_row, fldP_steps, fldP_names, insP_tells, insP_run, insP_row, insP_steps, insP_names, insP__run_with, insP_at, insP_without, insP_e, obP_of, Nat.reduceLT, or_false, false_or, or_true, true_or, pyO_err, pyO_ended, pyO_left, pyO_asks, wn_step_raise, wn_step_from, wn_step_hide, wn_step_again, wn_step_leave, wn_step_guard, wn_step_ended, wn_step_left, wn_step_error, wn_step_asks, wn_raise_step, wn_raise_from, wn_raise_hide, wn_raise_again, wn_raise_leave, wn_raise_guard, wn_raise_ended, wn_raise_left, wn_raise_error, wn_raise_asks, wn_from_step, wn_from_raise, wn_from_hide, wn_from_again, wn_from_leave, wn_from_guard, wn_from_ended, wn_from_left, wn_from_error, wn_from_asks, wn_hide_step, wn_hide_raise, wn_hide_from, wn_hide_again, wn_hide_leave, wn_hide_guard, wn_hide_ended, wn_hide_left, wn_hide_error, wn_hide_asks, wn_again_step, wn_again_raise, wn_again_from, wn_again_hide, wn_again_leave, wn_again_guard, wn_again_ended, wn_again_left, wn_again_error, wn_again_asks, wn_leave_step, wn_leave_raise, wn_leave_from, wn_leave_hide, wn_leave_again, wn_leave_guard, wn_leave_ended, wn_leave_left, wn_leave_error, wn_leave_asks, wn_guard_step, wn_guard_raise, wn_guard_from, wn_guard_hide, wn_guard_again, wn_guard_leave, wn_guard_ended, wn_guard_left, wn_guard_error, wn_guard_asks, wn_ended_step, wn_ended_raise, wn_ended_from, wn_ended_hide, wn_ended_again, wn_ended_leave, wn_ended_guard, wn_ended_left, wn_ended_error, wn_ended_asks, wn_left_step, wn_left_raise, wn_left_from, wn_left_hide, wn_left_again, wn_left_leave, wn_left_guard, wn_left_ended, wn_left_error, wn_left_asks, wn_error_step, wn_error_raise, wn_error_from, wn_error_hide, wn_error_again, wn_error_leave, wn_error_guard, wn_error_ended, wn_error_left, wn_error_asks, wn_asks_step, wn_asks_raise, wn_asks_from, wn_asks_hide, wn_asks_again, wn_asks_leave, wn_asks_guard, wn_asks_ended, wn_asks_left, wn_asks_error, elT_pyC, elT_pyT, isNonC, pyAll_ints, elL_ints, ints_len, flA_ints, flA_mapI, flD_int, flA_int, inV_ints, fV_objR, py_fz, shr_objR, insR_run_row, insR_run_statement, insR_run_step, insR_run_guard, insR_run_handlers, insR_get_over, ev_vw_t, ev_vw_s, ev_tk_t, ev_tk_s, ev_tks_n, ev_tks_c, ev_fw_t, ev_fw_s, ev_shr_fz, ev_shr_dct, ev_shr_ob, ev_shr_own, ev_shr_tup, ev_shr_pur, ev_shr_obj, ev_shr_set, ev_shr_odc, ev_in_str, ev_in_int, ev_in_bool, ev_in_list, ev_in_tuple, ev_in_none, ev_in_own, ev_in_tup, ev_in_pur, ev_in_dct, ev_in_odc, ev_in_set, ev_tr_none, ev_tr_bool, ev_tr_int, ev_tr_list, ev_tr_tuple, ev_tr_own, ev_tr_tup, ev_tr_dct, ev_len_l, ev_len_t, ev_len_o, ev_len_u, ev_fld_obj, ev_fld_ob, ev_ins_obj, ev_ins_ob, ev_tup_fz, ev_tup_tup, ev_gc_cons, ev_gc_nil, ev_mk1, ev_mk2, ev_mk3, ev_mk4, ev_mk_own0, ev_mk_tup0, ev_mk_own1, ev_mk_own2, ev_mk_tup1, ev_mk_tup2, strs_snoc, Option.isSome_some, Option.isSome_none, Option.map_none, fbanswers_ran, fbanswers_ran', fbanswers_over, fbanswers_over', fbanswers_out, fbanswers_out', fbanswers_row, fbanswers_row', fbanswers_steps, fbanswers_steps', fbanswers_names, fbanswers_names', fbran_answers, fbran_answers', fbran_over, fbran_over', fbran_out, fbran_out', fbran_row, fbran_row', fbran_steps, fbran_steps', fbran_names, fbran_names', fbover_answers, fbover_answers', fbover_ran, fbover_ran', fbover_out, fbover_out', fbover_row, fbover_row', fbover_steps, fbover_steps', fbover_names, fbover_names', fbout_answers, fbout_answers', fbout_ran, fbout_ran', fbout_over, fbout_over', fbout_row, fbout_row', fbout_steps, fbout_steps', fbout_names, fbout_names', fbrow_answers, fbrow_answers', fbrow_ran, fbrow_ran', fbrow_over, fbrow_over', fbrow_out, fbrow_out', fbrow_steps, fbrow_steps', fbrow_names, fbrow_names', fbsteps_answers, fbsteps_answers', fbsteps_ran, fbsteps_ran', fbsteps_over, fbsteps_over', fbsteps_out, fbsteps_out', fbsteps_row, fbsteps_row', fbsteps_names, fbsteps_names', fbnames_answers, fbnames_answers', fbnames_ran, fbnames_ran', fbnames_over, fbnames_over', fbnames_out, fbnames_out', fbnames_row, fbnames_row', fbnames_steps, fbnames_steps', gCatT_fz, ne_eq, not_false_eq_true, flD_str, flA_nil, flA_str, flA_map, flA_strs, inV_nil, inV_str, inV_strs, fzD_set, D.set.injEq, gSortedT, sl1g, sl1_1, sl1_2, sl1_3, sl1_4, cut1, pyAll_mapfz, pyAll_snoc, Option.map_some, fz_map, shr_map, gEqS, gEqI, gEqD, gIxT, gIxL, gIxS, gLen, gLenS, gInt, gListOf, gIs, gIn, gCat, gSlT, gSlL, OwnD.gAll, gInS, putO, rpl, wipeD, List.getD_cons_zero, List.getD_cons_succ, List.set_cons_zero, List.set_cons_succ, List.length_cons, List.length_nil, List.replicate, List.map_cons, List.map_nil, List.cons_append, List.nil_append, List.all_cons, List.all_nil, List.zip_cons_cons, List.zip_nil_left, List.lookup_cons, List.lookup_nil, List.isEmpty_cons, List.isEmpty_nil, List.length_map, stms_len, strs_len, D.fz.injEq, D.own.injEq, D.dct.injEq, D.obj.injEq, PyData.str.injEq, PyData.int.injEq, PyData.list.injEq, PyData.tuple.injEq, PyData.bool.injEq, Option.some.injEq, List.cons.injEq, exists_eq_left', exists_eq_left, exists_eq_right', exists_eq_right, and_true, true_and, Bool.and_true, Bool.true_and, reduceCtorEq, decide_true, decide_false, decide_eq_true_eq, Bool.not_true, Bool.not_false, Bool.false_eq_true, Bool.false_and, Bool.and_false, Bool.true_or, Bool.false_or, Bool.or_false, Bool.or_eq_true, Bool.or_true, Bool.or_false, beq_self_eq_true, ite_true, ite_false, ite_self, exists_const, exists_eq, exists_eq', atI_0, atI_1, atI_2, atI_3, szl0, szl1, szl2, szl3, szl4, exists_and_left, and_assoc, if_true, if_false, Nat.reduceAdd, Nat.reduceSub, Nat.sub_self]))
/-! ### the run of a row, by the depth of its guards -/
theorem st_rrow (T : Txt w K mg) {n k : Nat} (G_Run_run_statement : FnOk P w K mg base CX0 k T.f_Run_run_statement T.d_Run_run_statement ["self", "statement", "handled"] (spD (Zt T) (gStm n))) :
    FnOk P w K mg base CX0 (k + 1) T.f_Run_run_row T.d_Run_run_row ["self", "row", "handled"] (spD (Zt T) (gRow n)) := by
  refine defO [true, true, true] T.F_Run_run_row sc_Run_run_row rfl (fun ds Q h => by obtain ⟨a, b, c, d, e, f, g, rfl, _⟩ := h; rfl) (fun cdv A outer s H E hr => ?_)
  have hR := hr
  have hU := hu64 hr
  refine ⟨_, _, (pss_cons (ps_for PassesOwn.never rfl (pi_list (pv 1)) (pg_name (i := 3) sc_Run_run_row.nd rfl (by first | exact Or.inl rfl | exact Or.inr rfl))
      (pss_cons (ps_set (i := 4) sc_Run_run_row.nd rfl (by first | exact Or.inl rfl | exact Or.inr rfl) (pe_meth (pv 0) T.cl_Run T.mt_Run_run_statement G_Run_run_statement (hR.mono (by omega)) T.b_Run_run_statement .nil pass0 (pa_cons (pv 3) (pa_cons (pv 2) pa_nil))))
      (pss_one (ps_if (pt_cmpR (op_neD hU) (pv 4) (pe_glob (v := cv_ENDED T) rfl T.g_ENDED T.r_ENDED) (nomark _))
      (pss_one (ps_ret (pv 4)))
      pss_nil))))
      (pss_one (ps_ret (pe_glob (v := cv_ENDED T) rfl T.g_ENDED T.r_ENDED)))), (fun En hp => (dSeq (dFor (dIList (dV 1)) (dgNameF (S := sAny) (hp 3 rfl) sOk)
      (dSeq (dAsg (dMeth 0 (dV 0) (dCons (dV 3) (dCons (dV 2) dNil))) (dgNameF (S := sAny) (hp 4 rfl) sOk))
      (dLast (dIf (dTest (dNeD (dV 4) (dC (e := .tuple [.str "ended"]) fun F => .tup (T.q_ENDED F) (.cons (.str _) .nil))))
      (dLast (dRet (dV 4)))
      dNext))))
      (dLast (dRet (dC (e := .tuple [.str "ended"]) fun F => .tup (T.q_ENDED F) (.cons (.str _) .nil)))))), ?_⟩
  rintro ds Q ⟨kvs, an, st, r, N, i, h, rfl, ha, hr, hN, hg, q⟩
  walk_at "ev"
  rw [fzR]
  refine loopD_acc (fun s => D.fz (pyS s)) (fun done δ => ∃ st' a b, δ = [objR kvs st', .fz (.list (pyR r)), .fz (pyHd h), a, b] ∧ ∀ rest, r = done ++ rest → runR an r h st = runR an rest h st' ∧ st'.ran.length + cntR rest ≤ 1000 ∧ st'.over.length + 200 * cntR rest ≤ 30000) r _ ⟨st, _, _, rfl, fun rest e => by rw [List.nil_append] at e; subst e; exact ⟨rfl, hg.ran, hg.over⟩⟩ ?_ ?_
  · rintro x dn rest δ e ⟨st', a, b, rfl, hi⟩ k
    obtain ⟨h1, h2, h3⟩ := hi (x :: rest) e
    have hx : StmOk n N i x := hr.mem (by rw [e]; simp)
    have hc : cntR r = cntR dn + (cntS x + cntR rest) := by rw [e, cntR_app, cntR]
    rw [cntR] at h2 h3
    have gx : Rgo (cntS x) (cntS x) i h st' := hg.sub (by omega) (by omega) (by omega)
    have rb := runS_b an hN x h st' hx.fine hg.ok hg.some gx.h
    rw [loopD_cons]
    walk_at "ev"
    refine gC.of ⟨kvs, an, st', x, N, i, h, rfl, ha, hx, hN, gx, rfl, ?_⟩
    walk_at "ev"
    refine ⟨shaped_O rb.ok, shaped_E, ?_⟩
    rw [eqv_E]
    cases eo : isE (runS an x h st').1 with
    | true =>
      walk_at "ev"
      refine k _ ⟨_, _, _, rfl, fun rest' e' => ?_⟩
      obtain rfl : rest' = rest := by
        rw [e, List.append_assoc] at e'
        exact (List.cons.inj (List.append_cancel_left e')).2.symm
      rw [h1, runR_cons, eo, if_pos rfl]
      have := rb.ran; have := rb.over
      exact ⟨rfl, by omega, by omega⟩
    | false =>
      walk_at "ev"
      rw [h1, runR_cons, eo, if_neg (by decide)] at q
      exact q
  · rintro δ ⟨st', a, b, rfl, hi⟩
    · skip
      walk_at "ev"
      rw [(hi [] (by rw [List.append_nil])).1, runR_nil] at q
      exact q
theorem st_hans (T : Txt w K mg) {n k : Nat} (hk : 2 ≤ k) (G_Run_run_row : FnOk P w K mg base CX0 k T.f_Run_run_row T.d_Run_run_row ["self", "row", "handled"] (spD (Zt T) (gRow n))) :
    FnOk P w K mg base CX0 (k + 1) T.f_Run_run_handlers T.d_Run_run_handlers ["self", "handlers", "out", "handled"] (spD (Zt T) (gHans n)) := by
  refine defO [true, true, true, true] T.F_Run_run_handlers sc_Run_run_handlers rfl (fun ds Q h => by obtain ⟨a, b, c, d, e, f, g, rfl, _⟩ := h; rfl) (fun cdv A outer s H E hr => ?_)
  have hR := hr
  have hU := hu64 hr
  have G_Run_get_over := ok_over (P := P) (base := base) T
  refine ⟨_, _, (pss_cons (ps_set (i := 4) sc_Run_run_handlers.nd rfl (by first | exact Or.inl rfl | exact Or.inr rfl) (pe_ix (r := rIxT K) ix_tup (pv 2) pe_int (fun _ _ => rfl)))
      (pss_cons (ps_for PassesOwn.never rfl (pi_list (pv 1)) (pg_tup (by rfl) (pgs_cons (pg_name (i := 5) sc_Run_run_handlers.nd rfl (by first | exact Or.inl rfl | exact Or.inr rfl)) (pgs_cons (pg_name (i := 6) sc_Run_run_handlers.nd rfl (by first | exact Or.inl rfl | exact Or.inr rfl)) pgs_nil)))
      (pss_one (ps_if (PW.pt (pw_or (pt_cmpR op_isN (pv 5) pe_non (nomark _)) (pw_or1 (pt_cmpR (r := rIn K false) op_in_seq (pe_ix (r := rIxT K) ix_tup (pe_ix (r := rIxT K) ix_tup (pv 4) pe_int (fun _ _ => rfl)) pe_int (fun _ _ => rfl)) (pv 5) (by rfl)))))
      (pss_cons (ps_set (i := 7) sc_Run_run_handlers.nd rfl (by first | exact Or.inl rfl | exact Or.inr rfl) (pe_meth (pv 0) T.cl_Run T.mt_Run_run_row G_Run_run_row (hR.mono (by omega)) T.b_Run_run_row .nil pass0 (pa_cons (pv 6) (pa_cons (pv 4) pa_nil))))
      (pss_cons (ps_if (pt_cmpR (op_eqD hU) (pv 7) (pe_glob (v := cv_ENDED T) rfl T.g_ENDED T.r_ENDED) (nomark _))
      (pss_one (ps_expr (pe_meth (pv 0) T.cl_Run T.mt_Run_get_over G_Run_get_over (hR.mono (by omega)) T.b_Run_get_over .nil pass0 (pa_cons (pv 4) (pa_cons (pv 3) pa_nil)))))
      pss_nil)
      (pss_one (ps_ret (pv 7)))))
      pss_nil)))
      (pss_one (ps_ret (pv 2))))), (fun En hp => (dSeq (dAsg (dIxT (dV 2) (dInt _)) (dgNameF (S := sAny) (hp 4 rfl) sOk))
      (dSeq (dFor (dIList (dV 1)) (dgTup (n := 2) (dgCons (dgNameF (S := sAny) (hp 5 rfl) sOk) (dgCons (dgNameF (S := sAny) (hp 6 rfl) sOk) dgNil)))
      (dLast (dIf (dOr (dTest (dIsN (dV 5) dNon)) (dTest (dIn false (dIxT (dIxT (dV 4) (dInt _)) (dInt _)) (dV 5))))
      (dSeq (dAsg (dMeth 0 (dV 0) (dCons (dV 6) (dCons (dV 4) dNil))) (dgNameF (S := sAny) (hp 7 rfl) sOk))
      (dSeq (dIf (dTest (dEqD (dV 7) (dC (e := .tuple [.str "ended"]) fun F => .tup (T.q_ENDED F) (.cons (.str _) .nil))))
      (dLast (dDrop (dMeth 0 (dV 0) (dCons (dV 4) (dCons (dV 3) dNil)))))
      dNext)
      (dLast (dRet (dV 7)))))
      dNext)))
      (dLast (dRet (dV 2)))))), ?_⟩
  rintro ds Q ⟨kvs, an, st, hs, N, c, h, rfl, ha, hh, hN, hc, hg, ho, hb, q⟩
  have e0 : pyO (.err c) = .tuple [.str "error", pyC c] := rfl
  rw [e0] at q ⊢
  walk_at "ev"
  rw [fzHs]
  refine loopD_acc (fun s => D.fz (pyH s)) (fun done δ => ∃ a1 a2 a3, δ = [objR kvs st, .fz (.list (pyHs hs)), .fz (.tuple [.str "error", pyC c]), .fz (pyHd h), .fz (pyC c), a1, a2, a3] ∧ ∀ rest, hs = done ++ rest → runHs an hs c h st = runHs an rest c h st) hs _ ⟨_, _, _, rfl, fun rest e => by rw [List.nil_append] at e; subst e; rfl⟩ ?_ ?_
  · rintro ⟨ns, r⟩ dn rest δ e ⟨a1, a2, a3, rfl, hi⟩ k
    have h1 := hi _ e
    have hx : HanOk n N (.mk ns r) := hh _ (by rw [e]; simp)
    have hcn := cntHs_mem (r := hs) (s := .mk ns r) (by rw [e]; simp)
    rw [cntH] at hcn
    have g2 := hg.ran; have g3 := hg.over; have g1 := hg.h
    have gx : Rgo (cntR r) (cntR r) true (some c) st := ⟨hg.ok, fun _ => rfl, by omega, by omega, by omega⟩
    have rb := runR_b an hN r (some c) st hx.row.1.fine gx.ok gx.some gx.h
    rw [runHs_cons] at h1
    rw [loopD_cons, pyH]
    cases c with
    | nil => exact absurd rfl hc.1
    | cons t cr =>
      cases ns with
      | none =>
        rw [pyN]
        walk_at "ev"
        rw [show catches none (t :: cr) = true from rfl, if_pos rfl] at h1
        refine gC.of ⟨kvs, an, st, r, N, true, some (t :: cr), rfl, ha, hx.row.1, hN, gx, rfl, ?_⟩
        walk_at "ev"
        refine ⟨shaped_O rb.ok, shaped_E, ?_⟩
        rw [eqv_E]
        have r1 := rb.ran; have r2 := rb.over
        have g5 : (t :: cr).length + cntHs hs ≤ 200 := g1
        cases eo : isE (runR an r (some (t :: cr)) st).1 with
        | true =>
          walk_at "ev"
          refine gC.of ⟨kvs, _, t :: cr, h, rfl, hb, by omega, by omega, rfl, ?_⟩
          walk_at "ev"
          rw [eo, if_pos rfl] at h1
          rw [h1] at q
          rw [isE_eq eo]
          exact q
        | false =>
          walk_at "ev"
          rw [eo, if_neg (by decide)] at h1
          rw [h1] at q
          exact q
      | some xs =>
        rw [pyN]
        walk_at "ev"
        by_cases z : t.2.1 ∈ xs
        · rw [show catches (some xs) (t :: cr) = decide (t.2.1 ∈ xs) from rfl, decide_eq_true z, if_pos rfl] at h1
          rw [if_pos z]
          refine gC.of ⟨kvs, an, st, r, N, true, some (t :: cr), rfl, ha, hx.row.1, hN, gx, rfl, ?_⟩
          walk_at "ev"
          refine ⟨shaped_O rb.ok, shaped_E, ?_⟩
          rw [eqv_E]
          have r1 := rb.ran; have r2 := rb.over
          have g5 : (t :: cr).length + cntHs hs ≤ 200 := g1
          cases eo : isE (runR an r (some (t :: cr)) st).1 with
          | true =>
            walk_at "ev"
            refine gC.of ⟨kvs, _, t :: cr, h, rfl, hb, by omega, by omega, rfl, ?_⟩
            walk_at "ev"
            rw [eo, if_pos rfl] at h1
            rw [h1] at q
            rw [isE_eq eo]
            exact q
          | false =>
            walk_at "ev"
            rw [eo, if_neg (by decide)] at h1
            rw [h1] at q
            exact q
        · rw [show catches (some xs) (t :: cr) = decide (t.2.1 ∈ xs) from rfl, decide_eq_false z, if_neg (by decide)] at h1
          rw [if_neg z]
          refine k _ ⟨_, _, _, rfl, fun rest' e' => ?_⟩
          obtain rfl : rest' = rest := by
            rw [e, List.append_assoc] at e'
            exact (List.cons.inj (List.append_cancel_left e')).2.symm
          exact h1
  · rintro δ ⟨a1, a2, a3, rfl, hi⟩
    · skip
      walk_at "ev"
      rw [hi [] (by rw [List.append_nil]), runHs_nil] at q
      exact q
theorem st_stmt (T : Txt w K mg) {n k : Nat} {g : GD} (hk : 2 ≤ k) (eg : 0 < n → g = gGuard (n - 1)) (G_Run_run_guard : FnOk P w K mg base CX0 k T.f_Run_run_guard T.d_Run_run_guard ["self", "guard", "handled"] (spD (Zt T) g)) :
    FnOk P w K mg base CX0 (k + 1) T.f_Run_run_statement T.d_Run_run_statement ["self", "statement", "handled"] (spD (Zt T) (gStm n)) := by
  refine defO [true, true, true] T.F_Run_run_statement sc_Run_run_statement rfl (fun ds Q h => by obtain ⟨a, b, c, d, e, f, g, rfl, _⟩ := h; rfl) (fun cdv A outer s H E hr => ?_)
  have hR := hr
  have hU := hu64 hr
  have G_Run_run_step := ok_step (P := P) (base := base) T
  have G_chain_of := ok_chain (P := P) (base := base) T
  refine ⟨_, _, (pss_cons (ps_set (i := 3) sc_Run_run_statement.nd rfl (by first | exact Or.inl rfl | exact Or.inr rfl) (pe_ix (r := rIxT K) ix_tup (pv 1) pe_int (fun _ _ => rfl)))
      (pss_cons (ps_if (pt_cmpR op_eq (pv 3) pe_str (nomark _))
      (pss_one (ps_ret (pe_meth (pv 0) T.cl_Run T.mt_Run_run_guard G_Run_run_guard (hR.mono (by omega)) T.b_Run_run_guard .nil pass0 (pa_cons (pv 1) (pa_cons (pv 2) pa_nil)))))
      pss_nil)
      (pss_cons (ps_if (pt_cmpR op_eq (pv 3) pe_str (nomark _))
      (pss_one (ps_ret (pe_meth (pv 0) T.cl_Run T.mt_Run_run_step G_Run_run_step (hR.mono (by omega)) T.b_Run_run_step .nil pass0 (pa_cons (pe_ix (r := rIxT K) ix_tup (pv 1) pe_int (fun _ _ => rfl)) (pa_cons (pv 2) pa_nil)))))
      pss_nil)
      (pss_cons (ps_if (pt_cmpR op_eq (pv 3) pe_str (nomark _))
      (pss_one (ps_ret (pe_glob (v := cv_LEFT T) rfl T.g_LEFT T.r_LEFT)))
      pss_nil)
      (pss_cons (ps_if (pt_cmpR op_eq (pv 3) pe_str (nomark _))
      (pss_one (ps_ret (pe_tup (pa_cons pe_str (pa_cons (pv 2) pa_nil)))))
      pss_nil)
      (pss_one (ps_ret (pe_tup (pa_cons pe_str (pa_cons (pe_call G_chain_of (hR.mono (by omega)) rfl T.m_chain_of T.F_chain_of.kp T.b_chain_of .nil pass0 (pa_cons (pv 3) (pa_cons (pe_ix (r := rIxT K) ix_tup (pv 1) pe_int (fun _ _ => rfl)) (pa_cons (pe_glob (v := cv_NO_STEP T) rfl T.g_NO_STEP T.r_NO_STEP) (pa_cons (pv 2) pa_nil))))) pa_nil)))))))))), (fun En hp => (dSeq (dAsg (dIxT (dV 1) (dInt _)) (dgNameF (S := sAny) (hp 3 rfl) sOk))
      (dSeq (dIf (dTest (dEqS (dV 3) (dStr _)))
      (dLast (dRet (dMeth 0 (dV 0) (dCons (dV 1) (dCons (dV 2) dNil)))))
      dNext)
      (dSeq (dIf (dTest (dEqS (dV 3) (dStr _)))
      (dLast (dRet (dMeth 0 (dV 0) (dCons (dIxT (dV 1) (dInt _)) (dCons (dV 2) dNil)))))
      dNext)
      (dSeq (dIf (dTest (dEqS (dV 3) (dStr _)))
      (dLast (dRet (dC (e := .tuple [.str "left"]) fun F => .tup (T.q_LEFT F) (.cons (.str _) .nil))))
      dNext)
      (dSeq (dIf (dTest (dEqS (dV 3) (dStr _)))
      (dLast (dRet (dTup (dCons (dStr _) (dCons (dV 2) dNil)))))
      dNext)
      (dLast (dRet (dTup (dCons (dStr _) (dCons (dCall (dCons (dV 3) (dCons (dIxT (dV 1) (dInt _)) (dCons (dInt _) (dCons (dV 2) dNil))))) dNil))))))))))), ?_⟩
  rintro ds Q ⟨kvs, an, st, sm, N, i, h, rfl, ha, hok, hN, hg, q⟩
  have g1 := hg.h; have g2 := hg.ran
  cases sm with
  | guard b hs l =>
    obtain ⟨m, rfl⟩ := hok.pos
    obtain rfl := eg (Nat.succ_pos m)
    rw [pyS] at q ⊢
    walk_at "ev"
    refine gC.of ⟨kvs, an, st, b, hs, l, N, i, h, by rw [pyS], ha, hok, hN, hg, rfl, ?_⟩
    walk_at "ev"
    exact q
  | one wd x =>
    rw [pyS] at q ⊢
    rcases word_of hok.one.1 with rfl | rfl | rfl | rfl
    · skip
      walk_at "ev"
      refine gC.of ⟨kvs, an, st, x, h, rfl, ha, hg.ok, by omega, by omega, rfl, ?_⟩
      walk_at "ev"
      exact q
    · rw [runS_one _ _ _ _ _ (by decide +kernel)] at q
      walk_at "ev"
      refine gC.of ⟨_, _, _, h, rfl, hg.ok, by omega, rfl, ?_⟩
      walk_at "ev"
      exact q
    · rw [runS_one _ _ _ _ _ (by decide +kernel)] at q
      walk_at "ev"
      refine gC.of ⟨_, _, _, h, rfl, hg.ok, by omega, rfl, ?_⟩
      walk_at "ev"
      exact q
    · rw [runS_one _ _ _ _ _ (by decide +kernel)] at q
      walk_at "ev"
      refine gC.of ⟨_, _, _, h, rfl, hg.ok, by omega, rfl, ?_⟩
      walk_at "ev"
      exact q
  | again =>
    rw [pyS] at q ⊢
    rw [runS_again] at q
    obtain ⟨c, rfl⟩ := Option.isSome_iff_exists.mp (hg.some hok.ag)
    walk_at "ev"
    exact q
  | leave =>
    rw [pyS] at q ⊢
    rw [runS_leave] at q
    walk_at "ev"
    exact q
theorem st_guard (T : Txt w K mg) {n k : Nat} (G_Run_run_row : FnOk P w K mg base CX0 k T.f_Run_run_row T.d_Run_run_row ["self", "row", "handled"] (spD (Zt T) (gRow n)))
    (G_Run_run_handlers : FnOk P w K mg base CX0 (k + 1) T.f_Run_run_handlers T.d_Run_run_handlers ["self", "handlers", "out", "handled"] (spD (Zt T) (gHans n))) :
    FnOk P w K mg base CX0 (k + 2) T.f_Run_run_guard T.d_Run_run_guard ["self", "guard", "handled"] (spD (Zt T) (gGuard n)) := by
  refine defO [true, true, true] T.F_Run_run_guard sc_Run_run_guard rfl (fun ds Q h => by obtain ⟨a, b, c, d, e, f, g, i, j, rfl, _⟩ := h; rfl) (fun cdv A outer s H E hr => ?_)
  have hR := hr
  have hU := hu64 hr
  refine ⟨_, _, (pss_cons (ps_asg (pv 1) (pg_tup (by rfl) (pgs_cons (pg_name (i := 3) sc_Run_run_guard.nd rfl (by first | exact Or.inl rfl | exact Or.inr rfl)) (pgs_cons (pg_name (i := 4) sc_Run_run_guard.nd rfl (by first | exact Or.inl rfl | exact Or.inr rfl)) (pgs_cons (pg_name (i := 5) sc_Run_run_guard.nd rfl (by first | exact Or.inl rfl | exact Or.inr rfl)) (pgs_cons (pg_name (i := 6) sc_Run_run_guard.nd rfl (by first | exact Or.inl rfl | exact Or.inr rfl)) pgs_nil))))))
      (pss_cons (ps_set (i := 7) sc_Run_run_guard.nd rfl (by first | exact Or.inl rfl | exact Or.inr rfl) (pe_meth (pv 0) T.cl_Run T.mt_Run_run_row G_Run_run_row (hR.mono (by omega)) T.b_Run_run_row .nil pass0 (pa_cons (pv 4) (pa_cons (pv 2) pa_nil))))
      (pss_cons (ps_if (pt_cmpR op_eq (pe_ix (r := rIxT K) ix_tup (pv 7) pe_int (fun _ _ => rfl)) pe_str (nomark _))
      (pss_one (ps_set (i := 7) sc_Run_run_guard.nd rfl (by first | exact Or.inl rfl | exact Or.inr rfl) (pe_meth (pv 0) T.cl_Run T.mt_Run_run_handlers G_Run_run_handlers (hR.mono (by omega)) T.b_Run_run_handlers .nil pass0 (pa_cons (pv 5) (pa_cons (pv 7) (pa_cons (pv 2) pa_nil))))))
      pss_nil)
      (pss_cons (ps_if (pt_cmpR op_eq (pe_ix (r := rIxT K) ix_tup (pv 7) pe_int (fun _ _ => rfl)) pe_str (nomark _))
      (pss_one (ps_ret (pv 7)))
      pss_nil)
      (pss_cons (ps_set (i := 8) sc_Run_run_guard.nd rfl (by first | exact Or.inl rfl | exact Or.inr rfl) (pe_ifExp (pt_cmpR op_eq (pe_ix (r := rIxT K) ix_tup (pv 7) pe_int (fun _ _ => rfl)) pe_str (nomark _)) (pe_ix (r := rIxT K) ix_tup (pv 7) pe_int (fun _ _ => rfl)) (pv 2)))
      (pss_cons (ps_set (i := 9) sc_Run_run_guard.nd rfl (by first | exact Or.inl rfl | exact Or.inr rfl) (pe_meth (pv 0) T.cl_Run T.mt_Run_run_row G_Run_run_row (hR.mono (by omega)) T.b_Run_run_row .nil pass0 (pa_cons (pv 6) (pa_cons (pv 8) pa_nil))))
      (pss_one (ps_ret (pe_ifExp (pt_cmpR (op_eqD hU) (pv 9) (pe_glob (v := cv_ENDED T) rfl T.g_ENDED T.r_ENDED) (nomark _)) (pv 7) (pv 9)))))))))), (fun En hp => (dSeq (dAsg (dV 1) (dgTup (n := 4) (dgCons (dgNameF (S := sAny) (hp 3 rfl) sOk) (dgCons (dgNameF (S := sAny) (hp 4 rfl) sOk) (dgCons (dgNameF (S := sAny) (hp 5 rfl) sOk) (dgCons (dgNameF (S := sAny) (hp 6 rfl) sOk) dgNil))))))
      (dSeq (dAsg (dMeth 0 (dV 0) (dCons (dV 4) (dCons (dV 2) dNil))) (dgNameF (S := sAny) (hp 7 rfl) sOk))
      (dSeq (dIf (dTest (dEqS (dIxT (dV 7) (dInt _)) (dStr _)))
      (dLast (dAsg (dMeth 0 (dV 0) (dCons (dV 5) (dCons (dV 7) (dCons (dV 2) dNil)))) (dgNameF (S := sAny) (hp 7 rfl) sOk)))
      dNext)
      (dSeq (dIf (dTest (dEqS (dIxT (dV 7) (dInt _)) (dStr _)))
      (dLast (dRet (dV 7)))
      dNext)
      (dSeq (dAsg (dIfE (dTest (dEqS (dIxT (dV 7) (dInt _)) (dStr _))) (dIxT (dV 7) (dInt _)) (dV 2)) (dgNameF (S := sAny) (hp 8 rfl) sOk))
      (dSeq (dAsg (dMeth 0 (dV 0) (dCons (dV 6) (dCons (dV 8) dNil))) (dgNameF (S := sAny) (hp 9 rfl) sOk))
      (dLast (dRet (dIfE (dTest (dEqD (dV 9) (dC (e := .tuple [.str "ended"]) fun F => .tup (T.q_ENDED F) (.cons (.str _) .nil)))) (dV 7) (dV 9))))))))))), ?_⟩
  rintro ds Q ⟨kvs, an, st, b, hs, l, N, i, h, rfl, ha, hf, hN, hg, q⟩
  obtain ⟨go, hh, gl, ol⟩ := guard_go an hN hf hg
  have hgd := hf.guard
  rw [runG] at q
  have hb1 := hg.h
  rw [pyS] at q ⊢
  walk_at "ev"
  refine gC.of ⟨kvs, an, st, b, N, i, h, rfl, ha, hgd.b, hN, go, ?_⟩
  generalize runR an b h st = q1 at *
  obtain ⟨o1, s1⟩ := q1
  cases o1 with
  | err c =>
    obtain ⟨hc, gc⟩ := hh c rfl
    walk_at "ev"
    refine gC.of ⟨kvs, an, s1, hs, N, c, h, rfl, ha, hgd.h, hN, hc, gc, hg.ok, by omega, ?_⟩
    rw [show bodyOf an hs h (Out.err c, s1) = runHs an hs c h s1 from rfl] at gl ol q
    generalize runHs an hs c h s1 = q2 at *
    obtain ⟨o2, s2⟩ := q2
    cases o2 with
    | asks x g =>
      walk_at "ev"
      exact q
    | err d =>
      walk_at "ev"
      refine gC.of ⟨kvs, an, s2, l, N, i, (some d), rfl, ha, hgd.l, hN, gl, ?_⟩
      walk_at "ev"
      refine ⟨shaped_O ol, shaped_E, ?_⟩
      have e9 : lastOf an l h ((Out.err d), s2) = if isE (runR an l (some d) s2).1 then ((Out.err d), (runR an l (some d) s2).2) else runR an l (some d) s2 := rfl
      rw [e9] at q
      rw [eqv_E]
      cases eo : isE (runR an l (some d) s2).1 with
      | true =>
        walk_at "ev"
        rw [eo, if_pos rfl] at q
        exact q
      | false =>
        walk_at "ev"
        rw [eo, if_neg (by decide)] at q
        exact q
    | ended =>
      walk_at "ev"
      refine gC.of ⟨kvs, an, s2, l, N, i, h, rfl, ha, hgd.l, hN, gl, ?_⟩
      walk_at "ev"
      refine ⟨shaped_O ol, shaped_E, ?_⟩
      have e9 : lastOf an l h (Out.ended, s2) = if isE (runR an l h s2).1 then (Out.ended, (runR an l h s2).2) else runR an l h s2 := rfl
      rw [e9] at q
      rw [eqv_E]
      cases eo : isE (runR an l h s2).1 with
      | true =>
        walk_at "ev"
        rw [eo, if_pos rfl] at q
        exact q
      | false =>
        walk_at "ev"
        rw [eo, if_neg (by decide)] at q
        exact q
    | left =>
      walk_at "ev"
      refine gC.of ⟨kvs, an, s2, l, N, i, h, rfl, ha, hgd.l, hN, gl, ?_⟩
      walk_at "ev"
      refine ⟨shaped_O ol, shaped_E, ?_⟩
      have e9 : lastOf an l h (Out.left, s2) = if isE (runR an l h s2).1 then (Out.left, (runR an l h s2).2) else runR an l h s2 := rfl
      rw [e9] at q
      rw [eqv_E]
      cases eo : isE (runR an l h s2).1 with
      | true =>
        walk_at "ev"
        rw [eo, if_pos rfl] at q
        exact q
      | false =>
        walk_at "ev"
        rw [eo, if_neg (by decide)] at q
        exact q
  | asks x g =>
    rw [show bodyOf an hs h (Out.asks x g, s1) = (Out.asks x g, s1) from rfl] at gl ol q
    walk_at "ev"
    exact q
  | ended =>
    rw [show bodyOf an hs h (Out.ended, s1) = (Out.ended, s1) from rfl] at gl ol q
    walk_at "ev"
    refine gC.of ⟨kvs, an, s1, l, N, i, h, rfl, ha, hgd.l, hN, gl, ?_⟩
    walk_at "ev"
    refine ⟨shaped_O ol, shaped_E, ?_⟩
    have e9 : lastOf an l h (Out.ended, s1) = if isE (runR an l h s1).1 then (Out.ended, (runR an l h s1).2) else runR an l h s1 := rfl
    rw [e9] at q
    rw [eqv_E]
    cases eo : isE (runR an l h s1).1 with
    | true =>
      walk_at "ev"
      rw [eo, if_pos rfl] at q
      exact q
    | false =>
      walk_at "ev"
      rw [eo, if_neg (by decide)] at q
      exact q
  | left =>
    rw [show bodyOf an hs h (Out.left, s1) = (Out.left, s1) from rfl] at gl ol q
    walk_at "ev"
    refine gC.of ⟨kvs, an, s1, l, N, i, h, rfl, ha, hgd.l, hN, gl, ?_⟩
    walk_at "ev"
    refine ⟨shaped_O ol, shaped_E, ?_⟩
    have e9 : lastOf an l h (Out.left, s1) = if isE (runR an l h s1).1 then (Out.left, (runR an l h s1).2) else runR an l h s1 := rfl
    rw [e9] at q
    rw [eqv_E]
    cases eo : isE (runR an l h s1).1 with
    | true =>
      walk_at "ev"
      rw [eo, if_pos rfl] at q
      exact q
    | false =>
      walk_at "ev"
      rw [eo, if_neg (by decide)] at q
      exact q
theorem ok_run (T : Txt w K mg) : ∀ n, FnOk P w K mg base CX0 (5 * n + 4) T.f_Run_run_row T.d_Run_run_row ["self", "row", "handled"] (spD (Zt T) (gRow n))
  | 0 => st_rrow T (st_stmt T (k := 2) (g := gNone) (Nat.le_refl _) (fun h => absurd h (by decide)) none_ok)
  | n + 1 => by
    have r := ok_run T n
    have hh := st_hans T (by omega) r
    have g := st_guard T r hh
    exact (st_rrow T (st_stmt T (n := n + 1) (by omega) (fun _ => rfl) g)).mono (by omega)
end
end Toy
namespace Toy
open PySem L2 Own
section
variable {P : Program} {w : World} {K : PySem.W.Frag} {mg : Str → Option Value} {base : Heap}

open OwnD
local macro_rules | `(tactic| walk_at "ev") => `(tactic| (simp only [f1, gRevL, ev_unl_fz, pyAll_o, pyAll_t, Option.bind_some, ev_mk_own3, cut_0, cut_11, atI_4, List.reverse_cons, List.reverse_nil, fVar_eq, fV_fz, fV_dct, fV_ob, fV_own, fV_tup, fV_pur, fV_obj, f2, f3, fI, fCB, fCall, fTst, fTruth, fNeg, fParF, fFld, fProp, fMeth, fMake, fSetF, fAppF, fExtF, fLenF, fAppend, fExtend, fClear, fReverse, fgSub, gKGet, gDIn, gDGet, gBoolT, fzD_fz, frB, backs, bkD, startD, endD, elL_fz, elL_own, elT_fz, elT_tup, elS_fl, elS_ft, fzD_own, fzD_tup, fzD_odc, fzD_dct, fzD_pur, fzD_ob, pyAll_nil, pyAll_fz, pyAll_map, pyAll_strs, pyAll_stms, fVarZ, Int.reduceLT, Int.reduceSub, Int.reduceEq, Int.reduceAdd, gSlL, cut_map, pyAll_sn, pyAll_ap, gAddS, gSlS, fV_obP, shr_obP, fzD_obP, fldP_row, fldP_steps, fldP_names, insP_tells, insP_run, insP_row, insP_steps, insP_names, insP__run_with, insP_at, insP_without, insP_e, obP_of, Nat.reduceLT, or_false, false_or, or_true, true_or, pyO_err, pyO_ended, pyO_left, pyO_asks, wn_step_raise, wn_step_from, wn_step_hide, wn_step_again, wn_step_leave, wn_step_guard, wn_step_ended, wn_step_left, wn_step_error, wn_step_asks, wn_raise_step, wn_raise_from, wn_raise_hide, wn_raise_again, wn_raise_leave, wn_raise_guard, wn_raise_ended, wn_raise_left, wn_raise_error, wn_raise_asks, wn_from_step, wn_from_raise, wn_from_hide, wn_from_again, wn_from_leave, wn_from_guard, wn_from_ended, wn_from_left, wn_from_error, wn_from_asks, wn_hide_step, wn_hide_raise, wn_hide_from, wn_hide_again, wn_hide_leave, wn_hide_guard, wn_hide_ended, wn_hide_left, wn_hide_error, wn_hide_asks, wn_again_step, wn_again_raise, wn_again_from, wn_again_hide, wn_again_leave, wn_again_guard, wn_again_ended, wn_again_left, wn_again_error, wn_again_asks, wn_leave_step, wn_leave_raise, wn_leave_from, wn_leave_hide, wn_leave_again, wn_leave_guard, wn_leave_ended, wn_leave_left, wn_leave_error, wn_leave_asks, wn_guard_step, wn_guard_raise, wn_guard_from, wn_guard_hide, wn_guard_again, wn_guard_leave, wn_guard_ended, wn_guard_left, wn_guard_error, wn_guard_asks, wn_ended_step, wn_ended_raise, wn_ended_from, wn_ended_hide, wn_ended_again, wn_ended_leave, wn_ended_guard, wn_ended_left, wn_ended_error, wn_ended_asks, wn_left_step, wn_left_raise, wn_left_from, wn_left_hide, wn_left_again, wn_left_leave, wn_left_guard, wn_left_ended, wn_left_error, wn_left_asks, wn_error_step, wn_error_raise, wn_error_from, wn_error_hide, wn_error_again, wn_error_leave, wn_error_guard, wn_error_ended, wn_error_left, wn_error_asks, wn_asks_step, wn_asks_raise, wn_asks_from, wn_asks_hide, wn_asks_again, wn_asks_leave, wn_asks_guard, wn_asks_ended, wn_asks_left, wn_asks_error, elT_pyC, elT_pyT, isNonC, pyAll_ints, elL_ints, ints_len, flA_ints, flA_mapI, flD_int, flA_int, inV_ints, fV_objR, py_fz, shr_objR, insR_run_row, insR_run_statement, insR_run_step, insR_run_guard, insR_run_handlers, insR_get_over, ev_vw_t, ev_vw_s, ev_tk_t, ev_tk_s, ev_tks_n, ev_tks_c, ev_fw_t, ev_fw_s, ev_shr_fz, ev_shr_dct, ev_shr_ob, ev_shr_own, ev_shr_tup, ev_shr_pur, ev_shr_obj, ev_shr_set, ev_shr_odc, ev_in_str, ev_in_int, ev_in_bool, ev_in_list, ev_in_tuple, ev_in_none, ev_in_own, ev_in_tup, ev_in_pur, ev_in_dct, ev_in_odc, ev_in_set, ev_tr_none, ev_tr_bool, ev_tr_int, ev_tr_list, ev_tr_tuple, ev_tr_own, ev_tr_tup, ev_tr_dct, ev_len_l, ev_len_t, ev_len_o, ev_len_u, ev_fld_obj, ev_fld_ob, ev_ins_obj, ev_ins_ob, ev_tup_fz, ev_tup_tup, ev_gc_cons, ev_gc_nil, ev_mk1, ev_mk2, ev_mk3, ev_mk4, ev_mk_own0, ev_mk_tup0, ev_mk_own1, ev_mk_own2, ev_mk_tup1, ev_mk_tup2, strs_snoc, Option.isSome_some, Option.isSome_none, Option.map_none, fbanswers_ran, fbanswers_ran', fbanswers_over, fbanswers_over', fbanswers_out, fbanswers_out', fbanswers_row, fbanswers_row', fbanswers_steps, fbanswers_steps', fbanswers_names, fbanswers_names', fbran_answers, fbran_answers', fbran_over, fbran_over', fbran_out, fbran_out', fbran_row, fbran_row', fbran_steps, fbran_steps', fbran_names, fbran_names', fbover_answers, fbover_answers', fbover_ran, fbover_ran', fbover_out, fbover_out', fbover_row, fbover_row', fbover_steps, fbover_steps', fbover_names, fbover_names', fbout_answers, fbout_answers', fbout_ran, fbout_ran', fbout_over, fbout_over', fbout_row, fbout_row', fbout_steps, fbout_steps', fbout_names, fbout_names', fbrow_answers, fbrow_answers', fbrow_ran, fbrow_ran', fbrow_over, fbrow_over', fbrow_out, fbrow_out', fbrow_steps, fbrow_steps', fbrow_names, fbrow_names', fbsteps_answers, fbsteps_answers', fbsteps_ran, fbsteps_ran', fbsteps_over, fbsteps_over', fbsteps_out, fbsteps_out', fbsteps_row, fbsteps_row', fbsteps_names, fbsteps_names', fbnames_answers, fbnames_answers', fbnames_ran, fbnames_ran', fbnames_over, fbnames_over', fbnames_out, fbnames_out', fbnames_row, fbnames_row', fbnames_steps, fbnames_steps', gCatT_fz, ne_eq, not_false_eq_true, flD_str, flA_nil, flA_str, flA_map, flA_strs, inV_nil, inV_str, inV_strs, fzD_set, D.set.injEq, gSortedT, sl1g, sl1_1, sl1_2, sl1_3, sl1_4, cut1, pyAll_mapfz, pyAll_snoc, Option.map_some, fz_map, shr_map, gEqS, gEqI, gEqD, gIxT, gIxL, gIxS, gLen, gLenS, gInt, gListOf, gIs, gIn, gCat, gSlT, gSlL, OwnD.gAll, gInS, putO, rpl, wipeD, List.getD_cons_zero, List.getD_cons_succ, List.set_cons_zero, List.set_cons_succ, List.length_cons, List.length_nil, List.replicate, List.map_cons, List.map_nil, List.cons_append, List.nil_append, List.all_cons, List.all_nil, List.zip_cons_cons, List.zip_nil_left, List.lookup_cons, List.lookup_nil, List.isEmpty_cons, List.isEmpty_nil, List.length_map, stms_len, strs_len, D.fz.injEq, D.own.injEq, D.dct.injEq, D.obj.injEq, PyData.str.injEq, PyData.int.injEq, PyData.list.injEq, PyData.tuple.injEq, PyData.bool.injEq, Option.some.injEq, List.cons.injEq, exists_eq_left', exists_eq_left, exists_eq_right', exists_eq_right, and_true, true_and, Bool.and_true, Bool.true_and, reduceCtorEq, decide_true, decide_false, decide_eq_true_eq, Bool.not_true, Bool.not_false, Bool.false_eq_true, Bool.false_and, Bool.and_false, Bool.true_or, Bool.false_or, Bool.or_false, Bool.or_eq_true, Bool.or_true, Bool.or_false, beq_self_eq_true, ite_true, ite_false, ite_self, exists_const, exists_eq, exists_eq', atI_0, atI_1, atI_2, atI_3, szl0, szl1, szl2, szl3, szl4, exists_and_left, and_assoc, if_true, if_false, Nat.reduceAdd, Nat.reduceSub, Nat.sub_self]))
/-! ### what is told -/
def pyA (c : Ch) : PyData := .list (c.map fun t => .tuple [.str t.1, .str t.2.1])
def gAnew : GD := fun ds Q => ∃ c, ds = [.fz (pyC c)] ∧ c.length ≤ 1000 ∧ Q (.own (c.map fun t => .fz (.tuple [.str t.1, .str t.2.1]))) [.fz (pyC c)]
theorem ok_anew (T : Txt w K mg) : FnOk P w K mg base CX0 1 T.f_chain_anew T.d_chain_anew ["chain"] (spD (Zt T) gAnew) := by
  refine defO [true] T.F_chain_anew sc_chain_anew rfl (fun ds Q h => by obtain ⟨c, rfl, _⟩ := h; rfl) (fun cdv A outer s H E hr => ?_)
  have hR := hr
  refine ⟨_, _, (pss_one (ps_ret (pe_lc (own := [("word", 1), ("name", 2), ("number", 3)]) (g := gTup K 3 (gCons (gName 1) (gCons (gName 2) (gCons (gName 3) gNil)))) rfl sc_chain_anew.nd (pi_tup (pv 0)) (blkOk_by (own := [("word", 1), ("name", 2), ("number", 3)]) (N := ["chain", "word", "name", "number"]) (sc := defScope s_chain_anew) (by decide +kernel)) (fun _ _ _ _ _ => (pg_tup (by rfl) (pgs_cons (pg_name (i := 1) sc_chain_anew.nd rfl (by first | exact Or.inl rfl | exact Or.inr rfl)) (pgs_cons (pg_name (i := 2) sc_chain_anew.nd rfl (by first | exact Or.inl rfl | exact Or.inr rfl)) (pgs_cons (pg_name (i := 3) sc_chain_anew.nd rfl (by first | exact Or.inl rfl | exact Or.inr rfl)) pgs_nil))))) (fun _ _ _ _ _ => pts_nil) (fun _ _ _ _ _ => (pe_tup (pa_cons (pv 1) (pa_cons (pv 2) pa_nil))))))), (fun En hp => (dLast (dRet (dLc (pinAll hp (by decide)) (dITup (dV 0)) (dgTup (n := 3) (dgCons (dgNameF (hp 1 rfl) (sw (by decide))) (dgCons (dgNameF (hp 2 rfl) (sw (by decide))) (dgCons (dgNameF (hp 3 rfl) (sw (by decide))) dgNil)))) dYes (dTup (dCons (dV 1) (dCons (dV 2) dNil))))))), ?_⟩
  rintro ds Q ⟨c, rfl, hc, q⟩
  rw [pyC] at q ⊢
  walk_at "ev"
  refine compD_map (fun t => D.fz (pyT t)) (fun t => D.fz (.tuple [.str t.1, .str t.2.1])) [.fz (.tuple (c.map pyT)), .hole, .hole, .hole] c [] _ (by simpa using hc) rfl (fun t rs acc δ hx ha hw k => ?_) ?_
  · rw [compD_cons, hw, pyT]
    walk_at "ev"
    exact ⟨ha, k _ rfl⟩
  · skip
    walk_at "ev"
    exact q
def gTold : GD := fun ds Q => ∃ o, ds = [.fz (pyO o)] ∧ (∀ c, o = .err c → c.length ≤ 1000) ∧ Q (ownO o) [.fz (pyO o)]
theorem ok_told (T : Txt w K mg) : FnOk P w K mg base CX0 2 T.f_told_anew T.d_told_anew ["out"] (spD (Zt T) gTold) := by
  refine defO [true] T.F_told_anew sc_told_anew rfl (fun ds Q h => by obtain ⟨c, rfl, _⟩ := h; rfl) (fun cdv A outer s H E hr => ?_)
  have hR := hr
  have G_chain_anew := ok_anew (P := P) (base := base) T
  refine ⟨_, _, (pss_cons (ps_if (pt_cmpR op_eq (pe_ix (r := rIxT K) ix_tup (pv 0) pe_int (fun _ _ => rfl)) pe_str (nomark _))
      (pss_one (ps_ret (pe_tup (pa_cons pe_str (pa_cons (pe_call G_chain_anew (hR.mono (by omega)) rfl T.m_chain_anew T.F_chain_anew.kp T.b_chain_anew .nil pass0 (pa_cons (pe_ix (r := rIxT K) ix_tup (pv 0) pe_int (fun _ _ => rfl)) pa_nil)) pa_nil)))))
      pss_nil)
      (pss_one (ps_ret (pv 0)))), (fun En hp => (dSeq (dIf (dTest (dEqS (dIxT (dV 0) (dInt _)) (dStr _)))
      (dLast (dRet (dTup (dCons (dStr _) (dCons (dCall (dCons (dIxT (dV 0) (dInt _)) dNil)) dNil)))))
      dNext)
      (dLast (dRet (dV 0))))), ?_⟩
  rintro ds Q ⟨o, rfl, hc, q⟩
  cases o with
  | err c =>
    walk_at "ev"
    refine gC.of ⟨c, rfl, hc c rfl, ?_⟩
    walk_at "ev"
    exact q
  | ended =>
    walk_at "ev"
    exact q
  | left =>
    walk_at "ev"
    exact q
  | asks x h =>
    walk_at "ev"
    exact q
/-! ### a run is made -/
def gInit (n : Nat) : GD := fun ds Q => ∃ kvs an r N i h, ds = [.obj 0 [] [], .fz (.list (pyR r)), .fz (pyHd h), .dct kvs] ∧ Ans kvs an ∧ Row n N i r ∧ Nams N ∧ Rgo (cntR r) (cntR r) i h ⟨[], []⟩ ∧ Q (.fz .none) [objO kvs (runR an r h ⟨[], []⟩).2 (runR an r h ⟨[], []⟩).1, .fz (.list (pyR r)), .fz (pyHd h), .dct kvs]
theorem ok_init (T : Txt w K mg) (n : Nat) : FnOk P w K mg base CX0 (5 * n + 5) T.f_Run___init__ T.d_Run___init__ ["self", "row", "handled", "answers"] (spD (Zt T) (gInit n)) := by
  refine defO [true, true, true, true] T.F_Run___init__ sc_Run___init__ rfl (fun ds Q h => by obtain ⟨a, b, c, d, e, f, rfl, _⟩ := h; rfl) (fun cdv A outer s H E hr => ?_)
  have hR := hr
  have G_Run_run_row := ok_run (P := P) (base := base) T n
  refine ⟨_, _, (pss_cons (ps_fld (pv 0) (pv 3) rfl)
      (pss_cons (ps_fld (pv 0) (pe_lst pa_nil) rfl)
      (pss_cons (ps_fld (pv 0) (pe_lst pa_nil) rfl)
      (pss_one (ps_fld (pv 0) (pe_meth (pv 0) T.cl_Run T.mt_Run_run_row G_Run_run_row (hR.mono (by omega)) T.b_Run_run_row .nil pass0 (pa_cons (pv 1) (pa_cons (pv 2) pa_nil))) rfl))))), (fun En hp => (dSeq (dSetF 0 0 T.cl_Run T.na_Run_answers (dV 3))
      (dSeq (dSetF 0 0 T.cl_Run T.na_Run_ran (dLst dNil))
      (dSeq (dSetF 0 0 T.cl_Run T.na_Run_over (dLst dNil))
      (dLast (dSetF 0 0 T.cl_Run T.na_Run_out (dMeth 0 (dV 0) (dCons (dV 1) (dCons (dV 2) dNil))))))))), ?_⟩
  rintro ds Q ⟨kvs, an, r, N, i, h, rfl, ha, hr, hN, hg, q⟩
  walk_at "ev"
  refine ⟨by decide +kernel, gC.of ⟨kvs, an, ⟨[], []⟩, r, N, i, h, rfl, ha, hr, hN, hg, rfl, ?_⟩⟩
  unfold objR
  walk_at "ev"
  exact q
def gLot (n : Nat) : GD := fun ds Q => ∃ (r : List Stm) (ys lot N : List Str), ds = [.fz (.list (pyR r)), .fz (.list (ys.map .str)), .fz (.list (lot.map .str))] ∧ Row n N false r ∧ Nams N ∧ ys.length ≤ 60 ∧
  (∀ kvs, Q (objO kvs (runR (anLot ys lot) r none ⟨[], []⟩).2 (runR (anLot ys lot) r none ⟨[], []⟩).1) [.fz (.list (pyR r)), .fz (.list (ys.map .str)), .fz (.list (lot.map .str))])
theorem ok_lot (T : Txt w K mg) (n : Nat) : FnOk P w K mg base CX0 (5 * n + 7) T.f_run_of_lot T.d_run_of_lot ["row", "steps", "lot"] (spD (Zt T) (gLot n)) := by
  refine defO [true, true, true] T.F_run_of_lot sc_run_of_lot rfl (fun ds Q h => by obtain ⟨a, b, c, d, rfl, _⟩ := h; rfl) (fun cdv A outer s H E hr => ?_)
  have hR := hr
  have G_Run___init__ := ok_init (P := P) (base := base) T n
  refine ⟨_, _, (pss_one (ps_ret (pe_make T.M_Run G_Run___init__ (hR.mono (by omega)) rfl T.m_Run T.b_Run___init__ .nil pass0 (pa_cons (pv 0) (pa_cons pe_non (pa_cons (pe_dc (own := [("step", 3)]) rfl sc_run_of_lot.nd (pi_list (pv 1)) (blkOk_by (own := [("step", 3)]) (N := ["row", "steps", "lot", "step"]) (sc := defScope s_run_of_lot) (by decide +kernel)) (fun _ _ _ _ _ => pg_name (i := 3) sc_run_of_lot.nd rfl (Or.inl rfl)) (fun _ _ _ _ _ => pts_nil) (fun _ _ _ _ _ => (pv 3)) (fun _ _ _ _ _ => (pe_cmpR (r := rIn K false) op_in_seq (pv 3) (pv 2) (by rfl)))) pa_nil)))))), (fun En hp => (dLast (dRet (dMake 0 (dCons (dV 0) (dCons dNon (dCons (dDc (pinAll hp (by decide)) (dIList (dV 1)) (dgNameF (hp 3 rfl) (sw (by decide))) dYes (dV 3) (dIn false (dV 3) (dV 2))) dNil))))))), ?_⟩
  rintro ds Q ⟨r, ys, lot, N, rfl, hr, hN, hl, q⟩
  walk_at "ev"
  refine turnK_acc (fun x => D.fz (.str x)) (fun done a δ => ∃ x, δ = [.fz (.list (pyR r)), .fz (.list (ys.map .str)), .fz (.list (lot.map .str)), x] ∧ a.length ≤ done.length ∧ ∀ x, a.lookup x = if x ∈ done then some (.bool (decide (x ∈ lot))) else none) ys _ _ ⟨_, rfl, Nat.le_refl _, fun x => rfl⟩ ?_ ?_
  · rintro x dn rest a δ e ⟨y, rfl, hal, hlk⟩ k
    rw [turnK_cons]
    have hle : dn.length ≤ 60 := by rw [e] at hl; simp only [List.length_append, List.length_cons] at hl; omega
    walk_at "ev"
    refine ⟨szN (by omega), k _ _ ⟨_, rfl, ?_, fun z => ?_⟩⟩
    · have := putD_len a x (.bool (decide (x ∈ lot)))
      rw [List.length_append, List.length_singleton]; omega
    · rw [lk_put, hlk]
      by_cases hz : z = x
      · subst hz; simp
      · rw [if_neg hz]; simp [hz]
  · rintro a δ ⟨y, rfl, hal, hlk⟩
    · skip
      walk_at "ev"
      have hc := hr.cnt
      refine gC.of ⟨a, anLot ys lot, r, N, false, none, rfl, ans_of hlk, hr, hN, ⟨fun c e => (by cases e), fun z => (by cases z), (by show 0 + _ ≤ 200; omega), (by show 0 + _ ≤ 1000; omega), (by show 0 + _ ≤ 30000; omega)⟩, ?_⟩
      walk_at "ev"
      exact q a
end
end Toy
namespace Toy
open PySem L2 Own
section
variable {P : Program} {w : World} {K : PySem.W.Frag} {mg : Str → Option Value} {base : Heap}

open OwnD
local macro_rules | `(tactic| walk_at "ev") => `(tactic| (simp only [f1, gRevL, ev_unl_fz, pyAll_o, pyAll_t, Option.bind_some, ev_mk_own3, cut_0, cut_11, atI_4, List.reverse_cons, List.reverse_nil, fVar_eq, fV_fz, fV_dct, fV_ob, fV_own, fV_tup, fV_pur, fV_obj, f2, f3, fI, fCB, fCall, fTst, fTruth, fNeg, fParF, fFld, fProp, fMeth, fMake, fSetF, fAppF, fExtF, fLenF, fAppend, fExtend, fClear, fReverse, fgSub, gKGet, gDIn, gDGet, gBoolT, fzD_fz, frB, backs, bkD, startD, endD, elL_fz, elL_own, elT_fz, elT_tup, elS_fl, elS_ft, fzD_own, fzD_tup, fzD_odc, fzD_dct, fzD_pur, fzD_ob, pyAll_nil, pyAll_fz, pyAll_map, pyAll_strs, pyAll_stms, fVarZ, Int.reduceLT, Int.reduceSub, Int.reduceEq, Int.reduceAdd, gSlL, cut_map, pyAll_sn, pyAll_ap, gAddS, gSlS, fV_obP, shr_obP, fzD_obP, fldP_row, fldP_steps, fldP_names, insP_tells, insP_run, insP_row, insP_steps, insP_names, insP__run_with, insP_at, insP_without, insP_e, obP_of, Nat.reduceLT, or_false, false_or, or_true, true_or, pyO_err, pyO_ended, pyO_left, pyO_asks, wn_step_raise, wn_step_from, wn_step_hide, wn_step_again, wn_step_leave, wn_step_guard, wn_step_ended, wn_step_left, wn_step_error, wn_step_asks, wn_raise_step, wn_raise_from, wn_raise_hide, wn_raise_again, wn_raise_leave, wn_raise_guard, wn_raise_ended, wn_raise_left, wn_raise_error, wn_raise_asks, wn_from_step, wn_from_raise, wn_from_hide, wn_from_again, wn_from_leave, wn_from_guard, wn_from_ended, wn_from_left, wn_from_error, wn_from_asks, wn_hide_step, wn_hide_raise, wn_hide_from, wn_hide_again, wn_hide_leave, wn_hide_guard, wn_hide_ended, wn_hide_left, wn_hide_error, wn_hide_asks, wn_again_step, wn_again_raise, wn_again_from, wn_again_hide, wn_again_leave, wn_again_guard, wn_again_ended, wn_again_left, wn_again_error, wn_again_asks, wn_leave_step, wn_leave_raise, wn_leave_from, wn_leave_hide, wn_leave_again, wn_leave_guard, wn_leave_ended, wn_leave_left, wn_leave_error, wn_leave_asks, wn_guard_step, wn_guard_raise, wn_guard_from, wn_guard_hide, wn_guard_again, wn_guard_leave, wn_guard_ended, wn_guard_left, wn_guard_error, wn_guard_asks, wn_ended_step, wn_ended_raise, wn_ended_from, wn_ended_hide, wn_ended_again, wn_ended_leave, wn_ended_guard, wn_ended_left, wn_ended_error, wn_ended_asks, wn_left_step, wn_left_raise, wn_left_from, wn_left_hide, wn_left_again, wn_left_leave, wn_left_guard, wn_left_ended, wn_left_error, wn_left_asks, wn_error_step, wn_error_raise, wn_error_from, wn_error_hide, wn_error_again, wn_error_leave, wn_error_guard, wn_error_ended, wn_error_left, wn_error_asks, wn_asks_step, wn_asks_raise, wn_asks_from, wn_asks_hide, wn_asks_again, wn_asks_leave, wn_asks_guard, wn_asks_ended, wn_asks_left, wn_asks_error, elT_pyC, elT_pyT, isNonC, pyAll_ints, elL_ints, ints_len, flA_ints, flA_mapI, flD_int, flA_int, inV_ints, fV_objR, py_fz, shr_objR, insR_run_row, insR_run_statement, insR_run_step, insR_run_guard, insR_run_handlers, insR_get_over, ev_vw_t, ev_vw_s, ev_tk_t, ev_tk_s, ev_tks_n, ev_tks_c, ev_fw_t, ev_fw_s, ev_shr_fz, ev_shr_dct, ev_shr_ob, ev_shr_own, ev_shr_tup, ev_shr_pur, ev_shr_obj, ev_shr_set, ev_shr_odc, ev_in_str, ev_in_int, ev_in_bool, ev_in_list, ev_in_tuple, ev_in_none, ev_in_own, ev_in_tup, ev_in_pur, ev_in_dct, ev_in_odc, ev_in_set, ev_tr_none, ev_tr_bool, ev_tr_int, ev_tr_list, ev_tr_tuple, ev_tr_own, ev_tr_tup, ev_tr_dct, ev_len_l, ev_len_t, ev_len_o, ev_len_u, ev_fld_obj, ev_fld_ob, ev_ins_obj, ev_ins_ob, ev_tup_fz, ev_tup_tup, ev_gc_cons, ev_gc_nil, ev_mk1, ev_mk2, ev_mk3, ev_mk4, ev_mk_own0, ev_mk_tup0, ev_mk_own1, ev_mk_own2, ev_mk_tup1, ev_mk_tup2, strs_snoc, Option.isSome_some, Option.isSome_none, Option.map_none, fbanswers_ran, fbanswers_ran', fbanswers_over, fbanswers_over', fbanswers_out, fbanswers_out', fbanswers_row, fbanswers_row', fbanswers_steps, fbanswers_steps', fbanswers_names, fbanswers_names', fbran_answers, fbran_answers', fbran_over, fbran_over', fbran_out, fbran_out', fbran_row, fbran_row', fbran_steps, fbran_steps', fbran_names, fbran_names', fbover_answers, fbover_answers', fbover_ran, fbover_ran', fbover_out, fbover_out', fbover_row, fbover_row', fbover_steps, fbover_steps', fbover_names, fbover_names', fbout_answers, fbout_answers', fbout_ran, fbout_ran', fbout_over, fbout_over', fbout_row, fbout_row', fbout_steps, fbout_steps', fbout_names, fbout_names', fbrow_answers, fbrow_answers', fbrow_ran, fbrow_ran', fbrow_over, fbrow_over', fbrow_out, fbrow_out', fbrow_steps, fbrow_steps', fbrow_names, fbrow_names', fbsteps_answers, fbsteps_answers', fbsteps_ran, fbsteps_ran', fbsteps_over, fbsteps_over', fbsteps_out, fbsteps_out', fbsteps_row, fbsteps_row', fbsteps_names, fbsteps_names', fbnames_answers, fbnames_answers', fbnames_ran, fbnames_ran', fbnames_over, fbnames_over', fbnames_out, fbnames_out', fbnames_row, fbnames_row', fbnames_steps, fbnames_steps', gCatT_fz, ne_eq, not_false_eq_true, flD_str, flA_nil, flA_str, flA_map, flA_strs, inV_nil, inV_str, inV_strs, fzD_set, D.set.injEq, gSortedT, sl1g, sl1_1, sl1_2, sl1_3, sl1_4, cut1, pyAll_mapfz, pyAll_snoc, Option.map_some, fz_map, shr_map, gEqS, gEqI, gEqD, gIxT, gIxL, gIxS, gLen, gLenS, gInt, gListOf, gIs, gIn, gCat, gSlT, gSlL, OwnD.gAll, gInS, putO, rpl, wipeD, List.getD_cons_zero, List.getD_cons_succ, List.set_cons_zero, List.set_cons_succ, List.length_cons, List.length_nil, List.replicate, List.map_cons, List.map_nil, List.cons_append, List.nil_append, List.all_cons, List.all_nil, List.zip_cons_cons, List.zip_nil_left, List.lookup_cons, List.lookup_nil, List.isEmpty_cons, List.isEmpty_nil, List.length_map, stms_len, strs_len, D.fz.injEq, D.own.injEq, D.dct.injEq, D.obj.injEq, PyData.str.injEq, PyData.int.injEq, PyData.list.injEq, PyData.tuple.injEq, PyData.bool.injEq, Option.some.injEq, List.cons.injEq, exists_eq_left', exists_eq_left, exists_eq_right', exists_eq_right, and_true, true_and, Bool.and_true, Bool.true_and, reduceCtorEq, decide_true, decide_false, decide_eq_true_eq, Bool.not_true, Bool.not_false, Bool.false_eq_true, Bool.false_and, Bool.and_false, Bool.true_or, Bool.false_or, Bool.or_false, Bool.or_eq_true, Bool.or_true, Bool.or_false, beq_self_eq_true, ite_true, ite_false, ite_self, exists_const, exists_eq, exists_eq', atI_0, atI_1, atI_2, atI_3, szl0, szl1, szl2, szl3, szl4, exists_and_left, and_assoc, if_true, if_false, Nat.reduceAdd, Nat.reduceSub, Nat.sub_self]))
/-! ### a program -/
def gProg (n : Nat) : GD := fun ds Q => ∃ r N, ds = [.obj 1 [] [], .fz (.list (pyR r))] ∧ Row n N false r ∧ Nams N ∧ n ≤ 400 ∧ ∀ ys zs, Srt ys (stepsR r) → Srt zs (namesR r) → Q (.fz .none) [.obj 1 ["_row", "_steps", "_names"] [.own (ownR r), .own (strsD ys), .own (strsD zs)], .fz (.list (pyR r))]
theorem ok_prog (T : Txt w K mg) (n : Nat) : FnOk P w K mg base CX0 (3 * n + 6) T.f_Program___init__ T.d_Program___init__ ["self", "row"] (spD (Zt T) (gProg n)) := by
  refine defO [true, true] T.F_Program___init__ sc_Program___init__ rfl (fun ds Q h => by obtain ⟨a, b, rfl, _⟩ := h; rfl) (fun cdv A outer s H E hr => ?_)
  have hR := hr
  have G_check_row := ok_chk (P := P) (base := base) T n
  have G_copied_row := (ok_copies (P := P) (base := base) T n).1
  have G_row_steps := ok_steps (P := P) (base := base) T n
  have G_row_names := ok_rnames (P := P) (base := base) T n
  refine ⟨_, _, (pss_cons (ps_expr (pe_call G_check_row (hR.mono (by omega)) rfl T.m_check_row T.F_check_row.kp T.b_check_row .nil pass0 (pa_cons (pv 1) (pa_cons (pe_lst pa_nil) (pa_cons pe_bl pa_nil)))))
      (pss_cons (ps_fld (pv 0) (pe_call G_copied_row (hR.mono (by omega)) rfl T.m_copied_row T.F_copied_row.kp T.b_copied_row .nil pass0 (pa_cons (pv 1) pa_nil)) rfl)
      (pss_cons (ps_fld (pv 0) (pe_call G_row_steps (hR.mono (by omega)) rfl T.m_row_steps T.F_row_steps.kp T.b_row_steps .nil pass0 (pa_cons (pv 1) pa_nil)) rfl)
      (pss_one (ps_fld (pv 0) (pe_call G_row_names (hR.mono (by omega)) rfl T.m_row_names T.F_row_names.kp T.b_row_names .nil pass0 (pa_cons (pv 1) pa_nil)) rfl))))), (fun En hp => (dSeq (dDrop (dCall (dCons (dV 1) (dCons (dLst dNil) (dCons (dBl _) dNil)))))
      (dSeq (dSetF 0 1 T.cl_Program T.na_Program__row (dCall (dCons (dV 1) dNil)))
      (dSeq (dSetF 0 1 T.cl_Program T.na_Program__steps (dCall (dCons (dV 1) dNil)))
      (dLast (dSetF 0 1 T.cl_Program T.na_Program__names (dCall (dCons (dV 1) dNil)))))))), ?_⟩
  rintro ds Q ⟨r, N, rfl, hr, hN, hn, q⟩
  walk_at "ev"
  refine gC.of ⟨r, N, false, [], false, rfl, hr, hN, fun z => z, by show 0 + 2 * n < _; omega, ?_⟩
  walk_at "ev"
  refine gC.of ⟨r, N, false, rfl, hr, ?_⟩
  walk_at "ev"
  refine gC.of ⟨r, N, false, rfl, hr, hN.len, fun ys hy => ?_⟩
  walk_at "ev"
  refine gC.of ⟨r, N, false, rfl, hr, hN.len, fun zs hz => ?_⟩
  walk_at "ev"
  exact q ys zs hy hz
def gPsteps : GD := fun ds Q => ∃ r ys zs, ds = [obP r ys zs] ∧ Q (.own (strsD ys)) [obP r ys zs]
theorem ok_psteps (T : Txt w K mg) : FnOk P w K mg base CX0 1 T.f_Program_steps T.d_Program_steps ["self"] (spD (Zt T) gPsteps) := by
  refine defO [true] T.F_Program_steps sc_Program_steps rfl (fun ds Q h => by obtain ⟨a, b, c, rfl, _⟩ := h; rfl) (fun cdv A outer s H E hr => ?_)
  have hR := hr
  refine ⟨_, _, (pss_one (ps_ret (pe_callTy call_list_of (by rfl) T.z_list (by decide +kernel) (pa_cons (pe_fld (pv 0) rfl) pa_nil)))), (fun En hp => (dLast (dRet (dListOf (dCons (dFld 1 T.cl_Program T.na_Program__steps (dV 0)) dNil))))), ?_⟩
  rintro ds Q ⟨r, ys, zs, rfl, q⟩
  walk_at "ev"
  exact q
def gProw (n : Nat) : GD := fun ds Q => ∃ r ys zs N i, ds = [obP r ys zs] ∧ Row n N i r ∧ Q (.own (ownR r)) [obP r ys zs]
theorem ok_prow (T : Txt w K mg) (n : Nat) : FnOk P w K mg base CX0 (3 * n + 3) T.f_Program_row T.d_Program_row ["self"] (spD (Zt T) (gProw n)) := by
  refine defO [true] T.F_Program_row sc_Program_row rfl (fun ds Q h => by obtain ⟨a, b, c, N, i, rfl, _⟩ := h; rfl) (fun cdv A outer s H E hr => ?_)
  have hR := hr
  have G_copied_row := (ok_copies (P := P) (base := base) T n).1
  refine ⟨_, _, (pss_one (ps_ret (pe_call G_copied_row (hR.mono (by omega)) rfl T.m_copied_row T.F_copied_row.kp T.b_copied_row .nil pass0 (pa_cons (pe_fld (pv 0) rfl) pa_nil)))), (fun En hp => (dLast (dRet (dCall (dCons (dFld 1 T.cl_Program T.na_Program__row (dV 0)) dNil))))), ?_⟩
  rintro ds Q ⟨r, ys, zs, N, i, rfl, hr, q⟩
  walk_at "ev"
  refine gC.of ⟨r, N, i, rfl, hr, ?_⟩
  walk_at "ev"
  exact q
def gWith (n : Nat) : GD := fun ds Q => ∃ (r : List Stm) (ys zs lot N : List Str), ds = [obP r ys zs, .fz (.list (lot.map .str))] ∧ Row n N false r ∧ Nams N ∧ ys.length ≤ 60 ∧ (∀ x ∈ lot, x ∈ ys) ∧
  (∀ kvs, Q (objO kvs (runR (anLot ys lot) r none ⟨[], []⟩).2 (runR (anLot ys lot) r none ⟨[], []⟩).1) [obP r ys zs, .fz (.list (lot.map .str))])
theorem ok_with (T : Txt w K mg) (n : Nat) : FnOk P w K mg base CX0 (5 * n + 8) T.f_Program__run_with T.d_Program__run_with ["self", "lot"] (spD (Zt T) (gWith n)) := by
  refine defO [true, true] T.F_Program__run_with sc_Program__run_with rfl (fun ds Q h => by obtain ⟨a, b, c, d, e, rfl, _⟩ := h; rfl) (fun cdv A outer s H E hr => ?_)
  have hR := hr
  have G_run_of_lot := ok_lot (P := P) (base := base) T n
  refine ⟨_, _, (pss_cons (ps_for PassesOwn.never rfl (pi_list (pv 1)) (pg_name (i := 2) sc_Program__run_with.nd rfl (by first | exact Or.inl rfl | exact Or.inr rfl))
      (pss_one (ps_if (pt_cmpR (r := rIn K true) op_notIn_seq (pv 2) (pe_fld (pv 0) rfl) (by rfl))
      (pss_one ps_never)
      pss_nil)))
      (pss_one (ps_ret (pe_call G_run_of_lot (hR.mono (by omega)) rfl T.m_run_of_lot T.F_run_of_lot.kp T.b_run_of_lot .nil pass0 (pa_cons (pe_fld (pv 0) rfl) (pa_cons (pe_fld (pv 0) rfl) (pa_cons (pv 1) pa_nil))))))), (fun En hp => (dSeq (dFor (dIList (dV 1)) (dgNameF (S := sAny) (hp 2 rfl) sOk)
      (dLast (dIf (dTest (dIn true (dV 2) (dFld 1 T.cl_Program T.na_Program__steps (dV 0))))
      (dLast dNever)
      dNext)))
      (dLast (dRet (dCall (dCons (dFld 1 T.cl_Program T.na_Program__row (dV 0)) (dCons (dFld 1 T.cl_Program T.na_Program__steps (dV 0)) (dCons (dV 1) dNil)))))))), ?_⟩
  rintro ds Q ⟨r, ys, zs, lot, N, rfl, hr, hN, hy, hl, q⟩
  walk_at "ev"
  refine loopD_acc (fun x => D.fz (.str x)) (fun _ δ => ∃ y, δ = [obP r ys zs, .fz (.list (lot.map .str)), y]) lot _ ⟨_, rfl⟩ ?_ ?_
  · rintro x dn rest δ e ⟨y, rfl⟩ k
    rw [loopD_cons]
    have hx : x ∈ ys := hl x (by rw [e]; simp)
    walk_at "ev"
    rw [decide_eq_true hx]
    walk_at "ev"
    exact k _ ⟨_, rfl⟩
  · rintro δ ⟨y, rfl⟩
    · skip
      walk_at "ev"
      refine gC.of ⟨r, ys, lot, N, rfl, hr, hN, hy, fun kvs => ?_⟩
      walk_at "ev"
      exact q kvs
def gTells (n : Nat) : GD := fun ds Q => ∃ (r : List Stm) (ys zs lot N : List Str), ds = [obP r ys zs, .fz (.list (lot.map .str))] ∧ Row n N false r ∧ Nams N ∧ ys.length ≤ 60 ∧ (∀ x ∈ lot, x ∈ ys) ∧ Q (ownO (runR (anLot ys lot) r none ⟨[], []⟩).1) [obP r ys zs, .fz (.list (lot.map .str))]
theorem run0_b (an : Str → Option Bool) {n : Nat} {N : List Str} (hN : Nams N) {r : List Stm} (hr : Row n N false r) : RB none (cntR r) (cntR r) ⟨[], []⟩ (runR an r none ⟨[], []⟩) :=
  runR_b an hN r none ⟨[], []⟩ hr.fine (fun c e => by cases e) (fun z => by cases z) (by have := hr.cnt; show 0 + _ ≤ 200; omega)
theorem ok_tells (T : Txt w K mg) (n : Nat) : FnOk P w K mg base CX0 (5 * n + 9) T.f_Program_tells T.d_Program_tells ["self", "lot"] (spD (Zt T) (gTells n)) := by
  refine defO [true, true] T.F_Program_tells sc_Program_tells rfl (fun ds Q h => by obtain ⟨a, b, c, d, e, rfl, _⟩ := h; rfl) (fun cdv A outer s H E hr => ?_)
  have hR := hr
  have G_Program__run_with := ok_with (P := P) (base := base) T n
  have G_told_anew := ok_told (P := P) (base := base) T
  refine ⟨_, _, (pss_one (ps_ret (pe_call G_told_anew (hR.mono (by omega)) rfl T.m_told_anew T.F_told_anew.kp T.b_told_anew .nil pass0 (pa_cons (pe_fld (pe_meth (pv 0) T.cl_Program T.mt_Program__run_with G_Program__run_with (hR.mono (by omega)) T.b_Program__run_with .nil pass0 (pa_cons (pv 1) pa_nil)) rfl) pa_nil)))), (fun En hp => (dLast (dRet (dCall (dCons (dFld 0 T.cl_Run T.na_Run_out (dMeth 1 (dV 0) (dCons (dV 1) dNil))) dNil))))), ?_⟩
  rintro ds Q ⟨r, ys, zs, lot, N, rfl, hr, hN, hy, hl, q⟩
  have rb := run0_b (anLot ys lot) hN hr
  have hc := hr.cnt
  walk_at "ev"
  refine gC.of ⟨r, ys, zs, lot, N, rfl, hr, hN, hy, hl, fun kvs => ⟨rfl, ?_⟩⟩
  unfold objO
  walk_at "ev"
  refine gC.of ⟨_, rfl, fun c e => (by have := (rb.err c e).2; have e3 : OwnD.hl none = 0 := rfl; omega), ?_⟩
  walk_at "ev"
  exact q
def gRun (n : Nat) : GD := fun ds Q => ∃ (r : List Stm) (ys zs lot N : List Str), ds = [obP r ys zs, .fz (.list (lot.map .str))] ∧ Row n N false r ∧ Nams N ∧ ys.length ≤ 60 ∧ (∀ x ∈ lot, x ∈ ys) ∧ Q (.own (strsD (runR (anLot ys lot) r none ⟨[], []⟩).2.ran)) [obP r ys zs, .fz (.list (lot.map .str))]
theorem ok_prun (T : Txt w K mg) (n : Nat) : FnOk P w K mg base CX0 (5 * n + 9) T.f_Program_run T.d_Program_run ["self", "lot"] (spD (Zt T) (gRun n)) := by
  refine defO [true, true] T.F_Program_run sc_Program_run rfl (fun ds Q h => by obtain ⟨a, b, c, d, e, rfl, _⟩ := h; rfl) (fun cdv A outer s H E hr => ?_)
  have hR := hr
  have G_Program__run_with := ok_with (P := P) (base := base) T n
  refine ⟨_, _, (pss_one (ps_ret (pe_fld (pe_meth (pv 0) T.cl_Program T.mt_Program__run_with G_Program__run_with (hR.mono (by omega)) T.b_Program__run_with .nil pass0 (pa_cons (pv 1) pa_nil)) rfl))), (fun En hp => (dLast (dRet (dFld 0 T.cl_Run T.na_Run_ran (dMeth 1 (dV 0) (dCons (dV 1) dNil)))))), ?_⟩
  rintro ds Q ⟨r, ys, zs, lot, N, rfl, hr, hN, hy, hl, q⟩
  walk_at "ev"
  refine gC.of ⟨r, ys, zs, lot, N, rfl, hr, hN, hy, hl, fun kvs => ⟨rfl, ?_⟩⟩
  unfold objO
  walk_at "ev"
  exact q
end
end Toy
namespace Toy
open PySem L2 Own
section
variable {P : Program} {w : World} {K : PySem.W.Frag} {mg : Str → Option Value} {base : Heap}

open OwnD
/-! ### draws -/
theorem Pu.mono {H : Hp} {p : Addr} {n m : Nat} (h : Pu H p n) (e : n ≤ m) : Pu H p m := by
  obtain ⟨a, b, c, h1, h2, h3, h4, h5⟩ := h
  exact ⟨a, b, c, h1, h2, h3, h4, by omega⟩
theorem Pu.put {H H' : Hp} {p : Addr} {n : Nat} {ps : List Addr} (h : Pu H p n) (e : But ps H H') (q : p ∉ ps) : Pu H' p n := by
  obtain ⟨a, b, c, h1, h2⟩ := h
  exact ⟨a, b, c, e _ _ q h1, h2⟩
def spPurse (K : PySem.W.Frag) : Sp := fun vs H Q _ => ∃ (a : Addr) (ns : List Int) (i : Int), vs = [.ref a, .int i] ∧ SqL K H a (ns.map V.int) ∧ ns.length ≤ 63 ∧ 0 ≤ i ∧ i < 100 ∧ ∀ p, H p = none → ∀ H', Same H H' → Pu H' p 0 → Q (.ref p) H'
def spCoin : Sp := fun vs H Q _ => ∃ (p : Addr) (m : Int) (n : Nat), vs = [.ref p, .int m] ∧ Pu H p n ∧ n < 10 ^ 20 ∧ 0 < m ∧ m < 10 ^ 25 ∧
  ∀ (r : Int) (H' : Hp), 0 ≤ r → r < m → But [p] H H' → Pu H' p (n + 1) → Q (.int r) H'
theorem ok_purse (T : Txt w K mg) : FnG P w K mg base CX0 1 T.f__law_well T.d__law_well ["script", "spot"] (spPurse K) := by
  refine def_ok T.F__law_well sc__law_well (fun vs H Q E h => ?_) (fun cdv A outer s H vs Q E hr h => ?_)
  · obtain ⟨a, d, q, rfl, _⟩ := h
    rfl
  obtain ⟨a, ns, i, rfl, hS, hl, h0, h1, hq⟩ := h
  refine ⟨_, (pss_cons (ps_set (i := 2) sc__law_well.nd rfl (by first | exact Or.inl rfl | exact Or.inr rfl) (pe_ifExp (pt_cmpR op_lt (pv 1) (pe_callB call_len_seq (by rfl) T.z_len (by decide +kernel) (pa_cons (pv 0) pa_nil)) (nomark _)) (pe_ix (r := rIxL K) ix_list (pv 0) (pv 1) (fun _ _ => rfl)) pe_int))
      (pss_one (ps_ret (pe_lst (pa_cons (pe_callB (call_max2 rfl) (by rfl) T.z_max (by decide +kernel) (pa_cons pe_int (pa_cons (pe_op op_sub (pe_callB call_abs (by rfl) T.z_abs (by decide +kernel) (pa_cons (pv 2) pa_nil)) (pe_op op_powB pe_int pe_int)) pa_nil))) (pa_cons (pe_op op_mod (pe_callTy call_int1 (by rfl) T.z_int (by decide +kernel) (pa_cons (pe_op op_add (pe_op op_add (pe_op op_mul (pv 2) pe_int) (pe_op op_mul (pv 1) pe_int)) pe_int) pa_nil)) (pe_op op_add (pe_op op_powB pe_int pe_int) pe_int)) (pa_cons pe_int pa_nil))))))), ?_⟩
  have hlen : (ns.map V.int).length = ns.length := List.length_map _
  refine ⟨_, rfl, _, rfl, a, _, rfl, .inl hS, _, _, rfl, rfl, _, rfl, ?_⟩
  refine ite2 (fun z => ?_) (fun z => ?_)
  · have z' : i < (((ns.map V.int).length : Nat) : Int) := of_decide_eq_true z
    rw [hlen] at z'
    have hk : i.toNat < ns.length := by omega
    refine ⟨_, rfl, _, rfl, a, _, i, .int ns[i.toNat], rfl, rfl, hS, at_of (j := i.toNat) (by omega) (by rw [List.getElem?_map, List.getElem?_eq_getElem hk]; rfl), ?_⟩
    refine ⟨_, rfl, _, rfl, _, _, rfl, rfl, ⟨by decide, by decide, by decide +kernel⟩, _, _, rfl, rfl, _, _, rfl, ?_⟩
    refine ⟨_, rfl, _, _, rfl, rfl, .inr ⟨by decide, by decide⟩, _, rfl, _, _, rfl, rfl, .inr ⟨by decide, by decide⟩, _, _, rfl, rfl, _, _, rfl, rfl, .inl ⟨_, rfl, ?_⟩⟩
    refine ⟨_, _, rfl, rfl, ⟨by decide, by decide, by decide +kernel⟩, _, _, rfl, rfl, _, _, rfl, rfl, (by show (0 : Int) < 10 ^ (24 : Int).toNat + 7; decide +kernel), ?_⟩
    refine ⟨(by show 3 ≤ sizeLine; decide), fun l hl2 => ?_⟩
    refine hq l hl2 _ (same_new hl2 _) ⟨_, _, _, upd_same, Int.emod_nonneg _ (by decide +kernel), Int.lt_trans (Int.emod_lt_of_pos _ (by decide +kernel)) (by decide +kernel), by decide, by decide⟩
  · skip
    refine ⟨_, rfl, _, rfl, _, _, rfl, rfl, ⟨by decide, by decide, by decide +kernel⟩, _, _, rfl, rfl, _, _, rfl, ?_⟩
    refine ⟨_, rfl, _, _, rfl, rfl, .inr ⟨by decide, by decide⟩, _, rfl, _, _, rfl, rfl, .inr ⟨by decide, by decide⟩, _, _, rfl, rfl, _, _, rfl, rfl, .inl ⟨_, rfl, ?_⟩⟩
    refine ⟨_, _, rfl, rfl, ⟨by decide, by decide, by decide +kernel⟩, _, _, rfl, rfl, _, _, rfl, rfl, (by show (0 : Int) < 10 ^ (24 : Int).toNat + 7; decide +kernel), ?_⟩
    refine ⟨(by show 3 ≤ sizeLine; decide), fun l hl2 => ?_⟩
    refine hq l hl2 _ (same_new hl2 _) ⟨_, _, _, upd_same, Int.emod_nonneg _ (by decide +kernel), Int.lt_trans (Int.emod_lt_of_pos _ (by decide +kernel)) (by decide +kernel), by decide, by decide⟩
theorem ok_coin (T : Txt w K mg) : FnG P w K mg base CX0 1 T.f__law_draw T.d__law_draw ["well", "many"] spCoin := by
  refine def_ok T.F__law_draw sc__law_draw (fun vs H Q E h => ?_) (fun cdv A outer s H vs Q E hr h => ?_)
  · obtain ⟨a, d, q, rfl, _⟩ := h
    rfl
  obtain ⟨p, m, n, rfl, ⟨a, b, c, hp, b0, b1, c0, c1⟩, hn, m0, m1, hq⟩ := h
  refine ⟨_, (pss_cons (ps_if (pt_cmpR op_gt (pe_ix (r := rIxL K) ix_list (pv 0) pe_int (fun _ _ => rfl)) pe_int (nomark _))
      (pss_cons (ps_set (i := 2) sc__law_draw.nd rfl (by first | exact Or.inl rfl | exact Or.inr rfl) (pe_op op_mod (pe_callTy call_int1 (by rfl) T.z_int (by decide +kernel) (pa_cons (pe_ix (r := rIxL K) ix_list (pv 0) pe_int (fun _ _ => rfl)) pa_nil)) (pv 1)))
      (pss_cons (ps_asg (pe_op op_fdivW (pe_ix (r := rIxL K) ix_list (pv 0) pe_int (fun _ _ => rfl)) (pv 1)) (pg_sub (pv 0) pe_int set_list))
      (pss_one (ps_ret (pv 2)))))
      pss_nil)
      (pss_cons (ps_asg (pe_op op_add (pe_ix (r := rIxL K) ix_list (pv 0) pe_int (fun _ _ => rfl)) pe_int) (pg_sub (pv 0) pe_int set_list))
      (pss_cons (ps_set (i := 3) sc__law_draw.nd rfl (by first | exact Or.inl rfl | exact Or.inr rfl) (pe_op op_mod (pe_op op_powB (pe_callTy call_int1 (by rfl) T.z_int (by decide +kernel) (pa_cons (pe_op op_add (pe_ix (r := rIxL K) ix_list (pv 0) pe_int (fun _ _ => rfl)) (pe_op op_mul pe_int (pe_ix (r := rIxL K) ix_list (pv 0) pe_int (fun _ _ => rfl)))) pa_nil)) pe_int) (pe_op op_add (pe_op op_powB pe_int pe_int) pe_int)))
      (pss_cons (ps_set (i := 3) sc__law_draw.nd rfl (by first | exact Or.inl rfl | exact Or.inr rfl) (pe_op op_mod (pe_op op_powB (pe_callTy call_int1 (by rfl) T.z_int (by decide +kernel) (pa_cons (pe_op op_add (pv 3) (pe_op op_mul pe_int (pe_ix (r := rIxL K) ix_list (pv 0) pe_int (fun _ _ => rfl)))) pa_nil)) pe_int) (pe_op op_add (pe_op op_powB pe_int pe_int) pe_int)))
      (pss_one (ps_ret (pe_op op_mod (pe_callTy call_int1 (by rfl) T.z_int (by decide +kernel) (pa_cons (pe_op op_fdivW (pv 3) pe_int) pa_nil)) (pv 1)))))))), ?_⟩
  refine ⟨_, rfl, p, _, _, _, rfl, rfl, SqL.of hp, rfl, _, _, rfl, rfl, _, rfl, ?_⟩
  refine ite2 (fun z => ?_) (fun z => ?_)
  · have a0 : 1 < a := of_decide_eq_true z
    refine ⟨_, rfl, p, _, _, _, rfl, rfl, SqL.of hp, rfl, .inl ⟨_, rfl, ?_⟩⟩
    refine ⟨_, rfl, _, _, rfl, rfl, m0, ?_⟩
    refine ⟨_, rfl, p, _, _, _, rfl, rfl, SqL.of hp, rfl, ?_⟩
    refine ⟨_, rfl, _, _, rfl, rfl, ⟨m0, ?_⟩, ?_⟩
    · exact Nat.lt_trans ((Nat.log2_lt (by omega)).mpr (show m.natAbs < 2 ^ 100 by have : (2:Nat)^100 = 1267650600228229401496703205376 := by decide +kernel
                                                                                   omega)) (by decide)
    refine ⟨_, rfl, p, _, _, 0, rfl, rfl, hp, rfl, ?_⟩
    refine ⟨_, rfl, ?_⟩
    exact hq _ _ (Int.emod_nonneg _ (by omega)) (Int.emod_lt_of_pos _ m0) ((But.refl _ _).put (by simp)) ⟨_, _, _, upd_same, b0, b1, c0, by omega⟩
  · have big : (2 : Nat) ^ 1000 = 10715086071862673209484250490600018105614048117055336074437503883703510511249361224931983788156958581275946729175531468251871452856923140435984577574698574803934567774824230985421074605062371141877954182153046474983581941267398767559165543946077062914571196477686542167660429831652624386837205668069376 := by decide +kernel
    refine ⟨_, rfl, p, _, _, _, rfl, rfl, SqL.of hp, rfl, _, _, rfl, rfl, _, rfl, p, _, _, 2, rfl, rfl, hp, rfl, ?_⟩
    have hp1 : upd H p (.lst ([V.int a, V.int b, V.int c].set 2 (.int (c + 1)))) p = some (.lst [V.int a, V.int b, V.int (c + 1)]) := upd_same
    refine ⟨_, rfl, p, _, _, _, rfl, rfl, SqL.of hp1, rfl, _, rfl, p, _, _, _, rfl, rfl, SqL.of hp1, rfl, _, _, rfl, rfl, .inl ⟨by decide, by decide⟩, _, _, rfl, rfl, .inl ⟨_, rfl, ?_⟩⟩
    refine ⟨_, _, rfl, rfl, ⟨by decide, by decide, ?_⟩, ?_⟩
    · rw [big]; omega
    refine ⟨_, _, rfl, rfl, ⟨by decide, by decide, by decide +kernel⟩, _, _, rfl, rfl, _, _, rfl, rfl, (by show (0 : Int) < 10 ^ (25 : Int).toNat + 13; decide +kernel), ?_⟩
    have s0 : ∀ y : Int, 0 ≤ y % (10 ^ (25 : Int).toNat + 13) := fun y => Int.emod_nonneg _ (by decide +kernel)
    have s1 : ∀ y : Int, y % (10 ^ (25 : Int).toNat + 13) < 10 ^ 26 := fun y => Int.lt_trans (Int.emod_lt_of_pos _ (by decide +kernel)) (by decide +kernel)
    generalize hg : (b + 1685821657 * (c + 1)) ^ (3 : Int).toNat % (10 ^ (25 : Int).toNat + 13) = y
    have y0 : 0 ≤ y := by rw [← hg]; exact s0 _
    have y1 : y < 10 ^ 26 := by rw [← hg]; exact s1 _
    refine ⟨_, rfl, _, rfl, p, _, _, _, rfl, rfl, SqL.of hp1, rfl, _, _, rfl, rfl, .inl ⟨by decide, by decide⟩, _, _, rfl, rfl, .inl ⟨_, rfl, ?_⟩⟩
    refine ⟨_, _, rfl, rfl, ⟨by decide, by decide, ?_⟩, ?_⟩
    · rw [big]; omega
    refine ⟨_, _, rfl, rfl, ⟨by decide, by decide, by decide +kernel⟩, _, _, rfl, rfl, _, _, rfl, rfl, (by show (0 : Int) < 10 ^ (24 : Int).toNat + 7; decide +kernel), ?_⟩
    generalize (y + 2971215073 * (c + 1)) ^ (2 : Int).toNat % (10 ^ (24 : Int).toNat + 7) = z'
    refine ⟨_, rfl, _, _, rfl, rfl, ⟨by decide, by decide +kernel⟩, .inl ⟨_, rfl, ?_⟩⟩
    refine ⟨_, rfl, _, _, rfl, rfl, m0, ?_⟩
    exact hq _ _ (Int.emod_nonneg _ (by omega)) (Int.emod_lt_of_pos _ m0) ((But.refl _ _).put (by simp)) ⟨_, _, _, upd_same, b0, b1, by omega, by omega⟩
/-! ### .. by data -/
theorem G_well (T : Txt w K mg) : FnG P w K mg base CX0 1 T.f__law_well T.d__law_well ["script", "spot"] (spD (Zt T) gPurse) := (ok_purse T).imp fun vs H Q E h => purse_in h
theorem G_draw (T : Txt w K mg) : FnG P w K mg base CX0 1 T.f__law_draw T.d__law_draw ["well", "many"] (spD (Zt T) gCoin) := (ok_coin T).imp fun vs H Q E h => coin_in h
end
end Toy
namespace Toy
open PySem L2 Own
section
variable {P : Program} {w : World} {K : PySem.W.Frag} {mg : Str → Option Value} {base : Heap}

open OwnD
local macro_rules | `(tactic| walk_at "ev") => `(tactic| (simp only [f1, gRevL, ev_unl_fz, pyAll_o, pyAll_t, Option.bind_some, ev_mk_own3, cut_0, cut_11, atI_4, List.reverse_cons, List.reverse_nil, fVar_eq, fV_fz, fV_dct, fV_ob, fV_own, fV_tup, fV_pur, fV_obj, f2, f3, fI, fCB, fCall, fTst, fTruth, fNeg, fParF, fFld, fProp, fMeth, fMake, fSetF, fAppF, fExtF, fLenF, fAppend, fExtend, fClear, fReverse, fgSub, gKGet, gDIn, gDGet, gBoolT, fzD_fz, frB, backs, bkD, startD, endD, elL_fz, elL_own, elT_fz, elT_tup, elS_fl, elS_ft, fzD_own, fzD_tup, fzD_odc, fzD_dct, fzD_pur, fzD_ob, pyAll_nil, pyAll_fz, pyAll_map, pyAll_strs, pyAll_stms, fVarZ, Int.reduceLT, Int.reduceSub, Int.reduceEq, Int.reduceAdd, gSlL, cut_map, pyAll_sn, pyAll_ap, gAddS, gSlS, fV_obP, shr_obP, fzD_obP, fldP_row, fldP_steps, fldP_names, insP_tells, insP_run, insP_row, insP_steps, insP_names, insP__run_with, insP_at, insP_without, insP_e, obP_of, Nat.reduceLT, or_false, false_or, or_true, true_or, pyO_err, pyO_ended, pyO_left, pyO_asks, wn_step_raise, wn_step_from, wn_step_hide, wn_step_again, wn_step_leave, wn_step_guard, wn_step_ended, wn_step_left, wn_step_error, wn_step_asks, wn_raise_step, wn_raise_from, wn_raise_hide, wn_raise_again, wn_raise_leave, wn_raise_guard, wn_raise_ended, wn_raise_left, wn_raise_error, wn_raise_asks, wn_from_step, wn_from_raise, wn_from_hide, wn_from_again, wn_from_leave, wn_from_guard, wn_from_ended, wn_from_left, wn_from_error, wn_from_asks, wn_hide_step, wn_hide_raise, wn_hide_from, wn_hide_again, wn_hide_leave, wn_hide_guard, wn_hide_ended, wn_hide_left, wn_hide_error, wn_hide_asks, wn_again_step, wn_again_raise, wn_again_from, wn_again_hide, wn_again_leave, wn_again_guard, wn_again_ended, wn_again_left, wn_again_error, wn_again_asks, wn_leave_step, wn_leave_raise, wn_leave_from, wn_leave_hide, wn_leave_again, wn_leave_guard, wn_leave_ended, wn_leave_left, wn_leave_error, wn_leave_asks, wn_guard_step, wn_guard_raise, wn_guard_from, wn_guard_hide, wn_guard_again, wn_guard_leave, wn_guard_ended, wn_guard_left, wn_guard_error, wn_guard_asks, wn_ended_step, wn_ended_raise, wn_ended_from, wn_ended_hide, wn_ended_again, wn_ended_leave, wn_ended_guard, wn_ended_left, wn_ended_error, wn_ended_asks, wn_left_step, wn_left_raise, wn_left_from, wn_left_hide, wn_left_again, wn_left_leave, wn_left_guard, wn_left_ended, wn_left_error, wn_left_asks, wn_error_step, wn_error_raise, wn_error_from, wn_error_hide, wn_error_again, wn_error_leave, wn_error_guard, wn_error_ended, wn_error_left, wn_error_asks, wn_asks_step, wn_asks_raise, wn_asks_from, wn_asks_hide, wn_asks_again, wn_asks_leave, wn_asks_guard, wn_asks_ended, wn_asks_left, wn_asks_error, elT_pyC, elT_pyT, isNonC, pyAll_ints, elL_ints, ints_len, flA_ints, flA_mapI, flD_int, flA_int, inV_ints, fV_objR, py_fz, shr_objR, insR_run_row, insR_run_statement, insR_run_step, insR_run_guard, insR_run_handlers, insR_get_over, ev_vw_t, ev_vw_s, ev_tk_t, ev_tk_s, ev_tks_n, ev_tks_c, ev_fw_t, ev_fw_s, ev_shr_fz, ev_shr_dct, ev_shr_ob, ev_shr_own, ev_shr_tup, ev_shr_pur, ev_shr_obj, ev_shr_set, ev_shr_odc, ev_in_str, ev_in_int, ev_in_bool, ev_in_list, ev_in_tuple, ev_in_none, ev_in_own, ev_in_tup, ev_in_pur, ev_in_dct, ev_in_odc, ev_in_set, ev_tr_none, ev_tr_bool, ev_tr_int, ev_tr_list, ev_tr_tuple, ev_tr_own, ev_tr_tup, ev_tr_dct, ev_len_l, ev_len_t, ev_len_o, ev_len_u, ev_fld_obj, ev_fld_ob, ev_ins_obj, ev_ins_ob, ev_tup_fz, ev_tup_tup, ev_gc_cons, ev_gc_nil, ev_mk1, ev_mk2, ev_mk3, ev_mk4, ev_mk_own0, ev_mk_tup0, ev_mk_own1, ev_mk_own2, ev_mk_tup1, ev_mk_tup2, strs_snoc, Option.isSome_some, Option.isSome_none, Option.map_none, fbanswers_ran, fbanswers_ran', fbanswers_over, fbanswers_over', fbanswers_out, fbanswers_out', fbanswers_row, fbanswers_row', fbanswers_steps, fbanswers_steps', fbanswers_names, fbanswers_names', fbran_answers, fbran_answers', fbran_over, fbran_over', fbran_out, fbran_out', fbran_row, fbran_row', fbran_steps, fbran_steps', fbran_names, fbran_names', fbover_answers, fbover_answers', fbover_ran, fbover_ran', fbover_out, fbover_out', fbover_row, fbover_row', fbover_steps, fbover_steps', fbover_names, fbover_names', fbout_answers, fbout_answers', fbout_ran, fbout_ran', fbout_over, fbout_over', fbout_row, fbout_row', fbout_steps, fbout_steps', fbout_names, fbout_names', fbrow_answers, fbrow_answers', fbrow_ran, fbrow_ran', fbrow_over, fbrow_over', fbrow_out, fbrow_out', fbrow_steps, fbrow_steps', fbrow_names, fbrow_names', fbsteps_answers, fbsteps_answers', fbsteps_ran, fbsteps_ran', fbsteps_over, fbsteps_over', fbsteps_out, fbsteps_out', fbsteps_row, fbsteps_row', fbsteps_names, fbsteps_names', fbnames_answers, fbnames_answers', fbnames_ran, fbnames_ran', fbnames_over, fbnames_over', fbnames_out, fbnames_out', fbnames_row, fbnames_row', fbnames_steps, fbnames_steps', gCatT_fz, ne_eq, not_false_eq_true, flD_str, flA_nil, flA_str, flA_map, flA_strs, inV_nil, inV_str, inV_strs, fzD_set, D.set.injEq, gSortedT, sl1g, sl1_1, sl1_2, sl1_3, sl1_4, cut1, pyAll_mapfz, pyAll_snoc, Option.map_some, fz_map, shr_map, gEqS, gEqI, gEqD, gIxT, gIxL, gIxS, gLen, gLenS, gInt, gListOf, gIs, gIn, gCat, gSlT, gSlL, OwnD.gAll, gInS, putO, rpl, wipeD, List.getD_cons_zero, List.getD_cons_succ, List.set_cons_zero, List.set_cons_succ, List.length_cons, List.length_nil, List.replicate, List.map_cons, List.map_nil, List.cons_append, List.nil_append, List.all_cons, List.all_nil, List.zip_cons_cons, List.zip_nil_left, List.lookup_cons, List.lookup_nil, List.isEmpty_cons, List.isEmpty_nil, List.length_map, stms_len, strs_len, D.fz.injEq, D.own.injEq, D.dct.injEq, D.obj.injEq, PyData.str.injEq, PyData.int.injEq, PyData.list.injEq, PyData.tuple.injEq, PyData.bool.injEq, Option.some.injEq, List.cons.injEq, exists_eq_left', exists_eq_left, exists_eq_right', exists_eq_right, and_true, true_and, Bool.and_true, Bool.true_and, reduceCtorEq, decide_true, decide_false, decide_eq_true_eq, Bool.not_true, Bool.not_false, Bool.false_eq_true, Bool.false_and, Bool.and_false, Bool.true_or, Bool.false_or, Bool.or_false, Bool.or_eq_true, Bool.or_true, Bool.or_false, beq_self_eq_true, ite_true, ite_false, ite_self, exists_const, exists_eq, exists_eq', atI_0, atI_1, atI_2, atI_3, szl0, szl1, szl2, szl3, szl4, exists_and_left, and_assoc, if_true, if_false, Nat.reduceAdd, Nat.reduceSub, Nat.sub_self]))
/-! ### letters -/
def alpha : Str := "abcdefghijklmnopqrstuvwxyz"
theorem alpha_len : alpha.cps.toList.length = 26 := by decide +kernel
theorem alpha_all : alpha.cps.toList.all (fun c => decide (97 ≤ c) && decide (c ≤ 122)) = true := by decide +kernel
theorem alpha_sz : alpha.length ≤ sizeLine := by decide +kernel
theorem alpha_at {r : Int} (h0 : 0 ≤ r) (h1 : r < 26) : ∃ c, atI alpha.cps.toList r = some c ∧ 97 ≤ c ∧ c ≤ 122 := by
  have hk : r.toNat < alpha.cps.toList.length := by rw [alpha_len]; omega
  refine ⟨alpha.cps.toList[r.toNat], ?_, ?_⟩
  · have e := atI_nat (xs := alpha.cps.toList) (List.getElem?_eq_getElem hk)
    rwa [show ((r.toNat : Nat) : Int) = r by omega] at e
  · have q := List.all_eq_true.mp alpha_all _ (List.getElem_mem hk)
    simpa using q
/-- letters alone -/
def Let (x : Str) : Prop := ∀ c ∈ x.cps.toList, 97 ≤ c ∧ c ≤ 122
theorem let_one {c : Nat} (h : 97 ≤ c ∧ c ≤ 122) : Let ⟨#[c]⟩ := fun d hd => by
  have : d = c := by simpa using hd
  rw [this]; exact h
theorem let_app {x y : Str} (h : Let x) (g : Let y) : Let (x ++ y) := fun c hc => by
  rw [show (x ++ y).cps.toList = x.cps.toList ++ y.cps.toList from TL.tl_append x y] at hc
  exact (List.mem_append.mp hc).elim (h c) (g c)
theorem let_cut {z : Str} (lo hi : Option Int) (h : Let z) : Let (cutS z lo hi) := fun c hc => h c (by
  have hc : c ∈ (z.cps.toList.drop (HT.sIx z.length 0 lo)).take (HT.sIx z.length z.length hi - HT.sIx z.length 0 lo) := hc
  exact List.mem_of_mem_drop (List.mem_of_mem_take hc))
theorem len_cut (z : Str) (lo hi : Option Int) : (cutS z lo hi).length = min (HT.sIx z.length z.length hi - HT.sIx z.length 0 lo) (z.length - HT.sIx z.length 0 lo) := by
  show ((z.cps.toList.drop _).take _).toArray.size = _
  rw [List.size_toArray, List.length_take, List.length_drop]
  rfl
theorem join_nil : ∀ (ys : List Str), (∀ y ∈ ys, y.length = 1 ∧ Let y) → (Txt.join "" ys).length = ys.length ∧ Let (Txt.join "" ys) := by
  intro ys
  rw [TL.join_eq]
  have key : ∀ ys : List Str, (∀ y ∈ ys, y.length = 1 ∧ Let y) → (TL.tl (Str.join "" ys)).length = ys.length ∧ ∀ c ∈ TL.tl (Str.join "" ys), 97 ≤ c ∧ c ≤ 122 := by
    intro ys
    induction ys with
    | nil => intro _; exact ⟨rfl, fun c hc => nomatch hc⟩
    | cons y r ih =>
      intro h
      obtain ⟨h1, h2⟩ := h y List.mem_cons_self
      cases r with
      | nil => exact ⟨h1, h2⟩
      | cons z r =>
        obtain ⟨i1, i2⟩ := ih (fun y hy => h y (List.mem_cons_of_mem _ hy))
        have e : TL.tl (Str.join "" (y :: z :: r)) = TL.tl y ++ TL.tl (Str.join "" (z :: r)) := by
          show TL.tl (y ++ "" ++ Str.join "" (z :: r)) = _
          rw [TL.tl_append, TL.tl_append, show TL.tl (Str.ofString "") = [] from rfl, List.append_nil]
        rw [e]
        refine ⟨?_, fun c hc => (List.mem_append.mp hc).elim (h2 c) (i2 c)⟩
        rw [List.length_append, i1, show (TL.tl y).length = 1 from h1, List.length_cons, List.length_cons, List.length_cons]
        omega
  intro h
  exact key ys h
theorem nm_let {x : Str} {n : Nat} (h : Let x) (a : 1 ≤ x.length) (b : x.length ≤ n) : Nm n x := ⟨a, b, h⟩
theorem app_len (x y : Str) : (x ++ y).length = x.length + y.length := by
  have e : (TL.tl (x ++ y)).length = (TL.tl x).length + (TL.tl y).length := by rw [TL.tl_append, List.length_append]
  exact e
theorem sIx_pos {n d : Nat} {k : Int} (h : 0 ≤ k) : HT.sIx n d (some k) = min k.toNat n := by
  have q := HT.sIx_nat n d k.toNat
  rwa [show ((k.toNat : Nat) : Int) = k by omega] at q
theorem nmB_let {x : Str} (h : Let x) (a : 1 ≤ x.length) (b : x.length ≤ 8) : nmB x = true := by
  unfold nmB
  simp only [Bool.and_eq_true, decide_eq_true_eq, List.all_eq_true]
  exact ⟨⟨a, b⟩, fun c hc => h c hc⟩
/-! ### titles -/
def menu : List Str := ["step", "raise", "from", "hide", "again", "leave", "guard", "told", "ended", "left", "error"]
theorem menu_ok : ∀ x ∈ menu, nmB x = true := by
  have h : menu.all nmB = true := by decide +kernel
  exact List.all_eq_true.mp h
theorem menu_at {r : Int} (h0 : 0 ≤ r) (h1 : r < 11) : ∃ x, nmB x = true ∧ atI [D.fz (.str "step"), .fz (.str "raise"), .fz (.str "from"), .fz (.str "hide"), .fz (.str "again"), .fz (.str "leave"), .fz (.str "guard"), .fz (.str "told"), .fz (.str "ended"), .fz (.str "left"), .fz (.str "error")] r = some (.fz (.str x)) := by
  obtain ⟨x, hx, e⟩ := strs_at (xs := menu) h0 (show r < ((11 : Nat) : Int) from h1)
  exact ⟨x, menu_ok x hx, e⟩
def gTitles : GD := fun ds Q => ∃ (n m : Nat), ds = [.pur n, .fz (.int m)] ∧ n < 10 ^ 19 ∧ 1 ≤ m ∧ m ≤ 52 ∧ ∀ (xs : List Str) (n' : Nat), xs.length = m → (∀ x ∈ xs, nmB x = true) → n' ≤ n + 20 → Q (.own (strsD xs)) [.pur n', .fz (.int m)]
theorem ok_titles (T : Txt w K mg) : FnG P w K mg base CX0 2 T.f__law_titles T.d__law_titles ["well", "many"] (spD (Zt T) gTitles) := by
  refine defG [true, true] T.F__law_titles sc__law_titles rfl (fun ds Q h => by obtain ⟨n, m, rfl, _⟩ := h; rfl) (fun cdv A outer s H E hr => ?_)
  have hR := hr.1
  have G__law_draw := G_draw (P := P) (base := base) T
  refine ⟨_, _, (pss_cons (ps_asg (pe_tup (pa_cons pe_str (pa_cons (call_g G__law_draw (hr.mono (by omega)) rfl T.m__law_draw T.F__law_draw.kp T.b__law_draw .nil pass0 (pa_cons (pv 0) (pa_cons pe_int pa_nil))) pa_nil))) (pg_tup (by rfl) (pgs_cons (pg_name (i := 2) sc__law_titles.nd rfl (by first | exact Or.inl rfl | exact Or.inr rfl)) (pgs_cons (pg_name (i := 3) sc__law_titles.nd rfl (by first | exact Or.inl rfl | exact Or.inr rfl)) pgs_nil))))
      (pss_cons (ps_set (i := 4) sc__law_titles.nd rfl (by first | exact Or.inl rfl | exact Or.inr rfl) (pe_lst (pa_cons pe_str (pa_cons pe_str (pa_cons pe_str (pa_cons pe_str (pa_cons pe_str (pa_cons pe_str (pa_cons pe_str (pa_cons pe_str (pa_cons pe_str (pa_cons pe_str (pa_cons pe_str pa_nil)))))))))))))
      (pss_cons (ps_set (i := 5) sc__law_titles.nd rfl (by first | exact Or.inl rfl | exact Or.inr rfl) (pe_join pe_str (pe_lc (own := [("turn", 6)]) (g := gName 6) rfl sc__law_titles.nd (pi_range1 (by rfl) T.z_range (pa_cons pe_int pa_nil)) (blkOk_by (own := [("turn", 6)]) (N := ["well", "many", "letters", "way", "words", "stem", "turn", "start", "rank", "size", "at", "found", "title"]) (sc := defScope s__law_titles) (by decide +kernel)) (fun _ _ _ _ _ => pg_name (i := 6) sc__law_titles.nd rfl (Or.inl rfl)) (fun _ _ _ _ _ => pts_nil) (fun _ _ _ _ _ => (pe_ix ix_str (pv 2) (call_g G__law_draw (hr.mono (by omega)) rfl T.m__law_draw T.F__law_draw.kp T.b__law_draw .nil pass0 (pa_cons (pv 0) (pa_cons pe_int pa_nil))) (fun _ _ => rfl))))))
      (pss_cons (ps_set (i := 7) sc__law_titles.nd rfl (by first | exact Or.inl rfl | exact Or.inr rfl) (call_g G__law_draw (hr.mono (by omega)) rfl T.m__law_draw T.F__law_draw.kp T.b__law_draw .nil pass0 (pa_cons (pv 0) (pa_cons pe_int pa_nil))))
      (pss_cons (ps_if (PW.pt (pw_and (pt_cmpR op_eq (pv 3) pe_int (nomark _)) (pw_and1 (pt_cmpR op_lt (pv 1) pe_int (nomark _)))))
      (pss_one (ps_ret (pe_lc (own := [("rank", 8)]) (g := gName 8) rfl sc__law_titles.nd (pi_range1 (by rfl) T.z_range (pa_cons (pv 1) pa_nil)) (blkOk_by (own := [("rank", 8)]) (N := ["well", "many", "letters", "way", "words", "stem", "turn", "start", "rank", "size", "at", "found", "title"]) (sc := defScope s__law_titles) (by decide +kernel)) (fun _ _ _ _ _ => pg_name (i := 8) sc__law_titles.nd rfl (Or.inl rfl)) (fun _ _ _ _ _ => pts_nil) (fun _ _ _ _ _ => (pe_ix (r := rIxL K) ix_list (pv 4) (pe_op op_mod (pe_callTy call_int1 (by rfl) T.z_int (by decide +kernel) (pa_cons (pe_op op_add (pv 7) (pe_op op_mul (pv 8) pe_int)) pa_nil)) pe_int) (fun _ _ => rfl))))))
      pss_nil)
      (pss_cons (ps_if (PW.pt (pw_and (pt_cmpR op_eq (pv 3) pe_int (nomark _)) (pw_and1 (pt_cmpR op_lt (pv 1) pe_int (nomark _)))))
      (pss_one (ps_ret (pe_lc (own := [("rank", 8)]) (g := gName 8) rfl sc__law_titles.nd (pi_range1 (by rfl) T.z_range (pa_cons (pv 1) pa_nil)) (blkOk_by (own := [("rank", 8)]) (N := ["well", "many", "letters", "way", "words", "stem", "turn", "start", "rank", "size", "at", "found", "title"]) (sc := defScope s__law_titles) (by decide +kernel)) (fun _ _ _ _ _ => pg_name (i := 8) sc__law_titles.nd rfl (Or.inl rfl)) (fun _ _ _ _ _ => pts_nil) (fun _ _ _ _ _ => (pe_slice sl_str (pv 5) po_none (po_some (pe_op op_add (pv 8) pe_int)))))))
      pss_nil)
      (pss_cons (ps_set (i := 9) sc__law_titles.nd rfl (by first | exact Or.inl rfl | exact Or.inr rfl) (pe_op op_add pe_int (call_g G__law_draw (hr.mono (by omega)) rfl T.m__law_draw T.F__law_draw.kp T.b__law_draw .nil pass0 (pa_cons (pv 0) (pa_cons (pe_ifExp (pt_cmpR op_lt (pv 1) pe_int (nomark _)) pe_int pe_int) pa_nil)))))
      (pss_cons (ps_par (i := 10) (j := 11) rfl sc__law_titles.nd rfl rfl (by decide) rfl rfl (pa_cons (call_g G__law_draw (hr.mono (by omega)) rfl T.m__law_draw T.F__law_draw.kp T.b__law_draw .nil pass0 (pa_cons (pv 0) (pa_cons (pv 9) pa_nil))) (pa_cons (pe_lst pa_nil) pa_nil)) (by rfl))
      (pss_cons (ps_for PassesOwn.never rfl (pi_range1 (by rfl) T.z_range (pa_cons (pv 1) pa_nil)) (pg_name (i := 8) sc__law_titles.nd rfl (by first | exact Or.inl rfl | exact Or.inr rfl))
      (pss_cons (ps_set (i := 12) sc__law_titles.nd rfl (by first | exact Or.inl rfl | exact Or.inr rfl) (pe_op op_add_str (pe_slice sl_str (pv 5) po_none (po_some (pv 10))) (pe_ix ix_str (pv 2) (pe_op op_mod (pe_callTy call_int1 (by rfl) T.z_int (by decide +kernel) (pa_cons (pe_op op_add (pv 7) (pv 8)) pa_nil)) pe_int) (fun _ _ => rfl))))
      (pss_one (ps_expr (pe_bm PySem.F.plainAttrs_list PySem.F.slot_list_append PySem.F.type_list_append mt_append (pv 11) (pa_cons (pe_op op_add_str (pe_op op_add_str (pv 12) (pe_slice sl_str (pv 5) (po_some (pe_op op_add (pv 10) pe_int)) (po_some (pv 9)))) (pe_slice sl_str (pv 5) po_none (po_some (pe_op op_fdivW (pv 8) pe_int)))) pa_nil))))))
      (pss_one (ps_ret (pv 11)))))))))))), (fun En hp => (dSeq (dAsg (dTup (dCons (dStr _) (dCons (dCall (dCons (dV 0) (dCons (dInt _) dNil))) dNil))) (dgTup (n := 2) (dgCons (dgNameF (S := sAny) (hp 2 rfl) sOk) (dgCons (dgNameF (S := sAny) (hp 3 rfl) sOk) dgNil))))
      (dSeq (dAsg (dLst (dCons (dStr _) (dCons (dStr _) (dCons (dStr _) (dCons (dStr _) (dCons (dStr _) (dCons (dStr _) (dCons (dStr _) (dCons (dStr _) (dCons (dStr _) (dCons (dStr _) (dCons (dStr _) dNil)))))))))))) (dgNameF (S := sAny) (hp 4 rfl) sOk))
      (dSeq (dAsg (dJoin (dStr _) (dLc (pinAll hp (by decide)) (dIRng1 (dCons (dInt _) dNil)) (dgNameF (hp 6 rfl) (sw (by decide))) dYes (dIxS (dV 2) (dCall (dCons (dV 0) (dCons (dInt _) dNil))))) (fun δ Q h => ⟨⟨_, rfl⟩, h⟩)) (dgNameF (S := sAny) (hp 5 rfl) sOk))
      (dSeq (dAsg (dCall (dCons (dV 0) (dCons (dInt _) dNil))) (dgNameF (S := sAny) (hp 7 rfl) sOk))
      (dSeq (dIf (dAnd (dTest (dEqI (dV 3) (dInt _))) (dTest (dLt (dV 1) (dInt _))))
      (dLast (dRet (dLc (pinAll hp (by decide)) (dIRng1 (dCons (dV 1) dNil)) (dgNameF (hp 8 rfl) (sw (by decide))) dYes (dIxL (dV 4) (dMod (dIntOf (dCons (dAdd (dV 7) (dMul (dV 8) (dInt _))) dNil)) (dInt _))))))
      dNext)
      (dSeq (dIf (dAnd (dTest (dEqI (dV 3) (dInt _))) (dTest (dLt (dV 1) (dInt _))))
      (dLast (dRet (dLc (pinAll hp (by decide)) (dIRng1 (dCons (dV 1) dNil)) (dgNameF (hp 8 rfl) (sw (by decide))) dYes (dSlS (dV 5) dNoPart (dPart (dAdd (dV 8) (dInt _)))))))
      dNext)
      (dSeq (dAsg (dAdd (dInt _) (dCall (dCons (dV 0) (dCons (dIfE (dTest (dLt (dV 1) (dInt _))) (dInt _) (dInt _)) dNil)))) (dgNameF (S := sAny) (hp 9 rfl) sOk))
      (dSeq (dParF true false (dCons (dCall (dCons (dV 0) (dCons (dV 9) dNil))) (dCons (dLst dNil) dNil)) (hp 10 rfl) (hp 11 rfl))
      (dSeq (dFor (dIRng1 (dCons (dV 1) dNil)) (dgNameF (S := sAny) (hp 8 rfl) sOk)
      (dSeq (dAsg (dAddS (dSlS (dV 5) dNoPart (dPart (dV 10))) (dIxS (dV 2) (dMod (dIntOf (dCons (dAdd (dV 7) (dV 8)) dNil)) (dInt _)))) (dgNameF (S := sAny) (hp 12 rfl) sOk))
      (dLast (dDrop (dAppend 11 (dAddS (dAddS (dV 12) (dSlS (dV 5) (dPart (dAdd (dV 10) (dInt _))) (dPart (dV 9)))) (dSlS (dV 5) dNoPart (dPart (dFdivW (dV 8) (dInt _))))))))))
      (dLast (dRet (dV 11))))))))))))), ?_⟩
  rintro ds Q ⟨n, m, rfl, hn, m1, m2, q⟩
  walk_at "ev"
  refine gC.of ⟨_, _, rfl, by omega, by omega, by omega, fun a a0 a1 => ⟨rfl, ?_⟩⟩
  walk_at "ev"
  refine ⟨szM (by decide), by decide, by decide, ?_⟩
  have hlet : ∀ c ∈ alpha.cps.toList, 97 ≤ c ∧ c ≤ 122 := fun c hc => by simpa using List.all_eq_true.mp alpha_all c hc
  refine compD_inv (fun its acc δ => ∃ k ys x, δ = [.pur k, .fz (.int (m : Nat)), .fz (.str alpha), .fz (.int a), .fz (.list [.str "step", .str "raise", .str "from", .str "hide", .str "again", .str "leave", .str "guard", .str "told", .str "ended", .str "left", .str "error"]), .hole, x, .hole, .hole, .hole, .hole, .hole, .hole] ∧ acc = strsD ys ∧ ys.length + its.length = 8 ∧ k + its.length = n + 9 ∧ ∀ y ∈ ys, y.length = 1 ∧ Let y) _ _ _ ⟨n + 1, [], _, rfl, rfl, rfl, rfl, fun y hy => nomatch hy⟩ ?_ ?_
  · rintro d r acc δ ⟨k, ys, x, rfl, rfl, hl, hk, hy⟩ kk
    rw [List.length_cons] at hl hk
    rw [compD_cons]
    walk_at "ev"
    refine gC.of ⟨_, _, rfl, by omega, by omega, by omega, fun c c0 c1 => ⟨rfl, ?_⟩⟩
    walk_at "ev"
    obtain ⟨u, hu, hu2⟩ := alpha_at c0 c1
    refine ⟨alpha_sz, u, hu, szN (by omega), kk _ _ ⟨_, ys ++ [⟨#[u]⟩], _, rfl, rfl, by rw [List.length_append, List.length_singleton]; omega, by omega, fun y hy2 => ?_⟩⟩
    rcases List.mem_append.mp hy2 with h | h
    · exact hy y h
    · rw [List.mem_singleton.mp h]; exact ⟨rfl, let_one hu2⟩
  · rintro acc δ ⟨k, ys, x, rfl, rfl, hl, hk, hy⟩
    obtain ⟨jl, jt⟩ := join_nil ys hy
    have hsum : (ys.map (·.length)).sum ≤ 8 := by
      have key : ∀ zs : List Str, (∀ y ∈ zs, y.length = 1 ∧ Let y) → (zs.map (·.length)).sum = zs.length := by
        intro zs
        induction zs with
        | nil => intro _; rfl
        | cons z zs ih => intro h; rw [List.map_cons, List.sum_cons, (h z List.mem_cons_self).1, ih fun y hy => h y (List.mem_cons_of_mem _ hy), List.length_cons]; omega
      rw [key ys hy]; simp only [List.length_nil] at hl; omega
    have h0 : ("" : Str).length = 0 := by decide +kernel
    simp only [List.length_nil, Nat.add_zero] at hl hk
    rw [hl] at jl
    walk_at "ev"
    refine ⟨"", ys, rfl, ?_, ?_, ?_⟩
    · show some ((ys.map PyData.str).map D.fz) = _
      rw [fz_map]; rfl
    · rw [h0]; omega
    generalize Txt.join "" ys = stem at *
    walk_at "ev"
    refine gC.of ⟨_, _, rfl, by omega, by omega, by omega, fun b b0 b1 => ⟨rfl, ?_⟩⟩
    walk_at "ev"
    by_cases w1 : a = 0 ∧ (m : Int) < 12
    · rw [if_pos w1.1, if_pos w1.2]
      refine ⟨by omega, by omega, ?_⟩
      rw [show ((m : Nat) : Int).toNat = m by omega, intsD_nat]
      refine compD_txt (fun i : Nat => D.fz (.int (i : Nat))) (fun x => nmB x = true) _ (List.range m) [] _ (by simp; omega) rfl (fun z hz => nomatch hz) (fun i r ys δ hi hl hw k2 => ?_) (fun zs hz hp => ?_)
      · rw [compD_cons, hw]
        walk_at "ev"
        obtain ⟨x, hx, ex⟩ := menu_at (Int.emod_nonneg (b + i * 5) (by decide : (11 : Int) ≠ 0)) (Int.emod_lt_of_pos (b + i * 5) (by decide : (0 : Int) < 11))
        refine ⟨.inr ⟨by decide, by decide⟩, _, ex, rfl, hl, ?_⟩
        rw [strs_snoc]
        exact k2 _ x hx (by rfl)
      · skip
        walk_at "ev"
        exact q zs (k + 1) (by rw [hz, List.length_nil, List.length_range]; omega) hp (by omega)
    have hrest : ∀ P1 P2 P3 : Prop, (¬ (a = 0 ∧ (m : Int) < 12)) → P3 → (if a = 0 then (if (m : Int) < 12 then P1 else P3) else P3) := fun P1 P2 P3 h p => by
      by_cases h1 : a = 0
      · rw [if_pos h1, if_neg (fun h2 => h ⟨h1, h2⟩)]; exact p
      · rw [if_neg h1]; exact p
    refine hrest _ True _ w1 ?_
    by_cases w2 : a = 1 ∧ (m : Int) < 9
    · rw [if_pos w2.1, if_pos w2.2]
      refine ⟨by omega, by omega, ?_⟩
      rw [show ((m : Nat) : Int).toNat = m by omega, intsD_nat]
      refine compD_txt (fun i : Nat => D.fz (.int (i : Nat))) (fun x => nmB x = true) _ (List.range m) [] _ (by simp; omega) rfl (fun z hz => nomatch hz) (fun i r ys δ hi hl hw k2 => ?_) (fun zs hz hp => ?_)
      · rw [compD_cons, hw]
        walk_at "ev"
        have hi := List.mem_range.mp hi
        refine ⟨szM (by omega), hl, ?_⟩
        refine k2 _ _ (nmB_let (let_cut _ _ jt) ?_ ?_) (by rfl)
        · rw [len_cut, jl, sIx_pos (by omega), HT.sIx_none]; omega
        · rw [len_cut, jl]; omega
      · skip
        walk_at "ev"
        exact q zs (k + 1) (by rw [hz, List.length_nil, List.length_range]; omega) hp (by omega)
    have hrest2 : ∀ P1 P3 : Prop, (¬ (a = 1 ∧ (m : Int) < 9)) → P3 → (if a = 1 then (if (m : Int) < 9 then P1 else P3) else P3) := fun P1 P3 h p => by
      by_cases h1 : a = 1
      · rw [if_pos h1, if_neg (fun h2 => h ⟨h1, h2⟩)]; exact p
      · rw [if_neg h1]; exact p
    refine hrest2 _ _ w2 ?_
    by_cases w3 : (m : Int) < 27
    · rw [if_pos w3]
      refine gC.of ⟨_, _, rfl, by omega, by omega, by omega, fun z z0 z1 => ⟨rfl, ?_⟩⟩
      walk_at "ev"
      refine gC.of ⟨_, _, rfl, by omega, by omega, by omega, fun t t0 t1 => ⟨rfl, ?_⟩⟩
      walk_at "ev"
      have wz : z < 8 ∧ ((m : Int) < 27 ∨ z < 7) := ⟨z1, .inl w3⟩
      refine ⟨by omega, by omega, ?_⟩
      rw [show ((m : Nat) : Int).toNat = m by omega, intsD_nat]
      refine loopD_acc (fun i : Nat => D.fz (.int (i : Nat))) (fun done δ => ∃ u1 u2 xs, δ = [.pur (k + 1 + 1 + 1), .fz (.int (m : Nat)), .fz (.str alpha), .fz (.int a), .fz (.list [.str "step", .str "raise", .str "from", .str "hide", .str "again", .str "leave", .str "guard", .str "told", .str "ended", .str "left", .str "error"]), .fz (.str stem), .hole, .fz (.int b), u1, .fz (.int (1 + z)), .fz (.int t), .own (strsD xs), u2] ∧ xs.length = done.length ∧ ∀ x ∈ xs, nmB x = true) (List.range m) _ ⟨_, _, [], rfl, rfl, fun x hx => nomatch hx⟩ ?_ ?_
      · rintro i dn rest δ e ⟨u1, u2, xs, rfl, hxl, hxs⟩ k2
        rw [loopD_cons]
        have hi : i < m := List.mem_range.mp (by rw [e]; simp)
        have hdn : dn.length ≤ 52 := by
          have := congrArg List.length e
          rw [List.length_range, List.length_append] at this; omega
        obtain ⟨u, hu, hu2⟩ := alpha_at (Int.emod_nonneg (b + i) (by decide : (26 : Int) ≠ 0)) (Int.emod_lt_of_pos (b + i) (by decide : (0 : Int) < 26))
        have l1 : (cutS stem none (some t)).length = t.toNat := by rw [len_cut, jl, sIx_pos t0, HT.sIx_none]; omega
        have l2 : (cutS stem (some (t + 1)) (some (1 + z))).length = (1 + z).toNat - (t + 1).toNat := by rw [len_cut, jl, sIx_pos (by omega), sIx_pos (by omega)]; omega
        have l3 : (cutS stem none (some ((i : Int) / 26))).length = ((i : Int) / 26).toNat := by rw [len_cut, jl, sIx_pos (by omega), HT.sIx_none]; omega
        have l0 : (⟨#[u]⟩ : Str).length = 1 := rfl
        walk_at "ev"
        refine ⟨szM (by omega), alpha_sz, u, hu, szM (by omega), szM (by omega), szM (by rw [app_len]; omega), ⟨by decide, by decide +kernel⟩, szM (by omega), szM (by rw [app_len, app_len]; omega), szN (by omega), ?_⟩
        refine k2 _ ⟨_, _, xs ++ [_], rfl, by rw [List.length_append, List.length_append, List.length_singleton, List.length_singleton, hxl], fun x hx => ?_⟩
        rcases List.mem_append.mp hx with h | h
        · exact hxs x h
        · rw [List.mem_singleton.mp h]
          refine nmB_let (let_app (let_app (let_app (let_cut _ _ jt) (let_one hu2)) (let_cut _ _ jt)) (let_cut _ _ jt)) ?_ ?_
          · rw [app_len, app_len, app_len]; omega
          · rw [app_len, app_len, app_len, l1, l2, l3, l0]; omega
      · rintro δ ⟨u1, u2, xs, rfl, hxl, hxs⟩
        · skip
          walk_at "ev"
          exact q xs _ (by rw [hxl, List.length_range]) hxs (by omega)
    · rw [if_neg w3]
      refine gC.of ⟨_, _, rfl, by omega, by omega, by omega, fun z z0 z1 => ⟨rfl, ?_⟩⟩
      walk_at "ev"
      refine gC.of ⟨_, _, rfl, by omega, by omega, by omega, fun t t0 t1 => ⟨rfl, ?_⟩⟩
      walk_at "ev"
      have wz : z < 8 ∧ ((m : Int) < 27 ∨ z < 7) := ⟨by omega, .inr z1⟩
      refine ⟨by omega, by omega, ?_⟩
      rw [show ((m : Nat) : Int).toNat = m by omega, intsD_nat]
      refine loopD_acc (fun i : Nat => D.fz (.int (i : Nat))) (fun done δ => ∃ u1 u2 xs, δ = [.pur (k + 1 + 1 + 1), .fz (.int (m : Nat)), .fz (.str alpha), .fz (.int a), .fz (.list [.str "step", .str "raise", .str "from", .str "hide", .str "again", .str "leave", .str "guard", .str "told", .str "ended", .str "left", .str "error"]), .fz (.str stem), .hole, .fz (.int b), u1, .fz (.int (1 + z)), .fz (.int t), .own (strsD xs), u2] ∧ xs.length = done.length ∧ ∀ x ∈ xs, nmB x = true) (List.range m) _ ⟨_, _, [], rfl, rfl, fun x hx => nomatch hx⟩ ?_ ?_
      · rintro i dn rest δ e ⟨u1, u2, xs, rfl, hxl, hxs⟩ k2
        rw [loopD_cons]
        have hi : i < m := List.mem_range.mp (by rw [e]; simp)
        have hdn : dn.length ≤ 52 := by
          have := congrArg List.length e
          rw [List.length_range, List.length_append] at this; omega
        obtain ⟨u, hu, hu2⟩ := alpha_at (Int.emod_nonneg (b + i) (by decide : (26 : Int) ≠ 0)) (Int.emod_lt_of_pos (b + i) (by decide : (0 : Int) < 26))
        have l1 : (cutS stem none (some t)).length = t.toNat := by rw [len_cut, jl, sIx_pos t0, HT.sIx_none]; omega
        have l2 : (cutS stem (some (t + 1)) (some (1 + z))).length = (1 + z).toNat - (t + 1).toNat := by rw [len_cut, jl, sIx_pos (by omega), sIx_pos (by omega)]; omega
        have l3 : (cutS stem none (some ((i : Int) / 26))).length = ((i : Int) / 26).toNat := by rw [len_cut, jl, sIx_pos (by omega), HT.sIx_none]; omega
        have l0 : (⟨#[u]⟩ : Str).length = 1 := rfl
        walk_at "ev"
        refine ⟨szM (by omega), alpha_sz, u, hu, szM (by omega), szM (by omega), szM (by rw [app_len]; omega), ⟨by decide, by decide +kernel⟩, szM (by omega), szM (by rw [app_len, app_len]; omega), szN (by omega), ?_⟩
        refine k2 _ ⟨_, _, xs ++ [_], rfl, by rw [List.length_append, List.length_append, List.length_singleton, List.length_singleton, hxl], fun x hx => ?_⟩
        rcases List.mem_append.mp hx with h | h
        · exact hxs x h
        · rw [List.mem_singleton.mp h]
          refine nmB_let (let_app (let_app (let_app (let_cut _ _ jt) (let_one hu2)) (let_cut _ _ jt)) (let_cut _ _ jt)) ?_ ?_
          · rw [app_len, app_len, app_len]; omega
          · rw [app_len, app_len, app_len, l1, l2, l3, l0]; omega
      · rintro δ ⟨u1, u2, xs, rfl, hxl, hxs⟩
        · skip
          walk_at "ev"
          exact q xs _ (by rw [hxl, List.length_range]) hxs (by omega)
end
end Toy
namespace Toy
open PySem L2 Own
section
variable {P : Program} {w : World} {K : PySem.W.Frag} {mg : Str → Option Value} {base : Heap}

open OwnD
local macro_rules | `(tactic| walk_at "ev") => `(tactic| (simp only [f1, gRevL, ev_unl_fz, pyAll_o, pyAll_t, Option.bind_some, ev_mk_own3, cut_0, cut_11, atI_4, List.reverse_cons, List.reverse_nil, fVar_eq, fV_fz, fV_dct, fV_ob, fV_own, fV_tup, fV_pur, fV_obj, f2, f3, fI, fCB, fCall, fTst, fTruth, fNeg, fParF, fFld, fProp, fMeth, fMake, fSetF, fAppF, fExtF, fLenF, fAppend, fExtend, fClear, fReverse, fgSub, gKGet, gDIn, gDGet, gBoolT, fzD_fz, frB, backs, bkD, startD, endD, elL_fz, elL_own, elT_fz, elT_tup, elS_fl, elS_ft, fzD_own, fzD_tup, fzD_odc, fzD_dct, fzD_pur, fzD_ob, pyAll_nil, pyAll_fz, pyAll_map, pyAll_strs, pyAll_stms, fVarZ, Int.reduceLT, Int.reduceSub, Int.reduceEq, Int.reduceAdd, gSlL, cut_map, pyAll_sn, pyAll_ap, gAddS, gSlS, fV_obP, shr_obP, fzD_obP, fldP_row, fldP_steps, fldP_names, insP_tells, insP_run, insP_row, insP_steps, insP_names, insP__run_with, insP_at, insP_without, insP_e, obP_of, Nat.reduceLT, or_false, false_or, or_true, true_or, pyO_err, pyO_ended, pyO_left, pyO_asks, wn_step_raise, wn_step_from, wn_step_hide, wn_step_again, wn_step_leave, wn_step_guard, wn_step_ended, wn_step_left, wn_step_error, wn_step_asks, wn_raise_step, wn_raise_from, wn_raise_hide, wn_raise_again, wn_raise_leave, wn_raise_guard, wn_raise_ended, wn_raise_left, wn_raise_error, wn_raise_asks, wn_from_step, wn_from_raise, wn_from_hide, wn_from_again, wn_from_leave, wn_from_guard, wn_from_ended, wn_from_left, wn_from_error, wn_from_asks, wn_hide_step, wn_hide_raise, wn_hide_from, wn_hide_again, wn_hide_leave, wn_hide_guard, wn_hide_ended, wn_hide_left, wn_hide_error, wn_hide_asks, wn_again_step, wn_again_raise, wn_again_from, wn_again_hide, wn_again_leave, wn_again_guard, wn_again_ended, wn_again_left, wn_again_error, wn_again_asks, wn_leave_step, wn_leave_raise, wn_leave_from, wn_leave_hide, wn_leave_again, wn_leave_guard, wn_leave_ended, wn_leave_left, wn_leave_error, wn_leave_asks, wn_guard_step, wn_guard_raise, wn_guard_from, wn_guard_hide, wn_guard_again, wn_guard_leave, wn_guard_ended, wn_guard_left, wn_guard_error, wn_guard_asks, wn_ended_step, wn_ended_raise, wn_ended_from, wn_ended_hide, wn_ended_again, wn_ended_leave, wn_ended_guard, wn_ended_left, wn_ended_error, wn_ended_asks, wn_left_step, wn_left_raise, wn_left_from, wn_left_hide, wn_left_again, wn_left_leave, wn_left_guard, wn_left_ended, wn_left_error, wn_left_asks, wn_error_step, wn_error_raise, wn_error_from, wn_error_hide, wn_error_again, wn_error_leave, wn_error_guard, wn_error_ended, wn_error_left, wn_error_asks, wn_asks_step, wn_asks_raise, wn_asks_from, wn_asks_hide, wn_asks_again, wn_asks_leave, wn_asks_guard, wn_asks_ended, wn_asks_left, wn_asks_error, elT_pyC, elT_pyT, isNonC, pyAll_ints, elL_ints, ints_len, flA_ints, flA_mapI, flD_int, flA_int, inV_ints, fV_objR, py_fz, shr_objR, insR_run_row, insR_run_statement, insR_run_step, insR_run_guard, insR_run_handlers, insR_get_over, ev_vw_t, ev_vw_s, ev_tk_t, ev_tk_s, ev_tks_n, ev_tks_c, ev_fw_t, ev_fw_s, ev_shr_fz, ev_shr_dct, ev_shr_ob, ev_shr_own, ev_shr_tup, ev_shr_pur, ev_shr_obj, ev_shr_set, ev_shr_odc, ev_in_str, ev_in_int, ev_in_bool, ev_in_list, ev_in_tuple, ev_in_none, ev_in_own, ev_in_tup, ev_in_pur, ev_in_dct, ev_in_odc, ev_in_set, ev_tr_none, ev_tr_bool, ev_tr_int, ev_tr_list, ev_tr_tuple, ev_tr_own, ev_tr_tup, ev_tr_dct, ev_len_l, ev_len_t, ev_len_o, ev_len_u, ev_fld_obj, ev_fld_ob, ev_ins_obj, ev_ins_ob, ev_tup_fz, ev_tup_tup, ev_gc_cons, ev_gc_nil, ev_mk1, ev_mk2, ev_mk3, ev_mk4, ev_mk_own0, ev_mk_tup0, ev_mk_own1, ev_mk_own2, ev_mk_tup1, ev_mk_tup2, strs_snoc, Option.isSome_some, Option.isSome_none, Option.map_none, fbanswers_ran, fbanswers_ran', fbanswers_over, fbanswers_over', fbanswers_out, fbanswers_out', fbanswers_row, fbanswers_row', fbanswers_steps, fbanswers_steps', fbanswers_names, fbanswers_names', fbran_answers, fbran_answers', fbran_over, fbran_over', fbran_out, fbran_out', fbran_row, fbran_row', fbran_steps, fbran_steps', fbran_names, fbran_names', fbover_answers, fbover_answers', fbover_ran, fbover_ran', fbover_out, fbover_out', fbover_row, fbover_row', fbover_steps, fbover_steps', fbover_names, fbover_names', fbout_answers, fbout_answers', fbout_ran, fbout_ran', fbout_over, fbout_over', fbout_row, fbout_row', fbout_steps, fbout_steps', fbout_names, fbout_names', fbrow_answers, fbrow_answers', fbrow_ran, fbrow_ran', fbrow_over, fbrow_over', fbrow_out, fbrow_out', fbrow_steps, fbrow_steps', fbrow_names, fbrow_names', fbsteps_answers, fbsteps_answers', fbsteps_ran, fbsteps_ran', fbsteps_over, fbsteps_over', fbsteps_out, fbsteps_out', fbsteps_row, fbsteps_row', fbsteps_names, fbsteps_names', fbnames_answers, fbnames_answers', fbnames_ran, fbnames_ran', fbnames_over, fbnames_over', fbnames_out, fbnames_out', fbnames_row, fbnames_row', fbnames_steps, fbnames_steps', gCatT_fz, ne_eq, not_false_eq_true, flD_str, flA_nil, flA_str, flA_map, flA_strs, inV_nil, inV_str, inV_strs, fzD_set, D.set.injEq, gSortedT, sl1g, sl1_1, sl1_2, sl1_3, sl1_4, cut1, pyAll_mapfz, pyAll_snoc, Option.map_some, fz_map, shr_map, gEqS, gEqI, gEqD, gIxT, gIxL, gIxS, gLen, gLenS, gInt, gListOf, gIs, gIn, gCat, gSlT, gSlL, OwnD.gAll, gInS, putO, rpl, wipeD, List.getD_cons_zero, List.getD_cons_succ, List.set_cons_zero, List.set_cons_succ, List.length_cons, List.length_nil, List.replicate, List.map_cons, List.map_nil, List.cons_append, List.nil_append, List.all_cons, List.all_nil, List.zip_cons_cons, List.zip_nil_left, List.lookup_cons, List.lookup_nil, List.isEmpty_cons, List.isEmpty_nil, List.length_map, stms_len, strs_len, D.fz.injEq, D.own.injEq, D.dct.injEq, D.obj.injEq, PyData.str.injEq, PyData.int.injEq, PyData.list.injEq, PyData.tuple.injEq, PyData.bool.injEq, Option.some.injEq, List.cons.injEq, exists_eq_left', exists_eq_left, exists_eq_right', exists_eq_right, and_true, true_and, Bool.and_true, Bool.true_and, reduceCtorEq, decide_true, decide_false, decide_eq_true_eq, Bool.not_true, Bool.not_false, Bool.false_eq_true, Bool.false_and, Bool.and_false, Bool.true_or, Bool.false_or, Bool.or_false, Bool.or_eq_true, Bool.or_true, Bool.or_false, beq_self_eq_true, ite_true, ite_false, ite_self, exists_const, exists_eq, exists_eq', atI_0, atI_1, atI_2, atI_3, szl0, szl1, szl2, szl3, szl4, exists_and_left, and_assoc, if_true, if_false, Nat.reduceAdd, Nat.reduceSub, Nat.sub_self]))
/-! ### lots, flat rows -/
def gSome : GD := fun ds Q => ∃ (n : Nat) (ts : List Str), ds = [.pur n, .fz (.list (ts.map .str))] ∧ n < 10 ^ 19 ∧ ts.length ≤ 60 ∧ ∀ (xs : List Str) (n' : Nat), (∀ x ∈ xs, x ∈ ts) → xs.length ≤ ts.length → n' ≤ n + 2 * ts.length → Q (.fz (.list (xs.map .str))) [.pur n', .fz (.list (ts.map .str))]
theorem ok_some (T : Txt w K mg) : FnG P w K mg base CX0 2 T.f__law_some T.d__law_some ["well", "titles"] (spD (Zt T) gSome) := by
  refine defG [true, true] T.F__law_some sc__law_some rfl (fun ds Q h => by obtain ⟨n, m, rfl, _⟩ := h; rfl) (fun cdv A outer s H E hr => ?_)
  have hR := hr.1
  have G__law_draw := G_draw (P := P) (base := base) T
  refine ⟨_, _, (pss_cons (ps_set (i := 2) sc__law_some.nd rfl (by first | exact Or.inl rfl | exact Or.inr rfl) (pe_lst pa_nil))
      (pss_cons (ps_for PassesOwn.never rfl (pi_list (pv 1)) (pg_name (i := 3) sc__law_some.nd rfl (by first | exact Or.inl rfl | exact Or.inr rfl))
      (pss_one (ps_if (pt_cmpR op_eq (call_g G__law_draw (hr.mono (by omega)) rfl T.m__law_draw T.F__law_draw.kp T.b__law_draw .nil pass0 (pa_cons (pv 0) (pa_cons pe_int pa_nil))) pe_int (nomark _))
      (pss_cons (ps_set (i := 4) sc__law_some.nd rfl (by first | exact Or.inl rfl | exact Or.inr rfl) (call_g G__law_draw (hr.mono (by omega)) rfl T.m__law_draw T.F__law_draw.kp T.b__law_draw .nil pass0 (pa_cons (pv 0) (pa_cons (pe_op op_add (pe_callB call_len_seq (by rfl) T.z_len (by decide +kernel) (pa_cons (pv 2) pa_nil)) pe_int) pa_nil))))
      (pss_one (ps_set (i := 2) sc__law_some.nd rfl (by first | exact Or.inl rfl | exact Or.inr rfl) (pe_op op_cat (pe_op op_cat (pe_slice sl_list (pv 2) po_none (po_some (pv 4))) (pe_lst (pa_cons (pv 3) pa_nil))) (pe_slice sl_list (pv 2) (po_some (pv 4)) po_none)))))
      pss_nil)))
      (pss_one (ps_ret (pv 2))))), (fun En hp => (dSeq (dAsg (dLst dNil) (dgNameF (S := sAny) (hp 2 rfl) sOk))
      (dSeq (dFor (dIList (dV 1)) (dgNameF (S := sAny) (hp 3 rfl) sOk)
      (dLast (dIf (dTest (dEqI (dCall (dCons (dV 0) (dCons (dInt _) dNil))) (dInt _)))
      (dSeq (dAsg (dCall (dCons (dV 0) (dCons (dAdd (dLen (dCons (dV 2) dNil)) (dInt _)) dNil))) (dgNameF (S := sAny) (hp 4 rfl) sOk))
      (dLast (dAsg (dCat (dCat (dSlL (dV 2) dNoPart (dPart (dV 4))) (dLst (dCons (dV 3) dNil))) (dSlL (dV 2) (dPart (dV 4)) dNoPart)) (dgNameF (S := sAny) (hp 2 rfl) sOk))))
      dNext)))
      (dLast (dRet (dV 2)))))), ?_⟩
  rintro ds Q ⟨n, ts, rfl, hn, hl, q⟩
  walk_at "ev"
  refine loopD_acc (fun x => D.fz (.str x)) (fun done δ => ∃ k xs a b, δ = [.pur k, .fz (.list (ts.map .str)), .fz (.list (xs.map .str)), a, b] ∧ (∀ x ∈ xs, x ∈ done) ∧ xs.length ≤ done.length ∧ k ≤ n + 2 * done.length) ts _ ⟨n, [], _, _, rfl, fun x h => (nomatch h), Nat.le_refl _, Nat.le_refl _⟩ ?_ ?_
  · rintro x dn rest δ e ⟨k, xs, a, b, rfl, hx, hxl, hk⟩ k2
    rw [loopD_cons]
    have hdl : dn.length + 1 ≤ 60 := by rw [e] at hl; simp only [List.length_append, List.length_cons] at hl; omega
    walk_at "ev"
    refine gC.of ⟨_, _, rfl, by omega, by omega, by omega, fun c c0 c1 => ⟨rfl, ?_⟩⟩
    walk_at "ev"
    by_cases c2 : c = 0
    · rw [if_pos c2]
      refine gC.of ⟨_, _, rfl, by omega, by omega, by omega, fun t t0 t1 => ⟨rfl, ?_⟩⟩
      walk_at "ev"
      have hct := cut_two xs t0
      refine ⟨szM (by omega), szM (by simp only [List.length_append, List.length_singleton]; omega), ?_⟩
      refine k2 _ ⟨_, _, _, _, rfl, fun y hy => ?_, ?_, ?_⟩
      · rcases List.mem_append.mp hy with hy | hy
        · rcases List.mem_append.mp hy with hy | hy
          · exact List.mem_append_left _ (hx y (cut_mem hy))
          · exact List.mem_append_right _ hy
        · exact List.mem_append_left _ (hx y (cut_mem hy))
      · simp only [List.length_append, List.length_singleton]; omega
      · rw [List.length_append, List.length_singleton]; omega
    · rw [if_neg c2]
      exact k2 _ ⟨_, xs, _, _, rfl, fun y hy => List.mem_append_left _ (hx y hy), by rw [List.length_append]; omega, by rw [List.length_append, List.length_singleton]; omega⟩
  · rintro δ ⟨k, xs, a, b, rfl, hx, hxl, hk⟩
    · skip
      walk_at "ev"
      exact q xs k hx hxl hk
end
end Toy
namespace Toy
open PySem L2 Own
section
variable {P : Program} {w : World} {K : PySem.W.Frag} {mg : Str → Option Value} {base : Heap}

open OwnD
local macro_rules | `(tactic| walk_at "ev") => `(tactic| (simp only [fAppendZ, pyAll_im, f1, gRevL, ev_unl_fz, pyAll_o, pyAll_t, Option.bind_some, ev_mk_own3, cut_0, cut_11, atI_4, List.reverse_cons, List.reverse_nil, fVar_eq, fV_fz, fV_dct, fV_ob, fV_own, fV_tup, fV_pur, fV_obj, f2, f3, fI, fCB, fCall, fTst, fTruth, fNeg, fParF, fFld, fProp, fMeth, fMake, fSetF, fAppF, fExtF, fLenF, fAppend, fExtend, fClear, fReverse, fgSub, gKGet, gDIn, gDGet, gBoolT, fzD_fz, frB, backs, bkD, startD, endD, elL_fz, elL_own, elT_fz, elT_tup, elS_fl, elS_ft, fzD_own, fzD_tup, fzD_odc, fzD_dct, fzD_pur, fzD_ob, pyAll_nil, pyAll_fz, pyAll_map, pyAll_strs, pyAll_stms, fVarZ, Int.reduceLT, Int.reduceSub, Int.reduceEq, Int.reduceAdd, gSlL, cut_map, pyAll_sn, pyAll_ap, gAddS, gSlS, fV_obP, shr_obP, fzD_obP, fldP_row, fldP_steps, fldP_names, insP_tells, insP_run, insP_row, insP_steps, insP_names, insP__run_with, insP_at, insP_without, insP_e, obP_of, Nat.reduceLT, or_false, false_or, or_true, true_or, pyO_err, pyO_ended, pyO_left, pyO_asks, wn_step_raise, wn_step_from, wn_step_hide, wn_step_again, wn_step_leave, wn_step_guard, wn_step_ended, wn_step_left, wn_step_error, wn_step_asks, wn_raise_step, wn_raise_from, wn_raise_hide, wn_raise_again, wn_raise_leave, wn_raise_guard, wn_raise_ended, wn_raise_left, wn_raise_error, wn_raise_asks, wn_from_step, wn_from_raise, wn_from_hide, wn_from_again, wn_from_leave, wn_from_guard, wn_from_ended, wn_from_left, wn_from_error, wn_from_asks, wn_hide_step, wn_hide_raise, wn_hide_from, wn_hide_again, wn_hide_leave, wn_hide_guard, wn_hide_ended, wn_hide_left, wn_hide_error, wn_hide_asks, wn_again_step, wn_again_raise, wn_again_from, wn_again_hide, wn_again_leave, wn_again_guard, wn_again_ended, wn_again_left, wn_again_error, wn_again_asks, wn_leave_step, wn_leave_raise, wn_leave_from, wn_leave_hide, wn_leave_again, wn_leave_guard, wn_leave_ended, wn_leave_left, wn_leave_error, wn_leave_asks, wn_guard_step, wn_guard_raise, wn_guard_from, wn_guard_hide, wn_guard_again, wn_guard_leave, wn_guard_ended, wn_guard_left, wn_guard_error, wn_guard_asks, wn_ended_step, wn_ended_raise, wn_ended_from, wn_ended_hide, wn_ended_again, wn_ended_leave, wn_ended_guard, wn_ended_left, wn_ended_error, wn_ended_asks, wn_left_step, wn_left_raise, wn_left_from, wn_left_hide, wn_left_again, wn_left_leave, wn_left_guard, wn_left_ended, wn_left_error, wn_left_asks, wn_error_step, wn_error_raise, wn_error_from, wn_error_hide, wn_error_again, wn_error_leave, wn_error_guard, wn_error_ended, wn_error_left, wn_error_asks, wn_asks_step, wn_asks_raise, wn_asks_from, wn_asks_hide, wn_asks_again, wn_asks_leave, wn_asks_guard, wn_asks_ended, wn_asks_left, wn_asks_error, elT_pyC, elT_pyT, isNonC, pyAll_ints, elL_ints, ints_len, flA_ints, flA_mapI, flD_int, flA_int, inV_ints, fV_objR, py_fz, shr_objR, insR_run_row, insR_run_statement, insR_run_step, insR_run_guard, insR_run_handlers, insR_get_over, ev_vw_t, ev_vw_s, ev_tk_t, ev_tk_s, ev_tks_n, ev_tks_c, ev_fw_t, ev_fw_s, ev_shr_fz, ev_shr_dct, ev_shr_ob, ev_shr_own, ev_shr_tup, ev_shr_pur, ev_shr_obj, ev_shr_set, ev_shr_odc, ev_in_str, ev_in_int, ev_in_bool, ev_in_list, ev_in_tuple, ev_in_none, ev_in_own, ev_in_tup, ev_in_pur, ev_in_dct, ev_in_odc, ev_in_set, ev_tr_none, ev_tr_bool, ev_tr_int, ev_tr_list, ev_tr_tuple, ev_tr_own, ev_tr_tup, ev_tr_dct, ev_len_l, ev_len_t, ev_len_o, ev_len_u, ev_fld_obj, ev_fld_ob, ev_ins_obj, ev_ins_ob, ev_tup_fz, ev_tup_tup, ev_gc_cons, ev_gc_nil, ev_mk1, ev_mk2, ev_mk3, ev_mk4, ev_mk_own0, ev_mk_tup0, ev_mk_own1, ev_mk_own2, ev_mk_tup1, ev_mk_tup2, strs_snoc, Option.isSome_some, Option.isSome_none, Option.map_none, fbanswers_ran, fbanswers_ran', fbanswers_over, fbanswers_over', fbanswers_out, fbanswers_out', fbanswers_row, fbanswers_row', fbanswers_steps, fbanswers_steps', fbanswers_names, fbanswers_names', fbran_answers, fbran_answers', fbran_over, fbran_over', fbran_out, fbran_out', fbran_row, fbran_row', fbran_steps, fbran_steps', fbran_names, fbran_names', fbover_answers, fbover_answers', fbover_ran, fbover_ran', fbover_out, fbover_out', fbover_row, fbover_row', fbover_steps, fbover_steps', fbover_names, fbover_names', fbout_answers, fbout_answers', fbout_ran, fbout_ran', fbout_over, fbout_over', fbout_row, fbout_row', fbout_steps, fbout_steps', fbout_names, fbout_names', fbrow_answers, fbrow_answers', fbrow_ran, fbrow_ran', fbrow_over, fbrow_over', fbrow_out, fbrow_out', fbrow_steps, fbrow_steps', fbrow_names, fbrow_names', fbsteps_answers, fbsteps_answers', fbsteps_ran, fbsteps_ran', fbsteps_over, fbsteps_over', fbsteps_out, fbsteps_out', fbsteps_row, fbsteps_row', fbsteps_names, fbsteps_names', fbnames_answers, fbnames_answers', fbnames_ran, fbnames_ran', fbnames_over, fbnames_over', fbnames_out, fbnames_out', fbnames_row, fbnames_row', fbnames_steps, fbnames_steps', gCatT_fz, ne_eq, not_false_eq_true, flD_str, flA_nil, flA_str, flA_map, flA_strs, inV_nil, inV_str, inV_strs, fzD_set, D.set.injEq, gSortedT, sl1g, sl1_1, sl1_2, sl1_3, sl1_4, cut1, pyAll_mapfz, pyAll_snoc, Option.map_some, fz_map, shr_map, gEqS, gEqI, gEqD, gIxT, gIxL, gIxS, gLen, gLenS, gInt, gListOf, gIs, gIn, gCat, gSlT, gSlL, OwnD.gAll, gInS, putO, rpl, wipeD, List.getD_cons_zero, List.getD_cons_succ, List.set_cons_zero, List.set_cons_succ, List.length_cons, List.length_nil, List.replicate, List.map_cons, List.map_nil, List.cons_append, List.nil_append, List.all_cons, List.all_nil, List.zip_cons_cons, List.zip_nil_left, List.lookup_cons, List.lookup_nil, List.isEmpty_cons, List.isEmpty_nil, List.length_map, stms_len, strs_len, D.fz.injEq, D.own.injEq, D.dct.injEq, D.obj.injEq, PyData.str.injEq, PyData.int.injEq, PyData.list.injEq, PyData.tuple.injEq, PyData.bool.injEq, Option.some.injEq, List.cons.injEq, exists_eq_left', exists_eq_left, exists_eq_right', exists_eq_right, and_true, true_and, Bool.and_true, Bool.true_and, reduceCtorEq, decide_true, decide_false, decide_eq_true_eq, Bool.not_true, Bool.not_false, Bool.false_eq_true, Bool.false_and, Bool.and_false, Bool.true_or, Bool.false_or, Bool.or_false, Bool.or_eq_true, Bool.or_true, Bool.or_false, beq_self_eq_true, ite_true, ite_false, ite_self, exists_const, exists_eq, exists_eq', atI_0, atI_1, atI_2, atI_3, szl0, szl1, szl2, szl3, szl4, exists_and_left, and_assoc, if_true, if_false, Nat.reduceAdd, Nat.reduceSub, Nat.sub_self]))
/-! ### places -/
def gSpots (n : Nat) : GD := fun ds Q => ∃ (r : List Stm) (w : List Int) (N : List Str) (i : Bool), ds = [.fz (.list (pyR r)), .fz (.list (w.map .int))] ∧ Row n N i r ∧ w.length + 2 * n ≤ 900 ∧ Q (.own ((spR w 0 r).map fun p => .fz (pySp p))) [.fz (.list (pyR r)), .fz (.list (w.map .int))]
theorem st_spots (T : Txt w K mg) {n k : Nat} {g : GD} (hg : 0 < n → g = gSpots (n - 1)) (G__law_spots : FnG P w K mg base CX0 k T.f__law_spots T.d__law_spots ["lines", "ahead"] (spD (Zt T) g)) :
    FnG P w K mg base CX0 (k + 1) T.f__law_spots T.d__law_spots ["lines", "ahead"] (spD (Zt T) (gSpots n)) := by
  refine defG [true, true] T.F__law_spots sc__law_spots rfl (fun ds Q h => by obtain ⟨n, m, a, b, rfl, _⟩ := h; rfl) (fun cdv A outer s H E hr => ?_)
  have hR := hr.1
  refine ⟨_, _, (pss_cons (ps_set (i := 2) sc__law_spots.nd rfl (by first | exact Or.inl rfl | exact Or.inr rfl) (pe_lst pa_nil))
      (pss_cons (ps_for PassesOwn.never rfl (pi_enum (by rfl) T.z_enumerate (pa_cons (pv 0) pa_nil)) (pg_tup (by rfl) (pgs_cons (pg_name (i := 3) sc__law_spots.nd rfl (by first | exact Or.inl rfl | exact Or.inr rfl)) (pgs_cons (pg_name (i := 4) sc__law_spots.nd rfl (by first | exact Or.inl rfl | exact Or.inr rfl)) pgs_nil)))
      (pss_cons (ps_expr (pe_bm PySem.F.plainAttrs_list PySem.F.slot_list_append PySem.F.type_list_append mt_append (pv 2) (pa_cons (pe_tup (pa_cons (pe_op op_cat (pv 1) (pe_lst (pa_cons (pv 3) pa_nil))) (pa_cons (pv 4) pa_nil))) pa_nil)))
      (pss_one (ps_if (pt_cmpR op_eq (pe_ix (r := rIxT K) ix_tup (pv 4) pe_int (fun _ _ => rfl)) pe_str (nomark _))
      (pss_cons (ps_set (i := 2) sc__law_spots.nd rfl (by first | exact Or.inl rfl | exact Or.inr rfl) (pe_op op_cat (pe_op op_cat (pv 2) (call_g G__law_spots (hr.mono (by omega)) rfl T.m__law_spots T.F__law_spots.kp T.b__law_spots .nil pass0 (pa_cons (pe_ix (r := rIxT K) ix_tup (pv 4) pe_int (fun _ _ => rfl)) (pa_cons (pe_op op_cat (pv 1) (pe_lst (pa_cons (pv 3) (pa_cons pe_int pa_nil)))) pa_nil)))) (call_g G__law_spots (hr.mono (by omega)) rfl T.m__law_spots T.F__law_spots.kp T.b__law_spots .nil pass0 (pa_cons (pe_ix (r := rIxT K) ix_tup (pv 4) pe_int (fun _ _ => rfl)) (pa_cons (pe_op op_cat (pv 1) (pe_lst (pa_cons (pv 3) (pa_cons pe_int pa_nil)))) pa_nil)))))
      (pss_one (ps_for PassesOwn.never rfl (pi_enum (by rfl) T.z_enumerate (pa_cons (pe_ix (r := rIxT K) ix_tup (pv 4) pe_int (fun _ _ => rfl)) pa_nil)) (pg_tup (by rfl) (pgs_cons (pg_name (i := 5) sc__law_spots.nd rfl (by first | exact Or.inl rfl | exact Or.inr rfl)) (pgs_cons (pg_name (i := 6) sc__law_spots.nd rfl (by first | exact Or.inl rfl | exact Or.inr rfl)) pgs_nil)))
      (pss_one (ps_set (i := 2) sc__law_spots.nd rfl (by first | exact Or.inl rfl | exact Or.inr rfl) (pe_op op_cat (pv 2) (call_g G__law_spots (hr.mono (by omega)) rfl T.m__law_spots T.F__law_spots.kp T.b__law_spots .nil pass0 (pa_cons (pe_ix (r := rIxT K) ix_tup (pv 6) pe_int (fun _ _ => rfl)) (pa_cons (pe_op op_cat (pv 1) (pe_lst (pa_cons (pv 3) (pa_cons (pe_op op_add (pv 5) pe_int) pa_nil)))) pa_nil)))))))))
      pss_nil))))
      (pss_one (ps_ret (pv 2))))), (fun En hp => (dSeq (dAsg (dLst dNil) (dgName (S := sAny) (hp 2 rfl) sOk))
      (dSeq (dFor (dIEnum (dCons (dV 0) dNil)) (dgTup (n := 2) (dgCons (dgNameF (S := sAny) (hp 3 rfl) sOk) (dgCons (dgNameF (S := sAny) (hp 4 rfl) sOk) dgNil)))
      (dSeq (dDrop (dAppendZ 2 (dTup (dCons (dCat (dV 1) (dLst (dCons (dV 3) dNil))) (dCons (dV 4) dNil)))))
      (dLast (dIf (dTest (dEqS (dIxT (dV 4) (dInt _)) (dStr _)))
      (dSeq (dAsg (dCat (dCat (dV 2) (dCall (dCons (dIxT (dV 4) (dInt _)) (dCons (dCat (dV 1) (dLst (dCons (dV 3) (dCons (dInt _) dNil)))) dNil)))) (dCall (dCons (dIxT (dV 4) (dInt _)) (dCons (dCat (dV 1) (dLst (dCons (dV 3) (dCons (dInt _) dNil)))) dNil)))) (dgName (S := sAny) (hp 2 rfl) sOk))
      (dLast (dFor (dIEnum (dCons (dIxT (dV 4) (dInt _)) dNil)) (dgTup (n := 2) (dgCons (dgNameF (S := sAny) (hp 5 rfl) sOk) (dgCons (dgNameF (S := sAny) (hp 6 rfl) sOk) dgNil)))
      (dLast (dAsg (dCat (dV 2) (dCall (dCons (dIxT (dV 6) (dInt _)) (dCons (dCat (dV 1) (dLst (dCons (dV 3) (dCons (dAdd (dV 5) (dInt _)) dNil)))) dNil)))) (dgName (S := sAny) (hp 2 rfl) sOk))))))
      dNext))))
      (dLast (dRet (dV 2)))))), ?_⟩
  rintro ds Q ⟨r, w, N, i, rfl, hr, hw, q⟩
  walk_at "ev"
  rw [pyR_map, enumD_map]
  have hc := hr.cnt
  refine loopD_acc (fun p : Stm × Nat => D.fz (.tuple [.int (p.2 : Nat), pyS p.1])) (fun done δ => ∃ a b c d, δ = [.fz (.list (r.map pyS)), .fz (.list (w.map .int)), .own ((spR w 0 (done.map (·.1))).map fun p => .fz (pySp p)), a, b, c, d]) r.zipIdx _ ⟨_, _, _, _, rfl⟩ ?_ ?_
  · rintro ⟨x, t⟩ dn rest δ e ⟨a1, a2, a3, a4, rfl⟩ k
    have hx : StmOk n N i x := hr.mem (zip_mem (p := (x, t)) (by rw [e]; simp))
    obtain ⟨hsn, hln⟩ := sp_step w e
    rw [hsn, List.map_append] at k
    generalize spR w 0 (dn.map (·.1)) = L at k hln
    have hcp := cntS_pos x
    rw [loopD_cons]
    cases x with
    | again =>
      rw [pyS]
      walk_at "ev"
      exact ⟨szM (by omega), szN (by omega), k _ ⟨_, _, _, _, by rw [show spS (w ++ [(t : Int)]) .again = [(w ++ [(t : Int)], .again)] from rfl, List.map_singleton]; unfold pySp; rw [List.map_append]; rfl⟩⟩
    | leave =>
      rw [pyS]
      walk_at "ev"
      exact ⟨szM (by omega), szN (by omega), k _ ⟨_, _, _, _, by rw [show spS (w ++ [(t : Int)]) .leave = [(w ++ [(t : Int)], .leave)] from rfl, List.map_singleton]; unfold pySp; rw [List.map_append]; rfl⟩⟩
    | one wd y =>
      have hg : ¬ wd = "guard" := by
        have hf := hx.fine
        rw [fineS] at hf
        simp only [Bool.and_eq_true] at hf
        rcases word_of hf.1.1 with rfl | rfl | rfl | rfl <;> decide +kernel
      rw [pyS]
      walk_at "ev"
      rw [if_neg hg]
      exact ⟨szM (by omega), szN (by omega), k _ ⟨_, _, _, _, by rw [show spS (w ++ [(t : Int)]) (.one wd y) = [(w ++ [(t : Int)], (.one wd y))] from rfl, List.map_singleton]; unfold pySp; rw [List.map_append]; rfl⟩⟩
    | guard b hs l =>
      obtain ⟨m, rfl⟩ := hx.pos
      obtain rfl := hg (Nat.succ_pos m)
      obtain ⟨hb, hll, hh, hhl⟩ := hx.guard
      rw [cntS] at hln
      have lb := spR_len b (w ++ [(t : Int), 0]) 0
      have ll := spR_len l (w ++ [(t : Int), 1]) 0
      rw [pyS]
      walk_at "ev"
      refine ⟨szM (by omega), szN (by omega), szM (by omega), ?_⟩
      have hsS : spS (w ++ [(t : Int)]) (.guard b hs l) = (w ++ [(t : Int)], .guard b hs l) :: (spR (w ++ [(t : Int), 0]) 0 b ++ (spR (w ++ [(t : Int), 1]) 0 l ++ spHs (w ++ [(t : Int)]) 2 hs)) := by
        rw [spS, List.append_assoc, List.append_assoc]; rfl
      have eM : (L.map fun p => D.fz (pySp p)) ++ [D.fz (.tuple [.list (w.map .int ++ [.int (t : Int)]), .tuple [.str "guard", .list (pyR b), .list (pyHs hs), .list (pyR l)]])] = (L ++ [(w ++ [(t : Int)], Stm.guard b hs l)]).map fun p => D.fz (pySp p) := by
        rw [List.map_append, List.map_singleton]
        show _ = _ ++ [D.fz (.tuple [.list ((w ++ [(t : Int)]).map .int), pyS (.guard b hs l)])]
        rw [List.map_append]; rfl
      rw [eM]
      have hM : (L ++ [(w ++ [(t : Int)], Stm.guard b hs l)]).length = L.length + 1 := by rw [List.length_append]; rfl
      have eW : L ++ spS (w ++ [(t : Int)]) (.guard b hs l) = (L ++ [(w ++ [(t : Int)], Stm.guard b hs l)]) ++ spR (w ++ [(t : Int), 0]) 0 b ++ spR (w ++ [(t : Int), 1]) 0 l ++ spHs (w ++ [(t : Int)]) 2 hs := by
        rw [hsS]; simp [List.append_assoc]
      rw [← List.map_append, eW] at k
      generalize L ++ [(w ++ [(t : Int)], Stm.guard b hs l)] = M at k hM
      refine gC.of ⟨b, w ++ [(t : Int), 0], N, i, by rw [List.map_append]; rfl, hb, by rw [List.length_append]; show w.length + 2 + 2 * m ≤ 900; omega, ⟨rfl, ?_⟩⟩
      walk_at "ev"
      refine ⟨szM (by omega), szM (by omega), ?_⟩
      refine gC.of ⟨l, w ++ [(t : Int), 1], N, i, by rw [List.map_append]; rfl, hll, by rw [List.length_append]; show w.length + 2 + 2 * m ≤ 900; omega, ⟨rfl, ?_⟩⟩
      rw [← List.map_append]
      walk_at "ev"
      rw [List.length_append]
      refine ⟨szM (by omega), ?_⟩
      rw [← List.map_append, pyHs_map, enumD_map]
      refine loopD_acc (fun p : Han × Nat => D.fz (.tuple [.int (p.2 : Nat), pyH p.1])) (fun done δ => ∃ a b2 c2, δ = [.fz (.list (r.map pyS)), .fz (.list (w.map .int)), .own ((M ++ spR (w ++ [(t : Int), 0]) 0 b ++ spR (w ++ [(t : Int), 1]) 0 l ++ spHs (w ++ [(t : Int)]) 2 (done.map (·.1))).map fun p => .fz (pySp p)), .fz (.int t), a, b2, c2]) hs.zipIdx _ ⟨_, _, _, by rw [List.map_nil, spHs, List.append_nil]⟩ ?_ ?_
      · rintro ⟨x, t2⟩ dn2 rest2 δ e2 ⟨a, b2, c2, rfl⟩ k2
        obtain ⟨ns, r2⟩ := x
        have hx2 := hh _ (zip_mem (p := (Han.mk ns r2, t2)) (by rw [e2]; simp))
        obtain ⟨hsn2, hln2⟩ := sph_step (w ++ [(t : Int)]) e2
        have esp : spH (w ++ [(t : Int)] ++ [(t2 : Int) + 2]) (.mk ns r2) = spR (w ++ [(t : Int), (t2 : Int) + 2]) 0 r2 := by rw [spH, List.append_assoc]; rfl
        rw [hsn2, esp, ← List.append_assoc] at k2
        have lr2 := spR_len r2 (w ++ [(t : Int), (t2 : Int) + 2]) 0
        have ecn : cntH (.mk ns r2) = cntR r2 := by rw [cntH]
        have hM2 : (M ++ spR (w ++ [(t : Int), 0]) 0 b ++ spR (w ++ [(t : Int), 1]) 0 l ++ spHs (w ++ [(t : Int)]) 2 (dn2.map (·.1))).length ≤ 70 := by
          simp only [List.length_append]; omega
        generalize M ++ spR (w ++ [(t : Int), 0]) 0 b ++ spR (w ++ [(t : Int), 1]) 0 l ++ spHs (w ++ [(t : Int)]) 2 (dn2.map (·.1)) = M3 at k2 hM2
        rw [loopD_cons, pyH]
        walk_at "ev"
        refine ⟨szM (by omega), ?_⟩
        refine gC.of ⟨r2, w ++ [(t : Int), (t2 : Int) + 2], N, true, by rw [List.map_append]; rfl, hx2.row.1, by rw [List.length_append]; show w.length + 2 + 2 * m ≤ 900; omega, ⟨rfl, ?_⟩⟩
        walk_at "ev"
        rw [← List.map_append]
        exact ⟨szM (by omega), k2 _ ⟨_, _, _, rfl⟩⟩
      · rintro δ ⟨a, b2, c2, rfl⟩
        have hz : (hs.zipIdx).map (·.1) = hs := by
          have : ∀ (l : List Han) (n : Nat), (l.zipIdx n).map (·.1) = l := fun l => by
            induction l with
            | nil => intro n; rfl
            | cons x l ih => intro n; rw [List.zipIdx_cons, List.map_cons, ih]
          exact this hs 0
        rw [hz]
        exact k _ ⟨_, _, _, _, rfl⟩
  · rintro δ ⟨a, b, c, d, rfl⟩
    · skip
      walk_at "ev"
      have hz : (r.zipIdx).map (·.1) = r := by
        have : ∀ (l : List Stm) (n : Nat), (l.zipIdx n).map (·.1) = l := fun l => by
          induction l with
          | nil => intro n; rfl
          | cons x l ih => intro n; rw [List.zipIdx_cons, List.map_cons, ih]
        exact this r 0
      rw [pyR_map, hz] at *
      exact q
theorem ok_spots (T : Txt w K mg) : ∀ n, FnG P w K mg base CX0 (n + 1) T.f__law_spots T.d__law_spots ["lines", "ahead"] (spD (Zt T) (gSpots n))
  | 0 => st_spots T (k := 0) (g := gNone) (fun h => absurd h (by decide)) none_g
  | n + 1 => st_spots T (k := n + 1) (g := gSpots n) (fun _ => rfl) (ok_spots T n)
end
end Toy
namespace Toy
open PySem L2 Own
section
variable {P : Program} {w : World} {K : PySem.W.Frag} {mg : Str → Option Value} {base : Heap}

open OwnD
local macro_rules | `(tactic| walk_at "ev") => `(tactic| (simp only [fAppendZ, gSetL, pyAll_im, f1, gRevL, ev_unl_fz, pyAll_o, pyAll_t, Option.bind_some, ev_mk_own3, cut_0, cut_11, atI_4, List.reverse_cons, List.reverse_nil, fVar_eq, fV_fz, fV_dct, fV_ob, fV_own, fV_tup, fV_pur, fV_obj, f2, f3, fI, fCB, fCall, fTst, fTruth, fNeg, fParF, fFld, fProp, fMeth, fMake, fSetF, fAppF, fExtF, fLenF, fAppend, fExtend, fClear, fReverse, fgSub, gKGet, gDIn, gDGet, gBoolT, fzD_fz, frB, backs, bkD, startD, endD, elL_fz, elL_own, elT_fz, elT_tup, elS_fl, elS_ft, fzD_own, fzD_tup, fzD_odc, fzD_dct, fzD_pur, fzD_ob, pyAll_nil, pyAll_fz, pyAll_map, pyAll_strs, pyAll_stms, fVarZ, Int.reduceLT, Int.reduceSub, Int.reduceEq, Int.reduceAdd, gSlL, cut_map, pyAll_sn, pyAll_ap, gAddS, gSlS, fV_obP, shr_obP, fzD_obP, fldP_row, fldP_steps, fldP_names, insP_tells, insP_run, insP_row, insP_steps, insP_names, insP__run_with, insP_at, insP_without, insP_e, obP_of, Nat.reduceLT, or_false, false_or, or_true, true_or, pyO_err, pyO_ended, pyO_left, pyO_asks, wn_step_raise, wn_step_from, wn_step_hide, wn_step_again, wn_step_leave, wn_step_guard, wn_step_ended, wn_step_left, wn_step_error, wn_step_asks, wn_raise_step, wn_raise_from, wn_raise_hide, wn_raise_again, wn_raise_leave, wn_raise_guard, wn_raise_ended, wn_raise_left, wn_raise_error, wn_raise_asks, wn_from_step, wn_from_raise, wn_from_hide, wn_from_again, wn_from_leave, wn_from_guard, wn_from_ended, wn_from_left, wn_from_error, wn_from_asks, wn_hide_step, wn_hide_raise, wn_hide_from, wn_hide_again, wn_hide_leave, wn_hide_guard, wn_hide_ended, wn_hide_left, wn_hide_error, wn_hide_asks, wn_again_step, wn_again_raise, wn_again_from, wn_again_hide, wn_again_leave, wn_again_guard, wn_again_ended, wn_again_left, wn_again_error, wn_again_asks, wn_leave_step, wn_leave_raise, wn_leave_from, wn_leave_hide, wn_leave_again, wn_leave_guard, wn_leave_ended, wn_leave_left, wn_leave_error, wn_leave_asks, wn_guard_step, wn_guard_raise, wn_guard_from, wn_guard_hide, wn_guard_again, wn_guard_leave, wn_guard_ended, wn_guard_left, wn_guard_error, wn_guard_asks, wn_ended_step, wn_ended_raise, wn_ended_from, wn_ended_hide, wn_ended_again, wn_ended_leave, wn_ended_guard, wn_ended_left, wn_ended_error, wn_ended_asks, wn_left_step, wn_left_raise, wn_left_from, wn_left_hide, wn_left_again, wn_left_leave, wn_left_guard, wn_left_ended, wn_left_error, wn_left_asks, wn_error_step, wn_error_raise, wn_error_from, wn_error_hide, wn_error_again, wn_error_leave, wn_error_guard, wn_error_ended, wn_error_left, wn_error_asks, wn_asks_step, wn_asks_raise, wn_asks_from, wn_asks_hide, wn_asks_again, wn_asks_leave, wn_asks_guard, wn_asks_ended, wn_asks_left, wn_asks_error, elT_pyC, elT_pyT, isNonC, pyAll_ints, elL_ints, ints_len, flA_ints, flA_mapI, flD_int, flA_int, inV_ints, fV_objR, py_fz, shr_objR, insR_run_row, insR_run_statement, insR_run_step, insR_run_guard, insR_run_handlers, insR_get_over, ev_vw_t, ev_vw_s, ev_tk_t, ev_tk_s, ev_tks_n, ev_tks_c, ev_fw_t, ev_fw_s, ev_shr_fz, ev_shr_dct, ev_shr_ob, ev_shr_own, ev_shr_tup, ev_shr_pur, ev_shr_obj, ev_shr_set, ev_shr_odc, ev_in_str, ev_in_int, ev_in_bool, ev_in_list, ev_in_tuple, ev_in_none, ev_in_own, ev_in_tup, ev_in_pur, ev_in_dct, ev_in_odc, ev_in_set, ev_tr_none, ev_tr_bool, ev_tr_int, ev_tr_list, ev_tr_tuple, ev_tr_own, ev_tr_tup, ev_tr_dct, ev_len_l, ev_len_t, ev_len_o, ev_len_u, ev_fld_obj, ev_fld_ob, ev_ins_obj, ev_ins_ob, ev_tup_fz, ev_tup_tup, ev_gc_cons, ev_gc_nil, ev_mk1, ev_mk2, ev_mk3, ev_mk4, ev_mk_own0, ev_mk_tup0, ev_mk_own1, ev_mk_own2, ev_mk_tup1, ev_mk_tup2, strs_snoc, Option.isSome_some, Option.isSome_none, Option.map_none, fbanswers_ran, fbanswers_ran', fbanswers_over, fbanswers_over', fbanswers_out, fbanswers_out', fbanswers_row, fbanswers_row', fbanswers_steps, fbanswers_steps', fbanswers_names, fbanswers_names', fbran_answers, fbran_answers', fbran_over, fbran_over', fbran_out, fbran_out', fbran_row, fbran_row', fbran_steps, fbran_steps', fbran_names, fbran_names', fbover_answers, fbover_answers', fbover_ran, fbover_ran', fbover_out, fbover_out', fbover_row, fbover_row', fbover_steps, fbover_steps', fbover_names, fbover_names', fbout_answers, fbout_answers', fbout_ran, fbout_ran', fbout_over, fbout_over', fbout_row, fbout_row', fbout_steps, fbout_steps', fbout_names, fbout_names', fbrow_answers, fbrow_answers', fbrow_ran, fbrow_ran', fbrow_over, fbrow_over', fbrow_out, fbrow_out', fbrow_steps, fbrow_steps', fbrow_names, fbrow_names', fbsteps_answers, fbsteps_answers', fbsteps_ran, fbsteps_ran', fbsteps_over, fbsteps_over', fbsteps_out, fbsteps_out', fbsteps_row, fbsteps_row', fbsteps_names, fbsteps_names', fbnames_answers, fbnames_answers', fbnames_ran, fbnames_ran', fbnames_over, fbnames_over', fbnames_out, fbnames_out', fbnames_row, fbnames_row', fbnames_steps, fbnames_steps', gCatT_fz, ne_eq, not_false_eq_true, flD_str, flA_nil, flA_str, flA_map, flA_strs, inV_nil, inV_str, inV_strs, fzD_set, D.set.injEq, gSortedT, sl1g, sl1_1, sl1_2, sl1_3, sl1_4, cut1, pyAll_mapfz, pyAll_snoc, Option.map_some, fz_map, shr_map, gEqS, gEqI, gEqD, gIxT, gIxL, gIxS, gLen, gLenS, gInt, gListOf, gIs, gIn, gCat, gSlT, gSlL, OwnD.gAll, gInS, putO, rpl, wipeD, List.getD_cons_zero, List.getD_cons_succ, List.set_cons_zero, List.set_cons_succ, List.length_cons, List.length_nil, List.replicate, List.map_cons, List.map_nil, List.cons_append, List.nil_append, List.all_cons, List.all_nil, List.zip_cons_cons, List.zip_nil_left, List.lookup_cons, List.lookup_nil, List.isEmpty_cons, List.isEmpty_nil, List.length_map, stms_len, strs_len, D.fz.injEq, D.own.injEq, D.dct.injEq, D.obj.injEq, PyData.str.injEq, PyData.int.injEq, PyData.list.injEq, PyData.tuple.injEq, PyData.bool.injEq, Option.some.injEq, List.cons.injEq, exists_eq_left', exists_eq_left, exists_eq_right', exists_eq_right, and_true, true_and, Bool.and_true, Bool.true_and, reduceCtorEq, decide_true, decide_false, decide_eq_true_eq, Bool.not_true, Bool.not_false, Bool.false_eq_true, Bool.false_and, Bool.and_false, Bool.true_or, Bool.false_or, Bool.or_false, Bool.or_eq_true, Bool.or_true, Bool.or_false, beq_self_eq_true, ite_true, ite_false, ite_self, exists_const, exists_eq, exists_eq', atI_0, atI_1, atI_2, atI_3, szl0, szl1, szl2, szl3, szl4, exists_and_left, and_assoc, if_true, if_false, Nat.reduceAdd, Nat.reduceSub, Nat.sub_self]))
/-! ### the steps -/
def gStepsOf (n : Nat) : GD := fun ds Q => ∃ (r : List Stm) (N : List Str) (i : Bool), ds = [.fz (.list (pyR r))] ∧ Row n N i r ∧ n ≤ 400 ∧ ∀ ys, Srt ys (stepsR r) → Q (.own (strsD ys)) [.fz (.list (pyR r))]
theorem ok_stepsof (T : Txt w K mg) (n : Nat) : FnG P w K mg base CX0 (n + 2) T.f__law_steps_of T.d__law_steps_of ["lines"] (spD (Zt T) (gStepsOf n)) := by
  refine defG [true] T.F__law_steps_of sc__law_steps_of rfl (fun ds Q h => by obtain ⟨n, m, a, rfl, _⟩ := h; rfl) (fun cdv A outer s H E hr => ?_)
  have hR := hr.1
  have G__law_spots := ok_spots (P := P) (base := base) T n
  refine ⟨_, _, (pss_one (ps_ret (pe_callB (OwnS.cr_sortedT rfl) (by rfl) T.z_sorted (by decide +kernel) (pa_cons (pe_callTy (OwnS.cr_setL rfl) (by rfl) T.z_set (by decide +kernel) (pa_cons (pe_lc (own := [("spot", 1), ("one", 2)]) (g := gTup K 2 (gCons (gName 1) (gCons (gName 2) gNil))) rfl sc__law_steps_of.nd (pi_list (call_g G__law_spots (hr.mono (by omega)) rfl T.m__law_spots T.F__law_spots.kp T.b__law_spots .nil pass0 (pa_cons (pv 0) (pa_cons (pe_lst pa_nil) pa_nil)))) (blkOk_by (own := [("spot", 1), ("one", 2)]) (N := ["lines", "spot", "one"]) (sc := defScope s__law_steps_of) (by decide +kernel)) (fun _ _ _ _ _ => (pg_tup (by rfl) (pgs_cons (pg_name (i := 1) sc__law_steps_of.nd rfl (by first | exact Or.inl rfl | exact Or.inr rfl)) (pgs_cons (pg_name (i := 2) sc__law_steps_of.nd rfl (by first | exact Or.inl rfl | exact Or.inr rfl)) pgs_nil)))) (fun _ _ _ _ _ => (pts_one (pt_cmpR op_eq (pe_ix (r := rIxT K) ix_tup (pv 2) pe_int (fun _ _ => rfl)) pe_str (nomark _)))) (fun _ _ _ _ _ => (pe_ix (r := rIxT K) ix_tup (pv 2) pe_int (fun _ _ => rfl)))) pa_nil)) pa_nil)))), (fun En hp => (dLast (dRet (dSortedT (dCons (dSetL (dCons (dLc (pinAll hp (by decide)) (dIList (dCall (dCons (dV 0) (dCons (dLst dNil) dNil)))) (dgTup (n := 2) (dgCons (dgNameF (hp 1 rfl) (sw (by decide))) (dgCons (dgNameF (hp 2 rfl) (sw (by decide))) dgNil))) (dTest (dEqS (dIxT (dV 2) (dInt _)) (dStr _))) (dIxT (dV 2) (dInt _))) dNil)) dNil))))), ?_⟩
  rintro ds Q ⟨r, N, i, rfl, hr, hn, q⟩
  walk_at "ev"
  refine gC.of ⟨r, [], N, i, rfl, hr, by show 0 + 2 * n ≤ 900; omega, ⟨rfl, ?_⟩⟩
  walk_at "ev"
  have hlen : ((spR [] 0 r).map (·.2)) = flatR r := spR_flat r [] 0
  have hsl := steps_len r
  have hc := hr.cnt
  have hpl := spR_len r [] 0
  refine compD_inv (fun its acc δ => ∃ dn rest a b, δ = [.fz (.list (pyR r)), a, b] ∧ acc = strsD ((dn.map fun p => stepNm p.2).flatten) ∧ its = rest.map (fun p => D.fz (pySp p)) ∧ spR [] 0 r = dn ++ rest) _ _ _ ⟨[], spR [] 0 r, _, _, rfl, rfl, rfl, rfl⟩ ?_ ?_
  · rintro d0 r0 acc δ ⟨dn, rest, a, b, rfl, rfl, hits, hxs⟩ kk
    cases rest with
    | nil => cases hits
    | cons o rest =>
      obtain ⟨wo, so⟩ := o
      obtain ⟨rfl, rfl⟩ := List.cons.inj hits
      obtain ⟨wd, es, e1, hcase⟩ := ev_steps so
      have hxs2 : spR [] 0 r = (dn ++ [(wo, so)]) ++ rest := by rw [hxs, List.append_assoc]; rfl
      have hsn : ((dn ++ [(wo, so)]).map fun p => stepNm p.2).flatten = (dn.map fun p => stepNm p.2).flatten ++ stepNm so := by
        rw [List.map_append, List.flatten_append, List.map_singleton, List.flatten_singleton]
      have hdl : dn.length ≤ 60 := by have := congrArg List.length hxs; rw [List.length_append] at this; omega
      have hl2 : ((dn.map fun p => stepNm p.2).flatten).length ≤ 60 := by
        have h9 : (((dn ++ (wo, so) :: rest).map fun p => stepNm p.2).flatten).length ≤ 60 := by
          rw [← hxs]
          have : ((spR [] 0 r).map fun p => stepNm p.2) = (flatR r).map stepNm := by rw [← hlen, List.map_map]; rfl
          rw [this]
          exact Nat.le_trans hsl hc
        rw [List.map_append, List.flatten_append, List.length_append] at h9
        omega
      rw [compD_cons, show (fun p => D.fz (pySp p)) (wo, so) = D.fz (.tuple [.list (wo.map .int), pyS so]) from rfl, e1]
      walk_at "ev"
      rcases hcase with ⟨rfl, y, rfl, e2⟩ | ⟨nw, e2⟩
      · rw [e2] at hsn
        walk_at "ev"
        exact ⟨szN (by omega), kk _ _ ⟨_, rest, _, _, rfl, by rw [hsn]; try exact strs_snoc _ _, rfl, hxs2⟩⟩
      · rw [e2, List.append_nil] at hsn
        rw [if_neg nw]
        exact kk _ _ ⟨_, rest, _, _, rfl, by rw [hsn], rfl, hxs2⟩
  · rintro acc δ ⟨dn, rest, a, b, rfl, rfl, hits, hxs⟩
    obtain rfl : rest = [] := by
      cases rest with
      | nil => rfl
      | cons a b => cases hits
    rw [List.append_nil] at hxs
    have hfin : (dn.map fun p => stepNm p.2).flatten = stepsR r := by
      unfold stepsR
      rw [← hlen, hxs, List.map_map]; rfl
    rw [hfin]
    walk_at "ev"
    have hol := OwnS.once_len (stepsR r) []
    have e0 : ([] : List Str).length = 0 := rfl
    exact ⟨stepsR r, rfl, by show (stepsR r).length < 4096; omega, by omega, fun ys p so => q ys ((once_set _).srt p so)⟩
/-! ### a plain row -/
def gPlain : GD := fun ds Q => ∃ (n : Nat) (ts : List Str) (m : Nat), ds = [.pur n, .fz (.list (ts.map .str)), .fz (.int m)] ∧ n < 10 ^ 19 - 1000 ∧ 1 ≤ ts.length ∧ ts.length ≤ 60 ∧ m ≤ 60 ∧ ∀ (r : List Stm) (n' : Nat), r.all flatB = true → fineR ts false r = true → r.length ≤ m → n' ≤ n + 2 * m → Q (.own (stmsD r)) [.pur n', .fz (.list (ts.map .str)), .fz (.int m)]
theorem ok_plain (T : Txt w K mg) : FnG P w K mg base CX0 2 T.f__law_plain_row T.d__law_plain_row ["well", "titles", "size"] (spD (Zt T) gPlain) := by
  refine defG [true, true, true] T.F__law_plain_row sc__law_plain_row rfl (fun ds Q h => by obtain ⟨n, m, a, rfl, _⟩ := h; rfl) (fun cdv A outer s H E hr => ?_)
  have hR := hr.1
  have G__law_draw := G_draw (P := P) (base := base) T
  refine ⟨_, _, (pss_cons (ps_set (i := 3) sc__law_plain_row.nd rfl (by first | exact Or.inl rfl | exact Or.inr rfl) (pe_lst pa_nil))
      (pss_cons (ps_for PassesOwn.never rfl (pi_range1 (by rfl) T.z_range (pa_cons (pv 2) pa_nil)) (pg_name (i := 4) sc__law_plain_row.nd rfl (by first | exact Or.inl rfl | exact Or.inr rfl))
      (pss_cons (ps_par (i := 5) (j := 6) rfl sc__law_plain_row.nd rfl rfl (by decide) rfl rfl (pa_cons (call_g G__law_draw (hr.mono (by omega)) rfl T.m__law_draw T.F__law_draw.kp T.b__law_draw .nil pass0 (pa_cons (pv 0) (pa_cons pe_int pa_nil))) (pa_cons (pe_ix (r := rIxL K) ix_list (pv 1) (call_g G__law_draw (hr.mono (by omega)) rfl T.m__law_draw T.F__law_draw.kp T.b__law_draw .nil pass0 (pa_cons (pv 0) (pa_cons (pe_callB call_len_seq (by rfl) T.z_len (by decide +kernel) (pa_cons (pv 1) pa_nil)) pa_nil))) (fun _ _ => rfl)) pa_nil)) (by rfl))
      (pss_one (ps_if (pt_cmpR op_eq (pv 5) pe_int (nomark _))
      (pss_one (ps_expr (pe_bm PySem.F.plainAttrs_list PySem.F.slot_list_append PySem.F.type_list_append mt_append (pv 3) (pa_cons (pe_tup (pa_cons pe_str pa_nil)) pa_nil))))
      (pss_one (ps_expr (pe_bm PySem.F.plainAttrs_list PySem.F.slot_list_append PySem.F.type_list_append mt_append (pv 3) (pa_cons (pe_tup (pa_cons (pe_ifExp (pt_cmpR op_lt (pv 5) pe_int (nomark _)) (pe_ix (r := rIxL K) ix_list (pe_lst (pa_cons pe_str (pa_cons pe_str pa_nil))) (pe_op op_sub (pv 5) pe_int) (fun _ _ => rfl)) pe_str) (pa_cons (pv 6) pa_nil))) pa_nil))))))))
      (pss_one (ps_ret (pv 3))))), (fun En hp => (dSeq (dAsg (dLst dNil) (dgName (S := sAny) (hp 3 rfl) sOk))
      (dSeq (dFor (dIRng1 (dCons (dV 2) dNil)) (dgNameF (S := sAny) (hp 4 rfl) sOk)
      (dSeq (dParF true true (dCons (dCall (dCons (dV 0) (dCons (dInt _) dNil))) (dCons (dIxL (dV 1) (dCall (dCons (dV 0) (dCons (dLen (dCons (dV 1) dNil)) dNil)))) dNil)) (hp 5 rfl) (hp 6 rfl))
      (dLast (dIf (dTest (dEqI (dV 5) (dInt _)))
      (dLast (dDrop (dAppend 3 (dTup (dCons (dStr _) dNil)))))
      (dLast (dDrop (dAppend 3 (dTup (dCons (dIfE (dTest (dLt (dV 5) (dInt _))) (dIxL (dLst (dCons (dStr _) (dCons (dStr _) dNil))) (dSub (dV 5) (dInt _))) (dStr _)) (dCons (dV 6) dNil))))))))))
      (dLast (dRet (dV 3)))))), ?_⟩
  rintro ds Q ⟨n, ts, m, rfl, hn, hl1, hl, hm, q⟩
  walk_at "ev"
  refine ⟨by omega, by omega, ?_⟩
  rw [intsD_nat]
  refine loopD_acc (fun i : Nat => D.fz (.int (i : Nat))) (fun done δ => ∃ k r a b d, δ = [.pur k, .fz (.list (ts.map .str)), .fz (.int m), .own (stmsD r), a, b, d] ∧ r.all flatB = true ∧ fineR ts false r = true ∧ r.length ≤ done.length ∧ k ≤ n + 2 * done.length) (List.range (m : Int).toNat) _ ⟨n, [], _, _, _, rfl, rfl, rfl, Nat.le_refl _, Nat.le_refl _⟩ ?_ ?_
  · rintro j dn rest δ e ⟨k, r, a, b, d, rfl, hf, hfi, hrl, hk⟩ k2
    rw [loopD_cons]
    have hdl : dn.length + 1 ≤ m := by
      have := congrArg List.length e
      rw [List.length_range, List.length_append, List.length_cons] at this; omega
    walk_at "ev"
    refine gC.of ⟨_, _, rfl, by omega, by omega, by omega, fun wy wy0 wy1 => ⟨rfl, ?_⟩⟩
    walk_at "ev"
    refine gC.of ⟨_, _, rfl, by omega, by omega, by omega, fun ti ti0 ti1 => ⟨rfl, ?_⟩⟩
    walk_at "ev"
    obtain ⟨x, hx, ex⟩ := strs_at (xs := ts) ti0 ti1
    have ex : atI (ts.map fun x => D.fz (.str x)) ti = some (.fz (.str x)) := ex
    refine ⟨_, ex, rfl, ?_⟩
    have push : ∀ s : Stm, flatB s = true → fineS ts false s = true → (r ++ [s]).all flatB = true ∧ fineR ts false (r ++ [s]) = true ∧ (r ++ [s]).length ≤ (dn ++ [j]).length ∧ k + 1 + 1 ≤ n + 2 * (dn ++ [j]).length := fun s h1 h2 =>
      ⟨by rw [List.all_append, hf]; simp [h1], fineR_snoc hfi h2, by simp only [List.length_append, List.length_singleton]; omega, by simp only [List.length_append, List.length_singleton]; omega⟩
    have hs : r.length < sizeLine := szN (by omega)
    have hw : wy = 0 ∨ wy = 1 ∨ wy = 2 ∨ 3 ≤ wy := by omega
    rcases hw with rfl | rfl | rfl | hw
    · skip
      walk_at "ev"
      rw [show (D.fz (.tuple [.str "leave"]) : D) = .fz (pyS .leave) from rfl, stms_snoc]
      exact ⟨hs, k2 _ ⟨_, _, _, _, _, rfl, push .leave rfl rfl⟩⟩
    · skip
      walk_at "ev"
      rw [show (D.fz (.tuple [.str "raise", .str x]) : D) = .fz (pyS (.one "raise" x)) from rfl, stms_snoc]
      exact ⟨hs, k2 _ ⟨_, _, _, _, _, rfl, push (.one "raise" x) rfl (fine_one hx _ (by decide +kernel) (.inr (by decide +kernel)))⟩⟩
    · skip
      walk_at "ev"
      rw [show (D.fz (.tuple [.str "hide", .str x]) : D) = .fz (pyS (.one "hide" x)) from rfl, stms_snoc]
      exact ⟨hs, k2 _ ⟨_, _, _, _, _, rfl, push (.one "hide" x) rfl (fine_one hx _ (by decide +kernel) (.inr (by decide +kernel)))⟩⟩
    · rw [if_neg (by omega : ¬ wy = 0), if_neg (by omega : ¬ wy < 3)]
      walk_at "ev"
      rw [show (D.fz (.tuple [.str "step", .str x]) : D) = .fz (pyS (.one "step" x)) from rfl, stms_snoc]
      exact ⟨hs, k2 _ ⟨_, _, _, _, _, rfl, push (.one "step" x) rfl (fine_one hx _ (by decide +kernel) (.inr (by decide +kernel)))⟩⟩
  · rintro δ ⟨k, r, a, b, d, rfl, hf, hfi, hrl, hk⟩
    · skip
      walk_at "ev"
      rw [List.length_range] at hrl hk
      exact q r k hf hfi (by omega) (by omega)
/-! ### what is owed -/
def gPOwed : GD := fun ds Q => ∃ (r : List Stm) (lot N : List Str), ds = [.fz (.list (pyR r)), .fz (.list (lot.map .str))] ∧ r.all flatB = true ∧ fineR N false r = true ∧ r.length ≤ 60 ∧
  ∀ d, fzD d = .fz (.list [pyTold (flatRun (fun x => decide (x ∈ lot)) r none []).1, .list ((flatRun (fun x => decide (x ∈ lot)) r none []).2.map .str)]) → Q d [.fz (.list (pyR r)), .fz (.list (lot.map .str))]
theorem ok_powed (T : Txt w K mg) : FnG P w K mg base CX0 1 T.f__law_plain_owed T.d__law_plain_owed ["lines", "some"] (spD (Zt T) gPOwed) := by
  refine defG [true, true] T.F__law_plain_owed sc__law_plain_owed rfl (fun ds Q h => by obtain ⟨n, m, a, rfl, _⟩ := h; rfl) (fun cdv A outer s H E hr => ?_)
  have hR := hr.1
  refine ⟨_, _, (pss_cons (ps_set (i := 2) sc__law_plain_owed.nd rfl (by first | exact Or.inl rfl | exact Or.inr rfl) (pe_lst pa_nil))
      (pss_cons (ps_for PassesOwn.never rfl (pi_list (pv 0)) (pg_name (i := 3) sc__law_plain_owed.nd rfl (by first | exact Or.inl rfl | exact Or.inr rfl))
      (pss_cons (ps_if (pt_cmpR op_eq (pe_ix (r := rIxT K) ix_tup (pv 3) pe_int (fun _ _ => rfl)) pe_str (nomark _))
      (pss_one (ps_ret (pe_lst (pa_cons (pe_tup (pa_cons pe_str pa_nil)) (pa_cons (pv 2) pa_nil)))))
      pss_nil)
      (pss_cons (ps_if (pt_cmpR op_eq (pe_ix (r := rIxT K) ix_tup (pv 3) pe_int (fun _ _ => rfl)) pe_str (nomark _))
      (pss_one (ps_expr (pe_bm PySem.F.plainAttrs_list PySem.F.slot_list_append PySem.F.type_list_append mt_append (pv 2) (pa_cons (pe_ix (r := rIxT K) ix_tup (pv 3) pe_int (fun _ _ => rfl)) pa_nil))))
      pss_nil)
      (pss_one (ps_if (PW.pt (pw_or (pt_cmpR op_ne (pe_ix (r := rIxT K) ix_tup (pv 3) pe_int (fun _ _ => rfl)) pe_str (nomark _)) (pw_or1 (pt_cmpR (r := rIn K false) op_in_seq (pe_ix (r := rIxT K) ix_tup (pv 3) pe_int (fun _ _ => rfl)) (pv 1) (by rfl)))))
      (pss_one (ps_ret (pe_lst (pa_cons (pe_tup (pa_cons pe_str (pa_cons (pe_lst (pa_cons (pe_tup (pa_cons pe_str (pa_cons (pe_ix (r := rIxT K) ix_tup (pv 3) pe_int (fun _ _ => rfl)) pa_nil))) pa_nil)) pa_nil))) (pa_cons (pv 2) pa_nil)))))
      pss_nil)))))
      (pss_one (ps_ret (pe_lst (pa_cons (pe_tup (pa_cons pe_str pa_nil)) (pa_cons (pv 2) pa_nil))))))), (fun En hp => (dSeq (dAsg (dLst dNil) (dgName (S := sAny) (hp 2 rfl) sOk))
      (dSeq (dFor (dIList (dV 0)) (dgNameF (S := sAny) (hp 3 rfl) sOk)
      (dSeq (dIf (dTest (dEqS (dIxT (dV 3) (dInt _)) (dStr _)))
      (dLast (dRet (dLst (dCons (dTup (dCons (dStr _) dNil)) (dCons (dV 2) dNil)))))
      dNext)
      (dSeq (dIf (dTest (dEqS (dIxT (dV 3) (dInt _)) (dStr _)))
      (dLast (dDrop (dAppend 2 (dIxT (dV 3) (dInt _)))))
      dNext)
      (dLast (dIf (dOr (dTest (dNeS (dIxT (dV 3) (dInt _)) (dStr _))) (dTest (dIn false (dIxT (dV 3) (dInt _)) (dV 1))))
      (dLast (dRet (dLst (dCons (dTup (dCons (dStr _) (dCons (dLst (dCons (dTup (dCons (dStr _) (dCons (dIxT (dV 3) (dInt _)) dNil))) dNil)) dNil))) (dCons (dV 2) dNil)))))
      dNext)))))
      (dLast (dRet (dLst (dCons (dTup (dCons (dStr _) dNil)) (dCons (dV 2) dNil)))))))), ?_⟩
  rintro ds Q ⟨r, lot, N, rfl, hf, hfi, hl, q⟩
  walk_at "ev"
  rw [fzR]
  refine loopD_acc (fun s => D.fz (pyS s)) (fun done δ => ∃ tr' a, δ = [.fz (.list (pyR r)), .fz (.list (lot.map .str)), .own (strsD tr'), a] ∧ tr'.length ≤ done.length ∧ ∀ rest, r = done ++ rest → flatRun (fun x => decide (x ∈ lot)) r none [] = flatRun (fun x => decide (x ∈ lot)) rest none tr') r _ ⟨[], _, rfl, Nat.le_refl _, fun rest e => by rw [List.nil_append] at e; subst e; rfl⟩ ?_ ?_
  · rintro x dn rest δ e ⟨tr', a, rfl, htl, hi2⟩ k
    have h1 := hi2 _ e
    have hdn : dn.length + 1 ≤ 60 := by rw [e] at hl; simp only [List.length_append, List.length_cons] at hl; omega
    have hx : fineS N false x = true := fineR_mem hfi (by rw [e]; simp)
    rw [loopD_cons]
    cases x with
    | guard b hs l => rw [e] at hf; simp [OwnD.flatB] at hf
    | again => rw [fineS] at hx; cases hx
    | leave =>
      rw [pyS]
      walk_at "ev"
      have e2 : flatRun (fun x => decide (x ∈ lot)) (.leave :: rest) none tr' = (.left, tr') := rfl
      rw [h1, e2] at q
      exact q _ (by rw [fz_two]; rfl)
    | one wd x =>
      rw [fineS] at hx
      simp only [Bool.and_eq_true] at hx
      rw [pyS]
      have e2 : flatRun (fun x => decide (x ∈ lot)) (.one wd x :: rest) none tr' = if wd = "step" then (if decide (x ∈ lot) then (.err (chainOf "step" x tr'.length none), tr' ++ [x]) else flatRun (fun x => decide (x ∈ lot)) rest none (tr' ++ [x])) else (.err (chainOf wd x (-1) none), tr') := rfl
      rw [e2] at h1
      have hht : tr'.length < sizeLine := szN (by omega)
      rcases word_of hx.1.1 with rfl | rfl | rfl | rfl
      · rw [if_pos rfl] at h1
        by_cases z : x ∈ lot
        · rw [decide_eq_true z, if_pos rfl] at h1
          rw [h1] at q
          walk_at "ev"
          refine ⟨hht, ?_⟩
          rw [if_pos z]
          exact q _ (by simp only [fzD_own, pyAll_t, pyAll_o, pyAll_fz, pyAll_nil, pyAll_strs, Option.map_some, Option.bind_some]; rfl)
        · rw [decide_eq_false z, if_neg (by decide)] at h1
          walk_at "ev"
          refine ⟨hht, ?_⟩
          rw [if_neg z]
          refine k _ ⟨_, _, rfl, by simp only [List.length_append, List.length_singleton]; omega, fun rest' e' => ?_⟩
          obtain rfl : rest' = rest := by
            rw [e, List.append_assoc] at e'
            exact (List.cons.inj (List.append_cancel_left e')).2.symm
          exact h1
      · rw [if_neg (by decide +kernel)] at h1
        rw [h1] at q
        walk_at "ev"
        exact q _ (by simp only [fzD_own, pyAll_t, pyAll_o, pyAll_fz, pyAll_nil, pyAll_strs, Option.map_some, Option.bind_some]; rfl)
      · exact absurd hx.2 (by decide +kernel)
      · rw [if_neg (by decide +kernel)] at h1
        rw [h1] at q
        walk_at "ev"
        exact q _ (by simp only [fzD_own, pyAll_t, pyAll_o, pyAll_fz, pyAll_nil, pyAll_strs, Option.map_some, Option.bind_some]; rfl)
  · rintro δ ⟨tr', a, rfl, htl, hi2⟩
    · skip
      walk_at "ev"
      have e2 : flatRun (fun x => decide (x ∈ lot)) [] none tr' = (.ended, tr') := rfl
      rw [hi2 [] (by rw [List.append_nil]), e2] at q
      exact q _ (by rw [fz_two]; rfl)
end
end Toy
namespace Toy
open PySem L2 Own
section
variable {P : Program} {w : World} {K : PySem.W.Frag} {mg : Str → Option Value} {base : Heap}

open OwnD
local macro_rules | `(tactic| walk_at "ev") => `(tactic| (simp only [fReprL, fMvT, fPkT, D.tup.injEq, List.getElem?_cons_zero, List.getElem?_cons_succ, f1, gRevL, ev_unl_fz, pyAll_o, pyAll_t, Option.bind_some, ev_mk_own3, cut_0, cut_11, atI_4, List.reverse_cons, List.reverse_nil, fVar_eq, fV_fz, fV_dct, fV_ob, fV_own, fV_tup, fV_pur, fV_obj, f2, f3, fI, fCB, fCall, fTst, fTruth, fNeg, fParF, fFld, fProp, fMeth, fMake, fSetF, fAppF, fExtF, fLenF, fAppend, fExtend, fClear, fReverse, fgSub, gKGet, gDIn, gDGet, gBoolT, fzD_fz, frB, backs, bkD, startD, endD, elL_fz, elL_own, elT_fz, elT_tup, elS_fl, elS_ft, fzD_own, fzD_tup, fzD_odc, fzD_dct, fzD_pur, fzD_ob, pyAll_nil, pyAll_fz, pyAll_map, pyAll_strs, pyAll_stms, fVarZ, Int.reduceLT, Int.reduceSub, Int.reduceEq, Int.reduceAdd, gSlL, cut_map, pyAll_sn, pyAll_ap, gAddS, gSlS, fV_obP, shr_obP, fzD_obP, fldP_row, fldP_steps, fldP_names, insP_tells, insP_run, insP_row, insP_steps, insP_names, insP__run_with, insP_at, insP_without, insP_e, obP_of, Nat.reduceLT, or_false, false_or, or_true, true_or, pyO_err, pyO_ended, pyO_left, pyO_asks, wn_step_raise, wn_step_from, wn_step_hide, wn_step_again, wn_step_leave, wn_step_guard, wn_step_ended, wn_step_left, wn_step_error, wn_step_asks, wn_raise_step, wn_raise_from, wn_raise_hide, wn_raise_again, wn_raise_leave, wn_raise_guard, wn_raise_ended, wn_raise_left, wn_raise_error, wn_raise_asks, wn_from_step, wn_from_raise, wn_from_hide, wn_from_again, wn_from_leave, wn_from_guard, wn_from_ended, wn_from_left, wn_from_error, wn_from_asks, wn_hide_step, wn_hide_raise, wn_hide_from, wn_hide_again, wn_hide_leave, wn_hide_guard, wn_hide_ended, wn_hide_left, wn_hide_error, wn_hide_asks, wn_again_step, wn_again_raise, wn_again_from, wn_again_hide, wn_again_leave, wn_again_guard, wn_again_ended, wn_again_left, wn_again_error, wn_again_asks, wn_leave_step, wn_leave_raise, wn_leave_from, wn_leave_hide, wn_leave_again, wn_leave_guard, wn_leave_ended, wn_leave_left, wn_leave_error, wn_leave_asks, wn_guard_step, wn_guard_raise, wn_guard_from, wn_guard_hide, wn_guard_again, wn_guard_leave, wn_guard_ended, wn_guard_left, wn_guard_error, wn_guard_asks, wn_ended_step, wn_ended_raise, wn_ended_from, wn_ended_hide, wn_ended_again, wn_ended_leave, wn_ended_guard, wn_ended_left, wn_ended_error, wn_ended_asks, wn_left_step, wn_left_raise, wn_left_from, wn_left_hide, wn_left_again, wn_left_leave, wn_left_guard, wn_left_ended, wn_left_error, wn_left_asks, wn_error_step, wn_error_raise, wn_error_from, wn_error_hide, wn_error_again, wn_error_leave, wn_error_guard, wn_error_ended, wn_error_left, wn_error_asks, wn_asks_step, wn_asks_raise, wn_asks_from, wn_asks_hide, wn_asks_again, wn_asks_leave, wn_asks_guard, wn_asks_ended, wn_asks_left, wn_asks_error, elT_pyC, elT_pyT, isNonC, pyAll_ints, elL_ints, ints_len, flA_ints, flA_mapI, flD_int, flA_int, inV_ints, fV_objR, py_fz, shr_objR, insR_run_row, insR_run_statement, insR_run_step, insR_run_guard, insR_run_handlers, insR_get_over, ev_vw_t, ev_vw_s, ev_tk_t, ev_tk_s, ev_tks_n, ev_tks_c, ev_fw_t, ev_fw_s, ev_shr_fz, ev_shr_dct, ev_shr_ob, ev_shr_own, ev_shr_tup, ev_shr_pur, ev_shr_obj, ev_shr_set, ev_shr_odc, ev_in_str, ev_in_int, ev_in_bool, ev_in_list, ev_in_tuple, ev_in_none, ev_in_own, ev_in_tup, ev_in_pur, ev_in_dct, ev_in_odc, ev_in_set, ev_tr_none, ev_tr_bool, ev_tr_int, ev_tr_list, ev_tr_tuple, ev_tr_own, ev_tr_tup, ev_tr_dct, ev_len_l, ev_len_t, ev_len_o, ev_len_u, ev_fld_obj, ev_fld_ob, ev_ins_obj, ev_ins_ob, ev_tup_fz, ev_tup_tup, ev_gc_cons, ev_gc_nil, ev_mk1, ev_mk2, ev_mk3, ev_mk4, ev_mk_own0, ev_mk_tup0, ev_mk_own1, ev_mk_own2, ev_mk_tup1, ev_mk_tup2, strs_snoc, Option.isSome_some, Option.isSome_none, Option.map_none, fbanswers_ran, fbanswers_ran', fbanswers_over, fbanswers_over', fbanswers_out, fbanswers_out', fbanswers_row, fbanswers_row', fbanswers_steps, fbanswers_steps', fbanswers_names, fbanswers_names', fbran_answers, fbran_answers', fbran_over, fbran_over', fbran_out, fbran_out', fbran_row, fbran_row', fbran_steps, fbran_steps', fbran_names, fbran_names', fbover_answers, fbover_answers', fbover_ran, fbover_ran', fbover_out, fbover_out', fbover_row, fbover_row', fbover_steps, fbover_steps', fbover_names, fbover_names', fbout_answers, fbout_answers', fbout_ran, fbout_ran', fbout_over, fbout_over', fbout_row, fbout_row', fbout_steps, fbout_steps', fbout_names, fbout_names', fbrow_answers, fbrow_answers', fbrow_ran, fbrow_ran', fbrow_over, fbrow_over', fbrow_out, fbrow_out', fbrow_steps, fbrow_steps', fbrow_names, fbrow_names', fbsteps_answers, fbsteps_answers', fbsteps_ran, fbsteps_ran', fbsteps_over, fbsteps_over', fbsteps_out, fbsteps_out', fbsteps_row, fbsteps_row', fbsteps_names, fbsteps_names', fbnames_answers, fbnames_answers', fbnames_ran, fbnames_ran', fbnames_over, fbnames_over', fbnames_out, fbnames_out', fbnames_row, fbnames_row', fbnames_steps, fbnames_steps', gCatT_fz, ne_eq, not_false_eq_true, flD_str, flA_nil, flA_str, flA_map, flA_strs, inV_nil, inV_str, inV_strs, fzD_set, D.set.injEq, gSortedT, sl1g, sl1_1, sl1_2, sl1_3, sl1_4, cut1, pyAll_mapfz, pyAll_snoc, Option.map_some, fz_map, shr_map, gEqS, gEqI, gEqD, gIxT, gIxL, gIxS, gLen, gLenS, gInt, gListOf, gIs, gIn, gCat, gSlT, gSlL, OwnD.gAll, gInS, putO, rpl, wipeD, List.getD_cons_zero, List.getD_cons_succ, List.set_cons_zero, List.set_cons_succ, List.length_cons, List.length_nil, List.replicate, List.map_cons, List.map_nil, List.cons_append, List.nil_append, List.all_cons, List.all_nil, List.zip_cons_cons, List.zip_nil_left, List.lookup_cons, List.lookup_nil, List.isEmpty_cons, List.isEmpty_nil, List.length_map, stms_len, strs_len, D.fz.injEq, D.own.injEq, D.dct.injEq, D.obj.injEq, PyData.str.injEq, PyData.int.injEq, PyData.list.injEq, PyData.tuple.injEq, PyData.bool.injEq, Option.some.injEq, List.cons.injEq, exists_eq_left', exists_eq_left, exists_eq_right', exists_eq_right, and_true, true_and, Bool.and_true, Bool.true_and, reduceCtorEq, decide_true, decide_false, decide_eq_true_eq, Bool.not_true, Bool.not_false, Bool.false_eq_true, Bool.false_and, Bool.and_false, Bool.true_or, Bool.false_or, Bool.or_false, Bool.or_eq_true, Bool.or_true, Bool.or_false, beq_self_eq_true, ite_true, ite_false, ite_self, exists_const, exists_eq, exists_eq', atI_0, atI_1, atI_2, atI_3, szl0, szl1, szl2, szl3, szl4, exists_and_left, and_assoc, if_true, if_false, Nat.reduceAdd, Nat.reduceSub, Nat.sub_self]))
/-! ### right -/
def gRight : GD := fun ds Q => ∃ n : Nat, ds = [.pur n] ∧ n < 10 ^ 18 ∧ ∀ n', n' ≤ n + 2000 → Q (.fz (.bool true)) [.pur n']
theorem ok_right (T : Txt w K mg) : FnG P w K mg base CX0 50 T.f__law_right T.d__law_right ["well"] (spD (Zt T) gRight) := by
  refine defG [true] T.F__law_right sc__law_right rfl (fun ds Q h => by obtain ⟨n, rfl, _⟩ := h; rfl) (fun cdv A outer s H E hr => ?_)
  have hR := hr.1
  have G__law_draw := G_draw (P := P) (base := base) T
  have G__law_titles := ok_titles (P := P) (base := base) T
  have G__law_plain_row := ok_plain (P := P) (base := base) T
  have G__law_plain_owed := ok_powed (P := P) (base := base) T
  have G__law_steps_of := ok_stepsof (P := P) (base := base) T 0
  have G__law_some := ok_some (P := P) (base := base) T
  have G_Program___init__ := (ok_prog (P := P) (base := base) T 0).imp fun vs H Q E h => lend2 h
  have G_Program_row := ok_prow (P := P) (base := base) T 0
  have G_Program_tells := (ok_tells (P := P) (base := base) T 0).imp fun vs H Q E h => lend2 h
  have G_Program_run := (ok_prun (P := P) (base := base) T 0).imp fun vs H Q E h => lend2 h
  refine ⟨_, _, (pss_cons (ps_set (i := 1) sc__law_right.nd rfl (by first | exact Or.inl rfl | exact Or.inr rfl) (pe_cmpR op_eq (call_g G__law_draw (hr.mono (by omega)) rfl T.m__law_draw T.F__law_draw.kp T.b__law_draw .nil pass0 (pa_cons (pv 0) (pa_cons pe_int pa_nil))) pe_int (nomark _)))
      (pss_cons (ps_set (i := 2) sc__law_right.nd rfl (by first | exact Or.inl rfl | exact Or.inr rfl) (call_g G__law_titles (hr.mono (by omega)) rfl T.m__law_titles T.F__law_titles.kp T.b__law_titles .nil pass0 (pa_cons (pv 0) (pa_cons (pe_op op_add pe_int (call_g G__law_draw (hr.mono (by omega)) rfl T.m__law_draw T.F__law_draw.kp T.b__law_draw .nil pass0 (pa_cons (pv 0) (pa_cons (pe_ifExp (pt_val (pv 1)) pe_int pe_int) pa_nil)))) pa_nil))))
      (pss_cons (ps_set (i := 3) sc__law_right.nd rfl (by first | exact Or.inl rfl | exact Or.inr rfl) (call_g G__law_plain_row (hr.mono (by omega)) rfl T.m__law_plain_row T.F__law_plain_row.kp T.b__law_plain_row .nil pass0 (pa_cons (pv 0) (pa_cons (pv 2) (pa_cons (call_g G__law_draw (hr.mono (by omega)) rfl T.m__law_draw T.F__law_draw.kp T.b__law_draw .nil pass0 (pa_cons (pv 0) (pa_cons (pe_ifExp (pt_val (pv 1)) pe_int pe_int) pa_nil))) pa_nil)))))
      (pss_cons (ps_set (i := 4) sc__law_right.nd rfl (by first | exact Or.inl rfl | exact Or.inr rfl) (pe_callTy call_list_of (by rfl) T.z_list (by decide +kernel) (pa_cons (pv 3) pa_nil)))
      (pss_cons (ps_set (i := 5) sc__law_right.nd rfl (by first | exact Or.inl rfl | exact Or.inr rfl) (pe_ifExp (pt_cmpR op_eq (call_g G__law_draw (hr.mono (by omega)) rfl T.m__law_draw T.F__law_draw.kp T.b__law_draw .nil pass0 (pa_cons (pv 0) (pa_cons pe_int pa_nil))) pe_int (nomark _)) (pe_makeK0 T.M_Program G_Program___init__ (hR.mono (by omega)) rfl T.m_Program T.k_Program___init___row pass0 (pk_cons (pv 4) pk_nil)) (pe_make T.M_Program G_Program___init__ (hR.mono (by omega)) rfl T.m_Program T.b_Program___init__ .nil pass0 (pa_cons (pv 4) pa_nil))))
      (pss_cons (ps_expr (pe_bm PySem.F.plainAttrs_list PySem.F.slot_list_append PySem.F.type_list_append mt_append (pv 4) (pa_cons (pe_tup (pa_cons pe_str (pa_cons pe_str pa_nil))) pa_nil)))
      (pss_cons (ps_expr (pe_bm0 PySem.F.plainAttrs_list PySem.F.slot_list_reverse PySem.F.type_list_reverse mt_reverse (pv 4)))
      (pss_cons (ps_set (i := 6) sc__law_right.nd rfl (by first | exact Or.inl rfl | exact Or.inr rfl) (pe_lst pa_nil))
      (pss_cons (ps_for PassesOwn.never rfl (pi_range1 (by rfl) T.z_range (pa_cons pe_int pa_nil)) (pg_name (i := 7) sc__law_right.nd rfl (by first | exact Or.inl rfl | exact Or.inr rfl))
      (pss_cons (ps_setLc (i := 8) (own := [("title", 9)]) (g := gName 9) rfl sc__law_right.nd rfl rfl (sw_true rfl rfl rfl (by decide +kernel)) (pi_list (call_g G__law_some (hr.mono (by omega)) rfl T.m__law_some T.F__law_some.kp T.b__law_some .nil pass0 (pa_cons (pv 0) (pa_cons (call_g G__law_steps_of (hr.mono (by omega)) rfl T.m__law_steps_of T.F__law_steps_of.kp T.b__law_steps_of .nil pass0 (pa_cons (pv 3) pa_nil)) pa_nil)))) (blkOk_by (own := [("title", 9)]) (N := ["well", "great", "titles", "lines", "handed", "made", "given", "turn", "some", "title", "owed", "told_now", "run_now", "chain"]) (sc := defScope s__law_right) (by decide +kernel)) (fun _ _ _ _ _ => pg_name (i := 9) sc__law_right.nd rfl (Or.inl rfl)) (fun _ _ _ _ _ => (pts_one (pt_cmpR op_eq (call_g G__law_draw (hr.mono (by omega)) rfl T.m__law_draw T.F__law_draw.kp T.b__law_draw .nil pass0 (pa_cons (pv 0) (pa_cons pe_int pa_nil))) pe_int (nomark _)))) (fun _ _ _ _ _ => (pv 9)))
      (pss_cons (ps_set (i := 10) sc__law_right.nd rfl (by first | exact Or.inl rfl | exact Or.inr rfl) (call_g G__law_plain_owed (hr.mono (by omega)) rfl T.m__law_plain_owed T.F__law_plain_owed.kp T.b__law_plain_owed .nil pass0 (pa_cons (pv 3) (pa_cons (pv 8) pa_nil))))
      (pss_cons (ps_expr (pe_bm0 PySem.F.plainAttrs_list PySem.F.slot_list_clear PySem.F.type_list_clear mt_clear (pv 6)))
      (pss_cons (ps_expr (pe_bm PySem.F.plainAttrs_list PySem.F.slot_list_extend PySem.F.type_list_extend mt_extend (pv 6) (pa_cons (pv 8) pa_nil)))
      (pss_cons (ps_if (PW.pt (pw_or (pt_cmpR op_ne (pe_callB (call_reprD hr) (by rfl) T.z_repr (by decide +kernel) (pa_cons (pe_meth (pv 5) T.cl_Program T.mt_Program_tells G_Program_tells (hR.mono (by omega)) T.b_Program_tells .nil pass0 (pa_cons (pv 6) pa_nil)) pa_nil)) (pe_callB (call_reprD hr) (by rfl) T.z_repr (by decide +kernel) (pa_cons (pe_ix (r := rIxL K) ix_list (pv 10) pe_int (fun _ _ => rfl)) pa_nil)) (nomark _)) (pw_or1 (pt_cmpR op_ne (pe_callB (call_reprD hr) (by rfl) T.z_repr (by decide +kernel) (pa_cons (pe_meth (pv 5) T.cl_Program T.mt_Program_run G_Program_run (hR.mono (by omega)) T.b_Program_run .nil pass0 (pa_cons (pv 6) pa_nil)) pa_nil)) (pe_callB (call_reprD hr) (by rfl) T.z_repr (by decide +kernel) (pa_cons (pe_ix (r := rIxL K) ix_list (pv 10) pe_int (fun _ _ => rfl)) pa_nil)) (nomark _)))))
      (pss_one (ps_ret pe_bl))
      pss_nil)
      (pss_cons (ps_par (i := 11) (j := 12) rfl sc__law_right.nd rfl rfl (by decide) rfl rfl (pa_cons (OwnP.pe_methK0 (pv 5) T.cl_Program T.mt_Program_tells G_Program_tells (hR.mono (by omega)) T.k_Program_tells_lot pass0 (pk_cons (pv 6) pk_nil)) (pa_cons (OwnP.pe_methK0 (pv 5) T.cl_Program T.mt_Program_run G_Program_run (hR.mono (by omega)) T.k_Program_run_lot pass0 (pk_cons (pv 6) pk_nil)) pa_nil)) (by rfl))
      (pss_cons (ps_if (pt_cmpR op_ne (pe_callB (call_reprD hr) (by rfl) T.z_repr (by decide +kernel) (pa_cons (pe_lst (pa_cons (pv 11) (pa_cons (pv 12) (pa_cons (pv 6) pa_nil)))) pa_nil)) (pe_callB (call_reprD hr) (by rfl) T.z_repr (by decide +kernel) (pa_cons (pe_op op_cat (pv 10) (pe_lst (pa_cons (pv 8) pa_nil))) pa_nil)) (nomark _))
      (pss_one (ps_ret pe_bl))
      pss_nil)
      (pss_cons (ps_expr (pe_bm PySem.F.plainAttrs_list PySem.F.slot_list_append PySem.F.type_list_append mt_append (pv 12) (pa_cons pe_str pa_nil)))
      (pss_cons (ps_if (pt_cmpR op_eq (pe_ix (r := rIxT K) ix_tup (pv 11) pe_int (fun _ _ => rfl)) pe_str (nomark _))
      (pss_cons (ps_set (i := 13) sc__law_right.nd rfl (by first | exact Or.inl rfl | exact Or.inr rfl) (pe_ix (r := rIxT K) ix_tup (pv 11) pe_int (fun _ _ => rfl)))
      (pss_one (ps_expr (pe_bm PySem.F.plainAttrs_list PySem.F.slot_list_append PySem.F.type_list_append mt_append (pv 13) (pa_cons (pe_tup (pa_cons pe_str (pa_cons pe_str pa_nil))) pa_nil)))))
      pss_nil)
      (pss_cons (ps_expr (pe_bm PySem.F.plainAttrs_list PySem.F.slot_list_append PySem.F.type_list_append mt_append (pv 6) (pa_cons pe_str pa_nil)))
      (pss_one (ps_if (pt_cmpR op_ne (pe_callB (call_reprD hr) (by rfl) T.z_repr (by decide +kernel) (pa_cons (pe_lst (pa_cons (pe_meth (pv 5) T.cl_Program T.mt_Program_tells G_Program_tells (hR.mono (by omega)) T.b_Program_tells .nil pass0 (pa_cons (pe_callTy call_list_of (by rfl) T.z_list (by decide +kernel) (pa_cons (pv 8) pa_nil)) pa_nil)) (pa_cons (pe_meth (pv 5) T.cl_Program T.mt_Program_run G_Program_run (hR.mono (by omega)) T.b_Program_run .nil pass0 (pa_cons (pe_callTy call_list_of (by rfl) T.z_list (by decide +kernel) (pa_cons (pv 8) pa_nil)) pa_nil)) pa_nil))) pa_nil)) (pe_callB (call_reprD hr) (by rfl) T.z_repr (by decide +kernel) (pa_cons (pv 10) pa_nil)) (nomark _))
      (pss_one (ps_ret pe_bl))
      pss_nil)))))))))))))
      (pss_one (ps_ret (pe_cmpR op_eq (pe_callB (call_reprD hr) (by rfl) T.z_repr (by decide +kernel) (pa_cons (pe_prop (pv 5) T.cl_Program T.pr_Program_row G_Program_row (hR.mono (by omega)) T.b_Program_row .nil pass0 rfl) pa_nil)) (pe_callB (call_reprD hr) (by rfl) T.z_repr (by decide +kernel) (pa_cons (pv 3) pa_nil)) (nomark _))))))))))))), (fun En hp => (dSeq (dAsg (dEqI (dCall (dCons (dV 0) (dCons (dInt _) dNil))) (dInt _)) (dgNameF (S := sAny) (hp 1 rfl) sOk))
      (dSeq (dAsg (dCall (dCons (dV 0) (dCons (dAdd (dInt _) (dCall (dCons (dV 0) (dCons (dIfE (dTB (dV 1)) (dInt _) (dInt _)) dNil)))) dNil))) (dgNameF (S := sAny) (hp 2 rfl) sOk))
      (dSeq (dAsg (dCall (dCons (dV 0) (dCons (dV 2) (dCons (dCall (dCons (dV 0) (dCons (dIfE (dTB (dV 1)) (dInt _) (dInt _)) dNil))) dNil)))) (dgNameF (S := sAny) (hp 3 rfl) sOk))
      (dSeq (dAsg (dListOf (dCons (dV 3) dNil)) (dgName (S := sAny) (hp 4 rfl) sOk))
      (dSeq (dAsg (dIfE (dTest (dEqI (dCall (dCons (dV 0) (dCons (dInt _) dNil))) (dInt _))) (dMakeK 1 (dCons (dV 4) dNil)) (dMake 1 (dCons (dV 4) dNil))) (dgNameF (S := sAny) (hp 5 rfl) sOk))
      (dSeq (dDrop (dAppend 4 (dTup (dCons (dStr _) (dCons (dStr _) dNil)))))
      (dSeq (dDrop (dReverse 4))
      (dSeq (dAsg (dLst dNil) (dgName (S := sAny) (hp 6 rfl) sOk))
      (dSeq (dFor (dIRng1 (dCons (dInt _) dNil)) (dgNameF (S := sAny) (hp 7 rfl) sOk)
      (dSeq (dAsg (dLc (pinAll hp (by decide)) (dIList (dCall (dCons (dV 0) (dCons (dCall (dCons (dV 3) dNil)) dNil)))) (dgNameF (hp 9 rfl) (sw (by decide))) (dTest (dEqI (dCall (dCons (dV 0) (dCons (dInt _) dNil))) (dInt _))) (dV 9)) (dgNameF (S := sAny) (hp 8 rfl) sOk))
      (dSeq (dAsg (dCall (dCons (dV 3) (dCons (dV 8) dNil))) (dgNameF (S := sAny) (hp 10 rfl) sOk))
      (dSeq (dDrop (dClear 6))
      (dSeq (dDrop (dExtend 6 (dV 8)))
      (dSeq (dIf (dOr (dTest (dNeS (dRepr (dCons (dMeth 1 (dV 5) (dCons (dV 6) dNil)) dNil)) (dRepr (dCons (dIxL (dV 10) (dInt _)) dNil)))) (dTest (dNeS (dRepr (dCons (dMeth 1 (dV 5) (dCons (dV 6) dNil)) dNil)) (dRepr (dCons (dIxL (dV 10) (dInt _)) dNil)))))
      (dLast (dRet (dBl _)))
      dNext)
      (dSeq (dParF false false (dCons (dMethK 1 (dV 5) (dCons (dV 6) dNil)) (dCons (dMethK 1 (dV 5) (dCons (dV 6) dNil)) dNil)) (hp 11 rfl) (hp 12 rfl))
      (dSeq (dIf (dTest (dNeS (dReprL [11, 12, 6]) (dRepr (dCons (dCat (dV 10) (dLst (dCons (dV 8) dNil))) dNil))))
      (dLast (dRet (dBl _)))
      dNext)
      (dSeq (dDrop (dAppend 12 (dStr _)))
      (dSeq (dIf (dTest (dEqS (dAlt (dPkT 11 0) (dIxT (dV 11) (dInt _))) (dStr _)))
      (dSeq (dAsg (dMvT 11 1) (dgName (S := sAny) (hp 13 rfl) sOk))
      (dLast (dDrop (dAppend 13 (dTup (dCons (dStr _) (dCons (dStr _) dNil)))))))
      dNext)
      (dSeq (dDrop (dAppend 6 (dStr _)))
      (dLast (dIf (dTest (dNeS (dRepr (dCons (dLst (dCons (dMeth 1 (dV 5) (dCons (dListOf (dCons (dV 8) dNil)) dNil)) (dCons (dMeth 1 (dV 5) (dCons (dListOf (dCons (dV 8) dNil)) dNil)) dNil))) dNil)) (dRepr (dCons (dV 10) dNil))))
      (dLast (dRet (dBl _)))
      dNext)))))))))))))
      (dLast (dRet (dEqS (dRepr (dCons (dProp 1 (dV 5)) dNil)) (dRepr (dCons (dV 3) dNil))))))))))))))), ?_⟩
  rintro ds Q ⟨n, rfl, hn, q⟩
  walk_at "ev"
  refine gC.of ⟨_, _, rfl, by omega, by omega, by omega, fun gr gr0 gr1 => ⟨rfl, ?_⟩⟩
  walk_at "ev"
  by_cases gz : gr = 0
  · rw [if_pos gz, decide_eq_true gz]
    refine gC.of ⟨_, _, rfl, by omega, by omega, by omega, fun m m0 m1 => ⟨rfl, ?_⟩⟩
    walk_at "ev"
    obtain ⟨mn, rfl⟩ : ∃ k : Nat, m = k := ⟨m.toNat, by omega⟩
    refine gC.of ⟨_, 1 + mn, (by rw [show ((1 + mn : Nat) : Int) = 1 + (mn : Int) by omega]), by omega, by omega, by omega, fun ts n2 htl htn hn2 => ⟨rfl, ?_⟩⟩
    walk_at "ev"
    have htl2 : ts.length ≤ 60 := by omega
    have htl1 : 1 ≤ ts.length := by omega
    have hN : Nams ts := ⟨htn, htl2⟩
    refine gC.of ⟨_, _, rfl, by omega, by omega, by omega, fun sz sz0 sz1 => ⟨rfl, ?_⟩⟩
    walk_at "ev"
    obtain ⟨szn, rfl⟩ : ∃ k : Nat, sz = k := ⟨sz.toNat, by omega⟩
    refine gC.of ⟨_, ts, szn, rfl, by omega, htl1, htl2, by omega, fun r n4 hfl hfi hrl hn4 => ⟨rfl, ?_⟩⟩
    walk_at "ev"
    refine gC.of ⟨_, _, rfl, by omega, by omega, by omega, fun pw pw0 pw1 => ⟨rfl, ?_⟩⟩
    walk_at "ev"
    obtain ⟨hd1, hc1⟩ := flat_dep hfl
    have hrow : Row 0 ts false r := ⟨by omega, hfi, by omega⟩
    refine gC.of (.inr ⟨[.obj 1 [] []], .own (stmsD r), .list (pyR r), rfl, stms_py r, ownB_stms r, r, ts, rfl, hrow, hN, by decide, fun ys zs hys hzs => ⟨[.obj 1 ["_row", "_steps", "_names"] [.own (ownR r), .own (strsD ys), .own (strsD zs)]], rfl, rfl, ⟨.inl (by show (flatDs (ownR r) && (flatDs (strsD ys) && (flatDs (strsD zs) && true))) = true; rw [flatD_R, flatD_strs, flatD_strs]; rfl), trivial⟩, ?_⟩⟩)
    have hyl : ys.length ≤ 60 := hys.le hrow hN
    walk_at "ev"
    refine ⟨szN (by omega), by decide, by decide, ?_⟩
    rw [intsD_nat (Int.toNat 4)]
    refine loopD_acc (fun i : Nat => D.fz (.int (i : Nat))) (fun done δ => ∃ k1 h4 gs a7 a8 a10 a11 a12 a13, δ = [.pur k1, .fz (.bool true), .fz (.list (ts.map .str)), .fz (.list (r.map pyS)), h4, obP r ys zs, .own gs, a7, a8, .hole, a10, a11, a12, a13] ∧ k1 ≤ n4 + 1 + 200 * done.length) (List.range (Int.toNat 4)) _ ⟨_, _, _, _, _, _, _, _, _, rfl, Nat.le_refl _⟩ ?_ ?_
    · rintro j dn rest δ e0 ⟨k1, h4, gs, a7, a8, a10, a11, a12, a13, rfl, hk1⟩ kk
      have hdn : dn.length < 4 := by
        have := congrArg List.length e0
        rw [List.length_range, List.length_append, List.length_cons] at this
        have e8 : Int.toNat 4 = 4 := rfl
        omega
      rw [loopD_cons]
      walk_at "ev"
      refine gC.of ⟨r, ts, false, by rw [pyR_map], hrow, by decide, fun ys2 hys2 => ⟨rfl, ?_⟩⟩
      walk_at "ev"
      have hyl2 : ys2.length ≤ 60 := hys2.le hrow hN
      refine gC.of ⟨k1, ys2, rfl, by omega, hyl2, fun lot0 k3 hlot0 hll hk3 => ⟨rfl, ?_⟩⟩
      walk_at "ev"
      refine compD_inv (fun its acc δ => ∃ k4 os rest y, δ = [.pur k4, .fz (.bool true), .fz (.list (ts.map .str)), .fz (.list (r.map pyS)), h4, obP r ys zs, .own gs, .fz (.int (j : Nat)), a8, y, a10, a11, a12, a13] ∧ acc = strsD os ∧ its = rest.map (fun x => D.fz (.str x)) ∧ (∀ o ∈ rest, o ∈ lot0) ∧ (∀ o ∈ os, o ∈ lot0) ∧ os.length + rest.length ≤ 60 ∧ k4 + rest.length ≤ k3 + 60) _ _ _ ⟨k3, [], lot0, _, rfl, rfl, rfl, fun o h => h, fun o h => (nomatch h), by simp; omega, by omega⟩ ?_ ?_
      · rintro d0 r0 acc δ ⟨k4, os, rest2, y, rfl, rfl, hits, hr2, ho, hlen, hk4⟩ kk2
        cases rest2 with
        | nil => cases hits
        | cons o rest2 =>
          obtain ⟨rfl, rfl⟩ := List.cons.inj hits
          rw [List.length_cons] at hlen hk4
          rw [compD_cons]
          walk_at "ev"
          refine gC.of ⟨_, _, rfl, by omega, by omega, by omega, fun cz cz0 cz1 => ⟨rfl, ?_⟩⟩
          walk_at "ev"
          by_cases zz : cz = 0
          · rw [if_pos zz]
            refine ⟨szN (by omega), kk2 _ _ ⟨_, os ++ [o], rest2, _, rfl, by first | rfl | exact strs_snoc _ _, rfl, fun o h => hr2 o (List.mem_cons_of_mem _ h), fun u hu => ?_, by rw [List.length_append, List.length_singleton]; omega, by omega⟩⟩
            rcases List.mem_append.mp hu with h | h
            · exact ho u h
            · rw [List.mem_singleton.mp h]; exact hr2 o List.mem_cons_self
          · rw [if_neg zz]
            exact kk2 _ _ ⟨_, os, rest2, _, rfl, rfl, rfl, fun o h => hr2 o (List.mem_cons_of_mem _ h), ho, by omega, by omega⟩
      · rintro acc δ ⟨k4, lot, rest2, y, rfl, rfl, hits, hr2, ho, hlen, hk4⟩
        have hlot : ∀ o ∈ lot, o ∈ ys := fun o h => (hys.mem o).mpr ((hys2.mem o).mp (hlot0 o (ho o h)))
        have hlen2 : lot.length ≤ 60 := by omega
        have hlt : ∀ o ∈ lot, o ∈ ts := fun o h => hrow.steps o ((hys.mem o).mp (hlot o h))
        have hgf := flat_run (fun x => decide (x ∈ lot)) (anLot ys lot) r none [] [] hfl (an_lot hys)
        have hg1 : (flatRun (fun x => decide (x ∈ lot)) r none []).1 = (runR (anLot ys lot) r none ⟨[], []⟩).1 := by rw [hgf]
        have hg2 : (flatRun (fun x => decide (x ∈ lot)) r none []).2 = (runR (anLot ys lot) r none ⟨[], []⟩).2.ran := by rw [hgf]
        obtain ⟨hna, hz1, hz2, hz3⟩ := asked_ok hrow hN hys lot
        have hz := both_sz hz1 hz2
        have hzt := thr_sz hz1 hz2 (strs_sz hN hlt hlen2)
        have hrn := runR_b (anLot ys lot) hN r none ⟨[], []⟩ hrow.fine (fun c e => by cases e) (fun z => by cases z) (by show 0 + cntR r ≤ 200; omega)
        walk_at "ev"
        refine gC.of ⟨r, lot, ts, by rw [pyR_map], hfl, hfi, by omega, fun dd hdd => ⟨rfl, ?_⟩⟩
        rw [hdd, hg1, hg2]
        generalize hq9 : runR (anLot ys lot) r none ⟨[], []⟩ = q9 at *
        walk_at "ev"
        refine ⟨szM (by omega), ?_⟩
        refine gC.of (.inr ⟨[obP r ys zs], .own (strsD lot), .list (lot.map .str), rfl, strs_py lot, ownB_strs lot, r, ys, zs, lot, ts, rfl, hrow, hN, hyl, hlot, ⟨[obP r ys zs], rfl, by rw [hq9]; exact flatD_O hna, keep_self (shr_obP r ys zs), rfl, ?_⟩⟩)
        rw [hq9]
        rw [fz_ownO hna]
        walk_at "ev"
        refine ⟨_, _, rfl, rfl, (isRef_told _), hz1.sh, Nat.le_trans hz1.dp (by decide), hz1.fits (by decide), ?_⟩
        walk_at "ev"
        refine ⟨_, _, rfl, rfl, (isRef_told _), hz1.sh, Nat.le_trans hz1.dp (by decide), hz1.fits (by decide), ?_⟩
        walk_at "ev"
        refine gC.of (.inr ⟨[obP r ys zs], .own (strsD lot), .list (lot.map .str), rfl, strs_py lot, ownB_strs lot, r, ys, zs, lot, ts, rfl, hrow, hN, hyl, hlot, ⟨[obP r ys zs], rfl, flatD_strs _, keep_self (shr_obP r ys zs), rfl, ?_⟩⟩)
        rw [hq9]
        walk_at "ev"
        refine ⟨_, _, rfl, rfl, rfl, hz2.sh, Nat.le_trans hz2.dp (by decide), hz2.fits (by decide), ?_⟩
        walk_at "ev"
        refine ⟨_, _, rfl, rfl, rfl, hz2.sh, Nat.le_trans hz2.dp (by decide), hz2.fits (by decide), ?_⟩
        walk_at "ev"
        refine gC.of (.inr ⟨[obP r ys zs], .own (strsD lot), .list (lot.map .str), rfl, strs_py lot, ownB_strs lot, r, ys, zs, lot, ts, rfl, hrow, hN, hyl, hlot, ⟨[obP r ys zs], rfl, by rw [hq9]; exact flatD_O hna, keep_self (shr_obP r ys zs), rfl, ?_⟩⟩)
        rw [hq9]
        walk_at "ev"
        refine gC.of (.inr ⟨[obP r ys zs], .own (strsD lot), .list (lot.map .str), rfl, strs_py lot, ownB_strs lot, r, ys, zs, lot, ts, rfl, hrow, hN, hyl, hlot, ⟨[obP r ys zs], rfl, flatD_strs _, keep_self (shr_obP r ys zs), rfl, ?_⟩⟩)
        rw [hq9]
        walk_at "ev"
        refine ⟨_, pyAll_thr hna _ _, hzt.sh, Nat.le_trans hzt.dp (by decide), hzt.fits (by decide), ?_⟩
        refine ⟨_, _, rfl, rfl, rfl, hzt.sh, Nat.le_trans hzt.dp (by decide), hzt.fits (by decide), ?_⟩
        walk_at "ev"
        have hrl : q9.2.ran.length < sizeLine := szN (by omega)
        obtain ⟨o9, st9⟩ := q9
        have hrl : st9.ran.length < sizeLine := hrl
        have hlt9 : lot.length < sizeLine := szN (by omega)
        cases o9 with
        | asks x g => cases hna
        | ended =>
          rw [show ownO (Out.ended, st9).1 = .fz (.tuple [.str "ended"]) from rfl]
          walk_at "ev"
          refine ⟨hrl, .inr ?_⟩
          refine ⟨hlt9, ?_⟩
          refine gC.of (.inl ⟨r, ys, zs, lot, ts, rfl, hrow, hN, hyl, hlot, ⟨rfl, ?_⟩⟩)
          rw [hq9]
          walk_at "ev"
          refine gC.of (.inl ⟨r, ys, zs, lot, ts, rfl, hrow, hN, hyl, hlot, ⟨rfl, ?_⟩⟩)
          rw [hq9, pyAll_both (o := Out.ended) rfl]
          walk_at "ev"
          refine ⟨_, _, rfl, rfl, rfl, hz.sh, Nat.le_trans hz.dp (by decide), hz.fits (by decide), ?_⟩
          walk_at "ev"
          refine ⟨_, _, rfl, rfl, rfl, hz.sh, Nat.le_trans hz.dp (by decide), hz.fits (by decide), ?_⟩
          walk_at "ev"
          exact kk _ ⟨k4, _, _, _, _, _, _, _, _, rfl, by rw [List.length_append, List.length_singleton]; omega⟩
        | left =>
          rw [show ownO (Out.left, st9).1 = .fz (.tuple [.str "left"]) from rfl]
          walk_at "ev"
          refine ⟨hrl, .inr ?_⟩
          refine ⟨hlt9, ?_⟩
          refine gC.of (.inl ⟨r, ys, zs, lot, ts, rfl, hrow, hN, hyl, hlot, ⟨rfl, ?_⟩⟩)
          rw [hq9]
          walk_at "ev"
          refine gC.of (.inl ⟨r, ys, zs, lot, ts, rfl, hrow, hN, hyl, hlot, ⟨rfl, ?_⟩⟩)
          rw [hq9, pyAll_both (o := Out.left) rfl]
          walk_at "ev"
          refine ⟨_, _, rfl, rfl, rfl, hz.sh, Nat.le_trans hz.dp (by decide), hz.fits (by decide), ?_⟩
          walk_at "ev"
          refine ⟨_, _, rfl, rfl, rfl, hz.sh, Nat.le_trans hz.dp (by decide), hz.fits (by decide), ?_⟩
          walk_at "ev"
          exact kk _ ⟨k4, _, _, _, _, _, _, _, _, rfl, by rw [List.length_append, List.length_singleton]; omega⟩
        | err c =>
          have hcl : c.length < sizeLine := szN (by have := (hrn.err c rfl).2; have e3 : OwnD.hl none = 0 := rfl; omega)
          rw [show ownO (Out.err c, st9).1 = .tup [.fz (.str "error"), .own (c.map fun t => .fz (.tuple [.str t.1, .str t.2.1]))] from rfl]
          walk_at "ev"
          refine ⟨hrl, .inl ⟨hcl, ?_⟩⟩
          refine ⟨hlt9, ?_⟩
          refine gC.of (.inl ⟨r, ys, zs, lot, ts, rfl, hrow, hN, hyl, hlot, ⟨rfl, ?_⟩⟩)
          rw [hq9]
          walk_at "ev"
          refine gC.of (.inl ⟨r, ys, zs, lot, ts, rfl, hrow, hN, hyl, hlot, ⟨rfl, ?_⟩⟩)
          rw [hq9, pyAll_both (o := (Out.err c)) rfl]
          walk_at "ev"
          refine ⟨_, _, rfl, rfl, rfl, hz.sh, Nat.le_trans hz.dp (by decide), hz.fits (by decide), ?_⟩
          walk_at "ev"
          refine ⟨_, _, rfl, rfl, rfl, hz.sh, Nat.le_trans hz.dp (by decide), hz.fits (by decide), ?_⟩
          walk_at "ev"
          exact kk _ ⟨k4, _, _, _, _, _, _, _, _, rfl, by rw [List.length_append, List.length_singleton]; omega⟩
    · rintro δ ⟨k1, h4, gs, a7, a8, a10, a11, a12, a13, rfl, hk1⟩
      rw [List.length_range] at hk1
      have e8 : Int.toNat 4 = 4 := rfl
      walk_at "ev"
      have hsz := sz_flat hN hfl hfi (n := 60) (by omega)
      rw [pyR_map] at hsz
      refine gC.of ⟨r, ys, zs, ts, false, rfl, hrow, ⟨rfl, ?_⟩⟩
      rw [fz_ownR, pyR_map]
      walk_at "ev"
      refine ⟨_, _, rfl, rfl, rfl, hsz.sh, Nat.le_trans hsz.dp (by decide), hsz.fits (by decide), ?_⟩
      walk_at "ev"
      refine ⟨_, _, rfl, rfl, rfl, hsz.sh, Nat.le_trans hsz.dp (by decide), hsz.fits (by decide), ?_⟩
      walk_at "ev"
      exact q k1 (by omega)
  · rw [if_neg gz, decide_eq_false gz]
    refine gC.of ⟨_, _, rfl, by omega, by omega, by omega, fun m m0 m1 => ⟨rfl, ?_⟩⟩
    walk_at "ev"
    obtain ⟨mn, rfl⟩ : ∃ k : Nat, m = k := ⟨m.toNat, by omega⟩
    refine gC.of ⟨_, 1 + mn, (by rw [show ((1 + mn : Nat) : Int) = 1 + (mn : Int) by omega]), by omega, by omega, by omega, fun ts n2 htl htn hn2 => ⟨rfl, ?_⟩⟩
    walk_at "ev"
    have htl2 : ts.length ≤ 60 := by omega
    have htl1 : 1 ≤ ts.length := by omega
    have hN : Nams ts := ⟨htn, htl2⟩
    refine gC.of ⟨_, _, rfl, by omega, by omega, by omega, fun sz sz0 sz1 => ⟨rfl, ?_⟩⟩
    walk_at "ev"
    obtain ⟨szn, rfl⟩ : ∃ k : Nat, sz = k := ⟨sz.toNat, by omega⟩
    refine gC.of ⟨_, ts, szn, rfl, by omega, htl1, htl2, by omega, fun r n4 hfl hfi hrl hn4 => ⟨rfl, ?_⟩⟩
    walk_at "ev"
    refine gC.of ⟨_, _, rfl, by omega, by omega, by omega, fun pw pw0 pw1 => ⟨rfl, ?_⟩⟩
    walk_at "ev"
    obtain ⟨hd1, hc1⟩ := flat_dep hfl
    have hrow : Row 0 ts false r := ⟨by omega, hfi, by omega⟩
    refine gC.of (.inr ⟨[.obj 1 [] []], .own (stmsD r), .list (pyR r), rfl, stms_py r, ownB_stms r, r, ts, rfl, hrow, hN, by decide, fun ys zs hys hzs => ⟨[.obj 1 ["_row", "_steps", "_names"] [.own (ownR r), .own (strsD ys), .own (strsD zs)]], rfl, rfl, ⟨.inl (by show (flatDs (ownR r) && (flatDs (strsD ys) && (flatDs (strsD zs) && true))) = true; rw [flatD_R, flatD_strs, flatD_strs]; rfl), trivial⟩, ?_⟩⟩)
    have hyl : ys.length ≤ 60 := hys.le hrow hN
    walk_at "ev"
    refine ⟨szN (by omega), by decide, by decide, ?_⟩
    rw [intsD_nat (Int.toNat 4)]
    refine loopD_acc (fun i : Nat => D.fz (.int (i : Nat))) (fun done δ => ∃ k1 h4 gs a7 a8 a10 a11 a12 a13, δ = [.pur k1, .fz (.bool false), .fz (.list (ts.map .str)), .fz (.list (r.map pyS)), h4, obP r ys zs, .own gs, a7, a8, .hole, a10, a11, a12, a13] ∧ k1 ≤ n4 + 1 + 200 * done.length) (List.range (Int.toNat 4)) _ ⟨_, _, _, _, _, _, _, _, _, rfl, Nat.le_refl _⟩ ?_ ?_
    · rintro j dn rest δ e0 ⟨k1, h4, gs, a7, a8, a10, a11, a12, a13, rfl, hk1⟩ kk
      have hdn : dn.length < 4 := by
        have := congrArg List.length e0
        rw [List.length_range, List.length_append, List.length_cons] at this
        have e8 : Int.toNat 4 = 4 := rfl
        omega
      rw [loopD_cons]
      walk_at "ev"
      refine gC.of ⟨r, ts, false, by rw [pyR_map], hrow, by decide, fun ys2 hys2 => ⟨rfl, ?_⟩⟩
      walk_at "ev"
      have hyl2 : ys2.length ≤ 60 := hys2.le hrow hN
      refine gC.of ⟨k1, ys2, rfl, by omega, hyl2, fun lot0 k3 hlot0 hll hk3 => ⟨rfl, ?_⟩⟩
      walk_at "ev"
      refine compD_inv (fun its acc δ => ∃ k4 os rest y, δ = [.pur k4, .fz (.bool false), .fz (.list (ts.map .str)), .fz (.list (r.map pyS)), h4, obP r ys zs, .own gs, .fz (.int (j : Nat)), a8, y, a10, a11, a12, a13] ∧ acc = strsD os ∧ its = rest.map (fun x => D.fz (.str x)) ∧ (∀ o ∈ rest, o ∈ lot0) ∧ (∀ o ∈ os, o ∈ lot0) ∧ os.length + rest.length ≤ 60 ∧ k4 + rest.length ≤ k3 + 60) _ _ _ ⟨k3, [], lot0, _, rfl, rfl, rfl, fun o h => h, fun o h => (nomatch h), by simp; omega, by omega⟩ ?_ ?_
      · rintro d0 r0 acc δ ⟨k4, os, rest2, y, rfl, rfl, hits, hr2, ho, hlen, hk4⟩ kk2
        cases rest2 with
        | nil => cases hits
        | cons o rest2 =>
          obtain ⟨rfl, rfl⟩ := List.cons.inj hits
          rw [List.length_cons] at hlen hk4
          rw [compD_cons]
          walk_at "ev"
          refine gC.of ⟨_, _, rfl, by omega, by omega, by omega, fun cz cz0 cz1 => ⟨rfl, ?_⟩⟩
          walk_at "ev"
          by_cases zz : cz = 0
          · rw [if_pos zz]
            refine ⟨szN (by omega), kk2 _ _ ⟨_, os ++ [o], rest2, _, rfl, by first | rfl | exact strs_snoc _ _, rfl, fun o h => hr2 o (List.mem_cons_of_mem _ h), fun u hu => ?_, by rw [List.length_append, List.length_singleton]; omega, by omega⟩⟩
            rcases List.mem_append.mp hu with h | h
            · exact ho u h
            · rw [List.mem_singleton.mp h]; exact hr2 o List.mem_cons_self
          · rw [if_neg zz]
            exact kk2 _ _ ⟨_, os, rest2, _, rfl, rfl, rfl, fun o h => hr2 o (List.mem_cons_of_mem _ h), ho, by omega, by omega⟩
      · rintro acc δ ⟨k4, lot, rest2, y, rfl, rfl, hits, hr2, ho, hlen, hk4⟩
        have hlot : ∀ o ∈ lot, o ∈ ys := fun o h => (hys.mem o).mpr ((hys2.mem o).mp (hlot0 o (ho o h)))
        have hlen2 : lot.length ≤ 60 := by omega
        have hlt : ∀ o ∈ lot, o ∈ ts := fun o h => hrow.steps o ((hys.mem o).mp (hlot o h))
        have hgf := flat_run (fun x => decide (x ∈ lot)) (anLot ys lot) r none [] [] hfl (an_lot hys)
        have hg1 : (flatRun (fun x => decide (x ∈ lot)) r none []).1 = (runR (anLot ys lot) r none ⟨[], []⟩).1 := by rw [hgf]
        have hg2 : (flatRun (fun x => decide (x ∈ lot)) r none []).2 = (runR (anLot ys lot) r none ⟨[], []⟩).2.ran := by rw [hgf]
        obtain ⟨hna, hz1, hz2, hz3⟩ := asked_ok hrow hN hys lot
        have hz := both_sz hz1 hz2
        have hzt := thr_sz hz1 hz2 (strs_sz hN hlt hlen2)
        have hrn := runR_b (anLot ys lot) hN r none ⟨[], []⟩ hrow.fine (fun c e => by cases e) (fun z => by cases z) (by show 0 + cntR r ≤ 200; omega)
        walk_at "ev"
        refine gC.of ⟨r, lot, ts, by rw [pyR_map], hfl, hfi, by omega, fun dd hdd => ⟨rfl, ?_⟩⟩
        rw [hdd, hg1, hg2]
        generalize hq9 : runR (anLot ys lot) r none ⟨[], []⟩ = q9 at *
        walk_at "ev"
        refine ⟨szM (by omega), ?_⟩
        refine gC.of (.inr ⟨[obP r ys zs], .own (strsD lot), .list (lot.map .str), rfl, strs_py lot, ownB_strs lot, r, ys, zs, lot, ts, rfl, hrow, hN, hyl, hlot, ⟨[obP r ys zs], rfl, by rw [hq9]; exact flatD_O hna, keep_self (shr_obP r ys zs), rfl, ?_⟩⟩)
        rw [hq9]
        rw [fz_ownO hna]
        walk_at "ev"
        refine ⟨_, _, rfl, rfl, (isRef_told _), hz1.sh, Nat.le_trans hz1.dp (by decide), hz1.fits (by decide), ?_⟩
        walk_at "ev"
        refine ⟨_, _, rfl, rfl, (isRef_told _), hz1.sh, Nat.le_trans hz1.dp (by decide), hz1.fits (by decide), ?_⟩
        walk_at "ev"
        refine gC.of (.inr ⟨[obP r ys zs], .own (strsD lot), .list (lot.map .str), rfl, strs_py lot, ownB_strs lot, r, ys, zs, lot, ts, rfl, hrow, hN, hyl, hlot, ⟨[obP r ys zs], rfl, flatD_strs _, keep_self (shr_obP r ys zs), rfl, ?_⟩⟩)
        rw [hq9]
        walk_at "ev"
        refine ⟨_, _, rfl, rfl, rfl, hz2.sh, Nat.le_trans hz2.dp (by decide), hz2.fits (by decide), ?_⟩
        walk_at "ev"
        refine ⟨_, _, rfl, rfl, rfl, hz2.sh, Nat.le_trans hz2.dp (by decide), hz2.fits (by decide), ?_⟩
        walk_at "ev"
        refine gC.of (.inr ⟨[obP r ys zs], .own (strsD lot), .list (lot.map .str), rfl, strs_py lot, ownB_strs lot, r, ys, zs, lot, ts, rfl, hrow, hN, hyl, hlot, ⟨[obP r ys zs], rfl, by rw [hq9]; exact flatD_O hna, keep_self (shr_obP r ys zs), rfl, ?_⟩⟩)
        rw [hq9]
        walk_at "ev"
        refine gC.of (.inr ⟨[obP r ys zs], .own (strsD lot), .list (lot.map .str), rfl, strs_py lot, ownB_strs lot, r, ys, zs, lot, ts, rfl, hrow, hN, hyl, hlot, ⟨[obP r ys zs], rfl, flatD_strs _, keep_self (shr_obP r ys zs), rfl, ?_⟩⟩)
        rw [hq9]
        walk_at "ev"
        refine ⟨_, pyAll_thr hna _ _, hzt.sh, Nat.le_trans hzt.dp (by decide), hzt.fits (by decide), ?_⟩
        refine ⟨_, _, rfl, rfl, rfl, hzt.sh, Nat.le_trans hzt.dp (by decide), hzt.fits (by decide), ?_⟩
        walk_at "ev"
        have hrl : q9.2.ran.length < sizeLine := szN (by omega)
        obtain ⟨o9, st9⟩ := q9
        have hrl : st9.ran.length < sizeLine := hrl
        have hlt9 : lot.length < sizeLine := szN (by omega)
        cases o9 with
        | asks x g => cases hna
        | ended =>
          rw [show ownO (Out.ended, st9).1 = .fz (.tuple [.str "ended"]) from rfl]
          walk_at "ev"
          refine ⟨hrl, .inr ?_⟩
          refine ⟨hlt9, ?_⟩
          refine gC.of (.inl ⟨r, ys, zs, lot, ts, rfl, hrow, hN, hyl, hlot, ⟨rfl, ?_⟩⟩)
          rw [hq9]
          walk_at "ev"
          refine gC.of (.inl ⟨r, ys, zs, lot, ts, rfl, hrow, hN, hyl, hlot, ⟨rfl, ?_⟩⟩)
          rw [hq9, pyAll_both (o := Out.ended) rfl]
          walk_at "ev"
          refine ⟨_, _, rfl, rfl, rfl, hz.sh, Nat.le_trans hz.dp (by decide), hz.fits (by decide), ?_⟩
          walk_at "ev"
          refine ⟨_, _, rfl, rfl, rfl, hz.sh, Nat.le_trans hz.dp (by decide), hz.fits (by decide), ?_⟩
          walk_at "ev"
          exact kk _ ⟨k4, _, _, _, _, _, _, _, _, rfl, by rw [List.length_append, List.length_singleton]; omega⟩
        | left =>
          rw [show ownO (Out.left, st9).1 = .fz (.tuple [.str "left"]) from rfl]
          walk_at "ev"
          refine ⟨hrl, .inr ?_⟩
          refine ⟨hlt9, ?_⟩
          refine gC.of (.inl ⟨r, ys, zs, lot, ts, rfl, hrow, hN, hyl, hlot, ⟨rfl, ?_⟩⟩)
          rw [hq9]
          walk_at "ev"
          refine gC.of (.inl ⟨r, ys, zs, lot, ts, rfl, hrow, hN, hyl, hlot, ⟨rfl, ?_⟩⟩)
          rw [hq9, pyAll_both (o := Out.left) rfl]
          walk_at "ev"
          refine ⟨_, _, rfl, rfl, rfl, hz.sh, Nat.le_trans hz.dp (by decide), hz.fits (by decide), ?_⟩
          walk_at "ev"
          refine ⟨_, _, rfl, rfl, rfl, hz.sh, Nat.le_trans hz.dp (by decide), hz.fits (by decide), ?_⟩
          walk_at "ev"
          exact kk _ ⟨k4, _, _, _, _, _, _, _, _, rfl, by rw [List.length_append, List.length_singleton]; omega⟩
        | err c =>
          have hcl : c.length < sizeLine := szN (by have := (hrn.err c rfl).2; have e3 : OwnD.hl none = 0 := rfl; omega)
          rw [show ownO (Out.err c, st9).1 = .tup [.fz (.str "error"), .own (c.map fun t => .fz (.tuple [.str t.1, .str t.2.1]))] from rfl]
          walk_at "ev"
          refine ⟨hrl, .inl ⟨hcl, ?_⟩⟩
          refine ⟨hlt9, ?_⟩
          refine gC.of (.inl ⟨r, ys, zs, lot, ts, rfl, hrow, hN, hyl, hlot, ⟨rfl, ?_⟩⟩)
          rw [hq9]
          walk_at "ev"
          refine gC.of (.inl ⟨r, ys, zs, lot, ts, rfl, hrow, hN, hyl, hlot, ⟨rfl, ?_⟩⟩)
          rw [hq9, pyAll_both (o := (Out.err c)) rfl]
          walk_at "ev"
          refine ⟨_, _, rfl, rfl, rfl, hz.sh, Nat.le_trans hz.dp (by decide), hz.fits (by decide), ?_⟩
          walk_at "ev"
          refine ⟨_, _, rfl, rfl, rfl, hz.sh, Nat.le_trans hz.dp (by decide), hz.fits (by decide), ?_⟩
          walk_at "ev"
          exact kk _ ⟨k4, _, _, _, _, _, _, _, _, rfl, by rw [List.length_append, List.length_singleton]; omega⟩
    · rintro δ ⟨k1, h4, gs, a7, a8, a10, a11, a12, a13, rfl, hk1⟩
      rw [List.length_range] at hk1
      have e8 : Int.toNat 4 = 4 := rfl
      walk_at "ev"
      have hsz := sz_flat hN hfl hfi (n := 60) (by omega)
      rw [pyR_map] at hsz
      refine gC.of ⟨r, ys, zs, ts, false, rfl, hrow, ⟨rfl, ?_⟩⟩
      rw [fz_ownR, pyR_map]
      walk_at "ev"
      refine ⟨_, _, rfl, rfl, rfl, hsz.sh, Nat.le_trans hsz.dp (by decide), hsz.fits (by decide), ?_⟩
      walk_at "ev"
      refine ⟨_, _, rfl, rfl, rfl, hsz.sh, Nat.le_trans hsz.dp (by decide), hsz.fits (by decide), ?_⟩
      walk_at "ev"
      exact q k1 (by omega)
end
end Toy
namespace Toy
open PySem L2 Own
section
variable {P : Program} {w : World} {K : PySem.W.Frag} {mg : Str → Option Value} {base : Heap}

open OwnD
theorem nin1 {p q : Addr} (h : q ≠ p) : q ∉ [p] := by simpa using h
def spR : Sp := fun vs H Q _ => ∃ (p : Addr) (n : Nat), vs = [.ref p] ∧ Pu H p n ∧ n < 10 ^ 18 ∧ ∀ n' H', n' ≤ n + 2000 → But [p] H H' → Pu H' p n' → Q (.bl true) H'
theorem right_in {Z : Zx} {vs : List V} {H : Hp} {Q : VK} {E : XK} (h : spR vs H Q E) : spD Z gRight vs H Q E := by
  obtain ⟨p, n, rfl, hp, hn, q⟩ := h
  have r1 : R Z (hid [p] H) H (.pur n) (.ref p) (fun b => if b = p then 1 else 0) := by rw [R]; exact ⟨p, rfl, hp, fun _ => rfl⟩
  refine ⟨[.pur n], hid [p] H, _, hid_same _ _, RA.push r1 RA.z, fun a => ?_, fun a z => ?_, gC.of ⟨n, rfl, hn, fun n' hn' v H' A => ?_⟩⟩
  · show (if a = p then 1 else 0) + 0 ≤ 1
    split <;> omega
  · have z : (if a = p then 1 else 0) + 0 ≠ 0 := z
    by_cases e : a = p
    · subst e; unfold hid; simp
    · rw [if_neg e] at z; exact absurd rfl z
  · obtain ⟨⟨F', μr, μ', s, hv, ha, _, _, hb, _⟩⟩ := A
    rw [R] at hv
    obtain ⟨hv, _⟩ := hv
    cases hv
    rw [RA] at ha
    obtain ⟨_, _, μ1, μ2, e, h1, _, _⟩ := ha
    cases e
    rw [R] at h1
    obtain ⟨p', e, hp', _⟩ := h1
    cases e
    refine q n' H' hn' (fun b o nb e => hb b o e ?_) hp'
    show (if b = p then 1 else 0) + 0 = 0
    rw [if_neg (by simpa using nb)]
def spLaw (K : PySem.W.Frag) : Sp := fun vs H Q _ => ∃ (a : Addr) (ns : List Int), vs = [.ref a] ∧ SqL K H a (ns.map V.int) ∧ ns.length ≤ 63 ∧ ∀ H', Q (.bl true) H'
theorem ok_law (T : Txt w K mg) : FnG P w K mg base CX0 60 T.f_law T.d_law ["script"] (spLaw K) := by
  refine def_ok T.F_law sc_law (fun vs H Q E h => ?_) (fun cdv A outer s H vs Q E hr h => ?_)
  · obtain ⟨a, ns, rfl, _⟩ := h
    rfl
  obtain ⟨a, ns, rfl, hS, hl, hq⟩ := h
  have G__law_well := ok_purse (P := P) (w := w) (base := base) T
  have G__law_right := (ok_right (P := P) (w := w) (base := base) T).imp fun vs H Q E h => right_in h
  refine ⟨_, (pss_cons (ps_for PassesOwn.never rfl (pi_range1 (by rfl) T.z_range (pa_cons (pe_callB (call_max2 rfl) (by rfl) T.z_max (by decide +kernel) (pa_cons pe_int (pa_cons (pe_callB (call_min2 rfl) (by rfl) T.z_min (by decide +kernel) (pa_cons pe_int (pa_cons (pe_callB call_len_seq (by rfl) T.z_len (by decide +kernel) (pa_cons (pv 0) pa_nil)) pa_nil))) pa_nil))) pa_nil)) (pg_name (i := 1) sc_law.nd rfl (by first | exact Or.inl rfl | exact Or.inr rfl))
      (pss_cons (ps_set (i := 2) sc_law.nd rfl (by first | exact Or.inl rfl | exact Or.inr rfl) (call_g G__law_well (hr.mono (by omega)) rfl T.m__law_well T.F__law_well.kp T.b__law_well .nil pass0 (pa_cons (pv 0) (pa_cons (pv 1) pa_nil))))
      (pss_one (ps_for PassesOwn.never rfl (pi_range1 (by rfl) T.z_range (pa_cons pe_int pa_nil)) (pg_name (i := 3) sc_law.nd rfl (by first | exact Or.inl rfl | exact Or.inr rfl))
      (pss_one (ps_if (pt_not (pt_val (call_g G__law_right (hr.mono (by omega)) rfl T.m__law_right T.F__law_right.kp T.b__law_right .nil pass0 (pa_cons (pv 2) pa_nil))))
      (pss_one (ps_ret pe_bl))
      pss_nil))))))
      (pss_one (ps_ret pe_bl))), ?_⟩
  have hlen : (ns.map V.int).length = ns.length := List.length_map _
  refine ⟨_, rfl, a, _, rfl, .inl hS, _, _, rfl, _, _, rfl, ?_⟩
  have key : ∀ N : Int, N = (if (if (((ns.map V.int).length : Nat) : Int) < 6 then (((ns.map V.int).length : Nat) : Int) else 6) > 1 then (if (((ns.map V.int).length : Nat) : Int) < 6 then (((ns.map V.int).length : Nat) : Int) else 6) else 1) → 0 ≤ N ∧ N ≤ 6 := by
    intro N e
    split at e <;> split at e <;> omega
  obtain ⟨g0, g1⟩ := key _ rfl
  generalize (if (if (((ns.map V.int).length : Nat) : Int) < 6 then (((ns.map V.int).length : Nat) : Int) else 6) > 1 then (if (((ns.map V.int).length : Nat) : Int) < 6 then (((ns.map V.int).length : Nat) : Int) else 6) else 1) = N at *
  refine ⟨N, rfl, by omega, by omega, ?_⟩
  refine for_range (lo := 0) (n := N.toNat) (fun i σ H' => Same H H' ∧ ∃ v1 v2 v3 : Option V, σ = [some (.ref a), v1, v2, v3]) ⟨Same.refl _, none, none, none, rfl⟩ ?_ ?_
  · rintro i σ H1 hi ⟨s1, v1, v2, v3, rfl⟩
    refine ⟨_, rfl, _, rfl, a, ns, _, rfl, s1.seq hS, hl, by omega, by omega, fun p np H2 s2 u2 => ?_⟩
    refine ⟨2, rfl, by decide, by decide, ?_⟩
    refine for_range (lo := 0) (n := 2) (fun j σ H' => ∃ (n : Nat) (v : Option V), σ = [some (.ref a), some (.int (0 + i)), some (.ref p), v] ∧ But [p] H2 H' ∧ Pu H' p n ∧ n ≤ 2000 * j) ⟨0, v3, rfl, But.refl _ _, u2, Nat.le_refl _⟩ ?_ ?_
    · rintro j σ H3 hj ⟨n, v, rfl, b3, u3, hn⟩
      refine ⟨_, rfl, p, n, rfl, u3, by omega, fun n' H4 hn' b4 u4 => ⟨_, rfl, ?_⟩⟩
      exact ⟨n', _, rfl, b3.trans b4, u4, by omega⟩
    · rintro σ H3 ⟨n, v, rfl, b3, u3, hn⟩
      refine ⟨fun b o e => ?_, _, _, _, rfl⟩
      have e1 := s1 _ _ e
      exact b3 b o (nin1 (ne_of_none e1 np)) (s2 _ _ e1)
  · rintro σ H1 ⟨s1, v1, v2, v3, rfl⟩
    exact hq H1
theorem all_mk {l : PySem.W.OpenLaw} {w : World} {K : PySem.W.Frag} {h : Heap} {mg : Str → Option Value} {fa : Addr} {C_Run C_Program f1 f2 f3 f4 f5 f6 f7 f8 f9 f10 f11 f12 f13 f14 f15 f16 f17 f18 f19 f20 f21 f22 f23 f24 f25 f26 f27 f28 p28 f29 p29 f30 f31 f32 f33 f34 f35 f36 f37 f38 f39 f40 f41 f42 a_ENDED a_LEFT a_SIZES : Addr} {od1 an1 od2 an2 od3 an3 od4 an4 od5 an5 od6 an6 od7 an7 od8 an8 od9 an9 od10 an10 od11 an11 od12 an12 od13 an13 od14 an14 od15 an15 od16 an16 od17 an17 od18 an18 od19 an19 od20 an20 od21 an21 od22 an22 od23 an23 od24 an24 od25 an25 od26 an26 od27 an27 od28 an28 od29 an29 od30 an30 od31 an31 od32 an32 od33 an33 od34 an34 od35 an35 od36 an36 od37 an37 od38 an38 od39 an39 od40 an40 od41 an41 od42 an42 od_ENDED od_LEFT : Option Addr} {sl1 sl2 sl3 sl4 sl5 sl6 sl7 sl8 sl9 sl10 sl11 sl12 sl13 sl14 sl15 sl16 sl17 sl18 sl19 sl20 sl21 sl22 sl23 sl24 sl25 sl26 sl27 sl28 sl29 sl30 sl31 sl32 sl33 sl34 sl35 sl36 sl37 sl38 sl39 sl40 sl41 sl42 sl_ENDED sl_LEFT : Array (Option Value)} {oc1 kV1 dc1 pm1 cd1 ct1 oc2 kV2 dc2 pm2 cd2 ct2 oc3 kV3 dc3 pm3 cd3 ct3 oc4 kV4 dc4 pm4 cd4 ct4 oc5 kV5 dc5 pm5 cd5 ct5 oc6 kV6 dc6 pm6 cd6 ct6 oc7 kV7 dc7 pm7 cd7 ct7 oc8 kV8 dc8 pm8 cd8 ct8 oc9 kV9 dc9 pm9 cd9 ct9 oc10 kV10 dc10 pm10 cd10 ct10 oc11 kV11 dc11 pm11 cd11 ct11 oc12 kV12 dc12 pm12 cd12 ct12 oc13 kV13 dc13 pm13 cd13 ct13 oc14 kV14 dc14 pm14 cd14 ct14 oc15 kV15 dc15 pm15 cd15 ct15 oc16 kV16 dc16 pm16 cd16 ct16 oc17 kV17 dc17 pm17 cd17 ct17 oc18 kV18 dc18 pm18 cd18 ct18 oc19 kV19 dc19 pm19 cd19 ct19 oc20 kV20 dc20 pm20 cd20 ct20 oc21 kV21 dc21 pm21 cd21 ct21 oc22 kV22 dc22 pm22 cd22 ct22 oc23 kV23 dc23 pm23 cd23 ct23 oc24 kV24 dc24 pm24 cd24 ct24 oc25 kV25 dc25 pm25 cd25 ct25 oc26 kV26 dc26 pm26 cd26 ct26 oc27 kV27 dc27 pm27 cd27 ct27 oc28 kV28 dc28 pm28 cd28 ct28 oc29 kV29 dc29 pm29 cd29 ct29 oc30 kV30 dc30 pm30 cd30 ct30 oc31 kV31 dc31 pm31 cd31 ct31 oc32 kV32 dc32 pm32 cd32 ct32 oc33 kV33 dc33 pm33 cd33 ct33 oc34 kV34 dc34 pm34 cd34 ct34 oc35 kV35 dc35 pm35 cd35 ct35 oc36 kV36 dc36 pm36 cd36 ct36 oc37 kV37 dc37 pm37 cd37 ct37 oc38 kV38 dc38 pm38 cd38 ct38 oc39 kV39 dc39 pm39 cd39 ct39 oc40 kV40 dc40 pm40 cd40 ct40 oc41 kV41 dc41 pm41 cd41 ct41 oc42 kV42 dc42 pm42 cd42 ct42 : Value} {rs28 rs29 : List Value} {tk_BODY tk_ENDED tk_FIRST_HANDLER tk_LAST tk_LEFT tk_LETTERS tk_LONGEST_NAME tk_NO_STEP tk_SIZES_step tk_SIZES_raise tk_SIZES_from tk_SIZES_hide tk_SIZES_again tk_SIZES_leave tk_SIZES_guard : Tok} {n_ENDED n_LEFT n_SIZES : Nat} {es_SIZES : Array DictEntry} (X : K.In h) (G : h.Ns mainGlobals mg) (hfa : mg "law" = some (.ref fa))
    (a_Run : PySem.W.nsIn K mainGlobals "Run" = some (some (.ref C_Run)))
    (pg_Run : PySem.W.plainGet K C_Run Str.empty = true)
    (hd_Run : PySem.W.hasDictIn K C_Run = true)
    (po_Run : PySem.W.plainOver K C_Run = true)
    (sa_Run : PySem.W.findIn K (.ref C_Run) "__setattr__" = some (some (.builtin "object.__setattr__")))
    (mk_Run : PySem.W.makesIn K C_Run = true)
    (kc_Run : PySem.W.keepIn K (.ref C_Run) = true)
    (na_Run_answers : PySem.W.findIn K (.ref C_Run) "answers" = some none)
    (na_Run_ran : PySem.W.findIn K (.ref C_Run) "ran" = some none)
    (na_Run_over : PySem.W.findIn K (.ref C_Run) "over" = some none)
    (na_Run_out : PySem.W.findIn K (.ref C_Run) "out" = some none)
    (a_Program : PySem.W.nsIn K mainGlobals "Program" = some (some (.ref C_Program)))
    (pg_Program : PySem.W.plainGet K C_Program Str.empty = true)
    (hd_Program : PySem.W.hasDictIn K C_Program = true)
    (po_Program : PySem.W.plainOver K C_Program = true)
    (sa_Program : PySem.W.findIn K (.ref C_Program) "__setattr__" = some (some (.builtin "object.__setattr__")))
    (mk_Program : PySem.W.makesIn K C_Program = true)
    (kc_Program : PySem.W.keepIn K (.ref C_Program) = true)
    (na_Program__row : PySem.W.findIn K (.ref C_Program) "_row" = some none)
    (na_Program__steps : PySem.W.findIn K (.ref C_Program) "_steps" = some none)
    (na_Program__names : PySem.W.findIn K (.ref C_Program) "_names" = some none)
    (a1 : PySem.W.nsIn K mainGlobals "check_row" = some (some (.ref f1)))
    (l1 : K.lookup f1 = some ⟨oc1, od1, .func (PySem.W.fnOf "check_row" "check_row" (defArgs s_check_row) (defBody s_check_row) (defScope s_check_row) .none kV1 dc1 pm1 an1 cd1 ct1), sl1⟩)
    (c1 : PySem.W.codeIn K cd1 "check_row" = true)
    (k1 : PySem.W.keepIn K (.ref f1) = true)
    (a2 : PySem.W.nsIn K mainGlobals "check_statement" = some (some (.ref f2)))
    (l2 : K.lookup f2 = some ⟨oc2, od2, .func (PySem.W.fnOf "check_statement" "check_statement" (defArgs s_check_statement) (defBody s_check_statement) (defScope s_check_statement) .none kV2 dc2 pm2 an2 cd2 ct2), sl2⟩)
    (c2 : PySem.W.codeIn K cd2 "check_statement" = true)
    (k2 : PySem.W.keepIn K (.ref f2) = true)
    (a3 : PySem.W.nsIn K mainGlobals "check_guard" = some (some (.ref f3)))
    (l3 : K.lookup f3 = some ⟨oc3, od3, .func (PySem.W.fnOf "check_guard" "check_guard" (defArgs s_check_guard) (defBody s_check_guard) (defScope s_check_guard) .none kV3 dc3 pm3 an3 cd3 ct3), sl3⟩)
    (c3 : PySem.W.codeIn K cd3 "check_guard" = true)
    (k3 : PySem.W.keepIn K (.ref f3) = true)
    (a4 : PySem.W.nsIn K mainGlobals "check_names" = some (some (.ref f4)))
    (l4 : K.lookup f4 = some ⟨oc4, od4, .func (PySem.W.fnOf "check_names" "check_names" (defArgs s_check_names) (defBody s_check_names) (defScope s_check_names) .none kV4 dc4 pm4 an4 cd4 ct4), sl4⟩)
    (c4 : PySem.W.codeIn K cd4 "check_names" = true)
    (k4 : PySem.W.keepIn K (.ref f4) = true)
    (a5 : PySem.W.nsIn K mainGlobals "is_statement" = some (some (.ref f5)))
    (l5 : K.lookup f5 = some ⟨oc5, od5, .func (PySem.W.fnOf "is_statement" "is_statement" (defArgs s_is_statement) (defBody s_is_statement) (defScope s_is_statement) .none kV5 dc5 pm5 an5 cd5 ct5), sl5⟩)
    (c5 : PySem.W.codeIn K cd5 "is_statement" = true)
    (k5 : PySem.W.keepIn K (.ref f5) = true)
    (a6 : PySem.W.nsIn K mainGlobals "is_name" = some (some (.ref f6)))
    (l6 : K.lookup f6 = some ⟨oc6, od6, .func (PySem.W.fnOf "is_name" "is_name" (defArgs s_is_name) (defBody s_is_name) (defScope s_is_name) .none kV6 dc6 pm6 an6 cd6 ct6), sl6⟩)
    (c6 : PySem.W.codeIn K cd6 "is_name" = true)
    (k6 : PySem.W.keepIn K (.ref f6) = true)
    (a7 : PySem.W.nsIn K mainGlobals "copied_row" = some (some (.ref f7)))
    (l7 : K.lookup f7 = some ⟨oc7, od7, .func (PySem.W.fnOf "copied_row" "copied_row" (defArgs s_copied_row) (defBody s_copied_row) (defScope s_copied_row) .none kV7 dc7 pm7 an7 cd7 ct7), sl7⟩)
    (c7 : PySem.W.codeIn K cd7 "copied_row" = true)
    (k7 : PySem.W.keepIn K (.ref f7) = true)
    (a8 : PySem.W.nsIn K mainGlobals "copied_statement" = some (some (.ref f8)))
    (l8 : K.lookup f8 = some ⟨oc8, od8, .func (PySem.W.fnOf "copied_statement" "copied_statement" (defArgs s_copied_statement) (defBody s_copied_statement) (defScope s_copied_statement) .none kV8 dc8 pm8 an8 cd8 ct8), sl8⟩)
    (c8 : PySem.W.codeIn K cd8 "copied_statement" = true)
    (k8 : PySem.W.keepIn K (.ref f8) = true)
    (a9 : PySem.W.nsIn K mainGlobals "copied_handler" = some (some (.ref f9)))
    (l9 : K.lookup f9 = some ⟨oc9, od9, .func (PySem.W.fnOf "copied_handler" "copied_handler" (defArgs s_copied_handler) (defBody s_copied_handler) (defScope s_copied_handler) .none kV9 dc9 pm9 an9 cd9 ct9), sl9⟩)
    (c9 : PySem.W.codeIn K cd9 "copied_handler" = true)
    (k9 : PySem.W.keepIn K (.ref f9) = true)
    (a10 : PySem.W.nsIn K mainGlobals "inner_rows" = some (some (.ref f10)))
    (l10 : K.lookup f10 = some ⟨oc10, od10, .func (PySem.W.fnOf "inner_rows" "inner_rows" (defArgs s_inner_rows) (defBody s_inner_rows) (defScope s_inner_rows) .none kV10 dc10 pm10 an10 cd10 ct10), sl10⟩)
    (c10 : PySem.W.codeIn K cd10 "inner_rows" = true)
    (k10 : PySem.W.keepIn K (.ref f10) = true)
    (a11 : PySem.W.nsIn K mainGlobals "all_statements" = some (some (.ref f11)))
    (l11 : K.lookup f11 = some ⟨oc11, od11, .func (PySem.W.fnOf "all_statements" "all_statements" (defArgs s_all_statements) (defBody s_all_statements) (defScope s_all_statements) .none kV11 dc11 pm11 an11 cd11 ct11), sl11⟩)
    (c11 : PySem.W.codeIn K cd11 "all_statements" = true)
    (k11 : PySem.W.keepIn K (.ref f11) = true)
    (a12 : PySem.W.nsIn K mainGlobals "row_steps" = some (some (.ref f12)))
    (l12 : K.lookup f12 = some ⟨oc12, od12, .func (PySem.W.fnOf "row_steps" "row_steps" (defArgs s_row_steps) (defBody s_row_steps) (defScope s_row_steps) .none kV12 dc12 pm12 an12 cd12 ct12), sl12⟩)
    (c12 : PySem.W.codeIn K cd12 "row_steps" = true)
    (k12 : PySem.W.keepIn K (.ref f12) = true)
    (a13 : PySem.W.nsIn K mainGlobals "row_names" = some (some (.ref f13)))
    (l13 : K.lookup f13 = some ⟨oc13, od13, .func (PySem.W.fnOf "row_names" "row_names" (defArgs s_row_names) (defBody s_row_names) (defScope s_row_names) .none kV13 dc13 pm13 an13 cd13 ct13), sl13⟩)
    (c13 : PySem.W.codeIn K cd13 "row_names" = true)
    (k13 : PySem.W.keepIn K (.ref f13) = true)
    (a14 : PySem.W.nsIn K mainGlobals "own_names" = some (some (.ref f14)))
    (l14 : K.lookup f14 = some ⟨oc14, od14, .func (PySem.W.fnOf "own_names" "own_names" (defArgs s_own_names) (defBody s_own_names) (defScope s_own_names) .none kV14 dc14 pm14 an14 cd14 ct14), sl14⟩)
    (c14 : PySem.W.codeIn K cd14 "own_names" = true)
    (k14 : PySem.W.keepIn K (.ref f14) = true)
    (a15 : PySem.W.findIn K (.ref C_Run) "__init__" = some (some (.ref f15)))
    (i15 : PySem.W.isFn K (.ref f15) = true)
    (l15 : K.lookup f15 = some ⟨oc15, od15, .func (PySem.W.fnOf "__init__" "Run.__init__" (defArgs s_Run___init__) (defBody s_Run___init__) (defScope s_Run___init__) .none kV15 dc15 pm15 an15 cd15 ct15), sl15⟩)
    (c15 : PySem.W.codeIn K cd15 "Run.__init__" = true)
    (k15 : PySem.W.keepIn K (.ref f15) = true)
    (a16 : PySem.W.findIn K (.ref C_Run) "run_row" = some (some (.ref f16)))
    (i16 : PySem.W.isFn K (.ref f16) = true)
    (l16 : K.lookup f16 = some ⟨oc16, od16, .func (PySem.W.fnOf "run_row" "Run.run_row" (defArgs s_Run_run_row) (defBody s_Run_run_row) (defScope s_Run_run_row) .none kV16 dc16 pm16 an16 cd16 ct16), sl16⟩)
    (c16 : PySem.W.codeIn K cd16 "Run.run_row" = true)
    (k16 : PySem.W.keepIn K (.ref f16) = true)
    (a17 : PySem.W.findIn K (.ref C_Run) "run_statement" = some (some (.ref f17)))
    (i17 : PySem.W.isFn K (.ref f17) = true)
    (l17 : K.lookup f17 = some ⟨oc17, od17, .func (PySem.W.fnOf "run_statement" "Run.run_statement" (defArgs s_Run_run_statement) (defBody s_Run_run_statement) (defScope s_Run_run_statement) .none kV17 dc17 pm17 an17 cd17 ct17), sl17⟩)
    (c17 : PySem.W.codeIn K cd17 "Run.run_statement" = true)
    (k17 : PySem.W.keepIn K (.ref f17) = true)
    (a18 : PySem.W.findIn K (.ref C_Run) "run_step" = some (some (.ref f18)))
    (i18 : PySem.W.isFn K (.ref f18) = true)
    (l18 : K.lookup f18 = some ⟨oc18, od18, .func (PySem.W.fnOf "run_step" "Run.run_step" (defArgs s_Run_run_step) (defBody s_Run_run_step) (defScope s_Run_run_step) .none kV18 dc18 pm18 an18 cd18 ct18), sl18⟩)
    (c18 : PySem.W.codeIn K cd18 "Run.run_step" = true)
    (k18 : PySem.W.keepIn K (.ref f18) = true)
    (a19 : PySem.W.findIn K (.ref C_Run) "run_guard" = some (some (.ref f19)))
    (i19 : PySem.W.isFn K (.ref f19) = true)
    (l19 : K.lookup f19 = some ⟨oc19, od19, .func (PySem.W.fnOf "run_guard" "Run.run_guard" (defArgs s_Run_run_guard) (defBody s_Run_run_guard) (defScope s_Run_run_guard) .none kV19 dc19 pm19 an19 cd19 ct19), sl19⟩)
    (c19 : PySem.W.codeIn K cd19 "Run.run_guard" = true)
    (k19 : PySem.W.keepIn K (.ref f19) = true)
    (a20 : PySem.W.findIn K (.ref C_Run) "run_handlers" = some (some (.ref f20)))
    (i20 : PySem.W.isFn K (.ref f20) = true)
    (l20 : K.lookup f20 = some ⟨oc20, od20, .func (PySem.W.fnOf "run_handlers" "Run.run_handlers" (defArgs s_Run_run_handlers) (defBody s_Run_run_handlers) (defScope s_Run_run_handlers) .none kV20 dc20 pm20 an20 cd20 ct20), sl20⟩)
    (c20 : PySem.W.codeIn K cd20 "Run.run_handlers" = true)
    (k20 : PySem.W.keepIn K (.ref f20) = true)
    (a21 : PySem.W.findIn K (.ref C_Run) "get_over" = some (some (.ref f21)))
    (i21 : PySem.W.isFn K (.ref f21) = true)
    (l21 : K.lookup f21 = some ⟨oc21, od21, .func (PySem.W.fnOf "get_over" "Run.get_over" (defArgs s_Run_get_over) (defBody s_Run_get_over) (defScope s_Run_get_over) .none kV21 dc21 pm21 an21 cd21 ct21), sl21⟩)
    (c21 : PySem.W.codeIn K cd21 "Run.get_over" = true)
    (k21 : PySem.W.keepIn K (.ref f21) = true)
    (a22 : PySem.W.nsIn K mainGlobals "numbers_of" = some (some (.ref f22)))
    (l22 : K.lookup f22 = some ⟨oc22, od22, .func (PySem.W.fnOf "numbers_of" "numbers_of" (defArgs s_numbers_of) (defBody s_numbers_of) (defScope s_numbers_of) .none kV22 dc22 pm22 an22 cd22 ct22), sl22⟩)
    (c22 : PySem.W.codeIn K cd22 "numbers_of" = true)
    (k22 : PySem.W.keepIn K (.ref f22) = true)
    (a23 : PySem.W.nsIn K mainGlobals "chain_of" = some (some (.ref f23)))
    (l23 : K.lookup f23 = some ⟨oc23, od23, .func (PySem.W.fnOf "chain_of" "chain_of" (defArgs s_chain_of) (defBody s_chain_of) (defScope s_chain_of) .none kV23 dc23 pm23 an23 cd23 ct23), sl23⟩)
    (c23 : PySem.W.codeIn K cd23 "chain_of" = true)
    (k23 : PySem.W.keepIn K (.ref f23) = true)
    (a24 : PySem.W.nsIn K mainGlobals "told_anew" = some (some (.ref f24)))
    (l24 : K.lookup f24 = some ⟨oc24, od24, .func (PySem.W.fnOf "told_anew" "told_anew" (defArgs s_told_anew) (defBody s_told_anew) (defScope s_told_anew) .none kV24 dc24 pm24 an24 cd24 ct24), sl24⟩)
    (c24 : PySem.W.codeIn K cd24 "told_anew" = true)
    (k24 : PySem.W.keepIn K (.ref f24) = true)
    (a25 : PySem.W.nsIn K mainGlobals "chain_anew" = some (some (.ref f25)))
    (l25 : K.lookup f25 = some ⟨oc25, od25, .func (PySem.W.fnOf "chain_anew" "chain_anew" (defArgs s_chain_anew) (defBody s_chain_anew) (defScope s_chain_anew) .none kV25 dc25 pm25 an25 cd25 ct25), sl25⟩)
    (c25 : PySem.W.codeIn K cd25 "chain_anew" = true)
    (k25 : PySem.W.keepIn K (.ref f25) = true)
    (a26 : PySem.W.nsIn K mainGlobals "run_of_lot" = some (some (.ref f26)))
    (l26 : K.lookup f26 = some ⟨oc26, od26, .func (PySem.W.fnOf "run_of_lot" "run_of_lot" (defArgs s_run_of_lot) (defBody s_run_of_lot) (defScope s_run_of_lot) .none kV26 dc26 pm26 an26 cd26 ct26), sl26⟩)
    (c26 : PySem.W.codeIn K cd26 "run_of_lot" = true)
    (k26 : PySem.W.keepIn K (.ref f26) = true)
    (a27 : PySem.W.findIn K (.ref C_Program) "__init__" = some (some (.ref f27)))
    (i27 : PySem.W.isFn K (.ref f27) = true)
    (l27 : K.lookup f27 = some ⟨oc27, od27, .func (PySem.W.fnOf "__init__" "Program.__init__" (defArgs s_Program___init__) (defBody s_Program___init__) (defScope s_Program___init__) .none kV27 dc27 pm27 an27 cd27 ct27), sl27⟩)
    (c27 : PySem.W.codeIn K cd27 "Program.__init__" = true)
    (k27 : PySem.W.keepIn K (.ref f27) = true)
    (a28 : PySem.W.findIn K (.ref C_Program) "row" = some (some (.ref p28)))
    (y28 : PySem.W.specialIn K (.ref p28) "__get__" = some (some (.builtin "property.__get__")))
    (t28 : PySem.W.takesIn K (.ref p28) = some true)
    (r28 : PySem.W.recIn K p28 "property" = some (.ref f28 :: rs28))
    (l28 : K.lookup f28 = some ⟨oc28, od28, .func (PySem.W.fnOf "row" "Program.row" (defArgs s_Program_row) (defBody s_Program_row) (defScope s_Program_row) .none kV28 dc28 pm28 an28 cd28 ct28), sl28⟩)
    (c28 : PySem.W.codeIn K cd28 "Program.row" = true)
    (k28 : PySem.W.keepIn K (.ref f28) = true)
    (a29 : PySem.W.findIn K (.ref C_Program) "steps" = some (some (.ref p29)))
    (y29 : PySem.W.specialIn K (.ref p29) "__get__" = some (some (.builtin "property.__get__")))
    (t29 : PySem.W.takesIn K (.ref p29) = some true)
    (r29 : PySem.W.recIn K p29 "property" = some (.ref f29 :: rs29))
    (l29 : K.lookup f29 = some ⟨oc29, od29, .func (PySem.W.fnOf "steps" "Program.steps" (defArgs s_Program_steps) (defBody s_Program_steps) (defScope s_Program_steps) .none kV29 dc29 pm29 an29 cd29 ct29), sl29⟩)
    (c29 : PySem.W.codeIn K cd29 "Program.steps" = true)
    (k29 : PySem.W.keepIn K (.ref f29) = true)
    (a30 : PySem.W.findIn K (.ref C_Program) "tells" = some (some (.ref f30)))
    (i30 : PySem.W.isFn K (.ref f30) = true)
    (l30 : K.lookup f30 = some ⟨oc30, od30, .func (PySem.W.fnOf "tells" "Program.tells" (defArgs s_Program_tells) (defBody s_Program_tells) (defScope s_Program_tells) .none kV30 dc30 pm30 an30 cd30 ct30), sl30⟩)
    (c30 : PySem.W.codeIn K cd30 "Program.tells" = true)
    (k30 : PySem.W.keepIn K (.ref f30) = true)
    (a31 : PySem.W.findIn K (.ref C_Program) "run" = some (some (.ref f31)))
    (i31 : PySem.W.isFn K (.ref f31) = true)
    (l31 : K.lookup f31 = some ⟨oc31, od31, .func (PySem.W.fnOf "run" "Program.run" (defArgs s_Program_run) (defBody s_Program_run) (defScope s_Program_run) .none kV31 dc31 pm31 an31 cd31 ct31), sl31⟩)
    (c31 : PySem.W.codeIn K cd31 "Program.run" = true)
    (k31 : PySem.W.keepIn K (.ref f31) = true)
    (a32 : PySem.W.findIn K (.ref C_Program) "_run_with" = some (some (.ref f32)))
    (i32 : PySem.W.isFn K (.ref f32) = true)
    (l32 : K.lookup f32 = some ⟨oc32, od32, .func (PySem.W.fnOf "_run_with" "Program._run_with" (defArgs s_Program__run_with) (defBody s_Program__run_with) (defScope s_Program__run_with) .none kV32 dc32 pm32 an32 cd32 ct32), sl32⟩)
    (c32 : PySem.W.codeIn K cd32 "Program._run_with" = true)
    (k32 : PySem.W.keepIn K (.ref f32) = true)
    (a33 : PySem.W.nsIn K mainGlobals "_law_well" = some (some (.ref f33)))
    (l33 : K.lookup f33 = some ⟨oc33, od33, .func (PySem.W.fnOf "_law_well" "_law_well" (defArgs s__law_well) (defBody s__law_well) (defScope s__law_well) .none kV33 dc33 pm33 an33 cd33 ct33), sl33⟩)
    (c33 : PySem.W.codeIn K cd33 "_law_well" = true)
    (k33 : PySem.W.keepIn K (.ref f33) = true)
    (a34 : PySem.W.nsIn K mainGlobals "_law_draw" = some (some (.ref f34)))
    (l34 : K.lookup f34 = some ⟨oc34, od34, .func (PySem.W.fnOf "_law_draw" "_law_draw" (defArgs s__law_draw) (defBody s__law_draw) (defScope s__law_draw) .none kV34 dc34 pm34 an34 cd34 ct34), sl34⟩)
    (c34 : PySem.W.codeIn K cd34 "_law_draw" = true)
    (k34 : PySem.W.keepIn K (.ref f34) = true)
    (a35 : PySem.W.nsIn K mainGlobals "_law_titles" = some (some (.ref f35)))
    (l35 : K.lookup f35 = some ⟨oc35, od35, .func (PySem.W.fnOf "_law_titles" "_law_titles" (defArgs s__law_titles) (defBody s__law_titles) (defScope s__law_titles) .none kV35 dc35 pm35 an35 cd35 ct35), sl35⟩)
    (c35 : PySem.W.codeIn K cd35 "_law_titles" = true)
    (k35 : PySem.W.keepIn K (.ref f35) = true)
    (a36 : PySem.W.nsIn K mainGlobals "_law_spots" = some (some (.ref f36)))
    (l36 : K.lookup f36 = some ⟨oc36, od36, .func (PySem.W.fnOf "_law_spots" "_law_spots" (defArgs s__law_spots) (defBody s__law_spots) (defScope s__law_spots) .none kV36 dc36 pm36 an36 cd36 ct36), sl36⟩)
    (c36 : PySem.W.codeIn K cd36 "_law_spots" = true)
    (k36 : PySem.W.keepIn K (.ref f36) = true)
    (a37 : PySem.W.nsIn K mainGlobals "_law_steps_of" = some (some (.ref f37)))
    (l37 : K.lookup f37 = some ⟨oc37, od37, .func (PySem.W.fnOf "_law_steps_of" "_law_steps_of" (defArgs s__law_steps_of) (defBody s__law_steps_of) (defScope s__law_steps_of) .none kV37 dc37 pm37 an37 cd37 ct37), sl37⟩)
    (c37 : PySem.W.codeIn K cd37 "_law_steps_of" = true)
    (k37 : PySem.W.keepIn K (.ref f37) = true)
    (a38 : PySem.W.nsIn K mainGlobals "_law_some" = some (some (.ref f38)))
    (l38 : K.lookup f38 = some ⟨oc38, od38, .func (PySem.W.fnOf "_law_some" "_law_some" (defArgs s__law_some) (defBody s__law_some) (defScope s__law_some) .none kV38 dc38 pm38 an38 cd38 ct38), sl38⟩)
    (c38 : PySem.W.codeIn K cd38 "_law_some" = true)
    (k38 : PySem.W.keepIn K (.ref f38) = true)
    (a39 : PySem.W.nsIn K mainGlobals "_law_plain_row" = some (some (.ref f39)))
    (l39 : K.lookup f39 = some ⟨oc39, od39, .func (PySem.W.fnOf "_law_plain_row" "_law_plain_row" (defArgs s__law_plain_row) (defBody s__law_plain_row) (defScope s__law_plain_row) .none kV39 dc39 pm39 an39 cd39 ct39), sl39⟩)
    (c39 : PySem.W.codeIn K cd39 "_law_plain_row" = true)
    (k39 : PySem.W.keepIn K (.ref f39) = true)
    (a40 : PySem.W.nsIn K mainGlobals "_law_plain_owed" = some (some (.ref f40)))
    (l40 : K.lookup f40 = some ⟨oc40, od40, .func (PySem.W.fnOf "_law_plain_owed" "_law_plain_owed" (defArgs s__law_plain_owed) (defBody s__law_plain_owed) (defScope s__law_plain_owed) .none kV40 dc40 pm40 an40 cd40 ct40), sl40⟩)
    (c40 : PySem.W.codeIn K cd40 "_law_plain_owed" = true)
    (k40 : PySem.W.keepIn K (.ref f40) = true)
    (a41 : PySem.W.nsIn K mainGlobals "_law_right" = some (some (.ref f41)))
    (l41 : K.lookup f41 = some ⟨oc41, od41, .func (PySem.W.fnOf "_law_right" "_law_right" (defArgs s__law_right) (defBody s__law_right) (defScope s__law_right) .none kV41 dc41 pm41 an41 cd41 ct41), sl41⟩)
    (c41 : PySem.W.codeIn K cd41 "_law_right" = true)
    (k41 : PySem.W.keepIn K (.ref f41) = true)
    (a42 : PySem.W.nsIn K mainGlobals "law" = some (some (.ref f42)))
    (l42 : K.lookup f42 = some ⟨oc42, od42, .func (PySem.W.fnOf "law" "law" (defArgs s_law) (defBody s_law) (defScope s_law) .none kV42 dc42 pm42 an42 cd42 ct42), sl42⟩)
    (c42 : PySem.W.codeIn K cd42 "law" = true)
    (k42 : PySem.W.keepIn K (.ref f42) = true)
    (g_BODY : PySem.W.nsIn K mainGlobals "BODY" = some (some (.int (0) tk_BODY)))
    (g_ENDED : PySem.W.nsIn K mainGlobals "ENDED" = some (some (.ref a_ENDED)))
    (q_ENDED : K.lookup a_ENDED = some ⟨.type "tuple", od_ENDED, .seq #[.str "ended" tk_ENDED] n_ENDED, sl_ENDED⟩)
    (g_FIRST_HANDLER : PySem.W.nsIn K mainGlobals "FIRST_HANDLER" = some (some (.int (2) tk_FIRST_HANDLER)))
    (g_LAST : PySem.W.nsIn K mainGlobals "LAST" = some (some (.int (1) tk_LAST)))
    (g_LEFT : PySem.W.nsIn K mainGlobals "LEFT" = some (some (.ref a_LEFT)))
    (q_LEFT : K.lookup a_LEFT = some ⟨.type "tuple", od_LEFT, .seq #[.str "left" tk_LEFT] n_LEFT, sl_LEFT⟩)
    (g_LETTERS : PySem.W.nsIn K mainGlobals "LETTERS" = some (some (.str "abcdefghijklmnopqrstuvwxyz" tk_LETTERS)))
    (g_LONGEST_NAME : PySem.W.nsIn K mainGlobals "LONGEST_NAME" = some (some (.int (8) tk_LONGEST_NAME)))
    (g_NO_STEP : PySem.W.nsIn K mainGlobals "NO_STEP" = some (some (.int (-1) tk_NO_STEP)))
    (g_SIZES : PySem.W.nsIn K mainGlobals "SIZES" = some (some (.ref a_SIZES)))
    (D_SIZES : K.lookup a_SIZES = some ⟨.type "dict", none, .dict es_SIZES n_SIZES, #[]⟩)
    (L_SIZES : PySem.W.KeysLit w.params es_SIZES.toList)
    (S_SIZES : (a_SIZES == sysModules) = false)
    (e_SIZES_step : PySem.W.nsIn K a_SIZES "step" = some (some (.int 2 tk_SIZES_step)))
    (e_SIZES_raise : PySem.W.nsIn K a_SIZES "raise" = some (some (.int 2 tk_SIZES_raise)))
    (e_SIZES_from : PySem.W.nsIn K a_SIZES "from" = some (some (.int 2 tk_SIZES_from)))
    (e_SIZES_hide : PySem.W.nsIn K a_SIZES "hide" = some (some (.int 2 tk_SIZES_hide)))
    (e_SIZES_again : PySem.W.nsIn K a_SIZES "again" = some (some (.int 1 tk_SIZES_again)))
    (e_SIZES_leave : PySem.W.nsIn K a_SIZES "leave" = some (some (.int 1 tk_SIZES_leave)))
    (e_SIZES_guard : PySem.W.nsIn K a_SIZES "guard" = some (some (.int 4 tk_SIZES_guard)))
    (z_abs : PySem.W.nsIn K mainGlobals "abs" = some none)
    (z_all : PySem.W.nsIn K mainGlobals "all" = some none)
    (z_bool : PySem.W.nsIn K mainGlobals "bool" = some none)
    (z_enumerate : PySem.W.nsIn K mainGlobals "enumerate" = some none)
    (z_int : PySem.W.nsIn K mainGlobals "int" = some none)
    (z_len : PySem.W.nsIn K mainGlobals "len" = some none)
    (z_list : PySem.W.nsIn K mainGlobals "list" = some none)
    (z_max : PySem.W.nsIn K mainGlobals "max" = some none)
    (z_min : PySem.W.nsIn K mainGlobals "min" = some none)
    (z_range : PySem.W.nsIn K mainGlobals "range" = some none)
    (z_repr : PySem.W.nsIn K mainGlobals "repr" = some none)
    (z_set : PySem.W.nsIn K mainGlobals "set" = some none)
    (z_sorted : PySem.W.nsIn K mainGlobals "sorted" = some none) :
    ∃ fd : FuncData, (∀ (s : Shared) (v : Value), BindsTo s fd ⟨[v], []⟩ [("script", v)]) ∧ ∀ base : Heap, K.In base → base.Ns mainGlobals mg → FnG l.prog w K mg base CX0 60 fa fd ["script"] (spLaw K) := by
  have e := hfa.symm.trans (PySem.W.mg_of X G a42)
  cases e
  have F1 := fun_mk (st := s_check_row) l1 c1 k1
  have b1 := F1.binds (ps := ["row", "way", "handled"]) fun _ _ _ _ _ _ us hl => match us, hl with | [_, _, _], _ => rfl
  have F2 := fun_mk (st := s_check_statement) l2 c2 k2
  have b2 := F2.binds (ps := ["statement", "place", "handled"]) fun _ _ _ _ _ _ us hl => match us, hl with | [_, _, _], _ => rfl
  have F3 := fun_mk (st := s_check_guard) l3 c3 k3
  have b3 := F3.binds (ps := ["guard", "place", "handled"]) fun _ _ _ _ _ _ us hl => match us, hl with | [_, _, _], _ => rfl
  have F4 := fun_mk (st := s_check_names) l4 c4 k4
  have b4 := F4.binds (ps := ["names"]) fun _ _ _ _ _ _ us hl => match us, hl with | [_], _ => rfl
  have F5 := fun_mk (st := s_is_statement) l5 c5 k5
  have b5 := F5.binds (ps := ["statement"]) fun _ _ _ _ _ _ us hl => match us, hl with | [_], _ => rfl
  have F6 := fun_mk (st := s_is_name) l6 c6 k6
  have b6 := F6.binds (ps := ["text"]) fun _ _ _ _ _ _ us hl => match us, hl with | [_], _ => rfl
  have F7 := fun_mk (st := s_copied_row) l7 c7 k7
  have b7 := F7.binds (ps := ["row"]) fun _ _ _ _ _ _ us hl => match us, hl with | [_], _ => rfl
  have F8 := fun_mk (st := s_copied_statement) l8 c8 k8
  have b8 := F8.binds (ps := ["statement"]) fun _ _ _ _ _ _ us hl => match us, hl with | [_], _ => rfl
  have F9 := fun_mk (st := s_copied_handler) l9 c9 k9
  have b9 := F9.binds (ps := ["handler"]) fun _ _ _ _ _ _ us hl => match us, hl with | [_], _ => rfl
  have F10 := fun_mk (st := s_inner_rows) l10 c10 k10
  have b10 := F10.binds (ps := ["statement"]) fun _ _ _ _ _ _ us hl => match us, hl with | [_], _ => rfl
  have F11 := fun_mk (st := s_all_statements) l11 c11 k11
  have b11 := F11.binds (ps := ["row"]) fun _ _ _ _ _ _ us hl => match us, hl with | [_], _ => rfl
  have F12 := fun_mk (st := s_row_steps) l12 c12 k12
  have b12 := F12.binds (ps := ["row"]) fun _ _ _ _ _ _ us hl => match us, hl with | [_], _ => rfl
  have F13 := fun_mk (st := s_row_names) l13 c13 k13
  have b13 := F13.binds (ps := ["row"]) fun _ _ _ _ _ _ us hl => match us, hl with | [_], _ => rfl
  have F14 := fun_mk (st := s_own_names) l14 c14 k14
  have b14 := F14.binds (ps := ["statement"]) fun _ _ _ _ _ _ us hl => match us, hl with | [_], _ => rfl
  have F15 := fun_mk (st := s_Run___init__) l15 c15 k15
  have b15 := F15.binds (ps := ["self", "row", "handled", "answers"]) fun _ _ _ _ _ _ us hl => match us, hl with | [_, _, _, _], _ => rfl
  have F16 := fun_mk (st := s_Run_run_row) l16 c16 k16
  have b16 := F16.binds (ps := ["self", "row", "handled"]) fun _ _ _ _ _ _ us hl => match us, hl with | [_, _, _], _ => rfl
  have F17 := fun_mk (st := s_Run_run_statement) l17 c17 k17
  have b17 := F17.binds (ps := ["self", "statement", "handled"]) fun _ _ _ _ _ _ us hl => match us, hl with | [_, _, _], _ => rfl
  have F18 := fun_mk (st := s_Run_run_step) l18 c18 k18
  have b18 := F18.binds (ps := ["self", "name", "handled"]) fun _ _ _ _ _ _ us hl => match us, hl with | [_, _, _], _ => rfl
  have F19 := fun_mk (st := s_Run_run_guard) l19 c19 k19
  have b19 := F19.binds (ps := ["self", "guard", "handled"]) fun _ _ _ _ _ _ us hl => match us, hl with | [_, _, _], _ => rfl
  have F20 := fun_mk (st := s_Run_run_handlers) l20 c20 k20
  have b20 := F20.binds (ps := ["self", "handlers", "out", "handled"]) fun _ _ _ _ _ _ us hl => match us, hl with | [_, _, _, _], _ => rfl
  have F21 := fun_mk (st := s_Run_get_over) l21 c21 k21
  have b21 := F21.binds (ps := ["self", "chain", "handled"]) fun _ _ _ _ _ _ us hl => match us, hl with | [_, _, _], _ => rfl
  have F22 := fun_mk (st := s_numbers_of) l22 c22 k22
  have b22 := F22.binds (ps := ["chain"]) fun _ _ _ _ _ _ us hl => match us, hl with | [_], _ => rfl
  have F23 := fun_mk (st := s_chain_of) l23 c23 k23
  have b23 := F23.binds (ps := ["word", "name", "number", "handled"]) fun _ _ _ _ _ _ us hl => match us, hl with | [_, _, _, _], _ => rfl
  have F24 := fun_mk (st := s_told_anew) l24 c24 k24
  have b24 := F24.binds (ps := ["out"]) fun _ _ _ _ _ _ us hl => match us, hl with | [_], _ => rfl
  have F25 := fun_mk (st := s_chain_anew) l25 c25 k25
  have b25 := F25.binds (ps := ["chain"]) fun _ _ _ _ _ _ us hl => match us, hl with | [_], _ => rfl
  have F26 := fun_mk (st := s_run_of_lot) l26 c26 k26
  have b26 := F26.binds (ps := ["row", "steps", "lot"]) fun _ _ _ _ _ _ us hl => match us, hl with | [_, _, _], _ => rfl
  have F27 := fun_mk (st := s_Program___init__) l27 c27 k27
  have b27 := F27.binds (ps := ["self", "row"]) fun _ _ _ _ _ _ us hl => match us, hl with | [_, _], _ => rfl
  have F28 := fun_mk (st := s_Program_row) l28 c28 k28
  have b28 := F28.binds (ps := ["self"]) fun _ _ _ _ _ _ us hl => match us, hl with | [_], _ => rfl
  have F29 := fun_mk (st := s_Program_steps) l29 c29 k29
  have b29 := F29.binds (ps := ["self"]) fun _ _ _ _ _ _ us hl => match us, hl with | [_], _ => rfl
  have F30 := fun_mk (st := s_Program_tells) l30 c30 k30
  have b30 := F30.binds (ps := ["self", "lot"]) fun _ _ _ _ _ _ us hl => match us, hl with | [_, _], _ => rfl
  have F31 := fun_mk (st := s_Program_run) l31 c31 k31
  have b31 := F31.binds (ps := ["self", "lot"]) fun _ _ _ _ _ _ us hl => match us, hl with | [_, _], _ => rfl
  have F32 := fun_mk (st := s_Program__run_with) l32 c32 k32
  have b32 := F32.binds (ps := ["self", "lot"]) fun _ _ _ _ _ _ us hl => match us, hl with | [_, _], _ => rfl
  have F33 := fun_mk (st := s__law_well) l33 c33 k33
  have b33 := F33.binds (ps := ["script", "spot"]) fun _ _ _ _ _ _ us hl => match us, hl with | [_, _], _ => rfl
  have F34 := fun_mk (st := s__law_draw) l34 c34 k34
  have b34 := F34.binds (ps := ["well", "many"]) fun _ _ _ _ _ _ us hl => match us, hl with | [_, _], _ => rfl
  have F35 := fun_mk (st := s__law_titles) l35 c35 k35
  have b35 := F35.binds (ps := ["well", "many"]) fun _ _ _ _ _ _ us hl => match us, hl with | [_, _], _ => rfl
  have F36 := fun_mk (st := s__law_spots) l36 c36 k36
  have b36 := F36.binds (ps := ["lines", "ahead"]) fun _ _ _ _ _ _ us hl => match us, hl with | [_, _], _ => rfl
  have F37 := fun_mk (st := s__law_steps_of) l37 c37 k37
  have b37 := F37.binds (ps := ["lines"]) fun _ _ _ _ _ _ us hl => match us, hl with | [_], _ => rfl
  have F38 := fun_mk (st := s__law_some) l38 c38 k38
  have b38 := F38.binds (ps := ["well", "titles"]) fun _ _ _ _ _ _ us hl => match us, hl with | [_, _], _ => rfl
  have F39 := fun_mk (st := s__law_plain_row) l39 c39 k39
  have b39 := F39.binds (ps := ["well", "titles", "size"]) fun _ _ _ _ _ _ us hl => match us, hl with | [_, _, _], _ => rfl
  have F40 := fun_mk (st := s__law_plain_owed) l40 c40 k40
  have b40 := F40.binds (ps := ["lines", "some"]) fun _ _ _ _ _ _ us hl => match us, hl with | [_, _], _ => rfl
  have F41 := fun_mk (st := s__law_right) l41 c41 k41
  have b41 := F41.binds (ps := ["well"]) fun _ _ _ _ _ _ us hl => match us, hl with | [_], _ => rfl
  have F42 := fun_mk (st := s_law) l42 c42 k42
  have b42 := F42.binds (ps := ["script"]) fun _ _ _ _ _ _ us hl => match us, hl with | [_], _ => rfl
  let T : Txt w K mg := ⟨C_Run, ⟨pg_Run, hd_Run, po_Run, sa_Run⟩, PySem.W.mg_of X G a_Run, na_Run_answers, na_Run_ran, na_Run_over, na_Run_out, C_Program, ⟨pg_Program, hd_Program, po_Program, sa_Program⟩, PySem.W.mg_of X G a_Program, na_Program__row, na_Program__steps, na_Program__names, _, _, F1, b1, PySem.W.mg_of X G a1, _, _, F2, b2, PySem.W.mg_of X G a2, _, _, F3, b3, PySem.W.mg_of X G a3, _, _, F4, b4, PySem.W.mg_of X G a4, _, _, F5, b5, PySem.W.mg_of X G a5, _, _, F6, b6, PySem.W.mg_of X G a6, _, _, F7, b7, PySem.W.mg_of X G a7, _, _, F8, b8, PySem.W.mg_of X G a8, _, _, F9, b9, PySem.W.mg_of X G a9, _, _, F10, b10, PySem.W.mg_of X G a10, _, _, F11, b11, PySem.W.mg_of X G a11, _, _, F12, b12, PySem.W.mg_of X G a12, _, _, F13, b13, PySem.W.mg_of X G a13, _, _, F14, b14, PySem.W.mg_of X G a14, _, _, F15, b15, ⟨mk_Run, a15, i15, kc_Run⟩, _, _, F16, b16, ⟨a16, i16, k16⟩, _, _, F17, b17, ⟨a17, i17, k17⟩, _, _, F18, b18, ⟨a18, i18, k18⟩, _, _, F19, b19, ⟨a19, i19, k19⟩, _, _, F20, b20, ⟨a20, i20, k20⟩, _, _, F21, b21, ⟨a21, i21, k21⟩, _, _, F22, b22, PySem.W.mg_of X G a22, _, _, F23, b23, PySem.W.mg_of X G a23, _, _, F24, b24, PySem.W.mg_of X G a24, _, _, F25, b25, PySem.W.mg_of X G a25, _, _, F26, b26, PySem.W.mg_of X G a26, _, _, F27, b27, ⟨mk_Program, a27, i27, kc_Program⟩, _, _, F28, b28, p28, ⟨a28, y28, t28, _, r28⟩, _, _, F29, b29, p29, ⟨a29, y29, t29, _, r29⟩, _, _, F30, b30, ⟨a30, i30, k30⟩, _, _, F31, b31, ⟨a31, i31, k31⟩, _, _, F32, b32, ⟨a32, i32, k32⟩, _, _, F33, b33, PySem.W.mg_of X G a33, _, _, F34, b34, PySem.W.mg_of X G a34, _, _, F35, b35, PySem.W.mg_of X G a35, _, _, F36, b36, PySem.W.mg_of X G a36, _, _, F37, b37, PySem.W.mg_of X G a37, _, _, F38, b38, PySem.W.mg_of X G a38, _, _, F39, b39, PySem.W.mg_of X G a39, _, _, F40, b40, PySem.W.mg_of X G a40, _, _, F41, b41, PySem.W.mg_of X G a41, _, _, F42, b42, PySem.W.mg_of X G a42, OwnP.kbn_mk F30 (fun _ _ _ _ _ _ us ws hu hw => match us, ws, hu, hw with | [_], [_], _, _ => rfl), OwnP.kbn_mk F31 (fun _ _ _ _ _ _ us ws hu hw => match us, ws, hu, hw with | [_], [_], _, _ => rfl), OwnP.kbn_mk F27 (fun _ _ _ _ _ _ us ws hu hw => match us, ws, hu, hw with | [_], [_], _, _ => rfl), _, PySem.W.mg_of X G g_BODY, ⟨_, rfl⟩, a_ENDED, PySem.W.mg_of X G g_ENDED, rfl, fun _ => .inr ⟨_, _, _, q_ENDED, rfl, rfl, (by show 1 ≤ sizeLine; decide), .cons ⟨_, rfl⟩ .nil⟩, _, PySem.W.mg_of X G g_FIRST_HANDLER, ⟨_, rfl⟩, _, PySem.W.mg_of X G g_LAST, ⟨_, rfl⟩, a_LEFT, PySem.W.mg_of X G g_LEFT, rfl, fun _ => .inr ⟨_, _, _, q_LEFT, rfl, rfl, (by show 1 ≤ sizeLine; decide), .cons ⟨_, rfl⟩ .nil⟩, _, PySem.W.mg_of X G g_LETTERS, ⟨_, rfl⟩, _, PySem.W.mg_of X G g_LONGEST_NAME, ⟨_, rfl⟩, _, PySem.W.mg_of X G g_NO_STEP, ⟨_, rfl⟩, a_SIZES, PySem.W.mg_of X G g_SIZES, rfl, es_SIZES, n_SIZES, ⟨D_SIZES, L_SIZES, S_SIZES⟩, ⟨_, e_SIZES_step, _, rfl⟩, ⟨_, e_SIZES_raise, _, rfl⟩, ⟨_, e_SIZES_from, _, rfl⟩, ⟨_, e_SIZES_hide, _, rfl⟩, ⟨_, e_SIZES_again, _, rfl⟩, ⟨_, e_SIZES_leave, _, rfl⟩, ⟨_, e_SIZES_guard, _, rfl⟩, PySem.W.mg_none_of X G z_abs, PySem.W.mg_none_of X G z_all, PySem.W.mg_none_of X G z_bool, PySem.W.mg_none_of X G z_enumerate, PySem.W.mg_none_of X G z_int, PySem.W.mg_none_of X G z_len, PySem.W.mg_none_of X G z_list, PySem.W.mg_none_of X G z_max, PySem.W.mg_none_of X G z_min, PySem.W.mg_none_of X G z_range, PySem.W.mg_none_of X G z_repr, PySem.W.mg_none_of X G z_set, PySem.W.mg_none_of X G z_sorted⟩
  exact ⟨_, fun s v => .of_eq rfl, fun base _ _ => ok_law T⟩
theorem walk {l : PySem.W.OpenLaw} {q : Program} {loose : List Str} {XP : (Str → Option Value) → Heap → Prop} {YP : World → Heap → Prop} {d : DefRec} {K : Params → PySem.W.Frag} (hn : l.most = some 63) (hdf : d.params.defaults = [])
    (hY : ∀ (w : World) (h : Heap), YP w h → (K w.params).In h)
    (F : ∀ (w : World) (mg : Str → Option Value) (fa : Addr) (h : Heap), (K w.params).In h → h.Ns mainGlobals mg → mg d.name = some (.ref fa) →
      ∃ fd : FuncData, (∀ (s : Shared) (u : Value), BindsTo s fd ⟨[u], []⟩ [("script", u)]) ∧ ∀ base : Heap, (K w.params).In base → base.Ns mainGlobals mg → FnG l.prog w (K w.params) mg base CX0 60 fa fd ["script"] (spLaw (K w.params))) :
    PySem.W.WalkO q loose XP YP l.row.toRowW d [] (fun f vs => PySem.call f vs) :=
  walk_g (n := 63) (k := 60) (x := "script") (sp := spLaw) hn (by decide) hdf ⟨⟨rfl, by decide, by decide⟩, rfl⟩ hY F (fun _ _ a ns hl _ hS => ⟨a, ns, rfl, hS, hl, fun _ => rfl⟩)
end
end Toy
open PySem PySem.W PyProof.Rows in
set_option maxRecDepth 100000 in
set_option maxHeartbeats 0 in
theorem PySem.Challenge.cw_toldatlast_k02_rows_without_guards_holds : PySem.Challenge.rw_toldatlast_k02_rows_without_guards.Holds := by
  w_on; o_law; k_head; (case hw => w_witness2)
  k_fill
  refine Toy.walk (l := PySem.Challenge.rw_toldatlast_k02_rows_without_guards) rfl rfl (fun w h Y => PySem.W.kIn_of Y) ?F
  case F =>
    intro w mg fa h KX G hmg
    refine' Toy.all_mk KX G hmg ?a_Run ?pg_Run ?hd_Run ?po_Run ?sa_Run ?mk_Run ?kc_Run ?na_Run_answers ?na_Run_ran ?na_Run_over ?na_Run_out ?a_Program ?pg_Program ?hd_Program ?po_Program ?sa_Program ?mk_Program ?kc_Program ?na_Program__row ?na_Program__steps ?na_Program__names ?a1 ?l1 ?c1 ?k1 ?a2 ?l2 ?c2 ?k2 ?a3 ?l3 ?c3 ?k3 ?a4 ?l4 ?c4 ?k4 ?a5 ?l5 ?c5 ?k5 ?a6 ?l6 ?c6 ?k6 ?a7 ?l7 ?c7 ?k7 ?a8 ?l8 ?c8 ?k8 ?a9 ?l9 ?c9 ?k9 ?a10 ?l10 ?c10 ?k10 ?a11 ?l11 ?c11 ?k11 ?a12 ?l12 ?c12 ?k12 ?a13 ?l13 ?c13 ?k13 ?a14 ?l14 ?c14 ?k14 ?a15 ?i15 ?l15 ?c15 ?k15 ?a16 ?i16 ?l16 ?c16 ?k16 ?a17 ?i17 ?l17 ?c17 ?k17 ?a18 ?i18 ?l18 ?c18 ?k18 ?a19 ?i19 ?l19 ?c19 ?k19 ?a20 ?i20 ?l20 ?c20 ?k20 ?a21 ?i21 ?l21 ?c21 ?k21 ?a22 ?l22 ?c22 ?k22 ?a23 ?l23 ?c23 ?k23 ?a24 ?l24 ?c24 ?k24 ?a25 ?l25 ?c25 ?k25 ?a26 ?l26 ?c26 ?k26 ?a27 ?i27 ?l27 ?c27 ?k27 ?a28 ?y28 ?t28 ?r28 ?l28 ?c28 ?k28 ?a29 ?y29 ?t29 ?r29 ?l29 ?c29 ?k29 ?a30 ?i30 ?l30 ?c30 ?k30 ?a31 ?i31 ?l31 ?c31 ?k31 ?a32 ?i32 ?l32 ?c32 ?k32 ?a33 ?l33 ?c33 ?k33 ?a34 ?l34 ?c34 ?k34 ?a35 ?l35 ?c35 ?k35 ?a36 ?l36 ?c36 ?k36 ?a37 ?l37 ?c37 ?k37 ?a38 ?l38 ?c38 ?k38 ?a39 ?l39 ?c39 ?k39 ?a40 ?l40 ?c40 ?k40 ?a41 ?l41 ?c41 ?k41 ?a42 ?l42 ?c42 ?k42 ?g_BODY ?g_ENDED ?q_ENDED ?g_FIRST_HANDLER ?g_LAST ?g_LEFT ?q_LEFT ?g_LETTERS ?g_LONGEST_NAME ?g_NO_STEP ?g_SIZES ?D_SIZES ?L_SIZES ?S_SIZES ?e_SIZES_step ?e_SIZES_raise ?e_SIZES_from ?e_SIZES_hide ?e_SIZES_again ?e_SIZES_leave ?e_SIZES_guard ?z_abs ?z_all ?z_bool ?z_enumerate ?z_int ?z_len ?z_list ?z_max ?z_min ?z_range ?z_repr ?z_set ?z_sorted
    (case a_Run => k_is)
    (case pg_Run => k_is)
    (case hd_Run => k_is)
    (case po_Run => k_is)
    (case sa_Run => k_is)
    (case mk_Run => k_is)
    (case kc_Run => k_is)
    (case na_Run_answers => k_is)
    (case na_Run_ran => k_is)
    (case na_Run_over => k_is)
    (case na_Run_out => k_is)
    (case a_Program => k_is)
    (case pg_Program => k_is)
    (case hd_Program => k_is)
    (case po_Program => k_is)
    (case sa_Program => k_is)
    (case mk_Program => k_is)
    (case kc_Program => k_is)
    (case na_Program__row => k_is)
    (case na_Program__steps => k_is)
    (case na_Program__names => k_is)
    (case a1 => k_is)
    (case l1 => k_is)
    (case c1 => k_is)
    (case k1 => k_is)
    (case a2 => k_is)
    (case l2 => k_is)
    (case c2 => k_is)
    (case k2 => k_is)
    (case a3 => k_is)
    (case l3 => k_is)
    (case c3 => k_is)
    (case k3 => k_is)
    (case a4 => k_is)
    (case l4 => k_is)
    (case c4 => k_is)
    (case k4 => k_is)
    (case a5 => k_is)
    (case l5 => k_is)
    (case c5 => k_is)
    (case k5 => k_is)
    (case a6 => k_is)
    (case l6 => k_is)
    (case c6 => k_is)
    (case k6 => k_is)
    (case a7 => k_is)
    (case l7 => k_is)
    (case c7 => k_is)
    (case k7 => k_is)
    (case a8 => k_is)
    (case l8 => k_is)
    (case c8 => k_is)
    (case k8 => k_is)
    (case a9 => k_is)
    (case l9 => k_is)
    (case c9 => k_is)
    (case k9 => k_is)
    (case a10 => k_is)
    (case l10 => k_is)
    (case c10 => k_is)
    (case k10 => k_is)
    (case a11 => k_is)
    (case l11 => k_is)
    (case c11 => k_is)
    (case k11 => k_is)
    (case a12 => k_is)
    (case l12 => k_is)
    (case c12 => k_is)
    (case k12 => k_is)
    (case a13 => k_is)
    (case l13 => k_is)
    (case c13 => k_is)
    (case k13 => k_is)
    (case a14 => k_is)
    (case l14 => k_is)
    (case c14 => k_is)
    (case k14 => k_is)
    (case a15 => k_is)
    (case i15 => k_is)
    (case l15 => k_is)
    (case c15 => k_is)
    (case k15 => k_is)
    (case a16 => k_is)
    (case i16 => k_is)
    (case l16 => k_is)
    (case c16 => k_is)
    (case k16 => k_is)
    (case a17 => k_is)
    (case i17 => k_is)
    (case l17 => k_is)
    (case c17 => k_is)
    (case k17 => k_is)
    (case a18 => k_is)
    (case i18 => k_is)
    (case l18 => k_is)
    (case c18 => k_is)
    (case k18 => k_is)
    (case a19 => k_is)
    (case i19 => k_is)
    (case l19 => k_is)
    (case c19 => k_is)
    (case k19 => k_is)
    (case a20 => k_is)
    (case i20 => k_is)
    (case l20 => k_is)
    (case c20 => k_is)
    (case k20 => k_is)
    (case a21 => k_is)
    (case i21 => k_is)
    (case l21 => k_is)
    (case c21 => k_is)
    (case k21 => k_is)
    (case a22 => k_is)
    (case l22 => k_is)
    (case c22 => k_is)
    (case k22 => k_is)
    (case a23 => k_is)
    (case l23 => k_is)
    (case c23 => k_is)
    (case k23 => k_is)
    (case a24 => k_is)
    (case l24 => k_is)
    (case c24 => k_is)
    (case k24 => k_is)
    (case a25 => k_is)
    (case l25 => k_is)
    (case c25 => k_is)
    (case k25 => k_is)
    (case a26 => k_is)
    (case l26 => k_is)
    (case c26 => k_is)
    (case k26 => k_is)
    (case a27 => k_is)
    (case i27 => k_is)
    (case l27 => k_is)
    (case c27 => k_is)
    (case k27 => k_is)
    (case a28 => k_is)
    (case y28 => k_is)
    (case t28 => k_is)
    (case r28 => k_is)
    (case l28 => k_is)
    (case c28 => k_is)
    (case k28 => k_is)
    (case a29 => k_is)
    (case y29 => k_is)
    (case t29 => k_is)
    (case r29 => k_is)
    (case l29 => k_is)
    (case c29 => k_is)
    (case k29 => k_is)
    (case a30 => k_is)
    (case i30 => k_is)
    (case l30 => k_is)
    (case c30 => k_is)
    (case k30 => k_is)
    (case a31 => k_is)
    (case i31 => k_is)
    (case l31 => k_is)
    (case c31 => k_is)
    (case k31 => k_is)
    (case a32 => k_is)
    (case i32 => k_is)
    (case l32 => k_is)
    (case c32 => k_is)
    (case k32 => k_is)
    (case a33 => k_is)
    (case l33 => k_is)
    (case c33 => k_is)
    (case k33 => k_is)
    (case a34 => k_is)
    (case l34 => k_is)
    (case c34 => k_is)
    (case k34 => k_is)
    (case a35 => k_is)
    (case l35 => k_is)
    (case c35 => k_is)
    (case k35 => k_is)
    (case a36 => k_is)
    (case l36 => k_is)
    (case c36 => k_is)
    (case k36 => k_is)
    (case a37 => k_is)
    (case l37 => k_is)
    (case c37 => k_is)
    (case k37 => k_is)
    (case a38 => k_is)
    (case l38 => k_is)
    (case c38 => k_is)
    (case k38 => k_is)
    (case a39 => k_is)
    (case l39 => k_is)
    (case c39 => k_is)
    (case k39 => k_is)
    (case a40 => k_is)
    (case l40 => k_is)
    (case c40 => k_is)
    (case k40 => k_is)
    (case a41 => k_is)
    (case l41 => k_is)
    (case c41 => k_is)
    (case k41 => k_is)
    (case a42 => k_is)
    (case l42 => k_is)
    (case c42 => k_is)
    (case k42 => k_is)
    (case g_BODY => k_is)
    (case g_ENDED => k_is)
    (case q_ENDED => k_is)
    (case g_FIRST_HANDLER => k_is)
    (case g_LAST => k_is)
    (case g_LEFT => k_is)
    (case q_LEFT => k_is)
    (case g_LETTERS => k_is)
    (case g_LONGEST_NAME => k_is)
    (case g_NO_STEP => k_is)
    (case g_SIZES => k_is)
    (case D_SIZES => k_is)
    (case L_SIZES => (repeat' first | exact trivial | refine ⟨⟨_, _, rfl, rfl⟩, ?_⟩))
    (case S_SIZES => rfl)
    (case e_SIZES_step => k_is)
    (case e_SIZES_raise => k_is)
    (case e_SIZES_from => k_is)
    (case e_SIZES_hide => k_is)
    (case e_SIZES_again => k_is)
    (case e_SIZES_leave => k_is)
    (case e_SIZES_guard => k_is)
    (case z_abs => k_is)
    (case z_all => k_is)
    (case z_bool => k_is)
    (case z_enumerate => k_is)
    (case z_int => k_is)
    (case z_len => k_is)
    (case z_list => k_is)
    (case z_max => k_is)
    (case z_min => k_is)
    (case z_range => k_is)
    (case z_repr => k_is)
    (case z_set => k_is)
    (case z_sorted => k_is)
#print axioms PySem.Challenge.cw_toldatlast_k02_rows_without_guards_holds
