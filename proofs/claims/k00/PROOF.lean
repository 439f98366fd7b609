import PyProof.Rows.All
import Wide.All
import OpenK.AllK
import Wide.FinOn
import PyProof.ReprRoads
import HandS.ForMost
import HandS.ForExc
import HandS.Wide
import HandS.IsInst
import HandS.EndBits
import HandS.Strs
import PyProof.Rows.SetFrom
import HandS.ExcInit
import HandS.ExcField
import HandS.ExcIs
import KE.KExcIs
import HandS.Steps
import PyProof.StrLawsRepr
import PyProof.FitsInt
import PySem.Challenge.RW_ladderdays_k00_errors_keep_their_value
set_option Elab.async false
set_option linter.all false
set_option maxRecDepth 100000
set_option maxHeartbeats 1000000
namespace Ly
open PySem PySem.Spec PyProof.Rows L2

/-! ### powers of great ints -/
def PowC (i j : Int) : Prop := 0 ≤ j ∧ (i.natAbs.log2 + 1 : Nat) * j ≤ (134217728 : Int)
theorem bits_le (x : Int) : Builtin.Int.intBits x ≤ x.natAbs.log2 + 1 := by
  unfold Builtin.Int.intBits
  split <;> omega
theorem op_powL {X : Cx} : OpR X (binaryOp .Pow) (rI PowC fun i j => .int (i ^ j.toNat)) := opI fun i j _ _ _ _ _ hc q => by
  obtain ⟨h0, h1⟩ := hc
  refine pow_int h0 ?_ q
  have b : (Builtin.Int.intBits i : Int) ≤ ((i.natAbs.log2 + 1 : Nat) : Int) := by exact_mod_cast bits_le i
  have m := Int.mul_le_mul_of_nonneg_right b h0
  have e : (2 : Int) ^ 27 = 134217728 := by decide
  omega

/-! ### defs whose callers stand in no repr -/
structure FnG (P : Program) (w : World) (K : PySem.W.Frag) (mg : Str → Option Value) (base : Heap) (k : Nat) (f : Addr) (fd : FuncData) (ps : List Str) (sp : Sp) : Prop where
  lenG : ∀ vs H Q E, sp vs H Q E → vs.length = ps.length
  runG : ∀ (A : Around), A.guards = some [] → ∀ (outer : List Env) (s : Shared) (H : Hp) (args : Args) (us : List Value) (vs : List V) (Q : VK) (E : XK), Room k A → Env0 P w K mg base A outer s H →
    BindsTo s fd args (ps.zip us) → Vals vs us → sp vs H Q E → codeAny (model P w) A (.call (.ref f) args) (CR CX0 outer P w H s Q E) s
section
variable {P : Program} {w : World} {K : PySem.W.Frag} {mg : Str → Option Value} {base : Heap} {k : Nat} {f : Addr} {fd : FuncData} {ps : List Str} {sp : Sp}
theorem FnG.of (F : FnOk P w K mg base CX0 k f fd ps sp) : FnG P w K mg base k f fd ps sp := ⟨F.len, fun A _ => F.run A⟩
theorem FnG.up {j : Nat} (F : FnG P w K mg base j f fd ps sp) (h : j ≤ k) : FnG P w K mg base k f fd ps sp :=
  ⟨F.lenG, fun A hA o s H args us vs Q E hr => F.runG A hA o s H args us vs Q E (hr.mono h)⟩
end

section
variable {X : Cx} {k : Nat} {f : Addr} {fd : FuncData} {ps : List Str} {sp : Sp} {dvs : List V} {ds : List Value} {x : Str} {p pos : Pos} {e : Expr} {es : List Expr} {t : TA}
theorem FnG.go {pins : List (Addr × Obj)} {σ : L2.St} {H : Hp} {s : Shared} {Q : VK} {us : List Value} {vs : List V} {args : Args} (F : FnG X.prog X.w X.K X.mg X.base k f fd ps sp) (hA : X.A.guards = some []) (hr : Room k X.A)
    (hb : BindsTo s fd args (ps.zip us)) (I : Inv X pins σ H s) (r : Vals vs us) (h : sp vs H Q E0) : codeAny (model X.prog X.w) X.A (.call (.ref f) args) (fun r s' => match r with
      | .ok (.ret u) => EP X pins σ Q u s'
      | .ok _ => False
      | .error _ => False) s := by
  refine codeAny_mono (F.runG X.A hA X.stack s H args us vs Q E0 hr I.env0 hb r h) fun r s' hq => ?_
  rcases r with z | z
  · exact hq
  · cases z <;> first | exact I.after hq | exact hq
theorem pe_g (F : FnG X.prog X.w X.K X.mg X.base k f fd ps sp) (hA : X.A.guards = some []) (hr : Room k X.A) (hg : Gl X x) (hm : X.mg x = some (.ref f)) (hk : PySem.W.keepIn X.K (.ref f) = true) (hb : Binds X.K fd ps [])
    (ha : PA X (e :: es) t) (hdb : (x == ("__debug__" : Str)) = false := by decide) (he : starEach (e :: es) X.env = (false, eval e X.env) :: starEach es X.env := by rfl) (hpl : (backTo pos (starEach es X.env)).any (·.1) = false := by rfl) :
    PE X (.Call (.Name x p) (e :: es) [] pos) (tCall sp [] E0 t) := by
  constructor
  intro pins s σ H Q I h
  refine wpAny_Call_Name_kw (ld_glob I hg hm ?_ hdb)
  refine PySem.W.callWith_K (h₀ := X.base) I.ok.mod.kin hk (thn (ha.run pos pins s σ H _ I h) ?_) he hpl
  rintro us s1 ⟨vs, H1, I1, r, q⟩
  have q1 : sp vs H1 Q E0 := by
    have z := q
    rw [List.append_nil] at z
    exact z
  have hl : (us ++ []).length = ps.length := by
    rw [List.append_nil, ← r.length]
    exact F.lenG _ _ _ _ q1
  have hb1 := hb s1 us I1.kIn hl
  rw [List.append_nil] at hb1
  refine ⟨I1.kIn, wpAny_call (codeAny_mono (F.go hA hr hb1 I1 r q1) fun r s' hq => ?_)⟩
  rcases r with z | z
  · exact hq.elim
  · cases z <;> first | exact hq | exact hq.elim
variable {kws : List Keyword} {tk : TA} {ks : List Str} {g : List Value → List Value → List Value} {gV : List V → List V → List V}
theorem pe_gk (F : FnG X.prog X.w X.K X.mg X.base k f fd ps sp) (hA : X.A.guards = some []) (hr : Room k X.A) (hg : Gl X x) (hm : X.mg x = some (.ref f)) (hk : PySem.W.keepIn X.K (.ref f) = true) (hb : KBinds X.K fd ps ks g gV)
    (ha : PA X (e :: es) t) (hkw : PK X kws tk) (hall : (backToKw pos (keywordEach kws X.env)).all (·.1.isSome) = true := by rfl) (hks : (backToKw pos (keywordEach kws X.env)).filterMap (·.1) = ks := by rfl)
    (hdb : (x == ("__debug__" : Str)) = false := by decide) (he : starEach (e :: es) X.env = (false, eval e X.env) :: starEach es X.env := by rfl)
    (hpl : ((backTo pos (starEach (e :: es) X.env)).any (·.1) || (backToKw pos (keywordEach kws X.env)).any (·.1.isNone)) = false := by rfl) :
    PE X (.Call (.Name x p) (e :: es) kws pos) (tCallK sp gV E0 t tk) := by
  constructor
  intro pins s σ H Q I h
  refine wpAny_Call_Name_kw (ld_glob I hg hm ?_ hdb)
  refine PySem.W.callWith_KW (h₀ := X.base) I.ok.mod.kin hk hall (thn (ha.run pos pins s σ H _ I h) ?_) hpl he
  rintro us s1 ⟨vs, H1, I1, r, q⟩
  refine thn (hkw.run pos pins s1 σ H1 _ I1 q) ?_
  rintro ws s2 ⟨zs, H2, I2, rz, q2⟩
  refine ⟨I2.kIn, ?_⟩
  rw [hks]
  have r2 := hb.rel r rz
  have hl : (g us ws).length = ps.length := by
    rw [← r2.length]
    exact F.lenG _ _ _ _ q2
  refine wpAny_call (codeAny_mono (F.go hA hr (hb.to s2 us ws I2.kIn hl) I2 r2 q2) fun r s' hq => ?_)
  rcases r with z | z
  · exact hq.elim
  · cases z <;> first | exact hq | exact hq.elim
end

/-! ### a def by its body -/
section
variable {P : Program} {w : World} {K : PySem.W.Frag} {mg : Str → Option Value} {base : Heap}
theorem gOf {x qual : Str} {st : Stmt} {f : Addr} {fd : FuncData} {N ps : List Str} {k : Nat} {sp : Sp} (F : Fun K x qual st f fd) (S : FnScope N ps (defScope st)) (len : ∀ vs H Q E, sp vs H Q E → vs.length = ps.length)
    (hbody : ∀ (cdv : Value) (A : Around) (outer : List Env) (s : Shared) (H : Hp) (vs : List V) (Q : VK) (E : XK), A.guards = some [] → Room k (A.deeper (envOfC qual (defScope st) s.heap.objs.size f cdv)) → sp vs H Q E →
      ∃ t, PSs (cxOf CX0 P w K mg base N qual (defScope st) f cdv A outer s H E).nox (defBody st) t ∧ t { nx := fun _ H' => Q .non H', rt := Q } (start N vs) H) : FnG P w K mg base (k + 1) f fd ps sp := by
  obtain ⟨oc, od, kV, doc, pm, an, cdv, ct, osl, rfl, lk, hcd⟩ := F.ex
  refine ⟨len, fun A hA outer s H args us vs Q E hr e0 hb r hsp => ?_⟩
  have hl := len _ _ _ _ hsp
  have KX : K.In s.heap := e0.mod.kin.keeps fun b o z => (e0.bs b o z).1
  have lim : s.heap.NoLimit := e0.mod.nolimit.keeps fun b o z => (e0.bs b o z).1
  have kind1 : ∀ y ∈ ps.zip us, (defScope st).names.lookup y.1 = some .local ∨ ((defScope st).names.lookup y.1 = some .cell ∧ ((cellsFrom (s.heap.objs.size + 1) (defScope st).names []).lookup y.1).isSome = true) := by
    rintro ⟨n, v⟩ hy
    rcases S.par n (List.of_mem_zip hy).1 with q | q
    · exact Or.inl q
    · exact Or.inr ⟨q, PySem.W.cellsFrom_some _ _ _ (Or.inl q)⟩
  refine codeAny_call_function hr.depth (KX _ _ lk) rfl S.co S.gen rfl (PySem.W.codeRec_of KX hcd) (hb _ _ _ _ ?_)
  refine wpAny_newFunctionEnv_cells S.kind kind1 ?_
  rintro env rfl s1 x
  refine ⟨lim.keeps x.toInCall.keep, codeAny_func ?_⟩
  obtain ⟨t, ht, hq⟩ := hbody cdv A outer s H vs Q E hA (hr.deeper _) hsp
  have I := inv_start (CX := CX0) (P := P) (mg := mg) (E := E) (f := f) (cd := cdv) S hr.hd e0 hl r x
  refine wpAny_mono (ht.nox.run [] s1 (start N vs) H _ I hq) (fun fl s' hs => ?_) fun _ _ z => z
  cases fl with
  | ret u =>
    obtain ⟨v, σ', H', J, rv, q⟩ := hs
    exact ⟨v, H', J.os, J.bare, J.base, J.hok, rv, q⟩
  | next =>
    obtain ⟨σ', H', J, q⟩ := hs
    exact ⟨V.non, H', J.os, J.bare, J.base, J.hok, rfl, q⟩
  | brk =>
    obtain ⟨_, _, _, q⟩ := hs
    exact q.elim
  | cont =>
    obtain ⟨_, _, _, q⟩ := hs
    exact q.elim
end

/-! ### repr of data -/
theorem Dp.noDict {K : PySem.W.Frag} {H : Hp} : (∀ (d : PyData) (v : V), Dp K H v d → d.hasDict = false) := by
  intro d
  refine PyData.rec (motive_1 := fun d => ∀ v, Dp K H v d → d.hasDict = false) (motive_2 := fun ds => ∀ vs, DpAll K H vs ds → PyData.hasDictAll ds = false) (motive_3 := fun _ => True) (motive_4 := fun _ => True) ?_ ?_ ?_ ?_ ?_ ?_ ?_ ?_ ?_ ?_ ?_ ?_ d
  · intro v _; rfl
  · intro b v _; rfl
  · intro b v _; rfl
  · intro b v _; rfl
  · intro ds ih v h
    cases h with
    | lst _ h2 => simpa [PyData.hasDict] using ih _ h2
  · intro ds ih v h
    cases h with
    | tup _ h2 => simpa [PyData.hasDict] using ih _ h2
  · intro kvs _ v h
    cases h
  · intro vs _; rfl
  · intro d ds i1 i2 vs h
    cases h with
    | cons h1 h2 => simp [PyData.hasDictAll, i1 _ h1, i2 _ h2]
  · trivial
  · intros; trivial
  · intros; trivial
def rRepr (K : PySem.W.Frag) : List V → Hp → VK → Prop := fun xs H Q => ∃ x d, xs = [x] ∧ Dp K H x d ∧ d.showable = true ∧ d.depth ≤ 100 ∧ d.shown.length ≤ sizeLine ∧ Q (.str d.shown) H
theorem call_repr {X : Cx} {k : Nat} (hA : X.A.guards = some []) (hr : Room k X.A) : CallR X (.builtin "repr") (rRepr X.K) := by
  intro pins s σ H xs us Q I r h
  obtain ⟨x, d, rfl, hd, hs, hde, hz, q⟩ := h
  obtain ⟨u, rfl, ru⟩ := vals1 r
  have hu : X.A.units + (d.depth + 1) < cLine := by
    have := hr.un
    omega
  obtain ⟨as, rd⟩ := Dp.reads I d x u hd ru
  have fin : ∀ (h' : Heap) (t : Tok) (tk : Nat), (∀ b o, s.heap.get? b = some o → h'.get? b = some o) → EP X pins σ Q (.str d.shown t) { s with heap := h', toks := tk } := fun h' t tk kk =>
    ⟨.str d.shown, H, I.kept kk, ⟨t, rfl⟩, q⟩
  cases hd with
  | non => cases ru; exact PySem.P.repr_of_none (fin s.heap _ _ fun _ _ z => z)
  | bl b =>
    cases ru
    have z := fin s.heap s.toks (s.toks + 1) fun _ _ z => z
    cases b <;> exact PySem.P.repr_of_bool z
  | int i =>
    obtain ⟨t, rfl⟩ := ru
    exact PySem.P.repr_of_int (by simpa [PyData.showable] using hs) (fin s.heap _ _ fun _ _ z => z)
  | str y =>
    obtain ⟨t, rfl⟩ := ru
    exact PySem.P.repr_of_str (fin s.heap _ _ fun _ _ z => z) hz
  | lst h1 h2 =>
    cases ru
    exact repr_of_reads' rd hs (PyData.noDict_hsm (Dp.noDict _ _ (.lst h1 h2))) hA hu (fun _ _ z => z) (fun h' t tk kk => fin h' t tk kk) hz
  | tup h1 h2 =>
    cases ru
    exact repr_of_reads' rd hs (PyData.noDict_hsm (Dp.noDict _ _ (.tup h1 h2))) hA hu (fun _ _ z => z) (fun h' t tk kk => fin h' t tk kk) hz
end Ly

set_option Elab.async false
set_option linter.all false
set_option maxRecDepth 100000
set_option maxHeartbeats 2000000
namespace Ly
open PySem PySem.Spec PyProof.Rows L2
abbrev set0 (w : World) : Obj := { cls := .type "set", dict := none, data := .set #[] 0 (.fresh 0 0 (!w.params.followText "set-order")) }
abbrev fm (ns : List Int) (i : Nat) : List Int := firstMet (fun j => ns.getD j 0) i
abbrev inFm (ns : List Int) (i : Nat) : Int → Bool := fun k => (fm ns i).any (· == k)
section
variable {prog : Program} {w : World} {A : Around} {R : Result → Shared → Prop} {I : Addr} {fp wr : List Addr} {G : Array GenState → Array GenState → Prop} {n : Nat} {P : Nat → Value → Prop} {St : Nat → Shared → Prop}
theorem upd_loop (W : WalksS prog w A.in1 I fp wr G n P St) (S : Addr) (hSf : S ∉ fp) (ns : List Int) (hval : ∀ i v, P i v → ∃ t, v = .int (ns.getD i 0) t) (hb : n + 1 < scanBound) :
    ∀ (k i : Nat) (s : Shared), n - i = k → i ≤ n → St i s → SetR w s.heap S (inFm ns i) (fm ns i).length →
      (∀ s', Moved (S :: wr) G s s' → SetR w s'.heap S (inFm ns n) (fm ns n).length → R (.ok (.ret .none)) s') → codeAny (model prog w) A (.builtin "set.update.loop" ⟨[.ref S, .ref I], []⟩) R s := by
  have hSw : S ∉ wr := fun z => hSf (W.sub _ z)
  have sub1 : ∀ b ∈ wr, b ∈ S :: wr := fun b z => List.mem_cons_of_mem _ z
  intro k
  induction k with
  | zero =>
    intro i s hk hi hst hS hR
    obtain rfl : i = n := by omega
    refine codeAny_builtin F.entry_set_update_loop ?_
    rw [Around.under_plainId F.plain_set_update_loop _]
    show wpAny _ A.in1 (pyNext (.ref I) >>= _) _ _ s
    refine wpAny_bind (W.done s _ _ hst fun s' hm => ?_)
    show wpAny _ A.in1 (ret Value.none) _ _ s'
    exact wpAny_pure (hR s' (hm.mono sub1) (hS.at fun o z => hm.heap S o hSw z))
  | succ k ih =>
    intro i s hk hi hst hS hR
    have hlt : i < n := by omega
    refine codeAny_builtin F.entry_set_update_loop ?_
    rw [Around.under_plainId F.plain_set_update_loop _]
    show wpAny _ A.in1 (pyNext (.ref I) >>= _) _ _ s
    refine wpAny_bind (W.item i s _ _ hlt hst fun v s' hP hst' hm => ?_)
    obtain ⟨t, rfl⟩ := hval i v hP
    have hS1 : SetR w s'.heap S (inFm ns i) (fm ns i).length := hS.at fun o z => hm.heap S o hSw z
    show wpAny _ A.in1 (holding [Value.int (ns.getD i 0) t] (setAdd S (.int (ns.getD i 0) t)) >>= _) _ _ s'
    refine wpAny_bind (wpAny_holding ?_)
    unfold setAdd
    refine wpAny_holding (wpAny_bind ((intKind prog w).pyHash (k := ns.getD i 0) (intKind_is _ _ _ _) ?_))
    have room1 : (fm ns i).length + 1 < scanBound := by
      have z : (fm ns i).length ≤ i := firstMet_length_le (fun j => ns.getD j 0) i
      omega
    refine setR_add_hashed (s := { s' with toks := s'.toks + 1 }) hS1 room1 fun h' hsb hS2 => ?_
    have hS3 : SetR w h' S (inFm ns (i + 1)) (fm ns (i + 1)).length := by
      have e1 : (fm ns (i + 1)).length = if inFm ns i (ns.getD i 0) = true then (fm ns i).length else (fm ns i).length + 1 := by
        show (firstMet _ (i + 1)).length = _
        rw [firstMet_succ, step_length]
      rw [e1]
      refine hS2.congr fun k' => ?_
      show (firstMet _ (i + 1)).any _ = _
      rw [firstMet_succ, step_any]
    refine wpAny_pure ⟨plainId_quiet F.plain_set_update_loop _, ih (i + 1) _ (by omega) hlt (W.frame _ s' _ _ hst' (Nat.le_succ _) fun b hb o e => ?_) hS3 fun s'' hm2 hS4 => ?_⟩
    · rw [hsb.2 b (fun z : b = S => hSf (z ▸ hb))]
      exact e
    · refine hR s'' (Moved.trans W.gtrans ((hm.mono sub1).then_heap (Nat.le_succ _) fun b o hb e => ?_) hm2) hS4
      rw [hsb.2 b (fun z : b = S => hb (z ▸ List.mem_cons_self))]
      exact e
end
section
variable {prog : Program} {w : World} {A : Around} {E : Value → Shared → Prop} {s : Shared}
theorem new_set1 (a : Value) {Q₁ : Value → Shared → Prop} (h : Q₁ (.ref s.heap.objs.size) { s with heap := s.heap.push (set0 w) }) :
    codeAny (model prog w) A (.call (.builtin "set.__new__") ⟨[.type "set", a], []⟩) (wants Q₁ E) s := by
  refine codeAny_of_tree ?_
  show wpAny _ A.in1 (do checkBuiltinCall "set.__new__" ⟨[.type "set", a], []⟩; again (.builtin "set.__new__" ⟨[.type "set", a], []⟩)) _ _ s
  refine wpAny_bind (wpAny_of_eq (F.newCall_set_1 a) (wpAny_pure ⟨plainId_quiet F.plain_set_new _, ?_⟩))
  refine codeAny_builtin F.entry_set_new ?_
  rw [Around.under_plainId F.plain_set_new _]
  unfold Builtin.«set.__new__» Builtin.Frozenset.newClass
  have sub1 := sub_set_self
  obtain ⟨hp, g, d, tk, os⟩ := s
  dsimp only
  wp_walk
  refine wpAny_askSetting (wpAny_pure ?_)
  dsimp only
  simp only [newObj]
  exact wpAny_bind (wpAny_alloc (wpAny_pure (wpAny_pure h)))
theorem set_ofL {l : Addr} {items : Array Value} {ns : List Int} {Q : Value → Shared → Prop} (hh : A.handled = none) (hl : s.heap.IsList l items) (hi : IntsAre items.toList ns) (hb : items.size + 1 < scanBound)
    (h : ∀ (h' : Heap) (tk : Nat), SetR w h' s.heap.objs.size (inFm ns items.size) (fm ns items.size).length → (∀ b o, b < s.heap.objs.size → s.heap.get? b = some o → h'.get? b = some o) → Q (.ref s.heap.objs.size) { s with heap := h', toks := tk }) :
    wpAny (model prog w) A (call (.type "set") [.ref l]) Q E s := by
  obtain ⟨c, tl, mro1⟩ := F.called_set.mro
  have m1 := F.called_set.made
  have m2 := F.called_set.sub
  refine wpAny_call (codeAny_of_tree ?_)
  show wpAny _ _ (callAny (.type "set") _) _ _ _
  refine wpAny_pure ⟨Code.quiet_builtin _ (by decide +kernel), ?_⟩
  refine codeAny_builtin F.entry_type_call ?_
  rw [Around.under_plain (weight_type_call_type "set" [.ref l] []) rfl]
  have m3 := F.called_set.notType
  have m4 := F.called_set.canCreate
  have m5 := F.typeCall_set_1 (.ref l)
  repeat (any_goals (first | assumption | wp_step))
  refine codeAny_mono (new_set1 (w := w) (.ref l) (E := E) (Q₁ := fun obj s₁ => obj = .ref s.heap.objs.size ∧ s₁ = { s with heap := s.heap.push (set0 w) }) ⟨rfl, rfl⟩) fun r s₁ hr => ?_
  rcases r with e | (obj | _ | _ | _) <;> first | exact hr | exact hr.elim | skip
  obtain ⟨rfl, rfl⟩ := hr
  have hS : (s.heap.push (set0 w)).get? s.heap.objs.size = some (set0 w) := Heap.get?_push_size _ rfl
  have hT : Shared.TypeIs { s with heap := s.heap.push (set0 w) } (.ref s.heap.objs.size) "set" := ⟨_, hS, rfl⟩
  have i1 := F.called_set.init.lookup
  have i2 := F.called_set.init.bind (.ref s.heap.objs.size)
  repeat (any_goals (first | assumption | wp_step))
  refine codeAny_mono (codeAny_call_builtin (R := wants (fun r s₂ => r = .none ∧ ∃ h' tk, s₂ = { s with heap := h', toks := tk } ∧ SetR w h' s.heap.objs.size (inFm ns items.size) (fm ns items.size).length ∧
      (∀ b o, b < s.heap.objs.size → s.heap.get? b = some o → h'.get? b = some o)) E) F.called_set.init.plain F.entry_set_init (check_set_init_1 hT ?_)) fun r₂ s₂ hr₂ => ?_
  · obtain ⟨ol, hol, hcl, nl, hdl⟩ := hl
    obtain ⟨ocls, odict, odata, oslots⟩ := ol
    simp only at hcl hdl
    subst hcl; subst hdl
    have hol1 : (s.heap.push (set0 w)).get? l = some { cls := .type "list", dict := odict, data := .seq items nl, slots := oslots } := Heap.get?_push_of_some _ hol
    have s1 := F.sub_list_set
    have s2 := F.sub_list_frozenset
    have s3 : (Value.type "list" == Value.type "dict") = false := by decide
    have hl1 : (s.heap.push (set0 w)).IsList l items := ⟨_, hol1, rfl, nl, rfl⟩
    unfold Builtin.«set.__init__» noKeywords Builtin.Frozenset.updateFrom
    generalize hPI : pyIter = PI
    wp_walk
    subst hPI
    refine wpAny_pyIter_list hl1 ?_
    refine wpAny_bind (wpAny_runValue ?_)
    have hlS : l < s.heap.objs.size := Heap.lt_size hol
    have hh3 : A.in1.in1.in1.handled = none := by simp [hh]
    have neI : l ≠ (s.heap.push (set0 w)).objs.size := by
      rw [Heap.size_push]; exact Nat.ne_of_lt (Nat.lt_succ_of_lt hlS)
    have nfp : s.heap.objs.size ∉ [(s.heap.push (set0 w)).objs.size, l] := by
      rw [Heap.size_push]
      simp only [List.mem_cons, List.mem_singleton, List.not_mem_nil, or_false, not_or]
      exact ⟨Nat.ne_of_lt (Nat.lt_succ_self _), Nat.ne_of_gt hlS⟩
    have val1 : ∀ (i : Nat) (v : Value), items[i]? = some v → ∃ t, v = .int (ns.getD i 0) t := fun i v hv => IntsAre.int_at hi i v (by rw [Array.getElem?_toList]; exact hv)
    refine upd_loop ((Walks.list hh3 _ l neI items).toS) s.heap.objs.size nfp ns val1 hb (items.size - 0) 0 _ (by omega) (Nat.zero_le _) ⟨⟨_, Heap.get?_push_size _ rfl, rfl, rfl⟩, (hl1.push _)⟩ ?hS0 ?hR
    case hS0 => exact (setR_fresh (h := s.heap) w).at fun o z => Heap.get?_push_of_some _ z
    case hR =>
      intro s' hm hS'
      obtain ⟨h', g', d', tk', os'⟩ := s'
      have eg : g' = s.gens := hm.gens
      have ed : d' = s.drawn := hm.drawn
      have eo : os' = s.os := hm.os
      subst eg; subst ed; subst eo
      show wpAny _ _ _ _ _ _
      refine wpAny_pure ?_
      show wpAny _ _ (ret Value.none) _ _ _
      refine wpAny_pure ⟨rfl, h', tk', rfl, hS', fun b o hb e => ?_⟩
      have n1 : b ≠ s.heap.objs.size := Nat.ne_of_lt hb
      have n2 : b ≠ (s.heap.push (set0 w)).objs.size := by
        rw [Heap.size_push]; exact Nat.ne_of_lt (Nat.lt_succ_of_lt hb)
      refine hm.heap b o ?_ (Heap.get?_push_of_some _ (Heap.get?_push_of_some _ e))
      simp only [List.mem_cons, List.mem_singleton, List.not_mem_nil, or_false, not_or]
      exact ⟨n1, n2⟩
  · rcases r₂ with e | (r | _ | _ | _) <;> first | exact hr₂ | exact hr₂.elim | skip
    obtain ⟨rfl, h', tk, rfl, hS', hk'⟩ := hr₂
    repeat (any_goals (first | assumption | wp_step))
    exact h _ _ hS' hk'
end
/-- set(xs), xs a list of ints -/
def rSetI (K : PySem.W.Frag) (w : World) : List V → Hp → VK → Prop := fun xs H Q => ∃ (l : Addr) (ns : List Int), xs = [.ref l] ∧ SqL K H l (ns.map V.int) ∧ ns.length + 1 < scanBound ∧
  ∀ p (S : Int → Bool) n, H p = none → (∀ k, S k = true ↔ k ∈ ns) → n ≤ ns.length → Q (.ref p) (upd H p (SetO w p S n))
theorem cr_setI {X : Cx} (hc : X.calm = true) : CallR X (.type "set") (rSetI X.K X.w) := by
  intro pins s σ H xs us Q I r h
  obtain ⟨l, ns, rfl, hS, hb, q⟩ := h
  obtain ⟨u, rfl, ru⟩ := vals1 r
  cases ru
  obtain ⟨its, rv, pl, hz⟩ := I.list hS
  have hl : its.toArray.size = ns.length := by rw [List.size_toArray, ← rv.length, List.length_map]
  refine set_ofL (I.ok.hd hc) pl.isList (ns := ns) (by simpa using rv.ints) (by rw [hl]; exact hb) fun h' tk hR hk => ?_
  rw [hl] at hR
  have hn : H s.heap.objs.size = none := I.hok.fresh (Nat.le_refl _)
  refine ⟨.ref s.heap.objs.size, upd H s.heap.objs.size (SetO X.w s.heap.objs.size (inFm ns ns.length) (fm ns ns.length).length), ?_, rfl, q _ _ _ hn (fun k => ?_) (firstMet_length_le _ _)⟩
  · exact I.laid (t' := tk) (fun b o e => hk b o (Heap.lt_size e) e) (Nat.le_refl _) (setO_new hR)
  · show (firstMet _ _).any _ = true ↔ _
    rw [firstMet_any, List.any_eq_true]
    constructor
    · rintro ⟨z, hz1, hz2⟩
      obtain ⟨j, hj, rfl⟩ := List.mem_map.mp hz1
      have hj2 := List.mem_range.mp hj
      have e : ns.getD j 0 = k := by simpa using hz2
      rw [← e, List.getD_eq_getElem?_getD, List.getElem?_eq_getElem hj2]
      exact List.getElem_mem hj2
    · intro hk2
      obtain ⟨j, hj, e⟩ := List.getElem_of_mem hk2
      refine ⟨k, List.mem_map.mpr ⟨j, List.mem_range.mpr hj, ?_⟩, by simp⟩
      show ns.getD j 0 = k
      rw [List.getD_eq_getElem?_getD, List.getElem?_eq_getElem hj]
      exact e
end Ly

set_option Elab.async false
set_option linter.all false
set_option maxRecDepth 100000
set_option maxHeartbeats 4000000
/-! own exceptions made by a keyword, held as values -/
namespace PySem
namespace LyX
open PySem.W PySem.Calls PyProof.Rows PySem.HandSPX
open Builtin Builtin.ObjectAttr
section
variable {prog : Program} {w : World} {A : Around} {E : Value → Shared → Prop} {R : Result → Shared → Prop} {h : Heap} {g : Array GenState} {d : Drawn} {t : Nat} {os : OsState}
variable {nm q : Str} {C N : Addr} {bs bm bmB : List Value} {hdct : Bool} {sn : List Str} {sub : List Value} {ab : Bool} {col : Option Bool} {dd : Option Addr} {k0 k1 k2 k3 k5 : Option Value} {B newId initId : String}
abbrev ClsAt (h : Heap) (nm q : Str) (C N : Addr) (bs bm : List Value) (hdct : Bool) (sn : List Str) (sub : List Value) (ab : Bool) (col : Option Bool) (dd : Option Addr) (k0 k1 k2 k3 k5 : Option Value) (newId : String) : Prop :=
  h.get? C = some (excClassObj nm q C N bs bm hdct sn sub ab col dd k0 k1 k2 k3 k5 newId)
theorem kw_new_check {M : Model} {kw : List (Str × Value)} (F : ExcBaseFacts B newId initId bmB) (hT : ∀ X : String, bm.contains (.type X) = bmB.contains (.type X)) {Q : Unit → Shared → Prop}
    (hC : ClsAt h nm q C N bs bm hdct sn sub ab col dd k0 k1 k2 k3 k5 newId) (hq : Q () ⟨h, g, d, t, os⟩) : wpAny M A (checkBuiltinCall newId ⟨[.ref C], kw⟩) Q E ⟨h, g, d, t, os⟩ := by
  have hc1 : (Value.ref C :: bm).contains (.type B) = true := by
    rw [List.contains_cons, hT, F.hasB, Bool.or_true]
  have hs1 := F.noStar
  simp only [checkBuiltinCall, F.newKind, F.newSplit, F.newRow]
  repeat (first | (refine wpAny_loadPart_at hC ?_) | (refine wpAny_isSubtype_exc hC ?_; rw [hc1]) | (refine wpAny_staticBase_exc hC ?_) | (refine wpAny_madeBy_exc hC ?_) | (simp only [bne_self_eq_false, Bool.false_eq_true, if_false]) | wp_step)
  exact hq
theorem kw_new_made {kw : List (Str × Value)} (F : ExcBaseFacts B newId initId bmB) (hT : ∀ X : String, bm.contains (.type X) = bmB.contains (.type X)) (hC : ClsAt h nm q C N bs bm hdct sn sub ab col dd k0 k1 k2 k3 k5 newId)
    (hq : R (.ok (.ret (.ref (h.objs.size + 1)))) ⟨(h.push (kdv_tup [])).push (excO C h.objs.size), g, d, t, os⟩) : codeAny (model prog w) A (.builtin newId ⟨[.ref C], kw⟩) R ⟨h, g, d, t, os⟩ := by
  have e1 := F.ends
  have c1 : (Value.ref C :: bm).contains (.type B) = true := by
    rw [List.contains_cons, hT, F.hasB, Bool.or_true]
  have c2 : (Value.ref C :: bm).contains (.type "AttributeError") = false := by
    rw [List.contains_cons, hT, F.noAttr]; rfl
  have c3 : (Value.ref C :: bm).contains (.type "NameError") = false := by
    rw [List.contains_cons, hT, F.noName]; rfl
  refine codeAny_builtinAt F.entry ?_
  unfold Builtin.«BaseException.__new__»
  refine wpAt_bind ?_
  show wpAt _ _ _ (stack >>= _) _ _ _
  refine wpAt_bind (wpAt_stack fun p below => ?_)
  refine wpAt_of_wpAny ?_
  wp_walk
  refine wpAt_of_wpAny ?_
  rw [F.owner]
  have nil0 : ([] : List Value).length ≤ sizeLine := Nat.zero_le _
  repeat (first | (with_reducible refine wpAny_madeHere_exc F.canon hC ?_) | (with_reducible refine wpAny_loadPart_at hC ?_) | (with_reducible refine wpAny_isSubtype_exc hC ?_; first | rw [c1] | rw [c2] | rw [c3]) | wp_step)
  show R _ _
  rw [Heap.size_push]
  exact hq
theorem kw_type_call {kw : List (Str × Value)} (F : ExcBaseFacts B newId initId bmB) (hT : ∀ X : String, bm.contains (.type X) = bmB.contains (.type X)) {fI : Addr} {Q : Fin → Shared → Prop}
    (hC : ClsAt h nm q C N bs bm hdct sn sub ab col dd k0 k1 k2 k3 k5 newId)
    (hi : W.Looks (model prog w) h (typeLookup (.ref C) "__init__") (some (.ref fI))) (hb : ∀ self, W.Looks (model prog w) h (bindSpecial (.ref fI) self) (.ref fI, [self]))
    (hq : codeAny (model prog w) A (.call (.ref fI) ⟨[.ref (h.objs.size + 1)], kw⟩)
      (fun r s' => match r with | .ok (.ret v) => v = .none ∧ Q (.done (.ret (.ref (h.objs.size + 1)))) s' | .ok _ => False | .error e => E e s') ⟨(h.push (kdv_tup [])).push (excO C h.objs.size), g, d, t, os⟩) :
    wpAny (model prog w) A (Builtin.«type.__call__» ⟨[.ref C], kw⟩) Q E ⟨h, g, d, t, os⟩ := by
  repeat (first | (with_reducible refine wpAny_loadPart_at hC ?_) | (with_reducible refine wpAny_madeBy_exc hC ?_) | wp_step)
  refine codeAny_call_builtin_code (Code.quiet_builtin _ F.quiet) (kw_new_check F hT hC ?_)
  refine kw_new_made F hT hC ?_
  show wpAny _ _ _ _ _ _
  have kk : ∀ b o, h.get? b = some o → ((h.push (kdv_tup [])).push (excO C h.objs.size)).get? b = some o := fun b o z => Heap.get?_push_of_some _ (Heap.get?_push_of_some _ z)
  have hC1 := kk _ _ hC
  have got : ((h.push (kdv_tup [])).push (excO C h.objs.size)).get? (h.objs.size + 1) = some (excO C h.objs.size) := by heap_get
  have self1 : (Value.ref C :: bm).contains (.ref C) = true := by simp
  have i1 := hi.keeps kk
  have b1 := (hb (.ref (h.objs.size + 1))).keeps kk
  unfold isInstance
  repeat (first | (with_reducible refine wpAny_loadPart_at got ?_) | (with_reducible refine wpAny_isSubtype_exc hC1 ?_; rw [self1]) | wp_step)
  show wpAny _ _ (typeLookup (.ref C) _) _ _ _
  refine i1.at ?_
  refine wpAny_holding (wpAny_bind (b1.at ?_))
  refine wpAny_bind (wpAny_call (codeAny_mono hq fun r s' z => ?_))
  rcases r with e | (v | _ | _ | _) <;> first | exact z | exact z.elim | skip
  obtain ⟨rfl, z⟩ := z
  first | exact wpAny_pure (wpAny_pure z) | (wp_walk; exact z)
theorem kw_check_call {M : Model} {kw : List (Str × Value)} {Q : Unit → Shared → Prop} (hC : ClsAt h nm q C N bs bm hdct sn sub ab col dd k0 k1 k2 k3 k5 newId) (hq : Q () ⟨h, g, d, t, os⟩) :
    wpAny M A (checkBuiltinCall "type.__call__" ⟨[.ref C], kw⟩) Q E ⟨h, g, d, t, os⟩ := by
  have f3 := tc_sub
  have hTy : (⟨h, g, d, t, os⟩ : Shared).TypeIs (.ref C) "type" := ⟨_, hC, rfl⟩
  simp only [checkBuiltinCall, tc_kind, tc_split]
  repeat (any_goals (first | assumption | (with_reducible refine wpAny_loadPart_at hC ?_) | (with_reducible refine wpAny_onRaise ?_) | (with_reducible refine wpAny_map ?_) | wp_step))
theorem kw_call {kw : List (Str × Value)} (F : ExcBaseFacts B newId initId bmB) (hT : ∀ X : String, bm.contains (.type X) = bmB.contains (.type X)) {fI : Addr} (hC : ClsAt h nm q C N bs bm hdct sn sub ab col dd k0 k1 k2 k3 k5 newId)
    (hi : W.Looks (model prog w) h (typeLookup (.ref C) "__init__") (some (.ref fI))) (hb : ∀ self, W.Looks (model prog w) h (bindSpecial (.ref fI) self) (.ref fI, [self]))
    (hq : codeAny (model prog w) (A.under (.builtin "type.__call__" ⟨[.ref C], kw⟩)) (.call (.ref fI) ⟨[.ref (h.objs.size + 1)], kw⟩) (W.InitBack (h.objs.size + 1) R) ⟨(h.push (kdv_tup [])).push (excO C h.objs.size), g, d, t, os⟩) :
    codeAny (model prog w) A (.call (.ref C) ⟨[], kw⟩) R ⟨h, g, d, t, os⟩ := by
  have f1 := tc_lookup
  have f2 := tc_bind (.ref C)
  have hTy : (⟨h, g, d, t, os⟩ : Shared).TypeIs (.ref C) "type" := ⟨_, hC, rfl⟩
  refine codeAny_of_tree ?_
  show wpAny _ _ (callAny (.ref C) _) _ _ _
  repeat (any_goals (first | assumption | (with_reducible refine wpAny_loadPart_at hC ?_) | wp_step))
  refine ⟨rfl, ?_⟩
  refine codeAny_call_builtin_at (Code.quiet_builtin _ (by decide +kernel)) entry_typeCall (kw_check_call hC (kw_type_call F hT hC hi hb ?_))
  refine codeAny_mono hq fun r s' z => ?_
  rcases r with e | (v | _ | _ | _) <;> exact z
end
end LyX
end PySem

set_option Elab.async false
set_option linter.all false
set_option maxRecDepth 100000
set_option maxHeartbeats 4000000
namespace Ly
open PySem PySem.Spec PyProof.Rows L2
/-! ### own exceptions as values: at a the object, at d its dict -/
def tExV (C : Addr) (sp : Sp) (ta : TA) : TE := fun σ H Q => ta σ H fun vs H1 => vs.length = 1 ∧ ∀ a, H1 a = none → sp (.ref a :: vs) (upd H1 a (exo a C none)) (fun v H2 => v = .non ∧ Q (.ref a) H2) E0
section
variable {X : Cx} {k : Nat} {fI C : Addr} {fd : FuncData} {ps : List Str} {sp : Sp} {x : Str} {p pos : Pos} {e : Expr} {es : List Expr} {ta : TA} {kws : List Keyword} {nv : Str}
theorem exv_run {pins : List (Addr × Obj)} {σ : L2.St} {H1 : Hp} {Q : VK} {hp : Heap} {gs : Array GenState} {dr : Drawn} {tk : Nat} {os : OsState} {us : List Value} {ua args : List Value} {vs : List V} {kw : List (Str × Value)}
    (F1 : FnOk X.prog X.w X.K X.mg X.base CX0 k fI fd ps sp) (hr : Room (k + 1) X.A) (I1 : Inv X pins σ H1 ⟨hp, gs, dr, tk, os⟩) (r1 : Vals vs us)
    (hb : ∀ s : Shared, BindsTo s fd ⟨.ref (hp.objs.size + 1) :: args, kw⟩ (ps.zip (.ref (hp.objs.size + 1) :: us)))
    (q1 : ∀ a, H1 a = none → sp (.ref a :: vs) (upd H1 a (exo a C none)) (fun v H2 => v = .non ∧ Q (.ref a) H2) E0) :
    codeAny (model X.prog X.w) (X.A.under (.builtin "type.__call__" ⟨.ref C :: args, kw⟩)) (.call (.ref fI) ⟨.ref (hp.objs.size + 1) :: args, kw⟩)
      (PySem.W.InitBack (hp.objs.size + 1) fun r s' => match r with
        | .ok (.ret u) => EP X pins σ Q u s'
        | .ok _ => False
        | .error _ => False) ⟨(hp.push (PySem.W.kdv_tup ua)).push (PySem.HandSPX.excO C hp.objs.size), gs, dr, tk, os⟩ := by
  have hsz : hp.objs.size ≤ hp.objs.size + 1 := Nat.le_succ _
  have hn : H1 (hp.objs.size + 1) = none := I1.hok.fresh hsz
  have hq := q1 (hp.objs.size + 1) hn
  have kk : ∀ b o, hp.get? b = some o → ((hp.push (PySem.W.kdv_tup ua)).push (PySem.HandSPX.excO C hp.objs.size)).get? b = some o := fun b o z => Heap.get?_push_of_some _ (Heap.get?_push_of_some _ z)
  have hget : ((hp.push (PySem.W.kdv_tup ua)).push (PySem.HandSPX.excO C hp.objs.size)).get? (hp.objs.size + 1) = some (PySem.HandSPX.excO C hp.objs.size) := by heap_get
  have I2 := I1.laid (t' := tk) (a := hp.objs.size + 1) (o := exo (hp.objs.size + 1) C none) kk hsz (exo_ok hget)
  have r2 : Vals (V.ref (hp.objs.size + 1) :: vs) (Value.ref (hp.objs.size + 1) :: us) := .cons rfl r1
  refine codeAny_mono (F1.run _ X.stack _ _ _ (Value.ref (hp.objs.size + 1) :: us) _ _ E0 (hr.make C args kw) (I2.env0.make C args kw) (hb _) r2 hq) fun r s' hq' => ?_
  rcases r with z | z
  · exact hq'.elim
  · cases z with
    | ret u =>
      obtain ⟨v, H', I3, rv, ev, q3⟩ := I2.after hq'
      subst ev
      exact ⟨rv, ⟨V.ref (hp.objs.size + 1), H', I3, rfl, q3⟩⟩
    | next => exact hq'.elim
    | brk => exact hq'.elim
    | cont => exact hq'.elim
theorem exv_end {pins : List (Addr × Obj)} {σ : L2.St} {Q : VK} {s : Shared} {f : Value} {args : Args} (h : codeAny (model X.prog X.w) X.A (.call f args) (fun r s' => match r with
        | .ok (.ret u) => EP X pins σ Q u s'
        | .ok _ => False
        | .error _ => False) s) : wpAny (model X.prog X.w) X.A (call f args.pos args.kw) (EP X pins σ Q) X.xe s := by
  refine wpAny_call (codeAny_mono h fun r s' z => ?_)
  rcases r with y | y
  · exact z.elim
  · cases y <;> first | exact z | exact z.elim
/-- C(e) -/
theorem pe_exv (T : OexC X.K C) (iC : PySem.W.findIn X.K (.ref C) "__init__" = some (some (.ref fI))) (tI : PySem.W.typeIn X.K (.ref fI) = some (.type "function")) (F1 : FnOk X.prog X.w X.K X.mg X.base CX0 k fI fd ps sp) (hr : Room (k + 1) X.A)
    (hb : ∀ (s : Shared) (a u : Value), BindsTo s fd ⟨[a, u], []⟩ (ps.zip [a, u])) (hg : Gl X x) (hm : X.mg x = some (.ref C)) (ha : PA X (e :: es) ta) (hdb : (x == ("__debug__" : Str)) = false := by decide)
    (he : starEach (e :: es) X.env = (false, eval e X.env) :: starEach es X.env := by rfl) (hpl : (backTo pos (starEach es X.env)).any (·.1) = false := by rfl) : PE X (.Call (.Name x p) (e :: es) [] pos) (tExV C sp ta) := by
  constructor
  intro pins s σ H Q I h
  obtain ⟨nm, q, N, bs, bm, sn, sub, ab, col, dd, k0, k1, k2, k3, k5, hC, hbm⟩ := T.cls
  refine wpAny_Call_Name_kw (ld_glob I hg hm ?_ hdb)
  refine PySem.W.callWith_K (h₀ := X.base) I.ok.mod.kin T.kC (thn (ha.run pos pins s σ H _ I h) ?_) he hpl
  rintro us ⟨hp, gs, dr, tk, os⟩ ⟨vs, H1, I1, r1, hl, q1⟩
  refine ⟨I1.kIn, ?_⟩
  have hl2 : us.length = 1 := r1.length.symm.trans hl
  obtain ⟨u, rfl⟩ : ∃ u, us = [u] := by
    match us, hl2 with
    | [u], _ => exact ⟨u, rfl⟩
  refine exv_end (args := ⟨[u], []⟩) (PySem.HandSPX.call_own F.excBase_ValueError (fun Y => PySem.HandSPX.refsVE_contains Y bm hbm) (I1.kIn _ _ hC) (PySem.W.looks_findIn I1.kIn iC) (fun self => PySem.W.bind_fn I1.kIn self tI) (by show 1 ≤ sizeLine; rw [sizeLine_eq]; omega) ?_)
  exact exv_run F1 hr I1 r1 (fun s => hb s _ u) q1
/-- C(value=e) -/
theorem pe_exk (T : OexC X.K C) (iC : PySem.W.findIn X.K (.ref C) "__init__" = some (some (.ref fI))) (tI : PySem.W.typeIn X.K (.ref fI) = some (.type "function")) (F1 : FnOk X.prog X.w X.K X.mg X.base CX0 k fI fd ps sp) (hr : Room (k + 1) X.A)
    (hb : ∀ (s : Shared) (a u : Value), BindsTo s fd ⟨[a], [(nv, u)]⟩ (ps.zip [a, u])) (hg : Gl X x) (hm : X.mg x = some (.ref C)) (hkw : PK X kws ta) (hdb : (x == ("__debug__" : Str)) = false := by decide)
    (hall : (backToKw pos (keywordEach kws X.env)).all (·.1.isSome) = true := by rfl) (hks : (backToKw pos (keywordEach kws X.env)).filterMap (·.1) = [nv] := by rfl)
    (hpl : ((backTo pos (starEach [] X.env)).any (·.1) || (backToKw pos (keywordEach kws X.env)).any (·.1.isNone)) = false := by rfl) : PE X (.Call (.Name x p) [] kws pos) (tExV C sp ta) := by
  constructor
  intro pins s σ H Q I h
  obtain ⟨nm, q, N, bs, bm, sn, sub, ab, col, dd, k0, k1, k2, k3, k5, hC, hbm⟩ := T.cls
  refine wpAny_Call_Name_kw (ld_glob I hg hm ?_ hdb)
  refine PySem.W.callWith_KW0 (h₀ := X.base) I.ok.mod.kin T.kC hall ?_ hpl
  refine thn (hkw.run pos pins s σ H _ I h) ?_
  rintro us ⟨hp, gs, dr, tk, os⟩ ⟨vs, H1, I1, r1, hl, q1⟩
  refine ⟨I1.kIn, ?_⟩
  rw [hks]
  have hl2 : us.length = 1 := r1.length.symm.trans hl
  obtain ⟨u, rfl⟩ : ∃ u, us = [u] := by
    match us, hl2 with
    | [u], _ => exact ⟨u, rfl⟩
  refine exv_end (args := ⟨[], [(nv, u)]⟩) (PySem.LyX.kw_call F.excBase_ValueError (fun Y => PySem.HandSPX.refsVE_contains Y bm hbm) (I1.kIn _ _ hC) (PySem.W.looks_findIn I1.kIn iC) (fun self => PySem.W.bind_fn I1.kIn self tI) ?_)
  exact exv_run (args := []) (kw := [(nv, u)]) (ua := []) F1 hr I1 r1 (fun s => hb s _ u) q1
end
/-! ### its field, its class -/
def tExF (f : Str) (te : TE) (K : PySem.W.Frag) : TE := fun σ H Q => te σ H fun x H1 => ∃ (a C d : Addr) (fs : List (Str × V)) (v : V), x = .ref a ∧ XfC K C ∧ PySem.W.findIn K (.ref C) f = some none ∧ H1 a = some (exo a C (some d)) ∧ H1 d = some (exd d fs) ∧ fs.lookup f = some v ∧ Q v H1
theorem pe_exf {X : Cx} {e : Expr} {te : TE} {pos : Pos} {n : Str} (he : PE X e te) (hb : attributeBase e n X.env (eval e X.env) = eval e X.env := by rfl) : PE X (.Attribute e n pos) (tExF n te X.K) := by
  constructor
  intro pins s σ H Q I h
  refine attr_of hb (thn (he.run pins s σ H _ I h) ?_)
  rintro u s1 ⟨x, H1, I1, rx, a, C, d, fs, v, rfl, T, hno, ea, ed, l, q⟩
  obtain rfl : u = Value.ref a := rx
  obtain ⟨t1, ha⟩ := exo_at I1.hok ea
  obtain ⟨mA, hns, hr⟩ := exd_at I1.hok ed
  obtain ⟨od, ho, hl⟩ := lookIn_ns hns
  obtain ⟨u, hu, ru⟩ := RelO.some_of (v := v) (o := mA n) (by rw [← l]; exact hr n)
  have J : PySem.W.InstAt s1.heap a { cls := .ref C, dict := some d, data := .fields #[.ref t1, .none, .none, .none, .bool false, .none] } C (some od) := ⟨ha, rfl, rfl, ho⟩
  exact HandSPX.exc_get I1.kIn J T.ga T.gg T.exC (PySem.W.findObj_own T.hdC hno rfl (by rw [hl, hu])) (handed_of ru) ⟨v, H1, I1.tok _, ru, q⟩
end Ly

set_option Elab.async false
set_option linter.all false
set_option maxRecDepth 100000
set_option maxHeartbeats 1000000
namespace Ly
open PySem PySem.Spec PyProof.Rows L2
/-! ### unions -/
def o2 (r r' : R2) : R2 := fun x y H Q => r x y H Q ∨ r' x y H Q
theorem OpR.o {X : Cx} {f : Value → Value → Sem Value} {r r' : R2} (h : OpR X f r) (h' : OpR X f r') : OpR X f (o2 r r') := fun pins s σ H x y v u Q I rx ry z =>
  z.elim (h pins s σ H x y v u Q I rx ry) (h' pins s σ H x y v u Q I rx ry)
abbrev RC := List V → Hp → VK → Prop
def c2 (r r' : RC) : RC := fun xs H Q => r xs H Q ∨ r' xs H Q
theorem CallR.o {X : Cx} {f : Value} {r r' : RC} (h : CallR X f r) (h' : CallR X f r') : CallR X f (c2 r r') := fun pins s σ H xs us Q I r z =>
  z.elim (h pins s σ H xs us Q I r) (h' pins s σ H xs us Q I r)
/-! ### isinstance of an exception that is held -/
structure EC (K : PySem.W.Frag) (C fI : Addr) : Prop where
  ox : OexC K C
  xf : XfC K C
  ec : ExcC K C
  iC : PySem.W.findIn K (.ref C) "__init__" = some (some (.ref fI))
  tI : PySem.W.typeIn K (.ref fI) = some (.type "function")
  nv : PySem.W.findIn K (.ref C) "value" = some none
def rIsX (K : PySem.W.Frag) : RC := fun xs H Q => ∃ (a C d : Addr) (fs : List (Str × V)) (c : V) (u : Value) (b : Bool), xs = [.ref a, c] ∧ ClsV c u ∧ ExcC K C ∧ H a = some (exo a C (some d)) ∧ H d = some (exd d fs) ∧ PySem.W.kitOne K (.ref C) u = some b ∧ Q (.bl b) H
theorem call_isX {X : Cx} : CallR X (.builtin "isinstance") (rIsX X.K) := by
  intro pins s σ H xs us Q I r h
  obtain ⟨a, C, d, fs, c, u, b, rfl, hc, T, ea, ed, hk, q⟩ := h
  obtain ⟨v1, v2, rfl, r1, r2⟩ := vals2 r
  have e2 := hc.eq r2
  subst e2
  cases r1
  obtain ⟨t1, ha⟩ := exo_at I.hok ea
  obtain ⟨mA, hns, hr⟩ := exd_at I.hok ed
  obtain ⟨od, ho, hl⟩ := lookIn_ns hns
  have J : PySem.W.InstAt s.heap a { cls := .ref C, dict := some d, data := .fields #[.ref t1, .none, .none, .none, .bool false, .none] } C (some od) := ⟨ha, rfl, rfl, ho⟩
  obtain ⟨cd, hcd, _⟩ := PySem.W.any_some T.hd
  have hcl : (PySem.W.clsIn X.K C).isSome = true := by rw [hcd]; rfl
  exact PySem.W.kia_one (PySem.W.kitx_exc hcl T.hg T.hk T.hs T.ha T.hn T.ht T.hm) I.kIn J hk (fun z => nomatch z) fun tk => ⟨.bl b, H, I.tok tk, rfl, q⟩
section
variable {X : Cx}
def rAddI : R2 := rI0 fun i j => .int (i + j)
def rAddU : R2 := o2 rAddI rCat
theorem op_addU : OpR X (binaryOp .Add) rAddU := OpR.o op_add op_cat
def rMulI : R2 := rI CMul fun i j => .int (i * j)
def rMulU : R2 := o2 rMulI rRep
theorem op_mulU : OpR X (binaryOp .Mult) rMulU := OpR.o op_mul op_rep
def rEqU (K : PySem.W.Frag) : R2 := o2 rEq (rEqD K)
def rNeU (K : PySem.W.Frag) : R2 := o2 rNe (rNeD K)
theorem op_eqU (hu : X.A.units + 64 < cLine) : OpR X (compareOp .Eq) (rEqU X.K) := OpR.o op_eq (op_eqD hu)
theorem op_neU (hu : X.A.units + 64 < cLine) : OpR X (compareOp .NotEq) (rNeU X.K) := OpR.o op_ne (op_neD hu)
def rIxU (K : PySem.W.Frag) : R2 := fun x y H Q => rIxL K x y H Q ∨ rIxT K x y H Q
theorem ix_U : IxR X (rIxU X.K) := IxR.or ix_list ix_tup
def rSlU (K : PySem.W.Frag) : V → Option Int → Option Int → Hp → VK → Prop := fun x lo hi H Q => rSlL K x lo hi H Q ∨ rSlS x lo hi H Q
theorem sl_U : SlR X (rSlU X.K) := SlR.or sl_list sl_str
def rIsiU (K : PySem.W.Frag) : RC := c2 (rIsX K) (c2 (rIsi K) (rIsiT K))
theorem call_isiU : CallR X (.builtin "isinstance") (rIsiU X.K) := CallR.o call_isX (CallR.o call_isi call_isiT)
end
/-! ### the draws -/
def SackOk (b : Nat) (xs : List V) : Prop := ∃ s0 s1 s2 : Int, xs = [.int s0, .int s1, .int s2] ∧ 0 ≤ s0 ∧ 0 ≤ s1 ∧ s1 < 2 ^ 120 ∧ 0 ≤ s2 ∧ s2 ≤ b
theorem SackOk.mono {b c : Nat} {xs : List V} (h : SackOk b xs) (l : b ≤ c) : SackOk c xs := by
  obtain ⟨s0, s1, s2, e, h0, h1, h2, h3, h4⟩ := h
  exact ⟨s0, s1, s2, e, h0, h1, h2, h3, by omega⟩
def spSack (K : PySem.W.Frag) : Sp := fun vs H Q _ => ∃ (a : Addr) (ns : List Int) (r : Int), vs = [.ref a, .int r] ∧ SqL K H a (ns.map V.int) ∧ 0 ≤ r ∧ r < 100 ∧ ∀ p xs, H p = none → SackOk 0 xs → Q (.ref p) (upd H p (.lst xs))
def spPick : Sp := fun vs H Q _ => ∃ (a : Addr) (xs : List V) (m : Int) (b : Nat), vs = [.ref a, .int m] ∧ H a = some (.lst xs) ∧ SackOk b xs ∧ b ≤ 2 ^ 100 ∧ 0 < m ∧ m < 2 ^ 8000 ∧
  ∀ xs' n, SackOk (b + 1) xs' → 0 ≤ n → n < m → Q (.int n) (upd H a (.lst xs'))
theorem powC_of {i : Int} {n : Nat} {k : Nat} (h : i.natAbs < 2 ^ n) (h0 : 0 < n) (hk : (n + 1) * k ≤ 134217728) : PowC i (k : Int) := by
  refine ⟨by omega, ?_⟩
  have z := PySem.Flt.log2_lt_of h0 h
  have e : (i.natAbs.log2 + 1) * k ≤ (n + 1) * k := Nat.mul_le_mul_right k (by omega)
  have e2 := Nat.le_trans e hk
  rw [← Int.natCast_mul]
  generalize (i.natAbs.log2 + 1) * k = y at e2
  omega
theorem int_pow_toNat {i : Int} {k : Nat} : i ^ ((k : Int)).toNat = i ^ k := by rw [Int.toNat_natCast]
end Ly

set_option Elab.async false
set_option linter.all false
set_option maxRecDepth 100000
set_option maxHeartbeats 1000000
namespace Ly
open PySem PySem.Spec PyProof.Rows L2
section
variable {σ : L2.St} {H : Hp} {v x y : V} {ta tb te : TE} {t u : TT} {ts : TA} {i j m : Int} {K : PySem.W.Frag} {b : Bool} {D : Ends} {rest : TS} {n : Nat} {a : Addr} {xs vs : List V}
/-! ### one value, the heap as it was -/
theorem v_add (ha : Val ta σ H (.int i)) (hb : Val tb σ H (.int j)) : Val (tOp rAddU ta tb) σ H (.int (i + j)) := fun Q q => ha _ (hb _ (Or.inl ⟨i, j, rfl, rfl, q⟩))
theorem v_sub (ha : Val ta σ H (.int i)) (hb : Val tb σ H (.int j)) : Val (tOp (rI0 fun i j => .int (i - j)) ta tb) σ H (.int (i - j)) := fun Q q => ha _ (hb _ ⟨i, j, rfl, rfl, q⟩)
theorem v_mul (ha : Val ta σ H (.int i)) (hb : Val tb σ H (.int j)) (h : CMul i j) : Val (tOp rMulU ta tb) σ H (.int (i * j)) := fun Q q => ha _ (hb _ (Or.inl ⟨i, j, rfl, rfl, h, q⟩))
theorem v_pow (ha : Val ta σ H (.int i)) (hb : Val tb σ H (.int (n : Nat))) (h : PowC i (n : Nat)) : Val (tOp (rI PowC fun i j => .int (i ^ j.toNat)) ta tb) σ H (.int (i ^ n)) := fun Q q =>
  ha _ (hb _ ⟨i, _, rfl, rfl, h, by
    show Q (.int (i ^ ((n : Int)).toNat)) H
    rw [int_pow_toNat]
    exact q⟩)
theorem v_mod (ha : Val ta σ H (.int i)) (hb : Val tb σ H (.int j)) (h : 0 < j) : Val (tOp (rI (fun _ j => 0 < j) fun i j => .int (i % j)) ta tb) σ H (.int (i % j)) := fun Q q => ha _ (hb _ ⟨i, j, rfl, rfl, h, q⟩)
theorem v_fdiv (ha : Val ta σ H (.int i)) (hb : Val tb σ H (.int j)) (h : CDivW i j) : Val (tOp (rI CDivW fun i j => .int (i / j)) ta tb) σ H (.int (i / j)) := fun Q q => ha _ (hb _ ⟨i, j, rfl, rfl, h, q⟩)
theorem v_neg (ha : Val ta σ H (.int i)) : Val (tUn (rU fun i => .int (-i)) ta) σ H (.int (-i)) := fun Q q => ha _ ⟨i, rfl, q⟩
/-- arguments -/
def VA (ts : TA) (σ : L2.St) (H : Hp) (vs : List V) : Prop := ∀ Q : List V → Hp → Prop, Q vs H → ts σ H Q
theorem va_nil : VA tNil σ H [] := fun Q q => q
theorem va_cons (ha : Val ta σ H v) (hs : VA ts σ H vs) : VA (tCons ta ts) σ H (v :: vs) := fun Q q => ha _ (hs _ q)
theorem v_int1 (h : VA ts σ H [.int i]) : Val (tCB (fun xs H Q => (∃ i, xs = [.int i] ∧ Q (.int i) H) ∨ ∃ k, xs = [.bl k] ∧ Q (.int (if k then 1 else 0)) H) ts) σ H (.int i) := fun Q q => h _ (Or.inl ⟨i, rfl, q⟩)
theorem v_intB (h : VA ts σ H [.bl b]) : Val (tCB (fun xs H Q => (∃ i, xs = [.int i] ∧ Q (.int i) H) ∨ ∃ k, xs = [.bl k] ∧ Q (.int (if k then 1 else 0)) H) ts) σ H (.int (if b then 1 else 0)) := fun Q q => h _ (Or.inr ⟨b, rfl, q⟩)
theorem v_abs (h : VA ts σ H [.int i]) : Val (tCB (fun xs H Q => ∃ i, xs = [.int i] ∧ Q (.int (if i < 0 then -i else i)) H) ts) σ H (.int (if i < 0 then -i else i)) := fun Q q => h _ ⟨i, rfl, q⟩
theorem v_max2 (h : VA ts σ H [.int i, .int j]) : Val (tCB (fun xs H Q => ∃ i j, xs = [.int i, .int j] ∧ Q (.int (if j > i then j else i)) H) ts) σ H (.int (if j > i then j else i)) := fun Q q => h _ ⟨i, j, rfl, q⟩
theorem v_min2 (h : VA ts σ H [.int i, .int j]) : Val (tCB (fun xs H Q => ∃ i j, xs = [.int i, .int j] ∧ Q (.int (if j < i then j else i)) H) ts) σ H (.int (if j < i then j else i)) := fun Q q => h _ ⟨i, j, rfl, q⟩
def rLenU (K : PySem.W.Frag) : RC := fun xs H Q => ∃ p ys, xs = [.ref p] ∧ (SqL K H p ys ∨ SqT K H p ys) ∧ Q (.int ys.length) H
theorem v_lenL (h : VA ts σ H [.ref a]) (hx : SqL K H a xs) : Val (tCB (rLenU K) ts) σ H (.int xs.length) := fun Q q => h _ ⟨a, xs, rfl, Or.inl hx, q⟩
theorem v_lenT (h : VA ts σ H [.ref a]) (hx : SqT K H a xs) : Val (tCB (rLenU K) ts) σ H (.int xs.length) := fun Q q => h _ ⟨a, xs, rfl, Or.inr hx, q⟩
theorem v_ixL (ha : Val ta σ H (.ref a)) (hb : Val tb σ H (.int i)) (hx : SqL K H a xs) (hi : atI xs i = some v) : Val (tOp (rIxU K) ta tb) σ H v := fun Q q => ha _ (hb _ (Or.inl ⟨a, xs, i, v, rfl, rfl, hx, hi, q⟩))
theorem v_ixT (ha : Val ta σ H (.ref a)) (hb : Val tb σ H (.int i)) (hx : SqT K H a xs) (hi : atI xs i = some v) : Val (tOp (rIxU K) ta tb) σ H v := fun Q q => ha _ (hb _ (Or.inr ⟨a, xs, i, v, rfl, rfl, hx, hi, q⟩))
/-! ### tests -/
theorem a_lt (ha : Val ta σ H (.int i)) (hb : Val tb σ H (.int j)) : Ans (tTest (tOp (rI0 fun i j => .bl (decide (i < j))) ta tb)) σ H (decide (i < j)) := fun Q q => ha _ (hb _ ⟨i, j, rfl, rfl, _, rfl, q⟩)
theorem a_gt (ha : Val ta σ H (.int i)) (hb : Val tb σ H (.int j)) : Ans (tTest (tOp (rI0 fun i j => .bl (decide (j < i))) ta tb)) σ H (decide (j < i)) := fun Q q => ha _ (hb _ ⟨i, j, rfl, rfl, _, rfl, q⟩)
theorem a_le (ha : Val ta σ H (.int i)) (hb : Val tb σ H (.int j)) : Ans (tTest (tOp (rI0 fun i j => .bl (decide (i ≤ j))) ta tb)) σ H (decide (i ≤ j)) := fun Q q => ha _ (hb _ ⟨i, j, rfl, rfl, _, rfl, q⟩)
theorem a_ge (ha : Val ta σ H (.int i)) (hb : Val tb σ H (.int j)) : Ans (tTest (tOp (rI0 fun i j => .bl (decide (j ≤ i))) ta tb)) σ H (decide (j ≤ i)) := fun Q q => ha _ (hb _ ⟨i, j, rfl, rfl, _, rfl, q⟩)
theorem a_eqI (ha : Val ta σ H (.int i)) (hb : Val tb σ H (.int j)) : Ans (tTest (tOp (rEqU K) ta tb)) σ H (decide (i = j)) := fun Q q => ha _ (hb _ (Or.inl ⟨rfl, _, rfl, by
  rw [show decide (V.int i = V.int j) = decide (i = j) by simp]; exact q⟩))
theorem a_neI (ha : Val ta σ H (.int i)) (hb : Val tb σ H (.int j)) : Ans (tTest (tOp (rNeU K) ta tb)) σ H (!decide (i = j)) := fun Q q => ha _ (hb _ (Or.inl ⟨rfl, _, rfl, by
  rw [show decide (V.int i = V.int j) = decide (i = j) by simp]; exact q⟩))
theorem v_eqI (ha : Val ta σ H (.int i)) (hb : Val tb σ H (.int j)) : Val (tOp (rEqU K) ta tb) σ H (.bl (decide (i = j))) := fun Q q => ha _ (hb _ (Or.inl ⟨rfl, by
  rw [show decide (V.int i = V.int j) = decide (i = j) by simp]; exact q⟩))
theorem v_ifT (h : Ans t σ H true) (ha : Val ta σ H v) : Val (tIf t ta tb) σ H v := fun Q q => h _ (iteT (ha _ q))
theorem v_ifF (h : Ans t σ H false) (hb : Val tb σ H v) : Val (tIf t ta tb) σ H v := fun Q q => h _ (iteF (hb _ q))
theorem v_if (h : Ans t σ H b) (ha : b = true → Val ta σ H x) (hb : b = false → Val tb σ H y) : Val (tIf t ta tb) σ H (if b = true then x else y) := fun Q q => by
  cases b with
  | true => exact h _ (iteT (ha rfl _ q))
  | false => exact h _ (iteF (hb rfl _ q))
/-! ### statements -/
theorem s_asg {k : Nat} (h : Val te σ H v) (q : rest D (σ.set k (some v)) H) : tSeq (tAsg te (gName k)) rest D σ H := h _ q
theorem s_if {tA tB : TS} (h : Ans t σ H b) (h1 : b = true → tSeq tA rest D σ H) (h2 : b = false → tSeq tB rest D σ H) : tSeq (tIfS t tA tB) rest D σ H := by
  cases b with
  | true => exact h _ (iteT (h1 rfl))
  | false => exact h _ (iteF (h2 rfl))
theorem s_ifN {tA : TS} (h : Ans t σ H b) (h1 : b = true → tSeq tA rest D σ H) (h2 : b = false → rest D σ H) : tSeq (tIfS t tA tNext) rest D σ H := by
  cases b with
  | true => exact h _ (iteT (h1 rfl))
  | false => exact h _ (iteF (h2 rfl))
theorem s_ret (h : Val te σ H v) (q : D.rt v H) : tRet te D σ H := h _ q
theorem l_lst {Q : VK} (h : VA ts σ H vs) (hz : vs.length ≤ sizeLine) (q : ∀ p, H p = none → Q (.ref p) (upd H p (.lst vs))) : tLst ts σ H Q := h _ ⟨hz, q⟩
theorem l_tup {Q : VK} (h : VA ts σ H vs) (hz : vs.length ≤ sizeLine) (q : ∀ p, H p = none → Q (.ref p) (upd H p (.tup vs))) : tTup ts σ H Q := h _ ⟨hz, q⟩
theorem s_lst {k : Nat} (h : VA ts σ H vs) (hz : vs.length ≤ sizeLine) (q : ∀ p, H p = none → rest D (σ.set k (some (.ref p))) (upd H p (.lst vs))) : tSeq (tAsg (tLst ts) (gName k)) rest D σ H := h _ ⟨hz, q⟩
theorem s_tup {k : Nat} (h : VA ts σ H vs) (hz : vs.length ≤ sizeLine) (q : ∀ p, H p = none → rest D (σ.set k (some (.ref p))) (upd H p (.tup vs))) : tSeq (tAsg (tTup ts) (gName k)) rest D σ H := h _ ⟨hz, q⟩
/-- xs[i] = e, a list of ours -/
theorem s_put {k : Nat} (h : Val te σ H v) (ha : Val ta σ H (.ref a)) (hb : Val tb σ H (.int i)) (hx : H a = some (.lst xs)) (hi : ixN xs.length i = some k) (q : rest D σ (upd H a (.lst (xs.set k v)))) :
    tSeq (tAsg te (gSub ta tb rSetL)) rest D σ H := h _ (ha _ (hb _ ⟨a, xs, i, k, rfl, rfl, hx, hi, q⟩))
end
end Ly

set_option Elab.async false
set_option linter.all false
set_option maxRecDepth 100000
set_option maxHeartbeats 1000000
namespace Ly
open PySem PySem.Spec PyProof.Rows L2
/-! ### trees of our own: data whose lists stand apart, each in one place -/
mutual
inductive Tr (H : Hp) : V → PyData → List Addr → Prop
  | non : Tr H .non .none []
  | bl (b : Bool) : Tr H (.bl b) (.bool b) []
  | int (i : Int) : Tr H (.int i) (.int i) []
  | str (x : Str) : Tr H (.str x) (.str x) []
  | lst {a : Addr} {xs : List V} {ds : List PyData} {fp : List Addr} : H a = some (.lst xs) → TrAll H xs ds fp → a ∉ fp → Tr H (.ref a) (.list ds) (a :: fp)
  | tup {a : Addr} {xs : List V} {ds : List PyData} {fp : List Addr} : H a = some (.tup xs) → TrAll H xs ds fp → Tr H (.ref a) (.tuple ds) fp
inductive TrAll (H : Hp) : List V → List PyData → List Addr → Prop
  | nil : TrAll H [] [] []
  | cons {v : V} {vs : List V} {d : PyData} {ds : List PyData} {f1 f2 : List Addr} : Tr H v d f1 → TrAll H vs ds f2 → (∀ a ∈ f1, a ∉ f2) → TrAll H (v :: vs) (d :: ds) (f1 ++ f2)
end
mutual
theorem Tr.dp {K : PySem.W.Frag} {H : Hp} : ∀ {v : V} {d : PyData} {fp : List Addr}, Tr H v d fp → Dp K H v d
  | _, _, _, .non => .non
  | _, _, _, .bl b => .bl b
  | _, _, _, .int i => .int i
  | _, _, _, .str x => .str x
  | _, _, _, .lst h t _ => .lst (SqL.of h) (TrAll.dp t)
  | _, _, _, .tup h t => .tup (SqT.of h) (TrAll.dp t)
theorem TrAll.dp {K : PySem.W.Frag} {H : Hp} : ∀ {vs : List V} {ds : List PyData} {fp : List Addr}, TrAll H vs ds fp → DpAll K H vs ds
  | _, _, _, .nil => .nil
  | _, _, _, .cons h t _ => .cons (Tr.dp h) (TrAll.dp t)
end
mutual
theorem Tr.keep {H H' : Hp} : ∀ {v : V} {d : PyData} {fp : List Addr}, Tr H v d fp → (∀ a ∈ fp, H' a = H a) → (∀ a xs, H a = some (.tup xs) → H' a = some (.tup xs)) → Tr H' v d fp
  | _, _, _, .non, _, _ => .non
  | _, _, _, .bl b, _, _ => .bl b
  | _, _, _, .int i, _, _ => .int i
  | _, _, _, .str x, _, _ => .str x
  | _, _, _, .lst h t n, k, kt => .lst ((k _ (List.mem_cons_self ..)).trans h) (TrAll.keep t (fun a ha => k a (List.mem_cons_of_mem _ ha)) kt) n
  | _, _, _, .tup h t, k, kt => .tup (kt _ _ h) (TrAll.keep t k kt)
theorem TrAll.keep {H H' : Hp} : ∀ {vs : List V} {ds : List PyData} {fp : List Addr}, TrAll H vs ds fp → (∀ a ∈ fp, H' a = H a) → (∀ a xs, H a = some (.tup xs) → H' a = some (.tup xs)) → TrAll H' vs ds fp
  | _, _, _, .nil, _, _ => .nil
  | _, _, _, .cons h t n, k, kt => .cons (Tr.keep h (fun a ha => k a (List.mem_append_left _ ha)) kt) (TrAll.keep t (fun a ha => k a (List.mem_append_right _ ha)) kt) n
end
mutual
theorem Tr.own {H : Hp} : ∀ {v : V} {d : PyData} {fp : List Addr}, Tr H v d fp → ∀ a ∈ fp, ∃ xs, H a = some (.lst xs)
  | _, _, _, .non, _, z => by cases z
  | _, _, _, .bl b, _, z => by cases z
  | _, _, _, .int i, _, z => by cases z
  | _, _, _, .str x, _, z => by cases z
  | _, _, _, .lst h t _, a, z => (List.mem_cons.mp z).elim (fun e => ⟨_, e ▸ h⟩) (TrAll.own t a)
  | _, _, _, .tup h t, a, z => TrAll.own t a z
theorem TrAll.own {H : Hp} : ∀ {vs : List V} {ds : List PyData} {fp : List Addr}, TrAll H vs ds fp → ∀ a ∈ fp, ∃ xs, H a = some (.lst xs)
  | _, _, _, .nil, _, z => by cases z
  | _, _, _, .cons h t _, a, z => (List.mem_append.mp z).elim (Tr.own h a) (TrAll.own t a)
end
theorem TrAll.len {H : Hp} : ∀ {vs : List V} {ds : List PyData} {fp : List Addr}, TrAll H vs ds fp → vs.length = ds.length
  | _, _, _, .nil => rfl
  | _, _, _, .cons _ t _ => congrArg Nat.succ (TrAll.len t)
/-- kept from H on, but at fp -/
def But (fp : List Addr) (H H' : Hp) : Prop := ∀ b o, H b = some o → b ∉ fp → H' b = some o
theorem But.trans {fp : List Addr} {H H1 H2 : Hp} (x : But fp H H1) (y : But fp H1 H2) : But fp H H2 := fun b o e n => y b o (x b o e n) n
theorem But.mono {fp fp' : List Addr} {H H1 : Hp} (x : But fp H H1) (h : ∀ a ∈ fp, a ∈ fp') : But fp' H H1 := fun b o e n => x b o e fun z => n (h b z)
theorem But.refl {fp : List Addr} {H : Hp} : But fp H H := fun _ _ e _ => e
theorem But.new {fp : List Addr} {H : Hp} {p : Addr} {o : HO} (h : H p = none) : But fp H (upd H p o) := fun b u e _ => by
  rw [upd_ne (ne_of_none e h)]
  exact e
theorem Tr.but {H H' : Hp} {v : V} {d : PyData} {fp fq : List Addr} (t : Tr H v d fp) (b : But fq H H') (n : ∀ a ∈ fp, a ∉ fq) (nt : ∀ a xs, H a = some (.tup xs) → a ∉ fq) : Tr H' v d fp :=
  t.keep (fun a ha => by obtain ⟨xs, e⟩ := t.own a ha; rw [e]; exact b a _ e (n a ha)) fun a xs e => b a _ e (nt a xs e)
theorem TrAll.but {H H' : Hp} {vs : List V} {ds : List PyData} {fp fq : List Addr} (t : TrAll H vs ds fp) (b : But fq H H') (n : ∀ a ∈ fp, a ∉ fq) (nt : ∀ a xs, H a = some (.tup xs) → a ∉ fq) : TrAll H' vs ds fp :=
  t.keep (fun a ha => by obtain ⟨xs, e⟩ := t.own a ha; rw [e]; exact b a _ e (n a ha)) fun a xs e => b a _ e (nt a xs e)
/-! ### one item of a list in sight -/
theorem TrAll.at_ {H : Hp} : ∀ {vs : List V} {ds : List PyData} {fp : List Addr} {i : Nat} {v : V}, TrAll H vs ds fp → vs[i]? = some v →
    ∃ d f, ds[i]? = some d ∧ Tr H v d f ∧ (∀ a ∈ f, a ∈ fp) ∧ ∀ (H' : Hp) (d' : PyData), Tr H' v d' f → (∀ a ∈ fp, a ∉ f → H' a = H a) → (∀ a xs, H a = some (.tup xs) → H' a = some (.tup xs)) → TrAll H' vs (ds.set i d') fp
  | _, _, _, _, _, .nil, e => by simp at e
  | _, _, _, 0, v, .cons (v := v0) (f1 := f1) (f2 := f2) h t n, e => by
    have e1 : v0 = v := by simpa using e
    subst e1
    refine ⟨_, f1, rfl, h, fun a ha => List.mem_append_left _ ha, fun H' d' h' k kt => .cons h' (t.keep (fun a ha => k a (List.mem_append_right _ ha) fun z => n a z ha) kt) n⟩
  | _, _, _, i + 1, v, .cons (f1 := f1) (f2 := f2) h t n, e => by
    obtain ⟨d, f, e1, h1, s1, back⟩ := TrAll.at_ t (i := i) (v := v) (by simpa using e)
    refine ⟨d, f, by simpa using e1, h1, fun a ha => List.mem_append_right _ (s1 a ha), fun H' d' h' k kt => ?_⟩
    exact .cons (h.keep (fun a ha => k a (List.mem_append_left _ ha) fun z => n a ha (s1 a z)) kt) (back H' d' h' (fun a ha => k a (List.mem_append_right _ ha)) kt) n
/-! ### what `ranks` makes of data -/
mutual
def rk : PyData → Int → PyData × Int
  | .list ds, n => (.list ((rkAll ds n).1 ++ [.int (rkAll ds n).2]), (rkAll ds n).2 + 1)
  | .tuple ds, n => (.tuple (rkAll ds n).1, (rkAll ds n).2)
  | d, n => (d, n)
def rkAll : List PyData → Int → List PyData × Int
  | [], n => ([], n)
  | d :: ds, n => ((rk d n).1 :: (rkAll ds (rk d n).2).1, (rkAll ds (rk d n).2).2)
end
theorem rkAll_len : ∀ (ds : List PyData) (n : Int), (rkAll ds n).1.length = ds.length
  | [], _ => by simp [rkAll]
  | d :: ds, n => by simp [rkAll, rkAll_len ds]
theorem rkAll_app : ∀ (ds es : List PyData) (n : Int), rkAll (ds ++ es) n = ((rkAll ds n).1 ++ (rkAll es (rkAll ds n).2).1, (rkAll es (rkAll ds n).2).2)
  | [], es, n => by simp [rkAll]
  | d :: ds, es, n => by simp [rkAll, rkAll_app ds es]
/-- the first i items ranked -/
def rkTo (ds : List PyData) (n : Int) (i : Nat) : List PyData := (rkAll (ds.take i) n).1 ++ ds.drop i
def rkN (ds : List PyData) (n : Int) (i : Nat) : Int := (rkAll (ds.take i) n).2
theorem rkTo_zero (ds : List PyData) (n : Int) : rkTo ds n 0 = ds := by simp [rkTo, rkAll]
theorem rkN_zero (ds : List PyData) (n : Int) : rkN ds n 0 = n := by simp [rkN, rkAll]
theorem rkTo_all (ds : List PyData) (n : Int) : rkTo ds n ds.length = (rkAll ds n).1 := by simp [rkTo]
theorem rkN_all (ds : List PyData) (n : Int) : rkN ds n ds.length = (rkAll ds n).2 := by simp [rkN]
theorem rkTo_at {ds : List PyData} {n : Int} {i : Nat} {d : PyData} (h : ds[i]? = some d) : (rkTo ds n i)[i]? = some d := by
  have hi : i < ds.length := (List.getElem?_eq_some_iff.mp h).1
  have l : (rkAll (ds.take i) n).1.length = i := by rw [rkAll_len, List.length_take]; omega
  rw [rkTo, List.getElem?_append_right (by omega), l, Nat.sub_self, List.getElem?_drop, Nat.add_zero]
  exact h
theorem rkTo_succ {ds : List PyData} {n : Int} {i : Nat} {d : PyData} (h : ds[i]? = some d) : (rkTo ds n i).set i (rk d (rkN ds n i)).1 = rkTo ds n (i + 1) ∧ rkN ds n (i + 1) = (rk d (rkN ds n i)).2 := by
  have hi : i < ds.length := (List.getElem?_eq_some_iff.mp h).1
  have l : (rkAll (ds.take i) n).1.length = i := by rw [rkAll_len, List.length_take]; omega
  have e1 : ds.take (i + 1) = ds.take i ++ [d] := by rw [List.take_add_one, h]; rfl
  have e2 : ds.drop i = d :: ds.drop (i + 1) := by
    rw [List.drop_eq_getElem_cons hi]
    rw [List.getElem?_eq_getElem hi] at h
    rw [Option.some.inj h]
  constructor
  · rw [rkTo, rkTo, e1, rkAll_app, e2, List.set_append_right _ _ (by omega), l, Nat.sub_self]
    simp [rkAll, rkN]
  · rw [rkN, e1, rkAll_app]
    simp [rkAll, rkN]
mutual
/-- no list is too long -/
def slim : PyData → Bool
  | .list ds => decide (ds.length ≤ 100000) && slimAll ds
  | .tuple ds => slimAll ds
  | _ => true
def slimAll : List PyData → Bool
  | [] => true
  | d :: ds => slim d && slimAll ds
end
theorem slimAll_at : ∀ {ds : List PyData} {i : Nat} {d : PyData}, slimAll ds = true → ds[i]? = some d → slim d = true
  | [], _, _, _, e => by simp at e
  | c :: ds, 0, d, h, e => by
    have e1 : c = d := by simpa using e
    subst e1
    simp only [slimAll, Bool.and_eq_true] at h
    exact h.1
  | c :: ds, i + 1, d, h, e => by
    simp only [slimAll, Bool.and_eq_true] at h
    exact slimAll_at h.2 (by simpa using e)
theorem depth_at : ∀ {ds : List PyData} {i : Nat} {d : PyData}, ds[i]? = some d → d.depth ≤ PyData.depthAll ds
  | [], _, _, e => by simp at e
  | c :: ds, 0, d, e => by
    have e1 : c = d := by simpa using e
    subst e1
    simp only [PyData.depthAll]
    omega
  | c :: ds, i + 1, d, e => by
    have z : d.depth ≤ PyData.depthAll ds := depth_at (by simpa using e)
    simp only [PyData.depthAll]
    omega
def spRanks (dep : Nat) : Sp := fun vs H Q _ => ∃ (v : V) (r : Addr) (d : PyData) (fp : List Addr) (n : Int), vs = [v, .ref r] ∧ Tr H v d fp ∧ H r = some (.lst [.int n]) ∧ r ∉ fp ∧ d.depth < dep ∧ slim d = true ∧
  ∀ H', But (r :: fp) H H' → Tr H' v (rk d n).1 fp → H' r = some (.lst [.int (rk d n).2]) → Q .non H'
/-! ### kinds of data -/
def tyN : PyData → String
  | .none => "NoneType"
  | .bool _ => "bool"
  | .int _ => "int"
  | .str _ => "str"
  | .list _ => "list"
  | .tuple _ => "tuple"
  | .dict _ => "dict"
theorem Tr.ty {K : PySem.W.Frag} {H : Hp} {v : V} {d : PyData} {fp : List Addr} (t : Tr H v d fp) : TyX K H v (.type (tyN d)) := by
  cases t with
  | non => exact .base .non
  | bl b => exact .base (.bl b)
  | int i => exact .base (.int i)
  | str x => exact .base (.str x)
  | lst h _ _ => exact .base (.lst h)
  | tup h _ => exact .base (.tup h)
def isL : PyData → Bool
  | .list _ => true
  | _ => false
def isLT : PyData → Bool
  | .list _ => true
  | .tuple _ => true
  | _ => false
theorem kb1 : kitB "NoneType" "list" = some false := by decide +kernel
theorem kb2 : kitB "bool" "list" = some false := by decide +kernel
theorem kb3 : kitB "int" "list" = some false := by decide +kernel
theorem kb4 : kitB "str" "list" = some false := by decide +kernel
theorem kb5 : kitB "list" "list" = some true := by decide +kernel
theorem kb6 : kitB "tuple" "list" = some false := by decide +kernel
theorem kc1 : kitB "NoneType" "tuple" = some false := by decide +kernel
theorem kc2 : kitB "bool" "tuple" = some false := by decide +kernel
theorem kc3 : kitB "int" "tuple" = some false := by decide +kernel
theorem kc4 : kitB "str" "tuple" = some false := by decide +kernel
theorem kc5 : kitB "list" "tuple" = some false := by decide +kernel
theorem kc6 : kitB "tuple" "tuple" = some true := by decide +kernel
theorem kit_L {K : PySem.W.Frag} {H : Hp} {v : V} {d : PyData} {fp : List Addr} (t : Tr H v d fp) : PySem.W.kitOne K (.type (tyN d)) (.type "list") = some (isL d) := by
  cases t with
  | non => exact kit_ty kb1
  | bl b => exact kit_ty kb2
  | int i => exact kit_ty kb3
  | str x => exact kit_ty kb4
  | lst h _ _ => exact kit_ty kb5
  | tup h _ => exact kit_ty kb6
theorem kit_LT {K : PySem.W.Frag} {H : Hp} {v : V} {d : PyData} {fp : List Addr} (t : Tr H v d fp) : PySem.W.kitAny K (.type (tyN d)) [.type "list", .type "tuple"] = some (isLT d) := by
  have h2 : ∃ b, PySem.W.kitOne K (.type (tyN d)) (.type "tuple") = some b ∧ (isL d || b) = isLT d := by
    cases t with
    | non => exact ⟨false, kit_ty kc1, rfl⟩
    | bl b => exact ⟨false, kit_ty kc2, rfl⟩
    | int i => exact ⟨false, kit_ty kc3, rfl⟩
    | str x => exact ⟨false, kit_ty kc4, rfl⟩
    | lst h _ _ => exact ⟨false, kit_ty kc5, rfl⟩
    | tup h _ => exact ⟨true, kit_ty kc6, rfl⟩
  obtain ⟨b, hb, e⟩ := h2
  refine kitAny_cons (kit_L t) (fun z => kitAny_cons hb (fun y => ?_) fun y => ?_) fun z => ?_
  · rw [kitAny_nil, ← e, z, y]; rfl
  · rw [← e, y, Bool.or_true]
  · rw [← e, z, Bool.true_or]
end Ly

set_option Elab.async false
set_option linter.all false
set_option maxRecDepth 100000
set_option maxHeartbeats 1000000
namespace Ly
open PySem PySem.Spec PyProof.Rows L2
def rListOf (K : PySem.W.Frag) : RC := fun xs H Q => ∃ p ys, xs = [.ref p] ∧ (SqL K H p ys ∨ SqT K H p ys) ∧ ∀ l, H l = none → Q (.ref l) (upd H l (.lst ys))
def tTr (K : PySem.W.Frag) (te : TE) : TT := fun σ H Q => te σ H fun x H' => ∃ k, TruV K x H' k ∧ Q k H'
def t_rk2 (K : PySem.W.Frag) : TS := tIfS (tTr K (tCB (rIsiU K) (tCons (tVar 0) (tCons (tC (.ty "list")) tNil))))
  (tSeq (tDrop (tBM K "list" rAppend (tVar 0) (tCons (tOp (rIxU K) (tVar 1) (tC (.int 0))) tNil))) (tAsg (tOp rAddU (tOp (rIxU K) (tVar 1) (tC (.int 0))) (tC (.int 1))) (gSub (tVar 1) (tC (.int 0)) rSetL))) tNext
def t_rk (K : PySem.W.Frag) (sp : Sp) : TS := tSeq (tIfS (tTr K (tCB (rIsiU K) (tCons (tVar 0) (tCons (tTup (tCons (tC (.ty "list")) (tCons (tC (.ty "tuple")) tNil))) tNil))))
  (tFor (iList K (tCB (rListOf K) (tCons (tVar 0) tNil))) (gName 2) (tDrop (tCall sp [] E0 (tCons (tVar 2) (tCons (tVar 1) tNil))))) tNext) (t_rk2 K)
section
variable {K : PySem.W.Frag} {v : V} {r : Addr} {d : PyData} {fp : List Addr} {n : Int} {H : Hp} {Q : VK}
theorem rk2_read {σ : L2.St} {H1 : Hp} {d1 : PyData} {n1 : Int} {D : Ends} (h0 : σ[0]? = some (some v)) (h1 : σ[1]? = some (some (.ref r))) (b : But (r :: fp) H H1) (t : Tr H1 v d1 fp) (hR : H1 r = some (.lst [.int n1])) (nr : r ∉ fp)
    (hn : isL d1 = false → rk d n = (d1, n1)) (hl : ∀ es, d1 = .list es → rk d n = (.list (es ++ [.int n1]), n1 + 1) ∧ es.length ≤ 100000)
    (q : ∀ H', But (r :: fp) H H' → Tr H' v (rk d n).1 fp → H' r = some (.lst [.int (rk d n).2]) → D.nx σ H') : t_rk2 K D σ H1 := by
  refine ⟨v, h0, Or.inr (Or.inl ⟨v, .ty "list", _, _, isL d1, rfl, .ty _, t.ty, kit_L t, _, rfl, ?_⟩)⟩
  cases hL : isL d1 with
  | false =>
    refine iteF ?_
    have e := hn hL
    exact q H1 b (by rw [e]; exact t) (by rw [e]; exact hR)
  | true =>
    refine iteT ?_
    cases t with
    | non => cases hL
    | bl _ => cases hL
    | int _ => cases hL
    | str _ => cases hL
    | tup _ _ => cases hL
    | @lst a xs es fp' ha ta na =>
      obtain ⟨e, hz⟩ := hl es rfl
      have nra : r ≠ a := fun z => nr (z ▸ List.mem_cons_self ..)
      have hz2 : xs.length < sizeLine := by
        rw [ta.len]
        exact Nat.lt_of_le_of_lt hz (by decide)
      refine ⟨.ref a, h0, Or.inl ⟨rfl, _, SqL.of ha⟩, ?_⟩
      refine ⟨.ref r, h1, Or.inl ⟨r, _, 0, .int n1, rfl, rfl, SqL.of hR, rfl, ?_⟩⟩
      refine ⟨a, xs, .int n1, rfl, rfl, ha, hz2, ?_⟩
      have hR2 : (upd H1 a (.lst (xs ++ [.int n1]))) r = some (.lst [.int n1]) := by rw [upd_ne nra]; exact hR
      refine ⟨.ref r, h1, Or.inl ⟨r, _, 0, .int n1, rfl, rfl, SqL.of hR2, rfl, Or.inl ⟨n1, 1, rfl, rfl, ?_⟩⟩⟩
      refine ⟨.ref r, h1, r, _, 0, 0, rfl, rfl, hR2, rfl, ?_⟩
      have nra' : a ≠ r := Ne.symm nra
      refine q _ (fun c o z nc => ?_) ?_ ?_
      · have n1 : c ≠ r := fun y => nc (y ▸ List.mem_cons_self ..)
        have n2 : c ≠ a := fun y => nc (y ▸ List.mem_cons_of_mem _ (List.mem_cons_self ..))
        rw [upd_ne n1, upd_ne n2]
        exact b c o z nc
      · rw [e]
        have kt : TrAll (upd (upd H1 a (.lst (xs ++ [.int n1]))) r (.lst ([V.int n1].set 0 (.int (n1 + 1))))) xs es fp' := by
          refine ta.keep (fun c hc => ?_) fun c ys hc => ?_
          · have m1 : c ≠ r := fun y => nr (y ▸ List.mem_cons_of_mem _ hc)
            have m2 : c ≠ a := fun y => na (y ▸ hc)
            rw [upd_ne m1, upd_ne m2]
          · have m1 : c ≠ r := fun y => by rw [y, hR] at hc; cases hc
            have m2 : c ≠ a := fun y => by rw [y, ha] at hc; cases hc
            rw [upd_ne m1, upd_ne m2]
            exact hc
        have app : ∀ {H0 : Hp} {vs : List V} {ds : List PyData} {f : List Addr} (m : Int), TrAll H0 vs ds f → TrAll H0 (vs ++ [.int m]) (ds ++ [.int m]) f := by
          intro H0 vs
          induction vs with
          | nil =>
            intro ds f m z
            cases z
            exact TrAll.cons (f1 := []) (f2 := []) (.int m) .nil (fun _ z => by cases z)
          | cons x vs ih =>
            intro ds f m z
            cases z with
            | cons z1 z2 z3 => exact .cons z1 (ih m z2) z3
        refine .lst ?_ (app n1 kt) na
        rw [upd_ne nra', upd_same]
      · rw [upd_same, e]
        rfl
theorem rk_read {k : Nat} (t : Tr H v d fp) (hR : H r = some (.lst [.int n])) (nr : r ∉ fp) (hd : d.depth < k + 1) (hsl : slim d = true)
    (q : ∀ H', But (r :: fp) H H' → Tr H' v (rk d n).1 fp → H' r = some (.lst [.int (rk d n).2]) → Q .non H') {N : List Str} (hN : N.length = 3) :
    t_rk K (spRanks k) { nx := fun _ H' => Q .non H', rt := Q } (L2.start N [v, .ref r]) H := by
  have hst : L2.start N [v, .ref r] = [some v, some (.ref r), none] := by
    unfold L2.start
    rw [hN]
    rfl
  rw [hst]
  refine ⟨v, rfl, ⟨by show 2 ≤ sizeLine; decide, fun p hp => ?_⟩⟩
  have tp : Tr (upd H p (.tup [.ty "list", .ty "tuple"])) v d fp := t.but (fq := []) (But.new hp) (fun _ _ z => by cases z) (fun _ _ _ z => by cases z)
  refine Or.inr (Or.inr ⟨v, p, [.ty "list", .ty "tuple"], _, _, isLT d, rfl, upd_same, .cons (.ty _) (.cons (.ty _) .nil), tp.ty, kit_LT t, _, rfl, ?_⟩)
  have bp : But (r :: fp) H (upd H p (.tup [.ty "list", .ty "tuple"])) := But.new hp
  have hRp : (upd H p (.tup [.ty "list", .ty "tuple"])) r = some (.lst [.int n]) := by
    rw [upd_ne (ne_of_none hR hp)]
    exact hR
  generalize upd H p (.tup [.ty "list", .ty "tuple"]) = H1 at tp bp hRp
  -- what the loop over the items does
  have loop : ∀ (xs : List V) (ds : List PyData) (fq : List Addr), TrAll H1 xs ds fq → (∀ a ∈ fq, a ∈ fp) → PyData.depthAll ds < k → slimAll ds = true → ∀ (a : Addr), v = .ref a → (SqL K H1 a xs ∨ SqT K H1 a xs) →
      (∀ σ' H', σ'[0]? = some (some v) → σ'[1]? = some (some (.ref r)) → But (r :: fq) H1 H' → TrAll H' xs (rkAll ds n).1 fq → H' r = some (.lst [.int (rkAll ds n).2]) → t_rk2 K { nx := fun _ H' => Q .non H', rt := Q } σ' H') →
      tFor (iList K (tCB (rListOf K) (tCons (tVar 0) tNil))) (gName 2) (tDrop (tCall (spRanks k) [] E0 (tCons (tVar 2) (tCons (tVar 1) tNil)))) { nx := t_rk2 K { nx := fun _ H' => Q .non H', rt := Q }, rt := Q } [some v, some (.ref r), none] H1 := by
    intro xs ds fq ta hsub hdep hsl2 a hva hsq fin
    refine ⟨v, rfl, a, xs, by rw [hva], hsq, fun l hl => ⟨l, rfl, ⟨xs, SqL.of upd_same⟩, ?_⟩⟩
    have nrq : r ∉ fq := fun z => nr (hsub r z)
    have hlr : l ≠ r := (ne_of_none hRp hl).symm
    have hlq : l ∉ fq := fun z => by
      obtain ⟨ys, e⟩ := ta.own l z
      rw [hl] at e
      cases e
    refine for_list (fun i σ H' => σ[0]? = some (some v) ∧ σ[1]? = some (some (.ref r)) ∧ σ.length = 3 ∧ But (r :: fq) H1 H' ∧ H' l = some (.lst xs) ∧ TrAll H' xs (rkTo ds n i) fq ∧ H' r = some (.lst [.int (rkN ds n i)]))
      ⟨rfl, rfl, rfl, But.new hl, upd_same, ?_, ?_⟩ (fun i σ H' _ z => SqL.of z.2.2.2.2.1) (fun i x σ H' hx z => ?_) (fun σ H' z => ?_)
    · rw [rkTo_zero]
      exact ta.but (fq := []) (But.new hl) (fun _ _ z => by cases z) (fun _ _ _ z => by cases z)
    · rw [rkN_zero, upd_ne hlr.symm]
      exact hRp
    · obtain ⟨s0, s1, sl, bz, hlz, tz, rz⟩ := z
      obtain ⟨d0, f, e1, t1, sub1, back⟩ := tz.at_ hx
      have e0 : ds[i]? = some d0 := by
        have hi : i < ds.length := by
          rw [← ta.len]
          exact (List.getElem?_eq_some_iff.mp hx).1
        have e2 := rkTo_at (n := n) (List.getElem?_eq_getElem hi)
        rw [e1] at e2
        rw [List.getElem?_eq_getElem hi, Option.some.inj e2]
      obtain ⟨u1, u2⟩ := rkTo_succ (n := n) e0
      refine ⟨x, ?_, .ref r, ?_, x, r, d0, f, rkN ds n i, rfl, t1, rz, fun z => nrq (sub1 r z), Nat.lt_of_le_of_lt (depth_at e0) hdep, slimAll_at hsl2 e0, fun H2 b2 t2 r2 => ?_⟩
      · rw [List.getElem?_set_self (by omega)]
      · rw [List.getElem?_set_ne (by decide)]
        exact s1
      · have keepT : ∀ c ys, H' c = some (.tup ys) → H2 c = some (.tup ys) := fun c ys hc => b2 c _ hc fun z => by
          rcases List.mem_cons.mp z with y | y
          · rw [y, rz] at hc
            cases hc
          · obtain ⟨ws, e⟩ := t1.own c y
            rw [e] at hc
            cases hc
        refine ⟨?_, ?_, ?_, ?_, ?_, ?_, ?_⟩
        · rw [List.getElem?_set_ne (by decide)]
          exact s0
        · rw [List.getElem?_set_ne (by decide)]
          exact s1
        · rw [List.length_set]
          exact sl
        · refine bz.trans (b2.mono fun c hc => ?_)
          rcases List.mem_cons.mp hc with y | y
          · exact y ▸ List.mem_cons_self ..
          · exact List.mem_cons_of_mem _ (sub1 c y)
        · refine b2 l _ hlz fun z => ?_
          rcases List.mem_cons.mp z with y | y
          · exact hlr y
          · exact hlq (sub1 l y)
        · rw [← u1]
          refine back H2 _ t2 (fun c hc nc => ?_) keepT
          obtain ⟨ys, e⟩ := tz.own c hc
          rw [e]
          refine b2 c _ e fun z => ?_
          rcases List.mem_cons.mp z with y | y
          · exact nrq (y ▸ hc)
          · exact nc y
        · rw [u2]
          exact r2
    · obtain ⟨s0, s1, sl, bz, hlz, tz, rz⟩ := z
      have el : xs.length = ds.length := ta.len
      rw [el, rkTo_all] at tz
      rw [el, rkN_all] at rz
      exact fin σ H' s0 s1 bz tz rz
  cases hLT : isLT d with
  | false =>
    refine iteF ?_
    refine rk2_read (H := H) (d := d) (n := n) (d1 := d) (n1 := n) rfl rfl bp tp hRp nr (fun _ => ?_) (fun es e => ?_) q
    · cases d <;> first | rfl | (cases hLT) | (simp [rk])
    · rw [e] at hLT
      cases hLT
  | true =>
    refine iteT ?_
    cases tp with
    | non => cases hLT
    | bl _ => cases hLT
    | int _ => cases hLT
    | str _ => cases hLT
    | @lst a xs ds fq ha ta na =>
      simp only [slim, Bool.and_eq_true, decide_eq_true_eq] at hsl
      simp only [PyData.depth] at hd
      refine loop xs ds fq ta (fun c hc => List.mem_cons_of_mem _ hc) (by omega) hsl.2 a rfl (Or.inl (SqL.of ha)) fun σ' H' s0 s1 b' t' r' => ?_
      have nra : a ≠ r := fun z => nr (z ▸ List.mem_cons_self ..)
      have ha' : H' a = some (.lst xs) := b' a _ ha fun z => (List.mem_cons.mp z).elim nra na
      refine rk2_read (H := H) (d := .list ds) (n := n) s0 s1 (bp.trans (b'.mono fun c hc => ?_)) (.lst ha' t' na) r' nr (fun z => by cases z) (fun es e => ?_) q
      · exact (List.mem_cons.mp hc).elim (fun y => y ▸ List.mem_cons_self ..) fun y => List.mem_cons_of_mem _ (List.mem_cons_of_mem _ y)
      · have e2 : (rkAll ds n).1 = es := by injection e
        refine ⟨by simp only [rk, e2], ?_⟩
        rw [← e2, rkAll_len]
        exact hsl.1
    | @tup a xs ds fq ha ta =>
      simp only [slim] at hsl
      simp only [PyData.depth] at hd
      refine loop xs ds fp ta (fun c hc => hc) (by omega) hsl a rfl (Or.inr (SqT.of ha)) fun σ' H' s0 s1 b' t' r' => ?_
      have ha' : H' a = some (.tup xs) := b' a _ ha fun z => (List.mem_cons.mp z).elim (fun y => by rw [y, hRp] at ha; cases ha) fun y => by
        obtain ⟨ys, e⟩ := ta.own a y
        rw [e] at ha
        cases ha
      refine rk2_read (H := H) (d := .tuple ds) (n := n) s0 s1 (bp.trans b') (.tup ha' t') r' nr (fun _ => by simp only [rk]) (fun es e => by cases e) q
end
end Ly

set_option Elab.async false
set_option linter.all false
set_option maxRecDepth 100000
set_option maxHeartbeats 1000000
namespace Ly
open PySem PySem.Spec PyProof.Rows L2
/-! ### what the written part says of an error class, by one look -/
def ecB (K : PySem.W.Frag) (C fI : Addr) : Bool :=
  decide (PySem.W.findIn K (.ref C) "__setattr__" = some (some (.builtin "object.__setattr__"))) && (decide (PySem.W.subIn K (.ref C) (.type "BaseException") = some true) && (decide (PySem.W.typeIn K (.ref C) = some (.type "type")) &&
  (PySem.W.keepIn K (.ref C) && (decide (PySem.W.findIn K (.ref C) "__getattribute__" = some (some (.builtin "BaseException.__getattribute__"))) && (decide (PySem.W.findIn K (.ref C) "__getattr__" = some none) &&
  (PySem.W.hasDictIn K C && (decide (PySem.W.findIn K (.ref C) "__class__" = some (some (.builtin "object.__class__"))) && (decide (PySem.W.specialIn K (.builtin "object.__class__") "__get__" = some (some (.builtin "getset_descriptor.__get__"))) &&
  (decide (PySem.W.takesIn K (.builtin "object.__class__") = some true) && (decide (PySem.W.mroIn K C (.type "object") = some true) && (decide (PySem.W.findIn K (.ref C) "__init__" = some (some (.ref fI))) &&
  (decide (PySem.W.typeIn K (.ref fI) = some (.type "function")) && decide (PySem.W.findIn K (.ref C) "value" = some none)))))))))))))
theorem ec_of {K : PySem.W.Frag} {C fI : Addr} {nm q : Str} {N : Addr} {bs bm : List Value} {sn : List Str} {sub : List Value} {ab : Bool} {col : Option Bool} {dd : Option Addr} {k0 k1 k2 k3 k5 : Option Value}
    (hl : K.lookup C = some (excClassObj nm q C N bs bm true sn sub ab col dd k0 k1 k2 k3 k5 "ValueError.__new__")) (hm : PySem.HandSPX.refsVE bm = true) (h : ecB K C fI = true) : EC K C fI := by
  simp only [ecB, Bool.and_eq_true, decide_eq_true_eq] at h
  obtain ⟨h1, h2, h3, h4, h5, h6, h7, h8, h9, h10, h11, h12, h13, h14⟩ := h
  exact { ox := { cls := ⟨nm, q, N, bs, bm, sn, sub, ab, col, dd, k0, k1, k2, k3, k5, hl, hm⟩, sa := h1, exC := h2, tyC := h3, kC := h4 }, xf := ⟨h5, h6, h2, h7⟩, ec := ⟨h5, h6, h2, h7, h8, h9, h10, h11⟩, iC := h12, tI := h13, nv := h14 }
/-- which of the classes cs (the first one is the base of all) are which, and that all are ValueErrors -/
def kitsB (K : PySem.W.Frag) (cs : List Addr) : Bool := (List.range cs.length).all fun i => decide (PySem.W.kitOne K (.ref (cs.getD i 0)) (.type "ValueError") = some true) &&
  (List.range cs.length).all fun j => decide (PySem.W.kitOne K (.ref (cs.getD i 0)) (.ref (cs.getD j 0)) = some (decide (i = j ∨ j = 0)))
theorem kits_of {K : PySem.W.Frag} {cs : List Addr} (h : kitsB K cs = true) {i j : Nat} (hi : i < cs.length) (hj : j < cs.length) :
    PySem.W.kitOne K (.ref (cs.getD i 0)) (.type "ValueError") = some true ∧ PySem.W.kitOne K (.ref (cs.getD i 0)) (.ref (cs.getD j 0)) = some (decide (i = j ∨ j = 0)) := by
  simp only [kitsB, List.all_eq_true, List.mem_range, Bool.and_eq_true, decide_eq_true_eq] at h
  exact ⟨(h i hi).1, (h i hi).2 j hj⟩
/-! ### made -/
def spInit (K : PySem.W.Frag) : Sp := fun vs H Q _ => ∃ (a C : Addr) (v : V), vs = [.ref a, v] ∧ H a = some (exo a C none) ∧ OexC K C ∧ PySem.W.findIn K (.ref C) "value" = some none ∧
  ∀ d, H d = none → d ≠ a → Q .non (upd (upd H d (exd d [("value", v)])) a (exo a C (some d)))
/-- an exception of the class at C, its value v -/
def ErrAt (H : Hp) (a C : Addr) (v : V) : Prop := ∃ d, H a = some (exo a C (some d)) ∧ H d = some (exd d [("value", v)])
theorem ErrAt.but {H H' : Hp} {a C : Addr} {v : V} {fp : List Addr} (e : ErrAt H a C v) (b : But fp H H') (n : ∀ c xs, H c = some (.lst xs) ∨ c ∉ fp) : ErrAt H' a C v := by
  obtain ⟨d, h1, h2⟩ := e
  refine ⟨d, b a _ h1 ?_, b d _ h2 ?_⟩
  · rcases n a [] with z | z
    · rw [h1] at z
      have z' := Option.some.inj z
      cases z'
    · exact z
  · rcases n d [] with z | z
    · rw [h2] at z
      have z' := Option.some.inj z
      cases z'
    · exact z
theorem exo_lst {a C : Addr} {d : Option Addr} {xs : List V} : exo a C d ≠ .lst xs := fun z => by
  have z' : HO.ext _ = HO.lst xs := z
  cases z'
theorem exd_lst {a : Addr} {fs : List (Str × V)} {xs : List V} : exd a fs ≠ .lst xs := fun z => by
  have z' : HO.ext _ = HO.lst xs := z
  cases z'
theorem ErrAt.but' {H H' : Hp} {a C : Addr} {v : V} {fp : List Addr} (e : ErrAt H a C v) (b : But fp H H') (n : ∀ c ∈ fp, ∃ xs, H c = some (.lst xs)) : ErrAt H' a C v := by
  obtain ⟨d, h1, h2⟩ := e
  refine ⟨d, b a _ h1 fun z => ?_, b d _ h2 fun z => ?_⟩
  · obtain ⟨xs, y⟩ := n a z
    rw [h1] at y
    exact exo_lst (Option.some.inj y)
  · obtain ⟨xs, y⟩ := n d z
    rw [h2] at y
    exact exd_lst (Option.some.inj y)
section
variable {K : PySem.W.Frag} {σ : L2.St} {H : Hp} {v : V} {a C : Addr} {te : TE} {ts : TA} {b : Bool} {D : Ends} {c : V}
theorem init_read {N : List Str} {Q : VK} (hN : N.length = 2) (ha : H a = some (exo a C none)) (T : OexC K C) (nv : PySem.W.findIn K (.ref C) "value" = some none)
    (q : ∀ d, H d = none → d ≠ a → Q .non (upd (upd H d (exd d [("value", v)])) a (exo a C (some d)))) : tOst K "value" (tVar 0) (tVar 1) { nx := fun _ H' => Q .non H', rt := Q } (L2.start N [.ref a, v]) H := by
  have hst : L2.start N [.ref a, v] = [some (.ref a), some v] := by
    unfold L2.start
    rw [hN]
    rfl
  rw [hst]
  exact ⟨v, rfl, .ref a, rfl, a, C, rfl, T, nv, Or.inl ⟨ha, q⟩⟩
theorem l_exv {Q : VK} (h : VA ts σ H [v]) (T : OexC K C) (nv : PySem.W.findIn K (.ref C) "value" = some none)
    (q : ∀ H' a, But [] H H' → H a = none → ErrAt H' a C v → Q (.ref a) H') : tExV C (spInit K) ts σ H Q := by
  refine h _ ⟨rfl, fun a ha => ⟨a, C, v, rfl, upd_same, T, nv, fun d hd hda => ⟨rfl, ?_⟩⟩⟩
  have hd0 : H d = none := by
    rw [upd_ne hda] at hd
    exact hd
  refine q _ a (fun b o e _ => ?_) ha ⟨d, upd_same, ?_⟩
  · rw [upd_ne (ne_of_none e ha), upd_ne (ne_of_none e hd0), upd_ne (ne_of_none e ha)]
    exact e
  · rw [upd_ne hda, upd_same]
theorem err_ret (h1 : VA ts σ H [v]) (hb : Val te σ H (.bl b)) (T : OexC K C) (nv : PySem.W.findIn K (.ref C) "value" = some none)
    (q : ∀ H' a, But [] H H' → H a = none → ErrAt H' a C v → D.rt (.ref a) H') : tRet (tIf (tTr K te) (tExV C (spInit K) ts) (tExV C (spInit K) ts)) D σ H := by
  refine hb _ ⟨b, rfl, ?_⟩
  cases b with
  | true => exact iteT (l_exv h1 T nv q)
  | false => exact iteF (l_exv h1 T nv q)
theorem v_isX {u : Value} (h : VA ts σ H [.ref a, c]) (hc : ClsV c u) (T : ExcC K C) (e : ErrAt H a C v) (hk : PySem.W.kitOne K (.ref C) u = some b) : Val (tCB (rIsiU K) ts) σ H (.bl b) := fun Q q => by
  obtain ⟨d, h1, h2⟩ := e
  exact h _ (Or.inl ⟨a, C, d, _, c, u, b, rfl, hc, T, h1, h2, hk, q⟩)
theorem v_exf (h : Val te σ H (.ref a)) (T : EC K C fI) (e : ErrAt H a C v) : Val (tExF "value" te K) σ H v := fun Q q => by
  obtain ⟨d, h1, h2⟩ := e
  exact h _ ⟨a, C, d, _, v, rfl, T.xf, T.nv, h1, h2, by simp [List.lookup], q⟩
/-- xs + [..] -/
theorem s_addL {rest : TS} {ta : TE} {xs vs : List V} {k : Nat} (ha : Val ta σ H (.ref a)) (hx : H a = some (.lst xs)) (h : VA ts σ H vs) (hz : xs.length + vs.length ≤ 1000)
    (q : ∀ p H', But [] H H' → H p = none → H' p = some (.lst (xs ++ vs)) → rest D (σ.set k (some (.ref p))) H') : tSeq (tAsg (tOp rAddU ta (tLst ts)) (gName k)) rest D σ H := by
  have z1 : (1000 : Nat) ≤ sizeLine := by decide
  refine ha _ (h _ ⟨by omega, fun p hp => Or.inr ⟨a, p, xs, vs, rfl, rfl, ?_, upd_same, by omega, fun r hr => ?_⟩⟩)
  · rw [upd_ne (ne_of_none hx hp)]
    exact hx
  · have hrp : r ≠ p := fun z => by rw [z, upd_same] at hr; cases hr
    have hr0 : H r = none := by
      rw [upd_ne hrp] at hr
      exact hr
    refine q r _ (fun b o e _ => ?_) hr0 upd_same
    rw [upd_ne (ne_of_none e hr0), upd_ne (ne_of_none e hp)]
    exact e
/-- [k for k in range(n) if found[k]] -/
theorem l_picked {n : Nat} {bs : List Bool} {f : Addr} {i j : Nat} {Q : VK} (hn : bs.length = n) (hn2 : n ≤ 1000) (hi : ∀ x : V, ((σ.set j none).set j (some x))[i]? = some (some (.ref f))) (hj : j < σ.length) (hf : H f = some (.lst (bs.map V.bl)))
    (q : ∀ p H', But [] H H' → H p = none → H' p = some (.lst (((List.range n).filter fun k => bs.getD k false).map fun k : Nat => V.int (k : Int))) → Q (.ref p) H') :
    tLc (iRng1 (tCons (tC (.int n)) tNil)) (gName j) (tTr K (tOp (rIxU K) (tVar i) (tVar j))) (tVar j) [j] σ H Q := by
  have z1 : (1000 : Nat) < sizeLine := by decide
  refine ⟨n, rfl, by omega, by omega, fun Dp hD => ?_⟩
  refine lc_range (lo := 0) (n := ((n : Int)).toNat) (fun m H' => But [] H H' ∧ H' Dp = some (.lst (((List.range m).filter fun k => bs.getD k false).map fun k : Nat => V.int (k : Int))) ∧ m ≤ n) ⟨But.new hD, upd_same, Nat.zero_le _⟩ (fun m H' hm z => ?_) (fun H' z => ?_)
  · rw [Int.toNat_natCast] at hm
    obtain ⟨bz, dz, _⟩ := z
    have hb : (bs.map V.bl)[m]? = some (.bl (bs.getD m false)) := by
      rw [List.getElem?_map, List.getElem?_eq_getElem (by omega), List.getD_eq_getElem?_getD, List.getElem?_eq_getElem (by omega)]
      rfl
    have hfz : H' f = some (.lst (bs.map V.bl)) := bz f _ hf (by simp)
    have e0 : (0 : Int) + (m : Int) = (m : Int) := by omega
    have ew : wipe σ [j] = σ.set j none := rfl
    refine ⟨by rw [ew]; show ((σ.set j none).set j (some (V.int (0 + m)))).set j none = σ.set j none; rw [List.set_set, List.set_set], ?_⟩
    refine ⟨.ref f, by rw [ew]; exact hi _, .int (0 + m), by rw [ew, List.getElem?_set_self (by rw [List.length_set]; exact hj)], Or.inl ⟨f, _, (0 + m), _, rfl, rfl, SqL.of hfz, by rw [e0]; exact atI_nat hb, ?_⟩⟩
    refine ⟨bs.getD m false, rfl, ?_⟩
    have er : (List.range (m + 1)).filter (fun k => bs.getD k false) = (List.range m).filter (fun k => bs.getD k false) ++ if bs.getD m false = true then [m] else [] := by
      rw [List.range_succ, List.filter_append]
      congr 1
      show List.filter (fun k => bs.getD k false) [m] = _
      rw [List.filter_cons]
      cases bs.getD m false <;> rfl
    cases hv : bs.getD m false with
    | true =>
      rw [hv] at er
      refine iteT ⟨.int (0 + m), by rw [ew, List.getElem?_set_self (by rw [List.length_set]; exact hj)], _, dz, ?_, fun b o e nb => ?_, ?_, hm⟩
      · rw [List.length_map]
        have := List.length_filter_le (fun k => bs.getD k false) (List.range m)
        rw [List.length_range] at this
        omega
      · rw [upd_ne (ne_of_none e hD)]
        exact bz b o e nb
      · rw [upd_same, er, if_pos rfl, List.map_append, e0]
        rfl
    | false =>
      rw [hv] at er
      refine iteF ⟨bz, ?_, hm⟩
      rw [er, if_neg Bool.false_ne_true, List.append_nil]
      exact dz
  · rw [Int.toNat_natCast] at z
    exact q Dp H' z.1 hD z.2.1
end
end Ly

set_option Elab.async false
set_option linter.all false
set_option maxRecDepth 100000
set_option maxHeartbeats 1000000
namespace Ly
open PySem PySem.Spec PyProof.Rows L2
/-! ### how long what is shown can be -/
mutual
def cst : PyData → Nat
  | .none => 10
  | .bool _ => 10
  | .int _ => 1930
  | .str x => 10 * x.length + 10
  | .list ds => cstAll ds + 10
  | .tuple ds => cstAll ds + 10
  | .dict _ => 0
def cstAll : List PyData → Nat
  | [] => 0
  | d :: ds => cst d + 10 + cstAll ds
end
mutual
/-- no dict, no odd sign -/
def noOdd : PyData → Bool
  | .str x => x.cps.toList.all fun c => decide (c < 16 ^ 8)
  | .list ds => noOddAll ds
  | .tuple ds => noOddAll ds
  | .dict _ => false
  | _ => true
def noOddAll : List PyData → Bool
  | [] => true
  | d :: ds => noOdd d && noOddAll ds
end
theorem textFrom_le : ∀ (ts : List Str) (k : Nat) (acc : Str), (textFrom k acc ts).length ≤ acc.length + (ts.map fun t => t.length + 2).sum
  | [], k, acc => by simp [textFrom]
  | t :: r, k, acc => by
    have h := textFrom_le r (k + 1) (acc ++ (if k > 0 then ", " else "" : String) ++ t)
    have e : (acc ++ (if k > 0 then ", " else "" : String) ++ t).length ≤ acc.length + 2 + t.length := by
      rw [Str.length_append, Str.length_append]
      split
      · show acc.length + 2 + t.length ≤ _
        omega
      · show acc.length + 0 + t.length ≤ _
        omega
    have e2 : (textFrom k acc (t :: r)) = textFrom (k + 1) (acc ++ (if k > 0 then ", " else "" : String) ++ t) r := rfl
    rw [e2, List.map_cons, List.sum_cons]
    omega
theorem join_le : ∀ ts : List Str, (Str.join ", " ts).length ≤ (ts.map fun t => t.length + 2).sum
  | [] => by decide
  | t :: r => by
    have h := join_length_add (t :: r) (by simp)
    have e : ∀ l : List Str, piled l = (l.map fun t => t.length + 2).sum := by
      intro l
      induction l with
      | nil => rfl
      | cons a l ih => simp [piled, ih]
    rw [e] at h
    omega
mutual
theorem shown_le : ∀ d : PyData, d.showable = true → noOdd d = true → d.shown.length ≤ cst d
  | .none, _, _ => by decide
  | .bool b, _, _ => by cases b <;> decide
  | .int i, h, _ => by
    have h2 : i.natAbs.log2 < 1920 := by simpa [PyData.showable] using h
    have z := int_text_len_1921 h2
    show (Str.ofString (toString i)).length ≤ 1930
    omega
  | .str x, _, h => by
    have h2 : ∀ c ∈ x.cps.toList, c < 16 ^ 8 := by
      intro c hc
      simp only [noOdd, List.all_eq_true, decide_eq_true_eq] at h
      exact h c hc
    have z := StrLaws.reprText_len x h2
    show (reprText x).length ≤ 10 * x.length + 10
    omega
  | .list ds, h, k => by
    have z := shownAll_le ds (by simpa [PyData.showable] using h) (by simpa [noOdd] using k)
    show (textFrom 0 "[" (PyData.shownAll ds) ++ ("]" : String)).length ≤ cstAll ds + 10
    rw [Str.length_append]
    have y := textFrom_le (PyData.shownAll ds) 0 "["
    have a : ((("[" : String) : Str)).length = 1 := by decide
    have b : ((("]" : String) : Str)).length = 1 := by decide
    omega
  | .tuple ds, h, k => by
    have z := shownAll_le ds (by simpa [PyData.showable] using h) (by simpa [noOdd] using k)
    show (("(" : Str) ++ Str.join ", " (PyData.shownAll ds) ++ (if (PyData.shownAll ds).length == 1 then ",)" else ")" : String)).length ≤ cstAll ds + 10
    rw [Str.length_append, Str.length_append]
    have y := join_le (PyData.shownAll ds)
    have a : ((("(" : String) : Str)).length = 1 := by decide
    have b : ((((if (PyData.shownAll ds).length == 1 then ",)" else ")" : String)) : Str)).length ≤ 2 := by split <;> decide
    omega
  | .dict _, _, k => by cases k
theorem shownAll_le : ∀ ds : List PyData, PyData.showableAll ds = true → noOddAll ds = true → ((PyData.shownAll ds).map fun t => t.length + 2).sum ≤ cstAll ds
  | [], _, _ => by simp [PyData.shownAll, cstAll]
  | d :: ds, h, k => by
    simp only [PyData.showableAll, Bool.and_eq_true] at h
    simp only [noOddAll, Bool.and_eq_true] at k
    have a := shown_le d h.1 k.1
    have b := shownAll_le ds h.2 k.2
    simp only [PyData.shownAll, cstAll, List.map_cons, List.sum_cons]
    omega
end
/-! ### ranked data can be shown, too -/
mutual
def nl : PyData → Nat
  | .list ds => nlAll ds + 1
  | .tuple ds => nlAll ds
  | _ => 0
def nlAll : List PyData → Nat
  | [] => 0
  | d :: ds => nl d + nlAll ds
end
theorem cstAll_app (ds es : List PyData) : cstAll (ds ++ es) = cstAll ds + cstAll es := by
  induction ds with
  | nil => simp [cstAll]
  | cons d ds ih => simp only [List.cons_append, cstAll, ih]; omega
theorem showableAll_app (ds es : List PyData) : PyData.showableAll (ds ++ es) = (PyData.showableAll ds && PyData.showableAll es) := by
  induction ds with
  | nil => simp [PyData.showableAll]
  | cons d ds ih => simp only [List.cons_append, PyData.showableAll, ih, Bool.and_assoc]
theorem noOddAll_app (ds es : List PyData) : noOddAll (ds ++ es) = (noOddAll ds && noOddAll es) := by
  induction ds with
  | nil => simp [noOddAll]
  | cons d ds ih => simp only [List.cons_append, noOddAll, ih, Bool.and_assoc]
theorem depthAll_app (ds es : List PyData) : PyData.depthAll (ds ++ es) = max (PyData.depthAll ds) (PyData.depthAll es) := by
  induction ds with
  | nil => simp [PyData.depthAll]
  | cons d ds ih => simp only [List.cons_append, PyData.depthAll, ih]; omega
theorem int_showable {i : Int} (h : i.natAbs < 2 ^ 200) : (PyData.int i).showable = true := by
  have z := PySem.Flt.log2_lt_of (by decide : 0 < 200) h
  simp only [PyData.showable, decide_eq_true_eq]
  omega
structure Ranked (d d' : PyData) (n n' : Int) : Prop where
  num : n' = n + nl d
  show_ : d.showable = true → 0 ≤ n → n + nl d < 2 ^ 200 → d'.showable = true
  odd : noOdd d = true → noOdd d' = true
  dep : d'.depth = d.depth
  len : cst d' ≤ cst d + 1940 * nl d
structure RankedAll (d d' : List PyData) (n n' : Int) : Prop where
  num : n' = n + nlAll d
  show_ : PyData.showableAll d = true → 0 ≤ n → n + nlAll d < 2 ^ 200 → PyData.showableAll d' = true
  odd : noOddAll d = true → noOddAll d' = true
  dep : PyData.depthAll d' = PyData.depthAll d
  len : cstAll d' ≤ cstAll d + 1940 * nlAll d
mutual
theorem rk_ranked : ∀ (d : PyData) (n : Int), Ranked d (rk d n).1 n (rk d n).2
  | .none, n => ⟨by simp [rk, nl], fun h _ _ => by simpa [rk] using h, fun h => by simpa [rk] using h, by simp [rk], by simp [rk, nl]⟩
  | .bool _, n => ⟨by simp [rk, nl], fun h _ _ => by simpa [rk] using h, fun h => by simpa [rk] using h, by simp [rk], by simp [rk, nl]⟩
  | .int _, n => ⟨by simp [rk, nl], fun h _ _ => by simpa [rk] using h, fun h => by simpa [rk] using h, by simp [rk], by simp [rk, nl]⟩
  | .str _, n => ⟨by simp [rk, nl], fun h _ _ => by simpa [rk] using h, fun h => by simpa [rk] using h, by simp [rk], by simp [rk, nl]⟩
  | .dict _, n => ⟨by simp [rk, nl], fun h _ _ => by simpa [rk] using h, fun h => by simpa [rk] using h, by simp [rk], by simp [rk, nl]⟩
  | .tuple ds, n => by
    have z := rkAll_ranked ds n
    refine ⟨by simpa [rk, nl] using z.num, fun h a b => ?_, fun h => ?_, by simp [rk, PyData.depth, z.dep], ?_⟩
    · simp only [rk, PyData.showable]
      exact z.show_ (by simpa [PyData.showable] using h) a (by simpa [nl] using b)
    · simp only [rk, noOdd]
      exact z.odd (by simpa [noOdd] using h)
    · have := z.len
      simp only [rk, cst, nl]
      omega
  | .list ds, n => by
    have z := rkAll_ranked ds n
    have zn := z.num
    refine ⟨?_, fun h a b => ?_, fun h => ?_, ?_, ?_⟩
    · simp only [rk, nl]
      rw [zn]
      omega
    · simp only [rk, PyData.showable, showableAll_app, Bool.and_eq_true]
      simp only [nl] at b
      refine ⟨z.show_ (by simpa [PyData.showable] using h) a (by omega), ?_⟩
      have y : (PyData.int (rkAll ds n).2).showable = true := int_showable (by rw [zn]; omega)
      simp only [PyData.showableAll, y, Bool.and_true]
    · simp only [rk, noOdd, noOddAll_app, Bool.and_eq_true]
      exact ⟨z.odd (by simpa [noOdd] using h), by simp [noOddAll, noOdd]⟩
    · simp only [rk, PyData.depth, depthAll_app, z.dep, PyData.depthAll]
      omega
    · have := z.len
      simp only [rk, cst, nl, cstAll_app, cstAll]
      omega
theorem rkAll_ranked : ∀ (ds : List PyData) (n : Int), RankedAll ds (rkAll ds n).1 n (rkAll ds n).2
  | [], n => ⟨by simp [rkAll, nlAll], fun h _ _ => by simpa [rkAll] using h, fun h => by simpa [rkAll] using h, by simp [rkAll], by simp [rkAll, nlAll]⟩
  | d :: ds, n => by
    have a := rk_ranked d n
    have b := rkAll_ranked ds (rk d n).2
    have an := a.num
    have bn := b.num
    refine ⟨?_, fun h x y => ?_, fun h => ?_, ?_, ?_⟩
    · simp only [rkAll, nlAll]
      rw [bn, an]
      omega
    · simp only [PyData.showableAll, Bool.and_eq_true] at h
      simp only [nlAll] at y
      simp only [rkAll, PyData.showableAll, Bool.and_eq_true]
      exact ⟨a.show_ h.1 x (by omega), b.show_ h.2 (by rw [an]; omega) (by rw [an]; omega)⟩
    · simp only [noOddAll, Bool.and_eq_true] at h
      simp only [rkAll, noOddAll, Bool.and_eq_true]
      exact ⟨a.odd h.1, b.odd h.2⟩
    · simp only [rkAll, PyData.depthAll, a.dep, b.dep]
    · have := a.len
      have := b.len
      simp only [rkAll, cstAll, nlAll]
      omega
end
/-! ### repr of data that are fine -/
structure Fine (d : PyData) : Prop where
  sh : d.showable = true
  od : noOdd d = true
  dp : d.depth ≤ 50
  ln : cst d ≤ 10000000
theorem Fine.len {d : PyData} (f : Fine d) : d.shown.length ≤ sizeLine := by
  have a := shown_le d f.sh f.od
  have b : (10000000 : Nat) ≤ sizeLine := by decide
  have c := f.ln
  omega
theorem Fine.rk {d : PyData} {n : Int} (f : Fine d) (h0 : 0 ≤ n) (h1 : n + nl d < 2 ^ 200) (hc : cst d + 1940 * nl d ≤ 10000000) : Fine (Ly.rk d n).1 := by
  have z := rk_ranked d n
  exact ⟨z.show_ f.sh h0 h1, z.odd f.od, by rw [z.dep]; exact f.dp, Nat.le_trans z.len hc⟩
section
variable {K : PySem.W.Frag} {σ : L2.St} {H : Hp} {v : V} {ts : TA} {d : PyData}
theorem v_repr (h : VA ts σ H [v]) (hd : Dp K H v d) (f : Fine d) : Val (tCB (rRepr K) ts) σ H (.str d.shown) := fun Q q => h _ ⟨v, d, rfl, hd, f.sh, Nat.le_trans f.dp (by decide), f.len, q⟩
theorem a_neS {ta tb : TE} {x y : Str} (ha : Val ta σ H (.str x)) (hb : Val tb σ H (.str y)) : Ans (tTest (tOp (rNeU K) ta tb)) σ H (!decide (x = y)) := fun Q q => ha _ (hb _ (Or.inl ⟨rfl, _, rfl, by
  rw [show decide (V.str x = V.str y) = decide (x = y) by simp]; exact q⟩))
theorem a_eqS {ta tb : TE} {x y : Str} (ha : Val ta σ H (.str x)) (hb : Val tb σ H (.str y)) : Ans (tTest (tOp (rEqU K) ta tb)) σ H (decide (x = y)) := fun Q q => ha _ (hb _ (Or.inl ⟨rfl, _, rfl, by
  rw [show decide (V.str x = V.str y) = decide (x = y) by simp]; exact q⟩))
theorem l_pick {Q : VK} {a : Addr} {xs : List V} {m : Int} {b : Nat} (h : VA ts σ H [.ref a, .int m]) (hx : H a = some (.lst xs)) (ok : SackOk b xs) (hb : b ≤ 2 ^ 100) (m0 : 0 < m) (m1 : m < 2 ^ 8000)
    (q : ∀ H' xs' n, But [a] H H' → (∀ c, H' c = none ↔ H c = none) → H' a = some (.lst xs') → SackOk (b + 1) xs' → 0 ≤ n → n < m → Q (.int n) H') : tCall spPick [] E0 ts σ H Q := by
  refine h _ ⟨a, xs, m, b, rfl, hx, ok, hb, m0, m1, fun xs' n o n0 n1 => ?_⟩
  refine q _ xs' n (fun c u e nc => ?_) (fun c => ?_) upd_same o n0 n1
  · rw [upd_ne fun z => nc (by rw [z]; exact List.mem_singleton.mpr rfl)]
    exact e
  · by_cases z : c = a
    · subst z
      rw [upd_same, hx]
      constructor <;> intro y <;> cases y
    · rw [upd_ne z]
theorem l_call {sp : Sp} {vs : List V} {Q : VK} (h : VA ts σ H vs) (q : sp vs H Q E0) : tCall sp [] E0 ts σ H Q := h _ (by
  show sp (vs ++ []) H Q E0
  rw [List.append_nil]
  exact q)
theorem s_rcall {sp : Sp} {vs : List V} {D : Ends} (h : VA ts σ H vs) (q : sp vs H D.rt E0) : tRet (tCall sp [] E0 ts) D σ H := l_call h q
theorem s_ecall {sp : Sp} {vs : List V} {D : Ends} {rest : TS} (h : VA ts σ H vs) (q : sp vs H (fun _ H' => rest D σ H') E0) : tSeq (tDrop (tCall sp [] E0 ts)) rest D σ H := l_call h q
theorem s_acall {sp : Sp} {vs : List V} {D : Ends} {rest : TS} {k : Nat} (h : VA ts σ H vs) (q : sp vs H (fun v H' => rest D (σ.set k (some v)) H') E0) : tSeq (tAsg (tCall sp [] E0 ts) (gName k)) rest D σ H := l_call h q
theorem s_par {i j : Nat} {ta tb : TE} {D : Ends} {rest : TS} (h : ta σ H fun x H1 => tb σ H1 fun y H2 => ∃ v w, [x, y] = [v, w] ∧ rest D ((σ.set i (some v)).set j (some w)) H2) : tSeq (tPar i j (tCons ta (tCons tb tNil))) rest D σ H := h
end
end Ly

set_option Elab.async false
set_option linter.all false
set_option maxRecDepth 100000
set_option maxHeartbeats 1000000
namespace Ly
open PySem PySem.Spec PyProof.Rows L2
/-! ### the rules with the written part by its own name -/
section
variable {X : Cx} {K : PySem.W.Frag} {w : World}
theorem ix_K (hK : X.K = K) : IxR X (rIxU K) := by subst hK; exact ix_U
theorem sl_K (hK : X.K = K) : SlR X (rSlU K) := by subst hK; exact sl_U
theorem eq_K (hK : X.K = K) (hu : X.A.units + 64 < cLine) : OpR X (compareOp .Eq) (rEqU K) := by subst hK; exact op_eqU hu
theorem ne_K (hK : X.K = K) (hu : X.A.units + 64 < cLine) : OpR X (compareOp .NotEq) (rNeU K) := by subst hK; exact op_neU hu
theorem in_K (hK : X.K = K) : OpR X (compareOp .In) (rIn K false) := by subst hK; exact op_in_seq
theorem len_K (hK : X.K = K) : CallR X (.builtin "len") (rLenU K) := by subst hK; exact call_len_seq
theorem repr_K {k : Nat} (hK : X.K = K) (hA : X.A.guards = some []) (hr : Room k X.A) : CallR X (.builtin "repr") (rRepr K) := by subst hK; exact call_repr hA hr
theorem isi_K (hK : X.K = K) : CallR X (.builtin "isinstance") (rIsiU K) := by subst hK; exact call_isiU
theorem lof_K (hK : X.K = K) : CallR X (.type "list") (rListOf K) := by subst hK; exact call_list_of
theorem set_K (hK : X.K = K) (hw : X.w = w) (hc : X.calm = true) : CallR X (.type "set") (rSetI K w) := by subst hK; subst hw; exact cr_setI hc
theorem srt_K (hw : X.w = w) (hc : X.calm = true) : CallR X (.builtin "sorted") (rSortedSet w) := by subst hw; exact cr_sortedSet hc
theorem all_K (hK : X.K = K) (hc : X.calm = true) : CallR X (.builtin "all") (rAll K) := by subst hK; exact cr_all hc
theorem any_K (hK : X.K = K) (hc : X.calm = true) : CallR X (.builtin "any") (rAny K) := by subst hK; exact cr_any hc
theorem sum_K (hK : X.K = K) (hc : X.calm = true) : CallR X (.builtin "sum") (rSum K) := by subst hK; exact cr_sum hc
theorem min_K (hK : X.K = K) (hc : X.calm = true) : CallR X (.builtin "min") (rMin K) := by subst hK; exact cr_min hc
theorem max_K (hK : X.K = K) (hc : X.calm = true) : CallR X (.builtin "max") (rMax K) := by subst hK; exact cr_max hc
variable {a o e : Expr} {ta to : TE} {t : TA} {tg : Expr} {pos apos cpos : Pos} {n : Str}
theorem tr_K (hK : X.K = K) (ha : PE X a ta) (he : ∀ whole, isTrue a X.env whole = (do let v ← whole; standAt a.pos; holding [v] (truthy v)) := by exact fun _ => rfl) : PT X a (tTr K ta) := by
  subst hK
  exact pt_truth ha he
theorem il_K (hK : X.K = K) (ha : PE X a ta) : PI X tg a (iList K ta) := by subst hK; exact pi_list ha
theorem it_K (hK : X.K = K) (ha : PE X a ta) : PI X tg a (iTup K ta) := by subst hK; exact pi_tup ha
theorem exf_K (hK : X.K = K) (ha : PE X e ta) (hb : attributeBase e n X.env (eval e X.env) = eval e X.env := by rfl) : PE X (.Attribute e n pos) (tExF n ta K) := by subst hK; exact pe_exf ha hb
theorem app_K (hK : X.K = K) (ho : PE X o to) (ha : PA X [e] t) (hbase : attributeBase o "append" X.env (eval o X.env) = eval o X.env := by rfl)
    (hfew : ((backTo cpos (starEach [e] X.env)).all (fun x => !x.1) && (backToKw cpos (keywordEach [] X.env)).all (fun x => x.1.isSome) && decide ([e].length + ([] : List Keyword).length + (if ([] : List Keyword).isEmpty then 0 else 1) < 30)) = true := by rfl)
    (hline : (apos.endLine == cpos.line) = true := by rfl) (hs : starEach [e] X.env = (false, eval e X.env) :: starEach [] X.env := by rfl) (hplain : (backTo cpos (starEach [] X.env)).any (·.1) = false := by rfl) :
    PE X (.Call (.Attribute o "append" apos) [e] [] cpos) (tBM K "list" rAppend to t) := by
  subst hK
  exact pe_bm PySem.F.plainAttrs_list PySem.F.slot_list_append PySem.F.type_list_append mt_append ho ha hbase hfew hline hs hplain
end
end Ly

set_option Elab.async false
set_option linter.all false
set_option maxRecDepth 100000
set_option maxHeartbeats 1000000
namespace Ly
open PySem PySem.Spec PyProof.Rows L2
/-! ### the law's own call, over a def that may show things -/
section
variable {P : Program} {w : World} {K : PySem.W.Frag} {mg mb : Str → Option Value} {k : Nat} {fa a : Addr} {fd : FuncData} {x : Str} {sp : Sp} {s1 : Shared} {vs : List Value} {ns : List Int}
abbrev LawEnd (s1 : Shared) (r : Result) (s' : Shared) : Prop := r = .ok (.ret (.bool true)) ∧ OldK s1.heap s'.heap ∧ s'.os = s1.os ∧ AllBare s'.gens
theorem lawG_core (KX : K.In s1.heap) (hns : s1.heap.Ns mainGlobals mg) (hb : s1.heap.Ns builtinsNs mb) (hbb : ∀ x : Str, x ≠ "__name__" → mb x = bootBuiltins x) (hlim : s1.heap.NoLimit) (hg : s1.gens = #[])
    (ha : s1.heap.get? a = some { cls := .type "list", data := .seq vs.toArray }) (hr : Room k callerA) (F : ∀ base : Heap, K.In base → base.Ns mainGlobals mg → FnG P w K mg base k fa fd [x] sp)
    (hbind : ∀ (s : Shared) (u : Value), BindsTo s fd ⟨[u], []⟩ [(x, u)]) (hsp : ∀ H : Hp, Only H → SqL K H a (ns.map V.int) → sp [.ref a] H (fun v _ => v = .bl true) fun _ _ _ => False) :
    ∀ H : Hp, Only H → SqL K H a (ns.map V.int) → HOk P w H s1.heap → (∀ b, H b ≠ none → b = a) → (H a ≠ none → K.lookup a = none) → codeAny (model P w) callerA (.call (.ref fa) ⟨[.ref a], []⟩) (LawEnd s1) s1 := by
  intro H hO hS hok hA hK
  have isA : ∀ {b : Addr} {u : HO}, H b = some u → b = a := fun {b u} q => hA b (by rw [q]; simp)
  have hid : ∀ {b : Addr} {o : Obj}, s1.heap.get? b = some o → H b = none → (hidT s1.heap H).get? b = some o := fun e n => hidT_get e n
  have nod : ∀ {b : Addr} {o : Obj} {es : Array DictEntry} {ep : Nat}, s1.heap.get? b = some o → o.data = .dict es ep → H b = none := by
    intro b o es ep e d
    cases q : H b with
    | none => rfl
    | some u =>
      obtain rfl := isA q
      rw [ha] at e
      cases e
      have d1 : Data.seq vs.toArray _ = Data.dict es ep := d
      cases d1
  have nsH : ∀ {b : Addr} {m : Str → Option Value}, s1.heap.Ns b m → (hidT s1.heap H).Ns b m := by
    rintro b m ⟨o, es, ep, e, d, r⟩
    exact ⟨o, es, ep, hid e (nod e d), d, r⟩
  have hKb : K.In (hidT s1.heap H) := by
    intro b o e
    refine hid (KX b o e) ?_
    cases q : H b with
    | none => rfl
    | some u =>
      obtain rfl := isA q
      rw [hK (by rw [q]; simp)] at e
      cases e
  obtain ⟨mc, l1, l2⟩ := hlim
  have hM : Mod K mg (hidT s1.heap H) := ⟨hKb, nsH hns, ⟨mb, nsH hb, hbb⟩, ⟨mc, nsH l1, l2⟩⟩
  have e0 : Env0 P w K mg (hidT s1.heap H) callerA [] s1 H := ⟨rfl, hM, fun b o e => of_hidT e, Nat.le_of_eq (hidT_size _ _), trivial, fun b z => absurd (show b ∈ ([] : List Addr) from z) (by simp), hok, .of_eq hg⟩
  refine codeAny_mono ((F _ hKb (nsH hns)).runG callerA rfl [] s1 H ⟨[.ref a], []⟩ [.ref a] [.ref a] _ _ hr e0 (hbind s1 (.ref a)) (.cons rfl .nil) (hsp H hO hS)) fun r s' h => ?_
  rcases r with e | fl
  · exact h.elim
  · cases fl with
    | next => exact h.elim
    | brk => exact h.elim
    | cont => exact h.elim
    | ret u =>
      obtain ⟨v, H', os1, bare1, un1, hok1, r1, q1⟩ := h
      obtain rfl : v = .bl true := q1
      obtain rfl : u = Value.bool true := r1
      refine ⟨rfl, OldK.of_keep fun b o e => ?_, os1, bare1⟩
      cases q : H b with
      | none => exact un1.keep b o e q (fun z => absurd (show b ∈ ([] : List Addr) from z) (by simp)) (by simp)
      | some u =>
        rcases hO b with z | ⟨ob, xs, z⟩
        · rw [q] at z
          cases z
        · obtain ⟨e1, _⟩ := hok b _ z
          obtain ⟨e2, _⟩ := hok1 b _ (un1.frzs b ob _ z)
          rw [e] at e1
          cases e1
          exact e2
theorem lawG (KX : K.In s1.heap) (hns : s1.heap.Ns mainGlobals mg) (hb : s1.heap.Ns builtinsNs mb) (hbb : ∀ x : Str, x ≠ "__name__" → mb x = bootBuiltins x) (hlim : s1.heap.NoLimit) (hg : s1.gens = #[])
    (ha : s1.heap.get? a = some { cls := .type "list", data := .seq vs.toArray }) (hi : IntsAre vs ns) (hl : ns.length ≤ sizeLine) (hr : Room k callerA) (F : ∀ base : Heap, K.In base → base.Ns mainGlobals mg → FnG P w K mg base k fa fd [x] sp)
    (hbind : ∀ (s : Shared) (u : Value), BindsTo s fd ⟨[u], []⟩ [(x, u)]) (hsp : ∀ H : Hp, Only H → SqL K H a (ns.map V.int) → sp [.ref a] H (fun v _ => v = .bl true) fun _ _ _ => False) :
    codeAny (model P w) callerA (.call (.ref fa) ⟨[.ref a], []⟩) (LawEnd s1) s1 := by
  have rv := vals_ints hi
  have lv := hi.length
  have core := lawG_core (ns := ns) KX hns hb hbb hlim hg ha hr F hbind hsp
  cases hk : K.lookup a with
  | some o =>
    have e := KX a o hk
    rw [ha] at e
    cases e
    have s0 : SqL K (fun _ => none) a (ns.map V.int) := .inr ⟨_, vs.toArray, _, hk, rfl, rfl, rfl, by rw [List.size_toArray, lv]; exact hl, by simpa using rv⟩
    refine core (fun _ => none) (fun _ => .inl rfl) s0 (fun b u z => ?_) (fun b z => absurd rfl z) fun z => absurd rfl z
    have z1 : (none : Option HO) = some u := z
    cases z1
  | none =>
    have at1 : (fun b => if b = a then some (HO.frz { cls := .type "list", data := .seq vs.toArray } (.lst (ns.map V.int))) else none : Hp) a = some (.frz { cls := .type "list", data := .seq vs.toArray } (.lst (ns.map V.int))) := if_pos rfl
    refine core (fun b => if b = a then some (.frz { cls := .type "list", data := .seq vs.toArray } (.lst (ns.map V.int))) else none) (fun b => ?_) (.inl (.inr ⟨_, at1⟩)) (fun b u z => ?_) (fun b z => ?_) fun _ => hk
    · by_cases hb1 : b = a
      · exact .inr ⟨_, _, if_pos hb1⟩
      · exact .inl (if_neg hb1)
    · by_cases hb1 : b = a
      · have z1 := (if_pos hb1).symm.trans z
        cases z1
        subst hb1
        exact ⟨ha, by rw [List.length_map]; exact hl, vs, _, rv, ha⟩
      · have z1 := (if_neg hb1).symm.trans z
        cases z1
    · by_cases hb1 : b = a
      · exact hb1
      · exact absurd (if_neg hb1) z
end
theorem walkG {l : PySem.W.OpenLaw} {n k : Nat} {q : Program} {loose : List Str} {XP : (Str → Option Value) → Heap → Prop} {YP : World → Heap → Prop} {d : DefRec} {K : Params → PySem.W.Frag} {sp : PySem.W.Frag → Sp} {x : Str}
    (hn : l.most = some n) (hn2 : n ≤ sizeLine) (hdf : d.params.defaults = []) (hr : Room k callerA) (hY : ∀ (w : World) (h : Heap), YP w h → (K w.params).In h)
    (F : ∀ (w : World) (mg : Str → Option Value) (fa : Addr) (h : Heap), (K w.params).In h → h.Ns mainGlobals mg → mg d.name = some (.ref fa) →
      ∃ fd : FuncData, (∀ (s : Shared) (u : Value), BindsTo s fd ⟨[u], []⟩ [(x, u)]) ∧ ∀ base : Heap, (K w.params).In base → base.Ns mainGlobals mg → FnG l.prog w (K w.params) mg base k fa fd [x] (sp (K w.params)))
    (hsp : ∀ (K : PySem.W.Frag) (H : Hp) (a : Addr) (ns : List Int), ns.length ≤ n → (∀ z ∈ ns, Builtin.Int.intBits z ≤ 1048576) → Only H → SqL K H a (ns.map V.int) → sp K [.ref a] H (fun v _ => v = .bl true) fun _ _ _ => False) :
    PySem.W.WalkO q loose XP YP l.row.toRowW d [] (fun f vs => PySem.call f vs) := by
  refine Att.attach_callB hn hdf ?_
  intro w s₀ s₁ mg mb fa o pm cd doc a vs ns G Y ho hd hcd hmg hobj hints hlen hbits hg
  have KX := hY w _ Y
  obtain ⟨fd, hb, hF⟩ := F w mg fa _ KX G.T.g hmg
  exact lawG KX G.T.g G.T.b G.T.builtins G.T.nolimit hg hobj hints (Nat.le_trans hlen hn2) hr hF hb fun H hO hS => hsp _ H a ns hlen hbits hO hS
theorem SqL.but {K : PySem.W.Frag} {H H' : Hp} {a : Addr} {xs : List V} {fp : List Addr} (h : SqL K H a xs) (b : But fp H H') (n : a ∉ fp) : SqL K H' a xs := by
  rcases h with h | h
  · left
    rcases h with h | ⟨o, h⟩
    · exact .inl (b a _ h n)
    · exact .inr ⟨o, b a _ h n⟩
  · exact .inr h
theorem s_forR {σ : L2.St} {H : Hp} {ts : TA} {g : TG} {tb rest : TS} {D : Ends} {m : Int} (h : VA ts σ H [.int m]) (h0 : -(2 ^ 62) ≤ m) (h1 : m < 2 ^ 62) (q : tFor (fun _ H R => R (Itr 0 m.toNat) H) g tb { D with nx := rest D } σ H) :
    tSeq (tFor (iRng1 ts) g tb) rest D σ H := h _ ⟨m, rfl, h0, h1, q⟩
end Ly

set_option Elab.async false
set_option linter.all false
set_option maxRecDepth 100000
set_option maxHeartbeats 1000000
namespace K00
open PySem PySem.Spec PyProof.Rows L2 Ly
local macro_rules | `(tactic| walk_at "side") => `(tactic| first | assumption | rfl | decide | omega | (constructor <;> first | decide | omega) | (left; constructor <;> first | decide | omega) | (right; constructor <;> first | decide | omega))
local macro_rules | `(tactic| walk_at "val") => `(tactic| first
  | exact val_c
  | exact val_var rfl
  | exact va_nil
  | (refine' va_cons ?m1 ?m2; (case m1 => walk_at "val"); (case m2 => walk_at "val"))
  | (refine' v_add ?m1 ?m2; (case m1 => walk_at "val"); (case m2 => walk_at "val"))
  | (refine' v_sub ?m1 ?m2; (case m1 => walk_at "val"); (case m2 => walk_at "val"))
  | (refine' v_mul ?m1 ?m2 ?m3; (case m1 => walk_at "val"); (case m2 => walk_at "val"); (case m3 => walk_at "side"))
  | (refine' v_mod ?m1 ?m2 ?m3; (case m1 => walk_at "val"); (case m2 => walk_at "val"); (case m3 => walk_at "side"))
  | (refine' v_fdiv ?m1 ?m2 ?m3; (case m1 => walk_at "val"); (case m2 => walk_at "val"); (case m3 => walk_at "side"))
  | (refine' v_pow ?m1 ?m2 ?m3; (case m1 => walk_at "val"); (case m2 => walk_at "val"); (case m3 => walk_at "side"))
  | (refine' v_neg ?m1; (case m1 => walk_at "val"))
  | (refine' v_int1 ?m1; (case m1 => walk_at "val"))
  | (refine' v_abs ?m1; (case m1 => walk_at "val"))
  | (refine' v_max2 ?m1; (case m1 => walk_at "val"))
  | (refine' v_min2 ?m1; (case m1 => walk_at "val"))
  | (refine' v_lenL ?m1 ?m2; (case m1 => walk_at "val"); (case m2 => first | assumption | exact SqL.of (by assumption)))
  | (refine' v_ixL ?m1 ?m2 ?m3 ?m4; (case m1 => walk_at "val"); (case m2 => walk_at "val"); (case m3 => first | assumption | exact SqL.of (by assumption)); (case m4 => first | assumption | rfl)))
local macro_rules | `(tactic| walk_at "ans") => `(tactic| first
  | (refine' a_lt ?m1 ?m2; (case m1 => walk_at "val"); (case m2 => walk_at "val"))
  | (refine' a_gt ?m1 ?m2; (case m1 => walk_at "val"); (case m2 => walk_at "val"))
  | (refine' a_le ?m1 ?m2; (case m1 => walk_at "val"); (case m2 => walk_at "val"))
  | (refine' a_ge ?m1 ?m2; (case m1 => walk_at "val"); (case m2 => walk_at "val"))
  | (refine' a_eqI ?m1 ?m2; (case m1 => walk_at "val"); (case m2 => walk_at "val"))
  | (refine' a_neI ?m1 ?m2; (case m1 => walk_at "val"); (case m2 => walk_at "val")))
def topS (i : Nat) : Stmt := PySem.Challenge.pw_ladderdays_k00_errors_keep_their_value.main.body.getD i (.Pass ⟨0, 0, 0, 0⟩)
abbrev s__law_dl_sack : Stmt := topS 16
theorem sc__law_dl_sack : FnScope ["_law_script", "_law_rank", "_law_cell"] ["_law_script", "_law_rank"] (defScope s__law_dl_sack) := ⟨rfl, rfl, rfl, by decide +kernel, rfl, by decide +kernel, by decide +kernel⟩
abbrev s__law_dl_pick : Stmt := topS 17
theorem sc__law_dl_pick : FnScope ["_law_sack", "_law_many", "_law_drawn", "_law_stirred"] ["_law_sack", "_law_many"] (defScope s__law_dl_pick) := ⟨rfl, rfl, rfl, by decide +kernel, rfl, by decide +kernel, by decide +kernel⟩
abbrev s__law_dl_ranks : Stmt := topS 18
theorem sc__law_dl_ranks : FnScope ["_law_thing", "_law_ranks", "_law_part"] ["_law_thing", "_law_ranks"] (defScope s__law_dl_ranks) := ⟨rfl, rfl, rfl, by decide +kernel, rfl, by decide +kernel, by decide +kernel⟩
abbrev s__law_dl_first_error : Stmt := topS 19
theorem sc__law_dl_first_error : FnScope ["_law_rank", "_law_thing", "_law_is_named"] ["_law_rank", "_law_thing", "_law_is_named"] (defScope s__law_dl_first_error) := ⟨rfl, rfl, rfl, by decide +kernel, rfl, by decide +kernel, by decide +kernel⟩
abbrev s__law_dl_made_error : Stmt := topS 20
theorem sc__law_dl_made_error : FnScope ["_law_rank", "_law_thing", "_law_is_named"] ["_law_rank", "_law_thing", "_law_is_named"] (defScope s__law_dl_made_error) := ⟨rfl, rfl, rfl, by decide +kernel, rfl, by decide +kernel, by decide +kernel⟩
abbrev s__law_dl_of_kinds : Stmt := topS 21
theorem sc__law_dl_of_kinds : FnScope ["_law_caught", "_law_found", "_law_rank"] ["_law_caught"] (defScope s__law_dl_of_kinds) := ⟨rfl, rfl, rfl, by decide +kernel, rfl, by decide +kernel, by decide +kernel⟩
abbrev s__law_right : Stmt := topS 22
theorem sc__law_right : FnScope ["_law_sack", "_law_number", "_law_things", "_law_thing", "_law_second", "_law_rank", "_law_other_rank", "_law_elder", "_law_caught", "_law_error"] ["_law_sack"] (defScope s__law_right) := ⟨rfl, rfl, rfl, by decide +kernel, rfl, by decide +kernel, by decide +kernel⟩
abbrev s_law : Stmt := topS 23
theorem sc_law : FnScope ["_law_script", "_law_rank"] ["_law_script"] (defScope s_law) := ⟨rfl, rfl, rfl, by decide +kernel, rfl, by decide +kernel, by decide +kernel⟩
abbrev s_init : Stmt := inClass (topS 1) 0
theorem sc_init : FnScope ["self", "value"] ["self", "value"] (defScope s_init) := ⟨rfl, rfl, rfl, by decide +kernel, rfl, by decide +kernel, by decide +kernel⟩
structure Tx (K : PySem.W.Frag) (mg : Str → Option Value) where
  m_max : mg "max" = none
  m_len : mg "len" = none
  m_int : mg "int" = none
  m_abs : mg "abs" = none
  m_isinstance : mg "isinstance" = none
  m_list : mg "list" = none
  m_tuple : mg "tuple" = none
  m_range : mg "range" = none
  m_repr : mg "repr" = none
  m_sorted : mg "sorted" = none
  m_ValueError : mg "ValueError" = none
  m_set : mg "set" = none
  m_min : mg "min" = none
  f__law_dl_sack : Addr
  d__law_dl_sack : FuncData
  F__law_dl_sack : Fun K "_law_dl_sack" "_law_dl_sack" s__law_dl_sack f__law_dl_sack d__law_dl_sack
  g__law_dl_sack : mg "_law_dl_sack" = some (.ref f__law_dl_sack)
  b__law_dl_sack : Binds K d__law_dl_sack ["_law_script", "_law_rank"] []
  f__law_dl_pick : Addr
  d__law_dl_pick : FuncData
  F__law_dl_pick : Fun K "_law_dl_pick" "_law_dl_pick" s__law_dl_pick f__law_dl_pick d__law_dl_pick
  g__law_dl_pick : mg "_law_dl_pick" = some (.ref f__law_dl_pick)
  b__law_dl_pick : Binds K d__law_dl_pick ["_law_sack", "_law_many"] []
  f__law_dl_ranks : Addr
  d__law_dl_ranks : FuncData
  F__law_dl_ranks : Fun K "_law_dl_ranks" "_law_dl_ranks" s__law_dl_ranks f__law_dl_ranks d__law_dl_ranks
  g__law_dl_ranks : mg "_law_dl_ranks" = some (.ref f__law_dl_ranks)
  b__law_dl_ranks : Binds K d__law_dl_ranks ["_law_thing", "_law_ranks"] []
  f__law_dl_first_error : Addr
  d__law_dl_first_error : FuncData
  F__law_dl_first_error : Fun K "_law_dl_first_error" "_law_dl_first_error" s__law_dl_first_error f__law_dl_first_error d__law_dl_first_error
  g__law_dl_first_error : mg "_law_dl_first_error" = some (.ref f__law_dl_first_error)
  b__law_dl_first_error : Binds K d__law_dl_first_error ["_law_rank", "_law_thing", "_law_is_named"] []
  f__law_dl_made_error : Addr
  d__law_dl_made_error : FuncData
  F__law_dl_made_error : Fun K "_law_dl_made_error" "_law_dl_made_error" s__law_dl_made_error f__law_dl_made_error d__law_dl_made_error
  g__law_dl_made_error : mg "_law_dl_made_error" = some (.ref f__law_dl_made_error)
  b__law_dl_made_error : Binds K d__law_dl_made_error ["_law_rank", "_law_thing", "_law_is_named"] []
  f__law_dl_of_kinds : Addr
  d__law_dl_of_kinds : FuncData
  F__law_dl_of_kinds : Fun K "_law_dl_of_kinds" "_law_dl_of_kinds" s__law_dl_of_kinds f__law_dl_of_kinds d__law_dl_of_kinds
  g__law_dl_of_kinds : mg "_law_dl_of_kinds" = some (.ref f__law_dl_of_kinds)
  b__law_dl_of_kinds : Binds K d__law_dl_of_kinds ["_law_caught"] []
  f__law_right : Addr
  d__law_right : FuncData
  F__law_right : Fun K "_law_right" "_law_right" s__law_right f__law_right d__law_right
  g__law_right : mg "_law_right" = some (.ref f__law_right)
  b__law_right : Binds K d__law_right ["_law_sack"] []
  f_law : Addr
  d_law : FuncData
  F_law : Fun K "law" "law" s_law f_law d_law
  g_law : mg "law" = some (.ref f_law)
  b_law : Binds K d_law ["_law_script"] []
  f_init : Addr
  d_init : FuncData
  F_init : Fun K "__init__" "DaysError.__init__" s_init f_init d_init
  bp_init : ∀ (s : Shared) (a u : Value), BindsTo s d_init ⟨[a, u], []⟩ ((["self", "value"] : List Str).zip [a, u])
  bk_init : ∀ (s : Shared) (a u : Value), BindsTo s d_init ⟨[a], [("value", u)]⟩ ((["self", "value"] : List Str).zip [a, u])
  C_DaysError : Addr
  g_DaysError : mg "DaysError" = some (.ref C_DaysError)
  X_DaysError : EC K C_DaysError f_init
  C_InvalidRow : Addr
  g_InvalidRow : mg "InvalidRow" = some (.ref C_InvalidRow)
  X_InvalidRow : EC K C_InvalidRow f_init
  C_InvalidLadder : Addr
  g_InvalidLadder : mg "InvalidLadder" = some (.ref C_InvalidLadder)
  X_InvalidLadder : EC K C_InvalidLadder f_init
  C_InvalidSet : Addr
  g_InvalidSet : mg "InvalidSet" = some (.ref C_InvalidSet)
  X_InvalidSet : EC K C_InvalidSet f_init
  C_InvalidNumber : Addr
  g_InvalidNumber : mg "InvalidNumber" = some (.ref C_InvalidNumber)
  X_InvalidNumber : EC K C_InvalidNumber f_init
  C_InvalidYears : Addr
  g_InvalidYears : mg "InvalidYears" = some (.ref C_InvalidYears)
  X_InvalidYears : EC K C_InvalidYears f_init
  C_InvalidDate : Addr
  g_InvalidDate : mg "InvalidDate" = some (.ref C_InvalidDate)
  X_InvalidDate : EC K C_InvalidDate f_init
  C_InvalidName : Addr
  g_InvalidName : mg "InvalidName" = some (.ref C_InvalidName)
  X_InvalidName : EC K C_InvalidName f_init
  C_DoubleName : Addr
  g_DoubleName : mg "DoubleName" = some (.ref C_DoubleName)
  X_DoubleName : EC K C_DoubleName f_init
  C_UnknownName : Addr
  g_UnknownName : mg "UnknownName" = some (.ref C_UnknownName)
  X_UnknownName : EC K C_UnknownName f_init
  C_NoDays : Addr
  g_NoDays : mg "NoDays" = some (.ref C_NoDays)
  X_NoDays : EC K C_NoDays f_init
  C_InvalidNote : Addr
  g_InvalidNote : mg "InvalidNote" = some (.ref C_InvalidNote)
  X_InvalidNote : EC K C_InvalidNote f_init
  C_NothingToUndo : Addr
  g_NothingToUndo : mg "NothingToUndo" = some (.ref C_NothingToUndo)
  X_NothingToUndo : EC K C_NothingToUndo f_init
  C_Unreadable : Addr
  g_Unreadable : mg "Unreadable" = some (.ref C_Unreadable)
  X_Unreadable : EC K C_Unreadable f_init
  kits : kitsB K [C_DaysError, C_InvalidRow, C_InvalidLadder, C_InvalidSet, C_InvalidNumber, C_InvalidYears, C_InvalidDate, C_InvalidName, C_DoubleName, C_UnknownName, C_NoDays, C_InvalidNote, C_NothingToUndo, C_Unreadable] = true
def Tx.cs {K : PySem.W.Frag} {mg : Str → Option Value} (T : Tx K mg) : List Addr := [T.C_DaysError, T.C_InvalidRow, T.C_InvalidLadder, T.C_InvalidSet, T.C_InvalidNumber, T.C_InvalidYears, T.C_InvalidDate, T.C_InvalidName, T.C_DoubleName, T.C_UnknownName, T.C_NoDays, T.C_InvalidNote, T.C_NothingToUndo, T.C_Unreadable]
theorem Tx.ec {K : PySem.W.Frag} {mg : Str → Option Value} (T : Tx K mg) : ∀ k : Nat, k < 14 → EC K (T.cs.getD k 0) T.f_init
  | 0, _ => T.X_DaysError
  | 1, _ => T.X_InvalidRow
  | 2, _ => T.X_InvalidLadder
  | 3, _ => T.X_InvalidSet
  | 4, _ => T.X_InvalidNumber
  | 5, _ => T.X_InvalidYears
  | 6, _ => T.X_InvalidDate
  | 7, _ => T.X_InvalidName
  | 8, _ => T.X_DoubleName
  | 9, _ => T.X_UnknownName
  | 10, _ => T.X_NoDays
  | 11, _ => T.X_InvalidNote
  | 12, _ => T.X_NothingToUndo
  | 13, _ => T.X_Unreadable
  | k + 14, h => absurd h (by omega)

section
variable {P : Program} {w : World} {K : PySem.W.Frag} {mg : Str → Option Value} {base : Heap}
theorem ok_sack (T : Tx K mg) : FnG P w K mg base 1 T.f__law_dl_sack T.d__law_dl_sack ["_law_script", "_law_rank"] (spSack K) := by
  refine gOf T.F__law_dl_sack sc__law_dl_sack (fun vs H Q E h => ?_) (fun cdv A outer s H vs Q E hA hr h => ?_)
  · obtain ⟨a, ns, r, rfl, _⟩ := h
    rfl
  · obtain ⟨a, ns, r, rfl, hS, h0, h1, q⟩ := h
    refine ⟨_, (pss_cons (ps_set (i := 2) sc__law_dl_sack.nd rfl (.inl rfl) (pe_ifExp (pt_cmpR op_lt (pv 1) (pe_callB (len_K (K := K) rfl) (by rfl) T.m_len (by decide +kernel) (pa_cons (pv 0) pa_nil)) (nomark _)) (pe_ix (ix_K (K := K) rfl) (pv 0) (pv 1) (fun _ _ => rfl)) pe_int))
      (pss_one (ps_ret (pe_lst (pa_cons (pe_callB (call_max2 rfl) (by rfl) T.m_max (by decide +kernel) (pa_cons pe_int (pa_cons (pe_op op_sub (pe_callB call_abs (by rfl) T.m_abs (by decide +kernel) (pa_cons (pv 2) pa_nil)) (pe_op op_powL pe_int pe_int)) pa_nil))) (pa_cons (pe_op op_mod (pe_callTy call_int1 (by rfl) T.m_int (by decide +kernel) (pa_cons (pe_op op_addU (pe_op op_addU (pe_op op_mulU (pv 2) pe_int) (pe_op op_mulU (pv 1) pe_int)) pe_int) pa_nil)) (pe_op op_addU (pe_op op_powL pe_int pe_int) pe_int)) (pa_cons pe_int pa_nil))))))), ?_⟩
    have hc : ∃ c : Int, Val (tIf (tTest (tOp (rI0 fun i j => .bl (decide (i < j))) (tVar 1) (tCB (rLenU K) (tCons (tVar 0) tNil)))) (tOp (rIxU K) (tVar 0) (tVar 1)) (tC (.int 0))) (start ["_law_script", "_law_rank", "_law_cell"] [.ref a, .int r]) H (.int c) := by
      by_cases hlt : r < (ns.map V.int).length
      · obtain ⟨n, rfl⟩ : ∃ n : Nat, r = n := ⟨r.toNat, by omega⟩
        have hn : n < ns.length := by
          rw [List.length_map] at hlt
          omega
        have hat : atI (ns.map V.int) (n : Int) = some (.int ns[n]) := by
          refine atI_nat (j := n) ?_
          rw [List.getElem?_map, List.getElem?_eq_getElem hn]
          rfl
        refine ⟨ns[n], v_ifT ?_ ?_⟩
        · rw [← decide_eq_true hlt]
          walk_at "ans"
        · walk_at "val"
      · refine ⟨0, v_ifF ?_ ?_⟩
        · rw [← decide_eq_false hlt]
          walk_at "ans"
        · walk_at "val"
    obtain ⟨c, hc⟩ := hc
    refine s_asg hc ?_
    refine l_lst (vs := ?q1) ?q2 ?q3 ?q4
    case q2 => walk_at "val"
    case q3 =>
      show 3 ≤ sizeLine
      decide
    case q4 =>
      refine fun p hp => q p _ hp ⟨_, _, _, rfl, ?_, ?_, ?_, ?_, ?_⟩
      · split <;> omega
      · exact Int.emod_nonneg _ (by decide)
      · exact Int.lt_trans (Int.emod_lt_of_pos _ (by decide)) (by decide)
      · decide
      · decide
theorem ok_pick (T : Tx K mg) : FnG P w K mg base 1 T.f__law_dl_pick T.d__law_dl_pick ["_law_sack", "_law_many"] spPick := by
  refine gOf T.F__law_dl_pick sc__law_dl_pick (fun vs H Q E h => ?_) (fun cdv A outer s H vs Q E hA hr h => ?_)
  · obtain ⟨a, xs, m, b, rfl, _⟩ := h
    rfl
  · obtain ⟨a, xs, m, b, rfl, hS, ⟨s0, s1, s2, rfl, p0, p1, p2, p3, p4⟩, hb, m0, m1, q⟩ := h
    refine ⟨_, (pss_cons (ps_if (pt_cmpR op_gt (pe_ix (ix_K (K := K) rfl) (pv 0) pe_int (fun _ _ => rfl)) pe_int (nomark _)) (pss_cons (ps_set (i := 2) sc__law_dl_pick.nd rfl (.inl rfl) (pe_op op_mod (pe_callTy call_int1 (by rfl) T.m_int (by decide +kernel) (pa_cons (pe_ix (ix_K (K := K) rfl) (pv 0) pe_int (fun _ _ => rfl)) pa_nil)) (pv 1)))
      (pss_cons (ps_asg (pe_op op_fdivW (pe_ix (ix_K (K := K) rfl) (pv 0) pe_int (fun _ _ => rfl)) (pv 1)) (pg_sub (pv 0) pe_int set_list))
      (pss_one (ps_ret (pv 2))))) pss_nil)
      (pss_cons (ps_asg (pe_op op_addU (pe_ix (ix_K (K := K) rfl) (pv 0) pe_int (fun _ _ => rfl)) pe_int) (pg_sub (pv 0) pe_int set_list))
      (pss_cons (ps_set (i := 3) sc__law_dl_pick.nd rfl (.inl rfl) (pe_op op_mod (pe_op op_powL (pe_callTy call_int1 (by rfl) T.m_int (by decide +kernel) (pa_cons (pe_op op_addU (pe_ix (ix_K (K := K) rfl) (pv 0) pe_int (fun _ _ => rfl)) (pe_op op_mulU pe_int (pe_ix (ix_K (K := K) rfl) (pv 0) pe_int (fun _ _ => rfl)))) pa_nil)) pe_int) (pe_op op_addU (pe_op op_powL pe_int pe_int) pe_int)))
      (pss_cons (ps_set (i := 3) sc__law_dl_pick.nd rfl (.inl rfl) (pe_op op_mod (pe_op op_powL (pe_callTy call_int1 (by rfl) T.m_int (by decide +kernel) (pa_cons (pe_op op_addU (pv 3) (pe_op op_mulU pe_int (pe_ix (ix_K (K := K) rfl) (pv 0) pe_int (fun _ _ => rfl)))) pa_nil)) pe_int) (pe_op op_addU (pe_op op_powL pe_int pe_int) pe_int)))
      (pss_one (ps_ret (pe_op op_mod (pe_callTy call_int1 (by rfl) T.m_int (by decide +kernel) (pa_cons (pe_op op_fdivW (pv 3) pe_int) pa_nil)) (pv 1)))))))), ?_⟩
    have zs : ∀ x y z : Int, ixN ([V.int x, .int y, .int z] : List V).length 0 = some 0 := fun _ _ _ => rfl
    have zt : ∀ x y z : Int, ixN ([V.int x, .int y, .int z] : List V).length 2 = some 2 := fun _ _ _ => rfl
    refine s_ifN (b := decide (1 < s0)) ?q5 ?q6 ?q7
    case q5 => walk_at "ans"
    case q6 =>
      intro hd
      have hd := of_decide_eq_true hd
      refine s_asg (v := ?q8) ?q9 ?q10
      case q9 => walk_at "val"
      case q10 =>
        refine s_put (v := ?q11) (a := a) (i := 0) ?q12 ?q13 ?q14 hS (zs _ _ _) ?q15
        case q12 =>
          refine v_fdiv (i := s0) (j := m) ?q16 ?q17 ?q18
          · walk_at "val"
          · walk_at "val"
          · exact wide_div m0 (b := 8000) (by omega) (by decide) (by decide)
        case q13 => walk_at "val"
        case q14 => walk_at "val"
        case q15 =>
          refine s_ret (v := .int (s0 % m)) (by walk_at "val") ?_
          refine q _ _ ⟨s0 / m, s1, s2, rfl, Int.ediv_nonneg (by omega) (by omega), p1, p2, p3, by omega⟩ (Int.emod_nonneg _ (by omega)) (Int.emod_lt_of_pos _ m0)
    case q7 =>
      intro hd
      refine s_put (v := ?q19) (a := a) (i := 2) ?q20 ?q21 ?q22 hS (zt _ _ _) ?q23
      case q20 => walk_at "val"
      case q21 => walk_at "val"
      case q22 => walk_at "val"
      case q23 =>
        have hS2 : (upd H a (.lst ([V.int s0, .int s1, .int s2].set 2 (.int (s2 + 1))))) a = some (.lst [.int s0, .int s1, .int (s2 + 1)]) := upd_same
        generalize hu : upd H a (.lst ([V.int s0, .int s1, .int s2].set 2 (.int (s2 + 1)))) = H2 at hS2 ⊢
        have a0 : 0 ≤ s1 + 1500450271 * (s2 + 1) := by omega
        have a1 : (s1 + 1500450271 * (s2 + 1)).natAbs < 2 ^ 140 := by
          have e1 : (2 : Int) ^ 120 = 1329227995784915872903807060280344576 := by decide
          have e2 : (2 : Nat) ^ 140 = 1393796574908163946345982392040522594123776 := by decide
          have e3 : (2 : Nat) ^ 100 = 1267650600228229401496703205376 := by decide
          rw [e1] at p2
          rw [e3] at hb
          rw [e2]
          omega
        refine s_asg (v := .int ((s1 + 1500450271 * (s2 + 1)) ^ 3 % (10 ^ 40 + 121))) ?q24 ?q25
        case q24 =>
          refine v_mod ?q26 ?q27 (by decide)
          case q26 =>
            refine v_pow (n := 3) ?q28 ?q29 (powC_of a1 (by decide) (by decide))
            · walk_at "val"
            · exact val_c
          case q27 => walk_at "val"
        case q25 =>
          generalize ht : (s1 + 1500450271 * (s2 + 1)) ^ 3 % (10 ^ 40 + 121) = t
          have t0 : 0 ≤ t := by rw [← ht]; exact Int.emod_nonneg _ (by decide)
          have t1 : t < 10 ^ 40 + 121 := by rw [← ht]; exact Int.emod_lt_of_pos _ (by decide)
          have b1 : (t + 32416190071 * (s2 + 1)).natAbs < 2 ^ 140 := by
            have e1 : (10 : Int) ^ 40 = 10000000000000000000000000000000000000000 := by decide
            have e2 : (2 : Nat) ^ 140 = 1393796574908163946345982392040522594123776 := by decide
            have e3 : (2 : Nat) ^ 100 = 1267650600228229401496703205376 := by decide
            rw [e1] at t1
            rw [e3] at hb
            rw [e2]
            omega
          refine s_asg (v := .int ((t + 32416190071 * (s2 + 1)) ^ 2 % (10 ^ 36 + 67))) ?q30 ?q31
          case q30 =>
            refine v_mod ?q32 ?q33 (by decide)
            case q32 =>
              refine v_pow (n := 2) ?q34 ?q35 (powC_of b1 (by decide) (by decide))
              · walk_at "val"
              · exact val_c
            case q33 => walk_at "val"
          case q31 =>
            generalize (t + 32416190071 * (s2 + 1)) ^ 2 % (10 ^ 36 + 67) = z
            refine s_ret (v := .int (z / 4096 % m)) ?q36 ?q37
            case q36 =>
              refine v_mod (v_int1 (va_cons (v_fdiv (i := z) (j := 4096) (by walk_at "val") (by walk_at "val") (wide_div (by decide) (b := 13) (by decide) (by decide) (by decide))) va_nil)) (by walk_at "val") m0
            case q37 =>
              rw [← hu]
              exact q _ _ ⟨s0, s1, s2 + 1, rfl, p0, p1, p2, by omega, by omega⟩ (Int.emod_nonneg _ (by omega)) (Int.emod_lt_of_pos _ m0)
theorem ok_ranks (T : Tx K mg) : ∀ n : Nat, FnG P w K mg base n T.f__law_dl_ranks T.d__law_dl_ranks ["_law_thing", "_law_ranks"] (spRanks n)
  | 0 => ⟨fun vs H Q E h => by obtain ⟨_, _, _, _, _, _, _, _, _, z, _⟩ := h; exact absurd z (Nat.not_lt_zero _), fun A _ o s H args us vs Q E hr he hb hv h => by obtain ⟨_, _, _, _, _, _, _, _, _, z, _⟩ := h; exact absurd z (Nat.not_lt_zero _)⟩
  | k + 1 => by
    have G__law_dl_ranks := ok_ranks T k
    refine gOf T.F__law_dl_ranks sc__law_dl_ranks (fun vs H Q E h => ?_) (fun cdv A outer s H vs Q E hA hr h => ?_)
    · obtain ⟨v, r, d, fp, n, rfl, _⟩ := h
      rfl
    · obtain ⟨v, r, d, fp, n, rfl, t, hR, nr, hd, hsl, q⟩ := h
      exact ⟨t_rk K (spRanks k), (pss_cons (ps_if (tr_K (K := K) rfl (pe_callB (isi_K (K := K) rfl) (by rfl) T.m_isinstance (by decide +kernel) (pa_cons (pv 0) (pa_cons (pe_tup (pa_cons (pe_bltn (v := .ty "list") (by rfl) T.m_list (by decide +kernel) rfl) (pa_cons (pe_bltn (v := .ty "tuple") (by rfl) T.m_tuple (by decide +kernel) rfl) pa_nil))) pa_nil)))) (pss_one (ps_for PassesOwn.never rfl (il_K (K := K) rfl (pe_callTy (lof_K (K := K) rfl) (by rfl) T.m_list (by decide +kernel) (pa_cons (pv 0) pa_nil))) (pg_name (i := 2) sc__law_dl_ranks.nd rfl (.inl rfl))
      (pss_one (ps_expr (pe_g G__law_dl_ranks hA hr (by rfl) T.g__law_dl_ranks T.F__law_dl_ranks.kp T.b__law_dl_ranks (pa_cons (pv 2) (pa_cons (pv 1) pa_nil))))))) pss_nil)
      (pss_one (ps_if (tr_K (K := K) rfl (pe_callB (isi_K (K := K) rfl) (by rfl) T.m_isinstance (by decide +kernel) (pa_cons (pv 0) (pa_cons (pe_bltn (v := .ty "list") (by rfl) T.m_list (by decide +kernel) rfl) pa_nil)))) (pss_cons (ps_expr (app_K (K := K) rfl (pv 0) (pa_cons (pe_ix (ix_K (K := K) rfl) (pv 1) pe_int (fun _ _ => rfl)) pa_nil)))
      (pss_one (ps_asg (pe_op op_addU (pe_ix (ix_K (K := K) rfl) (pv 1) pe_int (fun _ _ => rfl)) pe_int) (pg_sub (pv 1) pe_int set_list)))) pss_nil))), rk_read t hR nr hd hsl q rfl⟩
theorem ok_init (T : Tx K mg) : FnOk P w K mg base CX0 1 T.f_init T.d_init ["self", "value"] (spInit K) := by
  refine T.F_init.ok sc_init (fun vs H Q E h => ?_) (fun cdv A outer s H vs Q E hr h => ?_)
  · obtain ⟨a, C, v, rfl, _⟩ := h
    rfl
  · obtain ⟨a, C, v, rfl, ha, O, nv, q⟩ := h
    exact ⟨_, pss_one (ps_ost (pv 0) (pv 1)), init_read rfl ha O nv q⟩
def spErr (T : Tx K mg) (lo hi : Nat) : Sp := fun vs H Q _ => ∃ (k : Nat) (v : V) (b : Bool), vs = [.int k, v, .bl b] ∧ lo ≤ k ∧ k < hi ∧ ∀ H' a, But [] H H' → H a = none → ErrAt H' a (T.cs.getD k 0) v → Q (.ref a) H'
theorem ok_first (T : Tx K mg) : FnG P w K mg base 3 T.f__law_dl_first_error T.d__law_dl_first_error ["_law_rank", "_law_thing", "_law_is_named"] (spErr T 0 7) := by
  have G_init := ok_init (P := P) (w := w) (base := base) T
  refine gOf T.F__law_dl_first_error sc__law_dl_first_error (fun vs H Q E h => ?_) (fun cdv A outer s H vs Q E hA hr h => ?_)
  · obtain ⟨k, v, b, rfl, _⟩ := h
    rfl
  · obtain ⟨k, v, b, rfl, _, hk, q⟩ := h
    refine ⟨_, (pss_cons (ps_if (pt_cmpR (eq_K (K := K) rfl hr.units) (pv 0) pe_int (nomark _)) (pss_one (ps_ret (pe_ifExp (tr_K (K := K) rfl (pv 2)) (pe_exk T.X_DaysError.ox T.X_DaysError.iC T.X_DaysError.tI G_init (hr.mono (by decide)) T.bk_init (by rfl) T.g_DaysError (pk_cons (pv 1) pk_nil)) (pe_exv T.X_DaysError.ox T.X_DaysError.iC T.X_DaysError.tI G_init (hr.mono (by decide)) T.bp_init (by rfl) T.g_DaysError (pa_cons (pv 1) pa_nil))))) pss_nil)
      (pss_cons (ps_if (pt_cmpR (eq_K (K := K) rfl hr.units) (pv 0) pe_int (nomark _)) (pss_one (ps_ret (pe_ifExp (tr_K (K := K) rfl (pv 2)) (pe_exk T.X_InvalidRow.ox T.X_InvalidRow.iC T.X_InvalidRow.tI G_init (hr.mono (by decide)) T.bk_init (by rfl) T.g_InvalidRow (pk_cons (pv 1) pk_nil)) (pe_exv T.X_InvalidRow.ox T.X_InvalidRow.iC T.X_InvalidRow.tI G_init (hr.mono (by decide)) T.bp_init (by rfl) T.g_InvalidRow (pa_cons (pv 1) pa_nil))))) pss_nil)
      (pss_cons (ps_if (pt_cmpR (eq_K (K := K) rfl hr.units) (pv 0) pe_int (nomark _)) (pss_one (ps_ret (pe_ifExp (tr_K (K := K) rfl (pv 2)) (pe_exk T.X_InvalidLadder.ox T.X_InvalidLadder.iC T.X_InvalidLadder.tI G_init (hr.mono (by decide)) T.bk_init (by rfl) T.g_InvalidLadder (pk_cons (pv 1) pk_nil)) (pe_exv T.X_InvalidLadder.ox T.X_InvalidLadder.iC T.X_InvalidLadder.tI G_init (hr.mono (by decide)) T.bp_init (by rfl) T.g_InvalidLadder (pa_cons (pv 1) pa_nil))))) pss_nil)
      (pss_cons (ps_if (pt_cmpR (eq_K (K := K) rfl hr.units) (pv 0) pe_int (nomark _)) (pss_one (ps_ret (pe_ifExp (tr_K (K := K) rfl (pv 2)) (pe_exk T.X_InvalidSet.ox T.X_InvalidSet.iC T.X_InvalidSet.tI G_init (hr.mono (by decide)) T.bk_init (by rfl) T.g_InvalidSet (pk_cons (pv 1) pk_nil)) (pe_exv T.X_InvalidSet.ox T.X_InvalidSet.iC T.X_InvalidSet.tI G_init (hr.mono (by decide)) T.bp_init (by rfl) T.g_InvalidSet (pa_cons (pv 1) pa_nil))))) pss_nil)
      (pss_cons (ps_if (pt_cmpR (eq_K (K := K) rfl hr.units) (pv 0) pe_int (nomark _)) (pss_one (ps_ret (pe_ifExp (tr_K (K := K) rfl (pv 2)) (pe_exk T.X_InvalidNumber.ox T.X_InvalidNumber.iC T.X_InvalidNumber.tI G_init (hr.mono (by decide)) T.bk_init (by rfl) T.g_InvalidNumber (pk_cons (pv 1) pk_nil)) (pe_exv T.X_InvalidNumber.ox T.X_InvalidNumber.iC T.X_InvalidNumber.tI G_init (hr.mono (by decide)) T.bp_init (by rfl) T.g_InvalidNumber (pa_cons (pv 1) pa_nil))))) pss_nil)
      (pss_cons (ps_if (pt_cmpR (eq_K (K := K) rfl hr.units) (pv 0) pe_int (nomark _)) (pss_one (ps_ret (pe_ifExp (tr_K (K := K) rfl (pv 2)) (pe_exk T.X_InvalidYears.ox T.X_InvalidYears.iC T.X_InvalidYears.tI G_init (hr.mono (by decide)) T.bk_init (by rfl) T.g_InvalidYears (pk_cons (pv 1) pk_nil)) (pe_exv T.X_InvalidYears.ox T.X_InvalidYears.iC T.X_InvalidYears.tI G_init (hr.mono (by decide)) T.bp_init (by rfl) T.g_InvalidYears (pa_cons (pv 1) pa_nil))))) pss_nil)
      (pss_one (ps_ret (pe_ifExp (tr_K (K := K) rfl (pv 2)) (pe_exk T.X_InvalidDate.ox T.X_InvalidDate.iC T.X_InvalidDate.tI G_init (hr.mono (by decide)) T.bk_init (by rfl) T.g_InvalidDate (pk_cons (pv 1) pk_nil)) (pe_exv T.X_InvalidDate.ox T.X_InvalidDate.iC T.X_InvalidDate.tI G_init (hr.mono (by decide)) T.bp_init (by rfl) T.g_InvalidDate (pa_cons (pv 1) pa_nil))))))))))), ?_⟩
    refine s_ifN (b := decide ((k : Int) = 0)) (by walk_at "ans") (fun e => ?_) (fun e0 => ?_)
    · have e1 : k = 0 := by
        have z := of_decide_eq_true e
        omega
      subst e1
      exact err_ret (by walk_at "val") (val_var rfl) T.X_DaysError.ox T.X_DaysError.nv fun H' a b1 b2 b3 => q H' a b1 b2 b3
    replace e0 := of_decide_eq_false e0
    refine s_ifN (b := decide ((k : Int) = 1)) (by walk_at "ans") (fun e => ?_) (fun e1 => ?_)
    · have e1 : k = 1 := by
        have z := of_decide_eq_true e
        omega
      subst e1
      exact err_ret (by walk_at "val") (val_var rfl) T.X_InvalidRow.ox T.X_InvalidRow.nv fun H' a b1 b2 b3 => q H' a b1 b2 b3
    replace e1 := of_decide_eq_false e1
    refine s_ifN (b := decide ((k : Int) = 2)) (by walk_at "ans") (fun e => ?_) (fun e2 => ?_)
    · have e1 : k = 2 := by
        have z := of_decide_eq_true e
        omega
      subst e1
      exact err_ret (by walk_at "val") (val_var rfl) T.X_InvalidLadder.ox T.X_InvalidLadder.nv fun H' a b1 b2 b3 => q H' a b1 b2 b3
    replace e2 := of_decide_eq_false e2
    refine s_ifN (b := decide ((k : Int) = 3)) (by walk_at "ans") (fun e => ?_) (fun e3 => ?_)
    · have e1 : k = 3 := by
        have z := of_decide_eq_true e
        omega
      subst e1
      exact err_ret (by walk_at "val") (val_var rfl) T.X_InvalidSet.ox T.X_InvalidSet.nv fun H' a b1 b2 b3 => q H' a b1 b2 b3
    replace e3 := of_decide_eq_false e3
    refine s_ifN (b := decide ((k : Int) = 4)) (by walk_at "ans") (fun e => ?_) (fun e4 => ?_)
    · have e1 : k = 4 := by
        have z := of_decide_eq_true e
        omega
      subst e1
      exact err_ret (by walk_at "val") (val_var rfl) T.X_InvalidNumber.ox T.X_InvalidNumber.nv fun H' a b1 b2 b3 => q H' a b1 b2 b3
    replace e4 := of_decide_eq_false e4
    refine s_ifN (b := decide ((k : Int) = 5)) (by walk_at "ans") (fun e => ?_) (fun e5 => ?_)
    · have e1 : k = 5 := by
        have z := of_decide_eq_true e
        omega
      subst e1
      exact err_ret (by walk_at "val") (val_var rfl) T.X_InvalidYears.ox T.X_InvalidYears.nv fun H' a b1 b2 b3 => q H' a b1 b2 b3
    replace e5 := of_decide_eq_false e5
    have e6 : k = 6 := by omega
    subst e6
    exact err_ret (by walk_at "val") (val_var rfl) T.X_InvalidDate.ox T.X_InvalidDate.nv fun H' a b1 b2 b3 => q H' a b1 b2 b3
theorem ok_made (T : Tx K mg) : FnG P w K mg base 4 T.f__law_dl_made_error T.d__law_dl_made_error ["_law_rank", "_law_thing", "_law_is_named"] (spErr T 0 14) := by
  have G_init := ok_init (P := P) (w := w) (base := base) T
  have G__law_dl_first_error := ok_first (P := P) (w := w) (base := base) T
  refine gOf T.F__law_dl_made_error sc__law_dl_made_error (fun vs H Q E h => ?_) (fun cdv A outer s H vs Q E hA hr h => ?_)
  · obtain ⟨k, v, b, rfl, _⟩ := h
    rfl
  · obtain ⟨k, v, b, rfl, _, hk, q⟩ := h
    refine ⟨_, (pss_cons (ps_if (pt_cmpR (eq_K (K := K) rfl hr.units) (pv 0) pe_int (nomark _)) (pss_one (ps_ret (pe_ifExp (tr_K (K := K) rfl (pv 2)) (pe_exk T.X_InvalidName.ox T.X_InvalidName.iC T.X_InvalidName.tI G_init (hr.mono (by decide)) T.bk_init (by rfl) T.g_InvalidName (pk_cons (pv 1) pk_nil)) (pe_exv T.X_InvalidName.ox T.X_InvalidName.iC T.X_InvalidName.tI G_init (hr.mono (by decide)) T.bp_init (by rfl) T.g_InvalidName (pa_cons (pv 1) pa_nil))))) pss_nil)
      (pss_cons (ps_if (pt_cmpR (eq_K (K := K) rfl hr.units) (pv 0) pe_int (nomark _)) (pss_one (ps_ret (pe_ifExp (tr_K (K := K) rfl (pv 2)) (pe_exk T.X_DoubleName.ox T.X_DoubleName.iC T.X_DoubleName.tI G_init (hr.mono (by decide)) T.bk_init (by rfl) T.g_DoubleName (pk_cons (pv 1) pk_nil)) (pe_exv T.X_DoubleName.ox T.X_DoubleName.iC T.X_DoubleName.tI G_init (hr.mono (by decide)) T.bp_init (by rfl) T.g_DoubleName (pa_cons (pv 1) pa_nil))))) pss_nil)
      (pss_cons (ps_if (pt_cmpR (eq_K (K := K) rfl hr.units) (pv 0) pe_int (nomark _)) (pss_one (ps_ret (pe_ifExp (tr_K (K := K) rfl (pv 2)) (pe_exk T.X_UnknownName.ox T.X_UnknownName.iC T.X_UnknownName.tI G_init (hr.mono (by decide)) T.bk_init (by rfl) T.g_UnknownName (pk_cons (pv 1) pk_nil)) (pe_exv T.X_UnknownName.ox T.X_UnknownName.iC T.X_UnknownName.tI G_init (hr.mono (by decide)) T.bp_init (by rfl) T.g_UnknownName (pa_cons (pv 1) pa_nil))))) pss_nil)
      (pss_cons (ps_if (pt_cmpR (eq_K (K := K) rfl hr.units) (pv 0) pe_int (nomark _)) (pss_one (ps_ret (pe_ifExp (tr_K (K := K) rfl (pv 2)) (pe_exk T.X_NoDays.ox T.X_NoDays.iC T.X_NoDays.tI G_init (hr.mono (by decide)) T.bk_init (by rfl) T.g_NoDays (pk_cons (pv 1) pk_nil)) (pe_exv T.X_NoDays.ox T.X_NoDays.iC T.X_NoDays.tI G_init (hr.mono (by decide)) T.bp_init (by rfl) T.g_NoDays (pa_cons (pv 1) pa_nil))))) pss_nil)
      (pss_cons (ps_if (pt_cmpR (eq_K (K := K) rfl hr.units) (pv 0) pe_int (nomark _)) (pss_one (ps_ret (pe_ifExp (tr_K (K := K) rfl (pv 2)) (pe_exk T.X_InvalidNote.ox T.X_InvalidNote.iC T.X_InvalidNote.tI G_init (hr.mono (by decide)) T.bk_init (by rfl) T.g_InvalidNote (pk_cons (pv 1) pk_nil)) (pe_exv T.X_InvalidNote.ox T.X_InvalidNote.iC T.X_InvalidNote.tI G_init (hr.mono (by decide)) T.bp_init (by rfl) T.g_InvalidNote (pa_cons (pv 1) pa_nil))))) pss_nil)
      (pss_cons (ps_if (pt_cmpR (eq_K (K := K) rfl hr.units) (pv 0) pe_int (nomark _)) (pss_one (ps_ret (pe_ifExp (tr_K (K := K) rfl (pv 2)) (pe_exk T.X_NothingToUndo.ox T.X_NothingToUndo.iC T.X_NothingToUndo.tI G_init (hr.mono (by decide)) T.bk_init (by rfl) T.g_NothingToUndo (pk_cons (pv 1) pk_nil)) (pe_exv T.X_NothingToUndo.ox T.X_NothingToUndo.iC T.X_NothingToUndo.tI G_init (hr.mono (by decide)) T.bp_init (by rfl) T.g_NothingToUndo (pa_cons (pv 1) pa_nil))))) pss_nil)
      (pss_cons (ps_if (pt_cmpR (eq_K (K := K) rfl hr.units) (pv 0) pe_int (nomark _)) (pss_one (ps_ret (pe_ifExp (tr_K (K := K) rfl (pv 2)) (pe_exk T.X_Unreadable.ox T.X_Unreadable.iC T.X_Unreadable.tI G_init (hr.mono (by decide)) T.bk_init (by rfl) T.g_Unreadable (pk_cons (pv 1) pk_nil)) (pe_exv T.X_Unreadable.ox T.X_Unreadable.iC T.X_Unreadable.tI G_init (hr.mono (by decide)) T.bp_init (by rfl) T.g_Unreadable (pa_cons (pv 1) pa_nil))))) pss_nil)
      (pss_one (ps_ret (pe_g (FnG.up G__law_dl_first_error (by decide)) hA hr (by rfl) T.g__law_dl_first_error T.F__law_dl_first_error.kp T.b__law_dl_first_error (pa_cons (pv 0) (pa_cons (pv 1) (pa_cons (pv 2) pa_nil))))))))))))), ?_⟩
    refine s_ifN (b := decide ((k : Int) = 7)) (by walk_at "ans") (fun e => ?_) (fun e7 => ?_)
    · have e1 : k = 7 := by
        have z := of_decide_eq_true e
        omega
      subst e1
      exact err_ret (by walk_at "val") (val_var rfl) T.X_InvalidName.ox T.X_InvalidName.nv fun H' a b1 b2 b3 => q H' a b1 b2 b3
    replace e7 := of_decide_eq_false e7
    refine s_ifN (b := decide ((k : Int) = 8)) (by walk_at "ans") (fun e => ?_) (fun e8 => ?_)
    · have e1 : k = 8 := by
        have z := of_decide_eq_true e
        omega
      subst e1
      exact err_ret (by walk_at "val") (val_var rfl) T.X_DoubleName.ox T.X_DoubleName.nv fun H' a b1 b2 b3 => q H' a b1 b2 b3
    replace e8 := of_decide_eq_false e8
    refine s_ifN (b := decide ((k : Int) = 9)) (by walk_at "ans") (fun e => ?_) (fun e9 => ?_)
    · have e1 : k = 9 := by
        have z := of_decide_eq_true e
        omega
      subst e1
      exact err_ret (by walk_at "val") (val_var rfl) T.X_UnknownName.ox T.X_UnknownName.nv fun H' a b1 b2 b3 => q H' a b1 b2 b3
    replace e9 := of_decide_eq_false e9
    refine s_ifN (b := decide ((k : Int) = 10)) (by walk_at "ans") (fun e => ?_) (fun e10 => ?_)
    · have e1 : k = 10 := by
        have z := of_decide_eq_true e
        omega
      subst e1
      exact err_ret (by walk_at "val") (val_var rfl) T.X_NoDays.ox T.X_NoDays.nv fun H' a b1 b2 b3 => q H' a b1 b2 b3
    replace e10 := of_decide_eq_false e10
    refine s_ifN (b := decide ((k : Int) = 11)) (by walk_at "ans") (fun e => ?_) (fun e11 => ?_)
    · have e1 : k = 11 := by
        have z := of_decide_eq_true e
        omega
      subst e1
      exact err_ret (by walk_at "val") (val_var rfl) T.X_InvalidNote.ox T.X_InvalidNote.nv fun H' a b1 b2 b3 => q H' a b1 b2 b3
    replace e11 := of_decide_eq_false e11
    refine s_ifN (b := decide ((k : Int) = 12)) (by walk_at "ans") (fun e => ?_) (fun e12 => ?_)
    · have e1 : k = 12 := by
        have z := of_decide_eq_true e
        omega
      subst e1
      exact err_ret (by walk_at "val") (val_var rfl) T.X_NothingToUndo.ox T.X_NothingToUndo.nv fun H' a b1 b2 b3 => q H' a b1 b2 b3
    replace e12 := of_decide_eq_false e12
    refine s_ifN (b := decide ((k : Int) = 13)) (by walk_at "ans") (fun e => ?_) (fun e13 => ?_)
    · have e1 : k = 13 := by
        have z := of_decide_eq_true e
        omega
      subst e1
      exact err_ret (by walk_at "val") (val_var rfl) T.X_Unreadable.ox T.X_Unreadable.nv fun H' a b1 b2 b3 => q H' a b1 b2 b3
    replace e13 := of_decide_eq_false e13
    have va : VA (tCons (tVar 0) (tCons (tVar 1) (tCons (tVar 2) tNil))) (L2.start ["_law_rank", "_law_thing", "_law_is_named"] [.int k, v, .bl b]) H [.int k, v, .bl b] := by walk_at "val"
    exact s_rcall va ⟨k, v, b, rfl, Nat.zero_le _, by omega, q⟩
def spKinds (T : Tx K mg) : Sp := fun vs H Q _ => ∃ (k : Nat) (a : Addr) (v : V), vs = [.ref a] ∧ k < 14 ∧ ErrAt H a (T.cs.getD k 0) v ∧ ∀ H' p, But [] H H' → H p = none → H' p = some (.lst ((if k = 0 then [0] else [0, k]).map fun m : Nat => V.int (m : Int))) → Q (.ref p) H'
def whichB (k : Nat) : List Bool := (List.range 14).map fun j => decide (k = j ∨ j = 0)
theorem which_ok : ∀ k : Nat, k < 14 → ((List.range 14).filter fun m => (whichB k).getD m false) = if k = 0 then [0] else [0, k] := by decide
theorem ok_kinds (T : Tx K mg) : FnG P w K mg base 1 T.f__law_dl_of_kinds T.d__law_dl_of_kinds ["_law_caught"] (spKinds T) := by
  refine gOf T.F__law_dl_of_kinds sc__law_dl_of_kinds (fun vs H Q E h => ?_) (fun cdv A outer s H vs Q E hA hr h => ?_)
  · obtain ⟨k, a, v, rfl, _⟩ := h
    rfl
  · obtain ⟨k, a, v, rfl, hk, he, q⟩ := h
    refine ⟨_, (pss_cons (ps_set (i := 1) sc__law_dl_of_kinds.nd rfl (.inr rfl) (pe_lst (pa_cons (pe_callB (isi_K (K := K) rfl) (by rfl) T.m_isinstance (by decide +kernel) (pa_cons (pv 0) (pa_cons (pe_glob (v := .ref T.C_DaysError) (by rfl) T.g_DaysError rfl) pa_nil))) (pa_cons (pe_callB (isi_K (K := K) rfl) (by rfl) T.m_isinstance (by decide +kernel) (pa_cons (pv 0) (pa_cons (pe_glob (v := .ref T.C_InvalidRow) (by rfl) T.g_InvalidRow rfl) pa_nil))) (pa_cons (pe_callB (isi_K (K := K) rfl) (by rfl) T.m_isinstance (by decide +kernel) (pa_cons (pv 0) (pa_cons (pe_glob (v := .ref T.C_InvalidLadder) (by rfl) T.g_InvalidLadder rfl) pa_nil))) pa_nil)))))
      (pss_cons (ps_set (i := 1) sc__law_dl_of_kinds.nd rfl (.inr rfl) (pe_op op_addU (pv 1) (pe_lst (pa_cons (pe_callB (isi_K (K := K) rfl) (by rfl) T.m_isinstance (by decide +kernel) (pa_cons (pv 0) (pa_cons (pe_glob (v := .ref T.C_InvalidSet) (by rfl) T.g_InvalidSet rfl) pa_nil))) (pa_cons (pe_callB (isi_K (K := K) rfl) (by rfl) T.m_isinstance (by decide +kernel) (pa_cons (pv 0) (pa_cons (pe_glob (v := .ref T.C_InvalidNumber) (by rfl) T.g_InvalidNumber rfl) pa_nil))) pa_nil)))))
      (pss_cons (ps_set (i := 1) sc__law_dl_of_kinds.nd rfl (.inr rfl) (pe_op op_addU (pv 1) (pe_lst (pa_cons (pe_callB (isi_K (K := K) rfl) (by rfl) T.m_isinstance (by decide +kernel) (pa_cons (pv 0) (pa_cons (pe_glob (v := .ref T.C_InvalidYears) (by rfl) T.g_InvalidYears rfl) pa_nil))) (pa_cons (pe_callB (isi_K (K := K) rfl) (by rfl) T.m_isinstance (by decide +kernel) (pa_cons (pv 0) (pa_cons (pe_glob (v := .ref T.C_InvalidDate) (by rfl) T.g_InvalidDate rfl) pa_nil))) pa_nil)))))
      (pss_cons (ps_set (i := 1) sc__law_dl_of_kinds.nd rfl (.inr rfl) (pe_op op_addU (pv 1) (pe_lst (pa_cons (pe_callB (isi_K (K := K) rfl) (by rfl) T.m_isinstance (by decide +kernel) (pa_cons (pv 0) (pa_cons (pe_glob (v := .ref T.C_InvalidName) (by rfl) T.g_InvalidName rfl) pa_nil))) (pa_cons (pe_callB (isi_K (K := K) rfl) (by rfl) T.m_isinstance (by decide +kernel) (pa_cons (pv 0) (pa_cons (pe_glob (v := .ref T.C_DoubleName) (by rfl) T.g_DoubleName rfl) pa_nil))) pa_nil)))))
      (pss_cons (ps_set (i := 1) sc__law_dl_of_kinds.nd rfl (.inr rfl) (pe_op op_addU (pv 1) (pe_lst (pa_cons (pe_callB (isi_K (K := K) rfl) (by rfl) T.m_isinstance (by decide +kernel) (pa_cons (pv 0) (pa_cons (pe_glob (v := .ref T.C_UnknownName) (by rfl) T.g_UnknownName rfl) pa_nil))) (pa_cons (pe_callB (isi_K (K := K) rfl) (by rfl) T.m_isinstance (by decide +kernel) (pa_cons (pv 0) (pa_cons (pe_glob (v := .ref T.C_NoDays) (by rfl) T.g_NoDays rfl) pa_nil))) pa_nil)))))
      (pss_cons (ps_set (i := 1) sc__law_dl_of_kinds.nd rfl (.inr rfl) (pe_op op_addU (pv 1) (pe_lst (pa_cons (pe_callB (isi_K (K := K) rfl) (by rfl) T.m_isinstance (by decide +kernel) (pa_cons (pv 0) (pa_cons (pe_glob (v := .ref T.C_InvalidNote) (by rfl) T.g_InvalidNote rfl) pa_nil))) (pa_cons (pe_callB (isi_K (K := K) rfl) (by rfl) T.m_isinstance (by decide +kernel) (pa_cons (pv 0) (pa_cons (pe_glob (v := .ref T.C_NothingToUndo) (by rfl) T.g_NothingToUndo rfl) pa_nil))) pa_nil)))))
      (pss_cons (ps_set (i := 1) sc__law_dl_of_kinds.nd rfl (.inr rfl) (pe_op op_addU (pv 1) (pe_lst (pa_cons (pe_callB (isi_K (K := K) rfl) (by rfl) T.m_isinstance (by decide +kernel) (pa_cons (pv 0) (pa_cons (pe_glob (v := .ref T.C_Unreadable) (by rfl) T.g_Unreadable rfl) pa_nil))) pa_nil))))
      (pss_one (ps_ret (pe_lc (own := [("_law_rank", 2)]) (by rfl) sc__law_dl_of_kinds.nd (pi_range1 rfl T.m_range (pa_cons pe_int pa_nil)) (blkOk_by (own := [("_law_rank", 2)]) (N := ["_law_caught", "_law_found", "_law_rank"]) (sc := defScope s__law_dl_of_kinds) (by decide +kernel)) (fun _ _ _ _ _ => by exact (pg_name (i := 2) sc__law_dl_of_kinds.nd rfl (.inl rfl))) (fun _ _ _ _ _ => by exact (pts_one (tr_K (K := K) rfl (pe_ix (ix_K (K := K) rfl) (pv 1) (pv 2) (fun _ _ => rfl))))) (fun _ _ _ _ _ => by exact (pv 2)))))))))))), ?_⟩
    have isx : ∀ (j : Nat), j < 14 → ∀ {H1 : Hp} {ts : TA} {σ : L2.St}, ErrAt H1 a (T.cs.getD k 0) v → VA ts σ H1 [.ref a, .ref (T.cs.getD j 0)] → Val (tCB (rIsiU K) ts) σ H1 (.bl (decide (k = j ∨ j = 0))) := fun j hj {H1 ts σ} e z =>
      v_isX z (.own _) (T.ec k hk).ec e (kits_of T.kits (i := k) (j := j) hk hj).2
    have e0 : ∀ H', But [] H H' → ErrAt H' a (T.cs.getD k 0) v := fun H' b => he.but' b fun _ z => by cases z
    refine s_lst (vs := [.bl (decide (k = 0 ∨ 0 = 0)), .bl (decide (k = 1 ∨ 1 = 0)), .bl (decide (k = 2 ∨ 2 = 0))]) (va_cons (isx 0 (by decide) he (va_cons (val_var rfl) (va_cons val_c va_nil))) (va_cons (isx 1 (by decide) he (va_cons (val_var rfl) (va_cons val_c va_nil))) (va_cons (isx 2 (by decide) he (va_cons (val_var rfl) (va_cons val_c va_nil))) va_nil))) (by show 3 ≤ sizeLine; decide) (fun p0 h0 => ?_)
    have b0 : But [] H (upd H p0 (.lst [.bl (decide (k = 0 ∨ 0 = 0)), .bl (decide (k = 1 ∨ 1 = 0)), .bl (decide (k = 2 ∨ 2 = 0))])) := But.new h0
    have hx0 : (upd H p0 (.lst [.bl (decide (k = 0 ∨ 0 = 0)), .bl (decide (k = 1 ∨ 1 = 0)), .bl (decide (k = 2 ∨ 2 = 0))])) p0 = some (.lst [.bl (decide (k = 0 ∨ 0 = 0)), .bl (decide (k = 1 ∨ 1 = 0)), .bl (decide (k = 2 ∨ 2 = 0))]) := upd_same
    generalize upd H p0 (.lst [.bl (decide (k = 0 ∨ 0 = 0)), .bl (decide (k = 1 ∨ 1 = 0)), .bl (decide (k = 2 ∨ 2 = 0))]) = G0 at b0 hx0 ⊢
    refine s_addL (val_var rfl) hx0 (va_cons (isx 3 (by decide) (e0 _ b0) (va_cons (val_var rfl) (va_cons val_c va_nil))) (va_cons (isx 4 (by decide) (e0 _ b0) (va_cons (val_var rfl) (va_cons val_c va_nil))) va_nil)) (by simp) (fun p1 G1 c1 n1 hx1 => ?_)
    have b1 : But [] H G1 := b0.trans c1
    refine s_addL (val_var rfl) hx1 (va_cons (isx 5 (by decide) (e0 _ b1) (va_cons (val_var rfl) (va_cons val_c va_nil))) (va_cons (isx 6 (by decide) (e0 _ b1) (va_cons (val_var rfl) (va_cons val_c va_nil))) va_nil)) (by simp) (fun p2 G2 c2 n2 hx2 => ?_)
    have b2 : But [] H G2 := b1.trans c2
    refine s_addL (val_var rfl) hx2 (va_cons (isx 7 (by decide) (e0 _ b2) (va_cons (val_var rfl) (va_cons val_c va_nil))) (va_cons (isx 8 (by decide) (e0 _ b2) (va_cons (val_var rfl) (va_cons val_c va_nil))) va_nil)) (by simp) (fun p3 G3 c3 n3 hx3 => ?_)
    have b3 : But [] H G3 := b2.trans c3
    refine s_addL (val_var rfl) hx3 (va_cons (isx 9 (by decide) (e0 _ b3) (va_cons (val_var rfl) (va_cons val_c va_nil))) (va_cons (isx 10 (by decide) (e0 _ b3) (va_cons (val_var rfl) (va_cons val_c va_nil))) va_nil)) (by simp) (fun p4 G4 c4 n4 hx4 => ?_)
    have b4 : But [] H G4 := b3.trans c4
    refine s_addL (val_var rfl) hx4 (va_cons (isx 11 (by decide) (e0 _ b4) (va_cons (val_var rfl) (va_cons val_c va_nil))) (va_cons (isx 12 (by decide) (e0 _ b4) (va_cons (val_var rfl) (va_cons val_c va_nil))) va_nil)) (by simp) (fun p5 G5 c5 n5 hx5 => ?_)
    have b5 : But [] H G5 := b4.trans c5
    refine s_addL (val_var rfl) hx5 (va_cons (isx 13 (by decide) (e0 _ b5) (va_cons (val_var rfl) (va_cons val_c va_nil))) va_nil) (by simp) (fun p6 G6 c6 n6 hx6 => ?_)
    have b6 : But [] H G6 := b5.trans c6
    refine l_picked (n := 14) (bs := whichB k) (f := p6) (by simp [whichB]) (by decide) (fun x => rfl) (by show 2 < 3; decide) hx6 (fun p H' b hp hx => ?_)
    refine q H' p (b6.trans b) ?_ ?_
    · cases z : H p with
      | none => rfl
      | some o =>
        have y := b6 p o z (by simp)
        rw [hp] at y
        cases y
    · rw [hx, which_ok k hk]
end
end K00

set_option Elab.async false
set_option linter.all false
set_option maxRecDepth 100000
set_option maxHeartbeats 1000000
namespace K00
open PySem PySem.Spec PyProof.Rows L2 Ly
local macro_rules | `(tactic| walk_at "side") => `(tactic| first | assumption | rfl | decide | omega | (constructor <;> first | decide | omega) | (left; constructor <;> first | decide | omega) | (right; constructor <;> first | decide | omega))
local macro_rules | `(tactic| walk_at "val") => `(tactic| first
  | exact val_c
  | exact val_var rfl
  | exact va_nil
  | (refine' va_cons ?m1 ?m2; (case m1 => walk_at "val"); (case m2 => walk_at "val"))
  | (refine' v_add ?m1 ?m2; (case m1 => walk_at "val"); (case m2 => walk_at "val"))
  | (refine' v_sub ?m1 ?m2; (case m1 => walk_at "val"); (case m2 => walk_at "val"))
  | (refine' v_mul ?m1 ?m2 ?m3; (case m1 => walk_at "val"); (case m2 => walk_at "val"); (case m3 => walk_at "side"))
  | (refine' v_mod ?m1 ?m2 ?m3; (case m1 => walk_at "val"); (case m2 => walk_at "val"); (case m3 => walk_at "side"))
  | (refine' v_fdiv ?m1 ?m2 ?m3; (case m1 => walk_at "val"); (case m2 => walk_at "val"); (case m3 => walk_at "side"))
  | (refine' v_pow ?m1 ?m2 ?m3; (case m1 => walk_at "val"); (case m2 => walk_at "val"); (case m3 => walk_at "side"))
  | (refine' v_neg ?m1; (case m1 => walk_at "val"))
  | (refine' v_int1 ?m1; (case m1 => walk_at "val"))
  | (refine' v_abs ?m1; (case m1 => walk_at "val"))
  | (refine' v_max2 ?m1; (case m1 => walk_at "val"))
  | (refine' v_min2 ?m1; (case m1 => walk_at "val"))
  | (refine' v_lenL ?m1 ?m2; (case m1 => walk_at "val"); (case m2 => first | assumption | exact SqL.of (by assumption)))
  | (refine' v_ixL ?m1 ?m2 ?m3 ?m4; (case m1 => walk_at "val"); (case m2 => walk_at "val"); (case m3 => first | assumption | exact SqL.of (by assumption)); (case m4 => first | assumption | rfl)))
local macro_rules | `(tactic| walk_at "ans") => `(tactic| first
  | (refine' a_lt ?m1 ?m2; (case m1 => walk_at "val"); (case m2 => walk_at "val"))
  | (refine' a_gt ?m1 ?m2; (case m1 => walk_at "val"); (case m2 => walk_at "val"))
  | (refine' a_le ?m1 ?m2; (case m1 => walk_at "val"); (case m2 => walk_at "val"))
  | (refine' a_ge ?m1 ?m2; (case m1 => walk_at "val"); (case m2 => walk_at "val"))
  | (refine' a_eqI ?m1 ?m2; (case m1 => walk_at "val"); (case m2 => walk_at "val"))
  | (refine' a_neI ?m1 ?m2; (case m1 => walk_at "val"); (case m2 => walk_at "val")))
section
variable {P : Program} {w : World} {K : PySem.W.Frag} {mg : Str → Option Value} {base : Heap}
theorem lt_ext : ∀ {l1 l2 : List Int}, l1.Pairwise (· < ·) → l2.Pairwise (· < ·) → (∀ x, x ∈ l1 ↔ x ∈ l2) → l1 = l2
  | [], [], _, _, _ => rfl
  | [], b :: l2, _, _, h => absurd ((h b).2 (List.mem_cons_self ..)) (by simp)
  | a :: l1, [], _, _, h => absurd ((h a).1 (List.mem_cons_self ..)) (by simp)
  | a :: l1, b :: l2, p, q, h => by
    obtain ⟨p1, p2⟩ := List.pairwise_cons.mp p
    obtain ⟨q1, q2⟩ := List.pairwise_cons.mp q
    have e : a = b := by
      rcases List.mem_cons.mp ((h a).1 (List.mem_cons_self ..)) with x | x
      · exact x
      · rcases List.mem_cons.mp ((h b).2 (List.mem_cons_self ..)) with y | y
        · exact y.symm
        · have z1 := q1 a x
          have z2 := p1 b y
          omega
    subst e
    rw [lt_ext p2 q2 fun x => ⟨fun hx => ?_, fun hx => ?_⟩]
    · rcases List.mem_cons.mp ((h x).1 (List.mem_cons_of_mem _ hx)) with y | y
      · have z := p1 x hx
        omega
      · exact y
    · rcases List.mem_cons.mp ((h x).2 (List.mem_cons_of_mem _ hx)) with y | y
      · have z := q1 x hx
        omega
      · exact y
/-- a tree that may be ranked and shown -/
def ItP (As : List Addr) (H : Hp) (v : V) : Prop := ∃ d fp, Tr H v d fp ∧ slim d = true ∧ d.depth < 5 ∧ Fine (rk d 5).1 ∧ ∀ a ∈ fp, a ∈ As
def spRight : Sp := fun vs H Q _ => ∃ (s : Addr) (xs : List V), vs = [.ref s] ∧ H s = some (.lst xs) ∧ SackOk 0 xs ∧ ∀ H', But [s] H H' → Q (.bl true) H'
theorem fresh0 {s x : Addr} {H0 H : Hp} (c : But [s] H0 H) (h : H x = none) (n : x ≠ s) : H0 x = none := by
  cases e : H0 x with
  | none => rfl
  | some o =>
    have z := c x o e (by simpa using n)
    rw [h] at z
    cases z
theorem cum_step {s : Addr} {fq : List Addr} {H0 H H' : Hp} (c : But [s] H0 H) (b : But fq H H') (z : ∀ a ∈ fq, a = s ∨ H0 a = none) : But [s] H0 H' := fun x o e n => b x o (c x o e n) fun y => (z x y).elim (fun e1 => n (by simpa using e1)) fun e1 => by
  rw [e1] at e
  cases e
theorem dp_ints {H : Hp} : ∀ {ns : List Int}, DpAll K H (ns.map V.int) (ns.map PyData.int)
  | [] => .nil
  | n :: ns => .cons (.int n) dp_ints
theorem kinds_loop (T : Tx K mg) {H0 H : Hp} {s a1 a2 L e1 : Addr} {k1 k2 : Nat} {v v1 v2 : V} {z : Int} {Q : VK} {kk : Nat} (hk1 : k1 < 14) (hk2 : k2 < 14) (E1 : ErrAt H a1 (T.cs.getD k1 0) v1) (E2 : ErrAt H a2 (T.cs.getD k2 0) v2) (C : But [s] H0 H)
    (q : ∀ H', But [s] H0 H' → Q (.bl true) H') (hkk : kk = 2) : tSeq (tFor (iTup K (tTup (tCons (tTup (tCons (tVar 7) (tCons (tVar 5) tNil))) (tCons (tTup (tCons (tVar 8) (tCons (tVar 6) tNil))) tNil)))) (gTup K kk (gCons (gName 9) (gCons (gName 1) gNil)))
      (tIfS (tOr (tTest (tOp (rNeU K) (tCall (spKinds T) [] E0 (tCons (tVar 9) tNil)) (tCB (rSortedSet w) (tCons (tCB (rSetI K w) (tCons (tLst (tCons (tC (.int 0)) (tCons (tVar 1) tNil))) tNil)) tNil))))
        (tNot (tTr K (tCB (rIsiU K) (tCons (tVar 9) (tCons (tC (.ty "ValueError")) tNil)))))) (tRet (tC (.bl false))) tNext)) (tRet (tC (.bl true))) { nx := fun _ H' => Q .non H', rt := Q }
      [some (.ref s), some (.int z), some (.ref L), some v, some (.ref e1), some (.int k1), some (.int k2), some (.ref a1), some (.ref a2), none] H := by
  subst hkk
  refine ⟨.ref a1, rfl, .int k1, rfl, by show 2 ≤ sizeLine; decide, fun u1 hu1 => ?_⟩
  have B1 := But.new (fp := []) (o := .tup [V.ref a1, V.int k1]) hu1
  have F1 : (upd H u1 (.tup [V.ref a1, V.int k1])) u1 = some (.tup [V.ref a1, V.int k1]) := upd_same
  generalize upd H u1 (.tup [V.ref a1, V.int k1]) = G1 at B1 F1 ⊢
  refine ⟨.ref a2, rfl, .int k2, rfl, by show 2 ≤ sizeLine; decide, fun u2 hu2 => ?_⟩
  have B2 := But.new (fp := []) (o := .tup [V.ref a2, V.int k2]) hu2
  have F2 : (upd G1 u2 (.tup [V.ref a2, V.int k2])) u2 = some (.tup [V.ref a2, V.int k2]) := upd_same
  generalize upd G1 u2 (.tup [V.ref a2, V.int k2]) = G2 at B2 F2 ⊢
  refine ⟨by show 2 ≤ sizeLine; decide, fun u3 hu3 => ?_⟩
  have B3 := But.new (fp := []) (o := .tup [V.ref u1, V.ref u2]) hu3
  have F3 : (upd G2 u3 (.tup [V.ref u1, V.ref u2])) u3 = some (.tup [V.ref u1, V.ref u2]) := upd_same
  generalize upd G2 u3 (.tup [V.ref u1, V.ref u2]) = G3 at B3 F3 ⊢
  have BB : But [] H G3 := (B1.trans B2).trans B3
  refine ⟨u3, rfl, ⟨_, SqT.of F3⟩, ?_⟩
  refine for_tup (fun i σ H' => σ.length = 10 ∧ But [] G3 H') ⟨rfl, But.refl⟩ (fun i σ H' _ y => SqT.of (y.2 u3 _ F3 (by simp))) (fun i x σ H' hx y => ?_) (fun σ H' y => ?_)
  · obtain ⟨sl, bz⟩ := y
    have one : ∃ (a : Addr) (k : Nat) (v : V) (u : Addr), x = .ref u ∧ H' u = some (.tup [.ref a, .int k]) ∧ k < 14 ∧ ErrAt H' a (T.cs.getD k 0) v := by
      rcases i with _ | _ | i
      · cases hx
        exact ⟨a1, k1, v1, u1, rfl, bz u1 _ (B3 u1 _ (B2 u1 _ F1 (by simp)) (by simp)) (by simp), hk1, E1.but' (BB.trans bz) (fun _ y => by cases y)⟩
      · cases hx
        exact ⟨a2, k2, v2, u2, rfl, bz u2 _ (B3 u2 _ F2 (by simp)) (by simp), hk2, E2.but' (BB.trans bz) (fun _ y => by cases y)⟩
      · simp at hx
    obtain ⟨a, k, vv, u, rfl, Fu, hk, E⟩ := one
    refine ⟨u, _, rfl, SqT.of Fu, rfl, .ref a, _, rfl, .int k, _, rfl, rfl, ?_⟩
    have g9 : ((σ.set 9 (some (.ref a))).set 1 (some (.int k)))[9]? = some (some (.ref a)) := by
      rw [List.getElem?_set_ne (by decide), List.getElem?_set_self (by omega)]
    have g1 : ((σ.set 9 (some (.ref a))).set 1 (some (.int k)))[1]? = some (some (.int k)) := by
      rw [List.getElem?_set_self (by rw [List.length_set]; omega)]
    have gl : ((σ.set 9 (some (.ref a))).set 1 (some (.int k))).length = 10 := by
      rw [List.length_set, List.length_set]
      exact sl
    generalize (σ.set 9 (some (.ref a))).set 1 (some (.int k)) = σ2 at g9 g1 gl ⊢
    refine ⟨.ref a, g9, k, a, vv, rfl, hk, E, fun Ha p Ba ha Fa => ?_⟩
    refine ⟨.int k, g1, by show 2 ≤ sizeLine; decide, fun l hl => ?_⟩
    have Bl := But.new (fp := []) (o := .lst [V.int 0, V.int k]) hl
    have Fl : (upd Ha l (.lst [V.int 0, V.int k])) l = some (.lst [V.int 0, V.int k]) := upd_same
    generalize upd Ha l (.lst [V.int 0, V.int k]) = Hb at Bl Fl ⊢
    refine ⟨l, [0, (k : Int)], rfl, SqL.of Fl, by show 3 < 4096; decide, fun pS S nS hS mem len => ?_⟩
    have Bs := But.new (fp := []) (o := SetO w pS S nS) hS
    have Fs : (upd Hb pS (SetO w pS S nS)) pS = some (SetO w pS S nS) := upd_same
    generalize upd Hb pS (SetO w pS S nS) = Hc at Bs Fs ⊢
    refine ⟨pS, S, nS, rfl, Fs, by simp at len; omega, fun ns pl pw mem2 len2 hpl => ?_⟩
    have en : ns = (if k = 0 then [0] else [0, k]).map fun m : Nat => (m : Int) := by
      refine lt_ext pw ?_ fun x => ?_
      · by_cases h0 : k = 0
        · rw [if_pos h0]; simp
        · rw [if_neg h0]; simp; omega
      · rw [mem2, mem]
        by_cases h0 : k = 0
        · rw [if_pos h0, h0]; simp
        · rw [if_neg h0]; simp
    have Bp := But.new (fp := []) (o := .lst (ns.map V.int)) hpl
    have Fp : (upd Hc pl (.lst (ns.map V.int))) pl = some (.lst (ns.map V.int)) := upd_same
    generalize upd Hc pl (.lst (ns.map V.int)) = Hd at Bp Fp ⊢
    have Ball : But [] H' Hd := ((Ba.trans Bl).trans Bs).trans Bp
    have Fa2 : Hd p = some (.lst (ns.map V.int)) := by
      rw [((Bl.trans Bs).trans Bp) p _ Fa (by simp), en, List.map_map]
      rfl
    have sh : SeqAt.shaped (.list (ns.map PyData.int)) = true := by
      rw [en]
      by_cases h0 : k = 0
      · rw [if_pos h0]; rfl
      · rw [if_neg h0]; rfl
    refine Or.inr ⟨.list (ns.map .int), .list (ns.map .int), .lst (SqL.of Fa2) dp_ints, .lst (SqL.of Fp) dp_ints, sh, sh, ?_⟩
    rw [SeqAt.eqv_refl _ (SeqAt.canLay_of_shaped sh)]
    refine ⟨false, rfl, iteF ?_⟩
    have Ed := E.but' Ball (fun _ y => by cases y)
    refine (v_isX (σ := σ2) (va_cons (val_var g9) (va_cons val_c va_nil)) (.ty "ValueError") (T.ec k hk).ec Ed (kits_of T.kits (i := k) (j := 0) hk (Nat.zero_lt_succ _)).1) _ ⟨true, rfl, ?_⟩
    exact iteF ⟨gl, bz.trans Ball⟩
  · exact q H' (cum_step C (BB.trans y.2) (by simp))
def t_loop (T : Tx K mg) (w : World) (kk : Nat) : TS := tSeq (tFor (iTup K (tTup (tCons (tTup (tCons (tVar 7) (tCons (tVar 5) tNil))) (tCons (tTup (tCons (tVar 8) (tCons (tVar 6) tNil))) tNil)))) (gTup K kk (gCons (gName 9) (gCons (gName 1) gNil)))
      (tIfS (tOr (tTest (tOp (rNeU K) (tCall (spKinds T) [] E0 (tCons (tVar 9) tNil)) (tCB (rSortedSet w) (tCons (tCB (rSetI K w) (tCons (tLst (tCons (tC (.int 0)) (tCons (tVar 1) tNil))) tNil)) tNil))))
        (tNot (tTr K (tCB (rIsiU K) (tCons (tVar 9) (tCons (tC (.ty "ValueError")) tNil)))))) (tRet (tC (.bl false))) tNext)) (tRet (tC (.bl true)))
def t_right2 (T : Tx K mg) (w : World) (kk : Nat) : TS :=
        (tSeq
          (tPar 3 4
            (tCons (tOp (rIxU K) (tVar 2) (tCall spPick [] E0 (tCons (tVar 0) (tCons (tC (.int 9)) tNil))))
              (tCons (tLst (tCons (tVar 1) (tCons (tC (.int 3)) tNil))) tNil)))
          (tSeq
            (tPar 5 6
              (tCons (tCall spPick [] E0 (tCons (tVar 0) (tCons (tC (.int 14)) tNil)))
                (tCons (tCall spPick [] E0 (tCons (tVar 0) (tCons (tC (.int 14)) tNil))) tNil)))
            (tSeq
              (tAsg
                (tCall (spErr T 0 14) [] E0
                  (tCons (tVar 5)
                    (tCons (tVar 3)
                      (tCons
                        (tOp (rEqU K) (tCall spPick [] E0 (tCons (tVar 0) (tCons (tC (.int 2)) tNil))) (tC (.int 0)))
                        tNil))))
                (gName 7))
              (tSeq
                (tAsg
                  (tCall (spErr T 0 14) [] E0
                    (tCons (tVar 6)
                      (tCons (tVar 4)
                        (tCons
                          (tOp (rEqU K) (tCall spPick [] E0 (tCons (tVar 0) (tCons (tC (.int 2)) tNil)))
                            (tC (.int 0)))
                          tNil))))
                  (gName 8))
                (tSeq (tDrop (tCall (spRanks 6) [] E0 (tCons (tVar 3) (tCons (tLst (tCons (tC (.int 5)) tNil)) tNil))))
                  (tSeq (tDrop (tBM K "list" rAppend (tVar 4) (tCons (tC (.int 4)) tNil)))
                    (tSeq
                      (tIfS
                        (tOr
                          (tTest
                            (tOp (rNeU K) (tCB (rRepr K) (tCons (tExF "value" (tVar 7) K) tNil))
                              (tCB (rRepr K) (tCons (tVar 3) tNil))))
                          (tTest
                            (tOp (rNeU K) (tCB (rRepr K) (tCons (tExF "value" (tVar 8) K) tNil))
                              (tCB (rRepr K) (tCons (tVar 4) tNil)))))
                        (tRet (tC (.bl false))) tNext)
                      (t_loop T w kk))))))))
theorem right2 (T : Tx K mg) {H0 H100 : Hp} {s L : Addr} {z : Int} {xs its : List V} {As : List Addr} {Q : VK} {kk : Nat} (hkk : kk = 2) (Fs_100 : H100 s = some (.lst xs)) (ok2 : SackOk 2 xs) (C100 : But [s] H0 H100) (NL_s : L ≠ s) (FL_100 : H100 L = some (.lst its)) (hits : its.length = 9) (z1 : z.natAbs < 2 ^ 120)
    (tall : ∀ (i : Nat) (v : V), its[i]? = some v → ItP As H100 v) (fps : ∀ a ∈ As, a ≠ s ∧ H0 a = none) (q : ∀ H', But [s] H0 H' → Q (.bl true) H') :
    t_right2 T w kk { nx := fun _ H' => Q .non H', rt := Q } [some (.ref s), some (.int z), some (.ref L), none, none, none, none, none, none, none] H100 := by
  subst hkk
  have hzs : (PyData.int z).showable = true := int_showable (Nat.lt_trans z1 (by decide))
  have hzs2 : z.natAbs.log2 < 1920 := by simpa [PyData.showable] using hzs
  refine ⟨.ref L, rfl, ?_⟩
  refine l_pick (b := 2) (m := 9) (va_cons (val_var rfl) (va_cons val_c va_nil)) Fs_100 ok2 (by decide) (by decide) (by decide +kernel) fun H101 x101 m B101 U101 Fs_101 ok3 ma mb => ?_
  have FL_101 := B101 L _ FL_100 (by simpa using NL_s)
  have C101 : But [s] H0 H101 := cum_step C100 B101 (by simp)
  obtain ⟨j, rfl⟩ : ∃ j : Nat, m = j := ⟨m.toNat, by omega⟩
  have hj : j < 9 := by omega
  obtain ⟨v, hv⟩ : ∃ v, its[j]? = some v := ⟨_, List.getElem?_eq_getElem (by rw [hits]; exact hj)⟩
  obtain ⟨d, fp, tr0, dsl, ddp, dfi, dsub⟩ := tall j v hv
  refine Or.inl ⟨L, _, j, v, rfl, rfl, SqL.of FL_101, atI_nat hv, ?_⟩
  have fpn : ∀ a ∈ fp, a ≠ s ∧ H0 a = none := fun a ha => fps a (dsub a ha)
  have tr1 : Tr H101 v d fp := tr0.but (B101) (fun a ha y => (fpn a ha).1 (by simpa using y)) (fun a ys y nn => by (have e1 : a = s := by simpa using nn); rw [e1, Fs_100] at y; cases y)
  refine ⟨.int z, rfl, by show 2 ≤ sizeLine; decide, fun e1 he1 => ?_⟩
  have B102 := But.new (fp := []) (o := .lst [V.int z, V.int 3]) he1
  have Fe1_102 : (upd H101 e1 (.lst [V.int z, V.int 3])) e1 = some (.lst [V.int z, V.int 3]) := upd_same
  generalize upd H101 e1 (.lst [V.int z, V.int 3]) = H102 at B102 Fe1_102 ⊢
  have Ne1_s : e1 ≠ s := (ne_of_none Fs_101 he1).symm
  have Fs_102 := B102 s _ Fs_101 (by simp)
  have Ze1 : H0 e1 = none := fresh0 C101 he1 (by simpa using Ne1_s)
  have C102 : But [s] H0 H102 := cum_step C101 B102 (by simp)
  have tr2 : Tr H102 v d fp := tr1.but B102 (by simp) (by simp)
  have ne1 : e1 ∉ fp := fun y => by obtain ⟨ys, w⟩ := tr1.own e1 y; rw [he1] at w; cases w
  refine ⟨v, .ref e1, rfl, ?_⟩
  try dsimp only [gName]
  refine s_par (l_pick (b := 3) (m := 14) (va_cons (val_var rfl) (va_cons val_c va_nil)) Fs_102 ok3 (by decide) (by decide) (by decide +kernel) fun H103 x103 r1 B103 U103 Fs_103 ok4 r1a r1b => ?_)
  have Fe1_103 := B103 e1 _ Fe1_102 (by simpa using Ne1_s)
  have C103 : But [s] H0 H103 := cum_step C102 B103 (by simp)
  have tr3 : Tr H103 v d fp := tr2.but B103 (fun a ha y => (fpn a ha).1 (by simpa using y)) (fun a ys y nn => by (have e9 : a = s := by simpa using nn); rw [e9, Fs_102] at y; cases y)
  refine l_pick (b := 4) (m := 14) (va_cons (val_var rfl) (va_cons val_c va_nil)) Fs_103 ok4 (by decide) (by decide) (by decide +kernel) fun H104 x104 r2 B104 U104 Fs_104 ok5 r2a r2b => ?_
  have Fe1_104 := B104 e1 _ Fe1_103 (by simpa using Ne1_s)
  have C104 : But [s] H0 H104 := cum_step C103 B104 (by simp)
  have tr4 : Tr H104 v d fp := tr3.but B104 (fun a ha y => (fpn a ha).1 (by simpa using y)) (fun a ys y nn => by (have e9 : a = s := by simpa using nn); rw [e9, Fs_103] at y; cases y)
  obtain ⟨k1, rfl⟩ : ∃ j : Nat, r1 = j := ⟨r1.toNat, by omega⟩
  obtain ⟨k2, rfl⟩ : ∃ j : Nat, r2 = j := ⟨r2.toNat, by omega⟩
  have hk1 : k1 < 14 := by omega
  have hk2 : k2 < 14 := by omega
  refine ⟨_, _, rfl, ?_⟩
  try dsimp only [gName]
  refine ⟨.int k1, rfl, v, rfl, ?_⟩
  refine l_pick (b := 5) (m := 2) (va_cons (val_var rfl) (va_cons val_c va_nil)) Fs_104 ok5 (by decide) (by decide) (by decide +kernel) fun H105 x105 b1 B105 U105 Fs_105 ok6 b1a b1b => ?_
  have Fe1_105 := B105 e1 _ Fe1_104 (by simpa using Ne1_s)
  have C105 : But [s] H0 H105 := cum_step C104 B105 (by simp)
  have tr5 : Tr H105 v d fp := tr4.but B105 (fun a ha y => (fpn a ha).1 (by simpa using y)) (fun a ys y nn => by (have e9 : a = s := by simpa using nn); rw [e9, Fs_104] at y; cases y)
  refine Or.inl ⟨rfl, ?_⟩
  refine ⟨k1, v, _, rfl, Nat.zero_le _, hk1, fun H106 a1 B106 ha1 E1 => ?_⟩
  have Fs_106 := B106 s _ Fs_105 (by simp)
  have Fe1_106 := B106 e1 _ Fe1_105 (by simp)
  have C106 : But [s] H0 H106 := cum_step C105 B106 (by simp)
  have tr6 : Tr H106 v d fp := tr5.but B106 (by simp) (by simp)
  try dsimp only [gName]
  refine ⟨.int k2, rfl, .ref e1, rfl, ?_⟩
  refine l_pick (b := 6) (m := 2) (va_cons (val_var rfl) (va_cons val_c va_nil)) Fs_106 ok6 (by decide) (by decide) (by decide +kernel) fun H107 x107 b2 B107 U107 Fs_107 ok7 b2a b2b => ?_
  have Fe1_107 := B107 e1 _ Fe1_106 (by simpa using Ne1_s)
  have C107 : But [s] H0 H107 := cum_step C106 B107 (by simp)
  have tr7 : Tr H107 v d fp := tr6.but B107 (fun a ha y => (fpn a ha).1 (by simpa using y)) (fun a ys y nn => by (have e9 : a = s := by simpa using nn); rw [e9, Fs_106] at y; cases y)
  have E1b := E1.but' B107 (fun c y => by (have e9 : c = s := by simpa using y); exact e9 ▸ ⟨_, Fs_106⟩)
  refine Or.inl ⟨rfl, ?_⟩
  refine ⟨k2, .ref e1, _, rfl, Nat.zero_le _, hk2, fun H108 a2 B108 ha2 E2 => ?_⟩
  have Fs_108 := B108 s _ Fs_107 (by simp)
  have Fe1_108 := B108 e1 _ Fe1_107 (by simp)
  have C108 : But [s] H0 H108 := cum_step C107 B108 (by simp)
  have tr8 : Tr H108 v d fp := tr7.but B108 (by simp) (by simp)
  have E1c := E1b.but' B108 (fun c y => by cases y)
  try dsimp only [gName]
  refine ⟨v, rfl, ?_⟩
  refine ⟨by show 1 ≤ sizeLine; decide, fun r hr => ?_⟩
  have B109 := But.new (fp := []) (o := .lst [V.int 5]) hr
  have Fr_109 : (upd H108 r (.lst [V.int 5])) r = some (.lst [V.int 5]) := upd_same
  generalize upd H108 r (.lst [V.int 5]) = H109 at B109 Fr_109 ⊢
  have Nr_s : r ≠ s := (ne_of_none Fs_108 hr).symm
  have Nr_e1 : r ≠ e1 := (ne_of_none Fe1_108 hr).symm
  have Fs_109 := B109 s _ Fs_108 (by simp)
  have Fe1_109 := B109 e1 _ Fe1_108 (by simp)
  have Zr : H0 r = none := fresh0 C108 hr (by simpa using Nr_s)
  have C109 : But [s] H0 H109 := cum_step C108 B109 (by simp)
  have tr9 : Tr H109 v d fp := tr8.but B109 (by simp) (by simp)
  have E1d := E1c.but' B109 (fun c y => by cases y)
  have E2d := E2.but' B109 (fun c y => by cases y)
  have nr : r ∉ fp := fun y => by obtain ⟨ys, w⟩ := tr8.own r y; rw [hr] at w; cases w
  refine ⟨v, r, d, fp, 5, rfl, tr9, Fr_109, nr, by omega, dsl, fun H110 B110 trR FrR => ?_⟩
  have ownR : ∀ c ∈ r :: fp, ∃ ys, H109 c = some (.lst ys) := fun c y => (List.mem_cons.mp y).elim (fun e9 => e9 ▸ ⟨_, Fr_109⟩) (tr9.own c)
  have E1e := E1d.but' B110 ownR
  have E2e := E2d.but' B110 ownR
  have C110 : But [s] H0 H110 := cum_step C109 B110 (fun c y => .inr ((List.mem_cons.mp y).elim (fun e9 => e9 ▸ Zr) fun y2 => (fpn c y2).2))
  have Fe1_110 := B110 e1 _ Fe1_109 (by simp [Ne.symm Nr_e1, ne1])
  try dsimp only [gName]
  refine ⟨.ref e1, rfl, Or.inl ⟨rfl, _, SqL.of Fe1_110⟩, e1, _, .int 4, rfl, rfl, Fe1_110, by show 2 < sizeLine; decide, ?_⟩
  have B111 : But [e1] H110 (upd H110 e1 (.lst ([V.int z, V.int 3] ++ [V.int 4]))) := fun b o y nb => by rw [upd_ne (by simpa using nb)]; exact y
  have Fe1_111 : (upd H110 e1 (.lst ([V.int z, V.int 3] ++ [V.int 4]))) e1 = some (.lst [V.int z, V.int 3, V.int 4]) := upd_same
  try dsimp only [gName]
  generalize upd H110 e1 (.lst ([V.int z, V.int 3] ++ [V.int 4])) = H111 at B111 Fe1_111 ⊢
  have own1 : ∀ c ∈ [e1], ∃ ys, H110 c = some (.lst ys) := fun c y => by (have e9 : c = e1 := by simpa using y); exact e9 ▸ ⟨_, Fe1_110⟩
  have E1f := E1e.but' B111 own1
  have E2f := E2e.but' B111 own1
  have trS := trR.but B111 (fun a ha y => ne1 (by (have e9 : a = e1 := by simpa using y); exact e9 ▸ ha)) (fun a ys y nn => by (have e9 : a = e1 := by simpa using nn); rw [e9, Fe1_110] at y; cases y)
  have C111 : But [s] H0 H111 := cum_step C110 B111 (by simp [Ze1])
  have tr2nd : Tr H111 (.ref e1) (.list [.int z, .int 3, .int 4]) [e1] := .lst Fe1_111 (.cons (.int z) (.cons (.int 3) (.cons (.int 4) .nil (by simp)) (by simp)) (by simp)) (by simp)
  have fi2 : Fine (.list [.int z, .int 3, .int 4]) := ⟨by simp [PyData.showable, PyData.showableAll, hzs2] <;> decide, by simp [noOdd, noOddAll], by simp [PyData.depth, PyData.depthAll], by simp [cst, cstAll]⟩
  refine s_ifN (b := false) ?_ (fun y => by cases y) (fun _ => ?_)
  · have A1 := a_neS (K := K) (v_repr (K := K) (va_cons (v_exf (K := K) (σ := [some (.ref s), some (.int z), some (.ref L), some v, some (.ref e1), some (.int k1), some (.int k2), some (.ref a1), some (.ref a2), none]) (te := tVar 7) (val_var rfl) (T.ec k1 hk1) E1f) va_nil) trS.dp dfi) (v_repr (K := K) (va_cons (val_var (i := 3) rfl) va_nil) trS.dp dfi)
    have A2 := a_neS (K := K) (v_repr (K := K) (va_cons (v_exf (K := K) (σ := [some (.ref s), some (.int z), some (.ref L), some v, some (.ref e1), some (.int k1), some (.int k2), some (.ref a1), some (.ref a2), none]) (te := tVar 8) (val_var rfl) (T.ec k2 hk2) E2f) va_nil) tr2nd.dp fi2) (v_repr (K := K) (va_cons (val_var (i := 4) rfl) va_nil) tr2nd.dp fi2)
    rw [decide_eq_true rfl] at A1 A2
    exact ans_or A1 A2
  exact kinds_loop T hk1 hk2 E1f E2f C111 q rfl
theorem ok_right (T : Tx K mg) : FnG P w K mg base 7 T.f__law_right T.d__law_right ["_law_sack"] spRight := by
  have G__law_dl_pick := ok_pick (P := P) (w := w) (base := base) T
  have G__law_dl_made_error := ok_made (P := P) (w := w) (base := base) T
  have G__law_dl_of_kinds := ok_kinds (P := P) (w := w) (base := base) T
  have G__law_dl_ranks := ok_ranks (P := P) (w := w) (base := base) T 6
  refine gOf T.F__law_right sc__law_right (fun vs H Q E h => ?_) (fun cdv A outer s H vs Q E hA hr h => ?_)
  · obtain ⟨s, xs, rfl, _⟩ := h
    rfl
  · obtain ⟨s, xs, rfl, hs, ok, q⟩ := h
    refine ⟨_, (pss_cons (ps_set (i := 1) sc__law_right.nd rfl (.inl rfl) (pe_op op_sub (pe_g (FnG.up G__law_dl_pick (by decide)) hA hr (by rfl) T.g__law_dl_pick T.F__law_dl_pick.kp T.b__law_dl_pick (pa_cons (pv 0) (pa_cons (pe_op op_addU (pe_op op_mulU pe_int (pe_op op_powL pe_int pe_int)) pe_int) pa_nil))) (pe_op op_powL pe_int pe_int)))
      (pss_cons (ps_set (i := 2) sc__law_right.nd rfl (.inl rfl) (pe_lst (pa_cons (pv 1) (pa_cons (pe_lst (pa_cons (pv 1) pa_nil)) (pa_cons (pe_lst (pa_cons (pe_lst (pa_cons (pv 1) pa_nil)) (pa_cons pe_int pa_nil))) (pa_cons (pe_slice (sl_K (K := K) rfl) pe_str po_none (po_some (pe_g (FnG.up G__law_dl_pick (by decide)) hA hr (by rfl) T.g__law_dl_pick T.F__law_dl_pick.kp T.b__law_dl_pick (pa_cons (pv 0) (pa_cons pe_int pa_nil))))) (pa_cons pe_non (pa_cons pe_bl (pa_cons (pe_tup (pa_cons (pv 1) (pa_cons (pe_lst (pa_cons pe_int pa_nil)) pa_nil))) (pa_cons (pe_lst pa_nil) pa_nil))))))))))
      (pss_cons (ps_expr (app_K (K := K) rfl (pv 2) (pa_cons (pe_tup (pa_cons (pe_lst (pa_cons pe_int (pa_cons pe_int pa_nil))) (pa_cons pe_int (pa_cons (pe_lst (pa_cons (pe_lst (pa_cons (pv 1) pa_nil)) pa_nil)) (pa_cons (pe_tup (pa_cons (pe_lst (pa_cons (pv 1) pa_nil)) (pa_cons (pe_lst (pa_cons pe_int pa_nil)) pa_nil))) pa_nil))))) pa_nil)))
      (pss_cons (ps_par (i := 3) (j := 4) rfl sc__law_right.nd rfl rfl (by decide) rfl rfl (pa_cons (pe_ix (ix_K (K := K) rfl) (pv 2) (pe_g (FnG.up G__law_dl_pick (by decide)) hA hr (by rfl) T.g__law_dl_pick T.F__law_dl_pick.kp T.b__law_dl_pick (pa_cons (pv 0) (pa_cons pe_int pa_nil))) (fun _ _ => rfl)) (pa_cons (pe_lst (pa_cons (pv 1) (pa_cons pe_int pa_nil))) pa_nil)) (by rfl))
      (pss_cons (ps_par (i := 5) (j := 6) rfl sc__law_right.nd rfl rfl (by decide) rfl rfl (pa_cons (pe_g (FnG.up G__law_dl_pick (by decide)) hA hr (by rfl) T.g__law_dl_pick T.F__law_dl_pick.kp T.b__law_dl_pick (pa_cons (pv 0) (pa_cons pe_int pa_nil))) (pa_cons (pe_g (FnG.up G__law_dl_pick (by decide)) hA hr (by rfl) T.g__law_dl_pick T.F__law_dl_pick.kp T.b__law_dl_pick (pa_cons (pv 0) (pa_cons pe_int pa_nil))) pa_nil)) (by rfl))
      (pss_cons (ps_set (i := 7) sc__law_right.nd rfl (.inl rfl) (pe_g (FnG.up G__law_dl_made_error (by decide)) hA hr (by rfl) T.g__law_dl_made_error T.F__law_dl_made_error.kp T.b__law_dl_made_error (pa_cons (pv 5) (pa_cons (pv 3) (pa_cons (pe_cmpR (eq_K (K := K) rfl hr.units) (pe_g (FnG.up G__law_dl_pick (by decide)) hA hr (by rfl) T.g__law_dl_pick T.F__law_dl_pick.kp T.b__law_dl_pick (pa_cons (pv 0) (pa_cons pe_int pa_nil))) pe_int (nomark _)) pa_nil)))))
      (pss_cons (ps_set (i := 8) sc__law_right.nd rfl (.inl rfl) (pe_g (FnG.up G__law_dl_made_error (by decide)) hA hr (by rfl) T.g__law_dl_made_error T.F__law_dl_made_error.kp T.b__law_dl_made_error (pa_cons (pv 6) (pa_cons (pv 4) (pa_cons (pe_cmpR (eq_K (K := K) rfl hr.units) (pe_g (FnG.up G__law_dl_pick (by decide)) hA hr (by rfl) T.g__law_dl_pick T.F__law_dl_pick.kp T.b__law_dl_pick (pa_cons (pv 0) (pa_cons pe_int pa_nil))) pe_int (nomark _)) pa_nil)))))
      (pss_cons (ps_expr (pe_g (FnG.up G__law_dl_ranks (by decide)) hA hr (by rfl) T.g__law_dl_ranks T.F__law_dl_ranks.kp T.b__law_dl_ranks (pa_cons (pv 3) (pa_cons (pe_lst (pa_cons pe_int pa_nil)) pa_nil))))
      (pss_cons (ps_expr (app_K (K := K) rfl (pv 4) (pa_cons pe_int pa_nil)))
      (pss_cons (ps_if (PW.pt (pw_or (pt_cmpR (ne_K (K := K) rfl hr.units) (pe_callB (repr_K (K := K) rfl hA hr) (by rfl) T.m_repr (by decide +kernel) (pa_cons (exf_K (K := K) rfl (pv 7)) pa_nil)) (pe_callB (repr_K (K := K) rfl hA hr) (by rfl) T.m_repr (by decide +kernel) (pa_cons (pv 3) pa_nil)) (nomark _)) (pw_or1 (pt_cmpR (ne_K (K := K) rfl hr.units) (pe_callB (repr_K (K := K) rfl hA hr) (by rfl) T.m_repr (by decide +kernel) (pa_cons (exf_K (K := K) rfl (pv 8)) pa_nil)) (pe_callB (repr_K (K := K) rfl hA hr) (by rfl) T.m_repr (by decide +kernel) (pa_cons (pv 4) pa_nil)) (nomark _))))) (pss_one (ps_ret pe_bl)) pss_nil)
      (pss_cons (ps_for PassesOwn.never rfl (it_K (K := K) rfl (pe_tup (pa_cons (pe_tup (pa_cons (pv 7) (pa_cons (pv 5) pa_nil))) (pa_cons (pe_tup (pa_cons (pv 8) (pa_cons (pv 6) pa_nil))) pa_nil)))) (pg_tup rfl (pgs_cons (pg_name (i := 9) sc__law_right.nd rfl (.inl rfl)) (pgs_cons (pg_name (i := 1) sc__law_right.nd rfl (.inl rfl)) pgs_nil)))
      (pss_one (ps_if (PW.pt (pw_or (pt_cmpR (ne_K (K := K) rfl hr.units) (pe_g (FnG.up G__law_dl_of_kinds (by decide)) hA hr (by rfl) T.g__law_dl_of_kinds T.F__law_dl_of_kinds.kp T.b__law_dl_of_kinds (pa_cons (pv 9) pa_nil)) (pe_callB (srt_K (w := w) rfl rfl) (by rfl) T.m_sorted (by decide +kernel) (pa_cons (pe_callTy (set_K (K := K) (w := w) rfl rfl rfl) (by rfl) T.m_set (by decide +kernel) (pa_cons (pe_lst (pa_cons pe_int (pa_cons (pv 1) pa_nil))) pa_nil)) pa_nil)) (nomark _)) (pw_or1 (pt_not (tr_K (K := K) rfl (pe_callB (isi_K (K := K) rfl) (by rfl) T.m_isinstance (by decide +kernel) (pa_cons (pv 9) (pa_cons (pe_bltn (v := .ty "ValueError") (by rfl) T.m_ValueError (by decide +kernel) rfl) pa_nil)))))))) (pss_one (ps_ret pe_bl)) pss_nil)))
      (pss_one (ps_ret pe_bl))))))))))))), ?_⟩
    have Fs_0 := hs
    have ok0 := ok
    change tSeq (tAsg _ _) _ _ [some (.ref s), none, none, none, none, none, none, none, none, none] H
    generalize H = H0 at Fs_0 q ⊢
    have C0 : But [s] H0 H0 := But.refl
    refine l_pick (b := 0) (m := 2 * 10 ^ 30 + 1) (va_cons (val_var rfl) (va_cons (by walk_at "val") va_nil)) Fs_0 ok0 (by decide) (by decide) (by decide +kernel) fun H1 x1 n B1 U1 Fs_1 ok1 na nb => ?_
    have C1 : But [s] H0 H1 := cum_step C0 B1 (by simp)
    refine (v_pow (n := 30) (i := 10) val_c val_c (powC_of (n := 4) (by decide) (by decide) (by decide)) : Val _ _ _ _) _ ⟨n, 10 ^ 30, rfl, rfl, ?_⟩
    dsimp only [gName]
    generalize hz : n - 10 ^ 30 = z
    have z1 : z.natAbs < 2 ^ 120 := by
      have e1 : (10 : Int) ^ 30 = 1000000000000000000000000000000 := by decide
      have e2 : (2 : Nat) ^ 120 = 1329227995784915872903807060280344576 := by decide
      rw [e1] at hz nb
      rw [e2]
      omega
    refine ⟨.int z, rfl, .int z, rfl, by show 1 ≤ sizeLine; decide, fun p1 hp1 => ?_⟩
    have B2 := But.new (fp := []) (o := .lst [V.int z]) hp1
    have Fp1_2 : (upd H1 p1 (.lst [V.int z])) p1 = some (.lst [V.int z]) := upd_same
    generalize upd H1 p1 (.lst [V.int z]) = H2 at B2 Fp1_2 ⊢
    have Np1_s : p1 ≠ s := (ne_of_none Fs_1 hp1).symm
    have Fs_2 := B2 s _ Fs_1 (by simp)
    have Zp1 : H0 p1 = none := fresh0 C1 hp1 (by simpa using Np1_s)
    have C2 : But [s] H0 H2 := cum_step C1 B2 (by simp)
    refine ⟨.int z, rfl, by show 1 ≤ sizeLine; decide, fun p2 hp2 => ?_⟩
    have B3 := But.new (fp := []) (o := .lst [V.int z]) hp2
    have Fp2_3 : (upd H2 p2 (.lst [V.int z])) p2 = some (.lst [V.int z]) := upd_same
    generalize upd H2 p2 (.lst [V.int z]) = H3 at B3 Fp2_3 ⊢
    have Np2_s : p2 ≠ s := (ne_of_none Fs_2 hp2).symm
    have Np2_p1 : p2 ≠ p1 := (ne_of_none Fp1_2 hp2).symm
    have Fs_3 := B3 s _ Fs_2 (by simp)
    have Fp1_3 := B3 p1 _ Fp1_2 (by simp)
    have Zp2 : H0 p2 = none := fresh0 C2 hp2 (by simpa using Np2_s)
    have C3 : But [s] H0 H3 := cum_step C2 B3 (by simp)
    refine ⟨by show 2 ≤ sizeLine; decide, fun p3 hp3 => ?_⟩
    have B4 := But.new (fp := []) (o := .lst [V.ref p2, V.int 0]) hp3
    have Fp3_4 : (upd H3 p3 (.lst [V.ref p2, V.int 0])) p3 = some (.lst [V.ref p2, V.int 0]) := upd_same
    generalize upd H3 p3 (.lst [V.ref p2, V.int 0]) = H4 at B4 Fp3_4 ⊢
    have Np3_s : p3 ≠ s := (ne_of_none Fs_3 hp3).symm
    have Np3_p1 : p3 ≠ p1 := (ne_of_none Fp1_3 hp3).symm
    have Np3_p2 : p3 ≠ p2 := (ne_of_none Fp2_3 hp3).symm
    have Fs_4 := B4 s _ Fs_3 (by simp)
    have Fp1_4 := B4 p1 _ Fp1_3 (by simp)
    have Fp2_4 := B4 p2 _ Fp2_3 (by simp)
    have Zp3 : H0 p3 = none := fresh0 C3 hp3 (by simpa using Np3_s)
    have C4 : But [s] H0 H4 := cum_step C3 B4 (by simp)
    refine l_pick (b := 1) (m := 4) (va_cons (val_var rfl) (va_cons val_c va_nil)) Fs_4 ok1 (by decide) (by decide) (by decide +kernel) fun H5 x5 c4 B5 U5 Fs_5 ok2 c4a c4b => ?_
    have Fp1_5 := B5 p1 _ Fp1_4 (by simpa using Np1_s)
    have Fp2_5 := B5 p2 _ Fp2_4 (by simpa using Np2_s)
    have Fp3_5 := B5 p3 _ Fp3_4 (by simpa using Np3_s)
    have C5 : But [s] H0 H5 := cum_step C4 B5 (by simp)
    refine ⟨c4, rfl, Or.inr ⟨_, rfl, by decide, ?_⟩⟩
    generalize hst : cutS (Str.ofString "x y") none (some c4) = st
    refine ⟨.int z, rfl, by show 1 ≤ sizeLine; decide, fun p4 hp4 => ?_⟩
    have B6 := But.new (fp := []) (o := .lst [V.int 1]) hp4
    have Fp4_6 : (upd H5 p4 (.lst [V.int 1])) p4 = some (.lst [V.int 1]) := upd_same
    generalize upd H5 p4 (.lst [V.int 1]) = H6 at B6 Fp4_6 ⊢
    have Np4_s : p4 ≠ s := (ne_of_none Fs_5 hp4).symm
    have Np4_p1 : p4 ≠ p1 := (ne_of_none Fp1_5 hp4).symm
    have Np4_p2 : p4 ≠ p2 := (ne_of_none Fp2_5 hp4).symm
    have Np4_p3 : p4 ≠ p3 := (ne_of_none Fp3_5 hp4).symm
    have Fs_6 := B6 s _ Fs_5 (by simp)
    have Fp1_6 := B6 p1 _ Fp1_5 (by simp)
    have Fp2_6 := B6 p2 _ Fp2_5 (by simp)
    have Fp3_6 := B6 p3 _ Fp3_5 (by simp)
    have Zp4 : H0 p4 = none := fresh0 C5 hp4 (by simpa using Np4_s)
    have C6 : But [s] H0 H6 := cum_step C5 B6 (by simp)
    refine ⟨by show 2 ≤ sizeLine; decide, fun p5 hp5 => ?_⟩
    have B7 := But.new (fp := []) (o := .tup [V.int z, V.ref p4]) hp5
    have Fp5_7 : (upd H6 p5 (.tup [V.int z, V.ref p4])) p5 = some (.tup [V.int z, V.ref p4]) := upd_same
    generalize upd H6 p5 (.tup [V.int z, V.ref p4]) = H7 at B7 Fp5_7 ⊢
    have Np5_s : p5 ≠ s := (ne_of_none Fs_6 hp5).symm
    have Np5_p1 : p5 ≠ p1 := (ne_of_none Fp1_6 hp5).symm
    have Np5_p2 : p5 ≠ p2 := (ne_of_none Fp2_6 hp5).symm
    have Np5_p3 : p5 ≠ p3 := (ne_of_none Fp3_6 hp5).symm
    have Np5_p4 : p5 ≠ p4 := (ne_of_none Fp4_6 hp5).symm
    have Fs_7 := B7 s _ Fs_6 (by simp)
    have Fp1_7 := B7 p1 _ Fp1_6 (by simp)
    have Fp2_7 := B7 p2 _ Fp2_6 (by simp)
    have Fp3_7 := B7 p3 _ Fp3_6 (by simp)
    have Fp4_7 := B7 p4 _ Fp4_6 (by simp)
    have Zp5 : H0 p5 = none := fresh0 C6 hp5 (by simpa using Np5_s)
    have C7 : But [s] H0 H7 := cum_step C6 B7 (by simp)
    refine ⟨by show 0 ≤ sizeLine; decide, fun p6 hp6 => ?_⟩
    have B8 := But.new (fp := []) (o := .lst []) hp6
    have Fp6_8 : (upd H7 p6 (.lst [])) p6 = some (.lst []) := upd_same
    generalize upd H7 p6 (.lst []) = H8 at B8 Fp6_8 ⊢
    have Np6_s : p6 ≠ s := (ne_of_none Fs_7 hp6).symm
    have Np6_p1 : p6 ≠ p1 := (ne_of_none Fp1_7 hp6).symm
    have Np6_p2 : p6 ≠ p2 := (ne_of_none Fp2_7 hp6).symm
    have Np6_p3 : p6 ≠ p3 := (ne_of_none Fp3_7 hp6).symm
    have Np6_p4 : p6 ≠ p4 := (ne_of_none Fp4_7 hp6).symm
    have Np6_p5 : p6 ≠ p5 := (ne_of_none Fp5_7 hp6).symm
    have Fs_8 := B8 s _ Fs_7 (by simp)
    have Fp1_8 := B8 p1 _ Fp1_7 (by simp)
    have Fp2_8 := B8 p2 _ Fp2_7 (by simp)
    have Fp3_8 := B8 p3 _ Fp3_7 (by simp)
    have Fp4_8 := B8 p4 _ Fp4_7 (by simp)
    have Fp5_8 := B8 p5 _ Fp5_7 (by simp)
    have Zp6 : H0 p6 = none := fresh0 C7 hp6 (by simpa using Np6_s)
    have C8 : But [s] H0 H8 := cum_step C7 B8 (by simp)
    refine ⟨by show 8 ≤ sizeLine; decide, fun L hL => ?_⟩
    have B9 := But.new (fp := []) (o := .lst [V.int z, V.ref p1, V.ref p3, V.str st, V.non, V.bl true, V.ref p5, V.ref p6]) hL
    have FL_9 : (upd H8 L (.lst [V.int z, V.ref p1, V.ref p3, V.str st, V.non, V.bl true, V.ref p5, V.ref p6])) L = some (.lst [V.int z, V.ref p1, V.ref p3, V.str st, V.non, V.bl true, V.ref p5, V.ref p6]) := upd_same
    generalize upd H8 L (.lst [V.int z, V.ref p1, V.ref p3, V.str st, V.non, V.bl true, V.ref p5, V.ref p6]) = H9 at B9 FL_9 ⊢
    have NL_s : L ≠ s := (ne_of_none Fs_8 hL).symm
    have NL_p1 : L ≠ p1 := (ne_of_none Fp1_8 hL).symm
    have NL_p2 : L ≠ p2 := (ne_of_none Fp2_8 hL).symm
    have NL_p3 : L ≠ p3 := (ne_of_none Fp3_8 hL).symm
    have NL_p4 : L ≠ p4 := (ne_of_none Fp4_8 hL).symm
    have NL_p5 : L ≠ p5 := (ne_of_none Fp5_8 hL).symm
    have NL_p6 : L ≠ p6 := (ne_of_none Fp6_8 hL).symm
    have Fs_9 := B9 s _ Fs_8 (by simp)
    have Fp1_9 := B9 p1 _ Fp1_8 (by simp)
    have Fp2_9 := B9 p2 _ Fp2_8 (by simp)
    have Fp3_9 := B9 p3 _ Fp3_8 (by simp)
    have Fp4_9 := B9 p4 _ Fp4_8 (by simp)
    have Fp5_9 := B9 p5 _ Fp5_8 (by simp)
    have Fp6_9 := B9 p6 _ Fp6_8 (by simp)
    have ZL : H0 L = none := fresh0 C8 hL (by simpa using NL_s)
    have C9 : But [s] H0 H9 := cum_step C8 B9 (by simp)
    refine ⟨.ref L, rfl, Or.inl ⟨rfl, _, SqL.of FL_9⟩, ?_⟩
    refine ⟨by show 2 ≤ sizeLine; decide, fun q1 hq1 => ?_⟩
    have B10 := But.new (fp := []) (o := .lst [V.int 1, V.int 2]) hq1
    have Fq1_10 : (upd H9 q1 (.lst [V.int 1, V.int 2])) q1 = some (.lst [V.int 1, V.int 2]) := upd_same
    generalize upd H9 q1 (.lst [V.int 1, V.int 2]) = H10 at B10 Fq1_10 ⊢
    have Nq1_s : q1 ≠ s := (ne_of_none Fs_9 hq1).symm
    have Nq1_p1 : q1 ≠ p1 := (ne_of_none Fp1_9 hq1).symm
    have Nq1_p2 : q1 ≠ p2 := (ne_of_none Fp2_9 hq1).symm
    have Nq1_p3 : q1 ≠ p3 := (ne_of_none Fp3_9 hq1).symm
    have Nq1_p4 : q1 ≠ p4 := (ne_of_none Fp4_9 hq1).symm
    have Nq1_p5 : q1 ≠ p5 := (ne_of_none Fp5_9 hq1).symm
    have Nq1_p6 : q1 ≠ p6 := (ne_of_none Fp6_9 hq1).symm
    have Nq1_L : q1 ≠ L := (ne_of_none FL_9 hq1).symm
    have Fs_10 := B10 s _ Fs_9 (by simp)
    have Fp1_10 := B10 p1 _ Fp1_9 (by simp)
    have Fp2_10 := B10 p2 _ Fp2_9 (by simp)
    have Fp3_10 := B10 p3 _ Fp3_9 (by simp)
    have Fp4_10 := B10 p4 _ Fp4_9 (by simp)
    have Fp5_10 := B10 p5 _ Fp5_9 (by simp)
    have Fp6_10 := B10 p6 _ Fp6_9 (by simp)
    have FL_10 := B10 L _ FL_9 (by simp)
    have Zq1 : H0 q1 = none := fresh0 C9 hq1 (by simpa using Nq1_s)
    have C10 : But [s] H0 H10 := cum_step C9 B10 (by simp)
    refine ⟨.int z, rfl, by show 1 ≤ sizeLine; decide, fun q2 hq2 => ?_⟩
    have B11 := But.new (fp := []) (o := .lst [V.int z]) hq2
    have Fq2_11 : (upd H10 q2 (.lst [V.int z])) q2 = some (.lst [V.int z]) := upd_same
    generalize upd H10 q2 (.lst [V.int z]) = H11 at B11 Fq2_11 ⊢
    have Nq2_s : q2 ≠ s := (ne_of_none Fs_10 hq2).symm
    have Nq2_p1 : q2 ≠ p1 := (ne_of_none Fp1_10 hq2).symm
    have Nq2_p2 : q2 ≠ p2 := (ne_of_none Fp2_10 hq2).symm
    have Nq2_p3 : q2 ≠ p3 := (ne_of_none Fp3_10 hq2).symm
    have Nq2_p4 : q2 ≠ p4 := (ne_of_none Fp4_10 hq2).symm
    have Nq2_p5 : q2 ≠ p5 := (ne_of_none Fp5_10 hq2).symm
    have Nq2_p6 : q2 ≠ p6 := (ne_of_none Fp6_10 hq2).symm
    have Nq2_L : q2 ≠ L := (ne_of_none FL_10 hq2).symm
    have Nq2_q1 : q2 ≠ q1 := (ne_of_none Fq1_10 hq2).symm
    have Fs_11 := B11 s _ Fs_10 (by simp)
    have Fp1_11 := B11 p1 _ Fp1_10 (by simp)
    have Fp2_11 := B11 p2 _ Fp2_10 (by simp)
    have Fp3_11 := B11 p3 _ Fp3_10 (by simp)
    have Fp4_11 := B11 p4 _ Fp4_10 (by simp)
    have Fp5_11 := B11 p5 _ Fp5_10 (by simp)
    have Fp6_11 := B11 p6 _ Fp6_10 (by simp)
    have FL_11 := B11 L _ FL_10 (by simp)
    have Fq1_11 := B11 q1 _ Fq1_10 (by simp)
    have Zq2 : H0 q2 = none := fresh0 C10 hq2 (by simpa using Nq2_s)
    have C11 : But [s] H0 H11 := cum_step C10 B11 (by simp)
    refine ⟨by show 1 ≤ sizeLine; decide, fun q3 hq3 => ?_⟩
    have B12 := But.new (fp := []) (o := .lst [V.ref q2]) hq3
    have Fq3_12 : (upd H11 q3 (.lst [V.ref q2])) q3 = some (.lst [V.ref q2]) := upd_same
    generalize upd H11 q3 (.lst [V.ref q2]) = H12 at B12 Fq3_12 ⊢
    have Nq3_s : q3 ≠ s := (ne_of_none Fs_11 hq3).symm
    have Nq3_p1 : q3 ≠ p1 := (ne_of_none Fp1_11 hq3).symm
    have Nq3_p2 : q3 ≠ p2 := (ne_of_none Fp2_11 hq3).symm
    have Nq3_p3 : q3 ≠ p3 := (ne_of_none Fp3_11 hq3).symm
    have Nq3_p4 : q3 ≠ p4 := (ne_of_none Fp4_11 hq3).symm
    have Nq3_p5 : q3 ≠ p5 := (ne_of_none Fp5_11 hq3).symm
    have Nq3_p6 : q3 ≠ p6 := (ne_of_none Fp6_11 hq3).symm
    have Nq3_L : q3 ≠ L := (ne_of_none FL_11 hq3).symm
    have Nq3_q1 : q3 ≠ q1 := (ne_of_none Fq1_11 hq3).symm
    have Nq3_q2 : q3 ≠ q2 := (ne_of_none Fq2_11 hq3).symm
    have Fs_12 := B12 s _ Fs_11 (by simp)
    have Fp1_12 := B12 p1 _ Fp1_11 (by simp)
    have Fp2_12 := B12 p2 _ Fp2_11 (by simp)
    have Fp3_12 := B12 p3 _ Fp3_11 (by simp)
    have Fp4_12 := B12 p4 _ Fp4_11 (by simp)
    have Fp5_12 := B12 p5 _ Fp5_11 (by simp)
    have Fp6_12 := B12 p6 _ Fp6_11 (by simp)
    have FL_12 := B12 L _ FL_11 (by simp)
    have Fq1_12 := B12 q1 _ Fq1_11 (by simp)
    have Fq2_12 := B12 q2 _ Fq2_11 (by simp)
    have Zq3 : H0 q3 = none := fresh0 C11 hq3 (by simpa using Nq3_s)
    have C12 : But [s] H0 H12 := cum_step C11 B12 (by simp)
    refine ⟨.int z, rfl, by show 1 ≤ sizeLine; decide, fun q4 hq4 => ?_⟩
    have B13 := But.new (fp := []) (o := .lst [V.int z]) hq4
    have Fq4_13 : (upd H12 q4 (.lst [V.int z])) q4 = some (.lst [V.int z]) := upd_same
    generalize upd H12 q4 (.lst [V.int z]) = H13 at B13 Fq4_13 ⊢
    have Nq4_s : q4 ≠ s := (ne_of_none Fs_12 hq4).symm
    have Nq4_p1 : q4 ≠ p1 := (ne_of_none Fp1_12 hq4).symm
    have Nq4_p2 : q4 ≠ p2 := (ne_of_none Fp2_12 hq4).symm
    have Nq4_p3 : q4 ≠ p3 := (ne_of_none Fp3_12 hq4).symm
    have Nq4_p4 : q4 ≠ p4 := (ne_of_none Fp4_12 hq4).symm
    have Nq4_p5 : q4 ≠ p5 := (ne_of_none Fp5_12 hq4).symm
    have Nq4_p6 : q4 ≠ p6 := (ne_of_none Fp6_12 hq4).symm
    have Nq4_L : q4 ≠ L := (ne_of_none FL_12 hq4).symm
    have Nq4_q1 : q4 ≠ q1 := (ne_of_none Fq1_12 hq4).symm
    have Nq4_q2 : q4 ≠ q2 := (ne_of_none Fq2_12 hq4).symm
    have Nq4_q3 : q4 ≠ q3 := (ne_of_none Fq3_12 hq4).symm
    have Fs_13 := B13 s _ Fs_12 (by simp)
    have Fp1_13 := B13 p1 _ Fp1_12 (by simp)
    have Fp2_13 := B13 p2 _ Fp2_12 (by simp)
    have Fp3_13 := B13 p3 _ Fp3_12 (by simp)
    have Fp4_13 := B13 p4 _ Fp4_12 (by simp)
    have Fp5_13 := B13 p5 _ Fp5_12 (by simp)
    have Fp6_13 := B13 p6 _ Fp6_12 (by simp)
    have FL_13 := B13 L _ FL_12 (by simp)
    have Fq1_13 := B13 q1 _ Fq1_12 (by simp)
    have Fq2_13 := B13 q2 _ Fq2_12 (by simp)
    have Fq3_13 := B13 q3 _ Fq3_12 (by simp)
    have Zq4 : H0 q4 = none := fresh0 C12 hq4 (by simpa using Nq4_s)
    have C13 : But [s] H0 H13 := cum_step C12 B13 (by simp)
    refine ⟨by show 1 ≤ sizeLine; decide, fun q5 hq5 => ?_⟩
    have B14 := But.new (fp := []) (o := .lst [V.int 0]) hq5
    have Fq5_14 : (upd H13 q5 (.lst [V.int 0])) q5 = some (.lst [V.int 0]) := upd_same
    generalize upd H13 q5 (.lst [V.int 0]) = H14 at B14 Fq5_14 ⊢
    have Nq5_s : q5 ≠ s := (ne_of_none Fs_13 hq5).symm
    have Nq5_p1 : q5 ≠ p1 := (ne_of_none Fp1_13 hq5).symm
    have Nq5_p2 : q5 ≠ p2 := (ne_of_none Fp2_13 hq5).symm
    have Nq5_p3 : q5 ≠ p3 := (ne_of_none Fp3_13 hq5).symm
    have Nq5_p4 : q5 ≠ p4 := (ne_of_none Fp4_13 hq5).symm
    have Nq5_p5 : q5 ≠ p5 := (ne_of_none Fp5_13 hq5).symm
    have Nq5_p6 : q5 ≠ p6 := (ne_of_none Fp6_13 hq5).symm
    have Nq5_L : q5 ≠ L := (ne_of_none FL_13 hq5).symm
    have Nq5_q1 : q5 ≠ q1 := (ne_of_none Fq1_13 hq5).symm
    have Nq5_q2 : q5 ≠ q2 := (ne_of_none Fq2_13 hq5).symm
    have Nq5_q3 : q5 ≠ q3 := (ne_of_none Fq3_13 hq5).symm
    have Nq5_q4 : q5 ≠ q4 := (ne_of_none Fq4_13 hq5).symm
    have Fs_14 := B14 s _ Fs_13 (by simp)
    have Fp1_14 := B14 p1 _ Fp1_13 (by simp)
    have Fp2_14 := B14 p2 _ Fp2_13 (by simp)
    have Fp3_14 := B14 p3 _ Fp3_13 (by simp)
    have Fp4_14 := B14 p4 _ Fp4_13 (by simp)
    have Fp5_14 := B14 p5 _ Fp5_13 (by simp)
    have Fp6_14 := B14 p6 _ Fp6_13 (by simp)
    have FL_14 := B14 L _ FL_13 (by simp)
    have Fq1_14 := B14 q1 _ Fq1_13 (by simp)
    have Fq2_14 := B14 q2 _ Fq2_13 (by simp)
    have Fq3_14 := B14 q3 _ Fq3_13 (by simp)
    have Fq4_14 := B14 q4 _ Fq4_13 (by simp)
    have Zq5 : H0 q5 = none := fresh0 C13 hq5 (by simpa using Nq5_s)
    have C14 : But [s] H0 H14 := cum_step C13 B14 (by simp)
    refine ⟨by show 2 ≤ sizeLine; decide, fun q6 hq6 => ?_⟩
    have B15 := But.new (fp := []) (o := .tup [V.ref q4, V.ref q5]) hq6
    have Fq6_15 : (upd H14 q6 (.tup [V.ref q4, V.ref q5])) q6 = some (.tup [V.ref q4, V.ref q5]) := upd_same
    generalize upd H14 q6 (.tup [V.ref q4, V.ref q5]) = H15 at B15 Fq6_15 ⊢
    have Nq6_s : q6 ≠ s := (ne_of_none Fs_14 hq6).symm
    have Nq6_p1 : q6 ≠ p1 := (ne_of_none Fp1_14 hq6).symm
    have Nq6_p2 : q6 ≠ p2 := (ne_of_none Fp2_14 hq6).symm
    have Nq6_p3 : q6 ≠ p3 := (ne_of_none Fp3_14 hq6).symm
    have Nq6_p4 : q6 ≠ p4 := (ne_of_none Fp4_14 hq6).symm
    have Nq6_p5 : q6 ≠ p5 := (ne_of_none Fp5_14 hq6).symm
    have Nq6_p6 : q6 ≠ p6 := (ne_of_none Fp6_14 hq6).symm
    have Nq6_L : q6 ≠ L := (ne_of_none FL_14 hq6).symm
    have Nq6_q1 : q6 ≠ q1 := (ne_of_none Fq1_14 hq6).symm
    have Nq6_q2 : q6 ≠ q2 := (ne_of_none Fq2_14 hq6).symm
    have Nq6_q3 : q6 ≠ q3 := (ne_of_none Fq3_14 hq6).symm
    have Nq6_q4 : q6 ≠ q4 := (ne_of_none Fq4_14 hq6).symm
    have Nq6_q5 : q6 ≠ q5 := (ne_of_none Fq5_14 hq6).symm
    have Fs_15 := B15 s _ Fs_14 (by simp)
    have Fp1_15 := B15 p1 _ Fp1_14 (by simp)
    have Fp2_15 := B15 p2 _ Fp2_14 (by simp)
    have Fp3_15 := B15 p3 _ Fp3_14 (by simp)
    have Fp4_15 := B15 p4 _ Fp4_14 (by simp)
    have Fp5_15 := B15 p5 _ Fp5_14 (by simp)
    have Fp6_15 := B15 p6 _ Fp6_14 (by simp)
    have FL_15 := B15 L _ FL_14 (by simp)
    have Fq1_15 := B15 q1 _ Fq1_14 (by simp)
    have Fq2_15 := B15 q2 _ Fq2_14 (by simp)
    have Fq3_15 := B15 q3 _ Fq3_14 (by simp)
    have Fq4_15 := B15 q4 _ Fq4_14 (by simp)
    have Fq5_15 := B15 q5 _ Fq5_14 (by simp)
    have Zq6 : H0 q6 = none := fresh0 C14 hq6 (by simpa using Nq6_s)
    have C15 : But [s] H0 H15 := cum_step C14 B15 (by simp)
    refine ⟨by show 4 ≤ sizeLine; decide, fun q7 hq7 => ?_⟩
    have B16 := But.new (fp := []) (o := .tup [V.ref q1, V.int 3, V.ref q3, V.ref q6]) hq7
    have Fq7_16 : (upd H15 q7 (.tup [V.ref q1, V.int 3, V.ref q3, V.ref q6])) q7 = some (.tup [V.ref q1, V.int 3, V.ref q3, V.ref q6]) := upd_same
    generalize upd H15 q7 (.tup [V.ref q1, V.int 3, V.ref q3, V.ref q6]) = H16 at B16 Fq7_16 ⊢
    have Nq7_s : q7 ≠ s := (ne_of_none Fs_15 hq7).symm
    have Nq7_p1 : q7 ≠ p1 := (ne_of_none Fp1_15 hq7).symm
    have Nq7_p2 : q7 ≠ p2 := (ne_of_none Fp2_15 hq7).symm
    have Nq7_p3 : q7 ≠ p3 := (ne_of_none Fp3_15 hq7).symm
    have Nq7_p4 : q7 ≠ p4 := (ne_of_none Fp4_15 hq7).symm
    have Nq7_p5 : q7 ≠ p5 := (ne_of_none Fp5_15 hq7).symm
    have Nq7_p6 : q7 ≠ p6 := (ne_of_none Fp6_15 hq7).symm
    have Nq7_L : q7 ≠ L := (ne_of_none FL_15 hq7).symm
    have Nq7_q1 : q7 ≠ q1 := (ne_of_none Fq1_15 hq7).symm
    have Nq7_q2 : q7 ≠ q2 := (ne_of_none Fq2_15 hq7).symm
    have Nq7_q3 : q7 ≠ q3 := (ne_of_none Fq3_15 hq7).symm
    have Nq7_q4 : q7 ≠ q4 := (ne_of_none Fq4_15 hq7).symm
    have Nq7_q5 : q7 ≠ q5 := (ne_of_none Fq5_15 hq7).symm
    have Nq7_q6 : q7 ≠ q6 := (ne_of_none Fq6_15 hq7).symm
    have Fs_16 := B16 s _ Fs_15 (by simp)
    have Fp1_16 := B16 p1 _ Fp1_15 (by simp)
    have Fp2_16 := B16 p2 _ Fp2_15 (by simp)
    have Fp3_16 := B16 p3 _ Fp3_15 (by simp)
    have Fp4_16 := B16 p4 _ Fp4_15 (by simp)
    have Fp5_16 := B16 p5 _ Fp5_15 (by simp)
    have Fp6_16 := B16 p6 _ Fp6_15 (by simp)
    have FL_16 := B16 L _ FL_15 (by simp)
    have Fq1_16 := B16 q1 _ Fq1_15 (by simp)
    have Fq2_16 := B16 q2 _ Fq2_15 (by simp)
    have Fq3_16 := B16 q3 _ Fq3_15 (by simp)
    have Fq4_16 := B16 q4 _ Fq4_15 (by simp)
    have Fq5_16 := B16 q5 _ Fq5_15 (by simp)
    have Fq6_16 := B16 q6 _ Fq6_15 (by simp)
    have Zq7 : H0 q7 = none := fresh0 C15 hq7 (by simpa using Nq7_s)
    have C16 : But [s] H0 H16 := cum_step C15 B16 (by simp)
    refine ⟨L, _, .ref q7, rfl, rfl, FL_16, by show 8 < sizeLine; decide, ?_⟩
    have B17 : But [L] H16 (upd H16 L (.lst ([V.int z, V.ref p1, V.ref p3, V.str st, V.non, V.bl true, V.ref p5, V.ref p6] ++ [V.ref q7]))) := fun b o y nb => by rw [upd_ne (by simpa using nb)]; exact y
    have FL_17 : (upd H16 L (.lst ([V.int z, V.ref p1, V.ref p3, V.str st, V.non, V.bl true, V.ref p5, V.ref p6] ++ [V.ref q7]))) L = some (.lst [V.int z, V.ref p1, V.ref p3, V.str st, V.non, V.bl true, V.ref p5, V.ref p6, V.ref q7]) := upd_same
    try dsimp only [gName]
    generalize upd H16 L (.lst ([V.int z, V.ref p1, V.ref p3, V.str st, V.non, V.bl true, V.ref p5, V.ref p6] ++ [V.ref q7])) = H17 at B17 FL_17 ⊢
    have Fs_17 := B17 s _ Fs_16 (by simpa using (Ne.symm NL_s))
    have Fp1_17 := B17 p1 _ Fp1_16 (by simpa using (Ne.symm NL_p1))
    have Fp2_17 := B17 p2 _ Fp2_16 (by simpa using (Ne.symm NL_p2))
    have Fp3_17 := B17 p3 _ Fp3_16 (by simpa using (Ne.symm NL_p3))
    have Fp4_17 := B17 p4 _ Fp4_16 (by simpa using (Ne.symm NL_p4))
    have Fp5_17 := B17 p5 _ Fp5_16 (by simpa using (Ne.symm NL_p5))
    have Fp6_17 := B17 p6 _ Fp6_16 (by simpa using (Ne.symm NL_p6))
    have Fq1_17 := B17 q1 _ Fq1_16 (by simpa using Nq1_L)
    have Fq2_17 := B17 q2 _ Fq2_16 (by simpa using Nq2_L)
    have Fq3_17 := B17 q3 _ Fq3_16 (by simpa using Nq3_L)
    have Fq4_17 := B17 q4 _ Fq4_16 (by simpa using Nq4_L)
    have Fq5_17 := B17 q5 _ Fq5_16 (by simpa using Nq5_L)
    have Fq6_17 := B17 q6 _ Fq6_16 (by simpa using Nq6_L)
    have Fq7_17 := B17 q7 _ Fq7_16 (by simpa using Nq7_L)
    have C17 : But [s] H0 H17 := cum_step C16 B17 (by simp [ZL])
    have i0 : 0 < (2 : Nat) ^ 200 := by decide
    have hzs : (PyData.int z).showable = true := int_showable (Nat.lt_trans z1 (by decide))
    have e200 : (2 : Int) ^ 200 = 1606938044258990275541962092341162602522202993782792835301376 := by decide
    have fine1 : ∀ d, d.showable = true → noOdd d = true → d.depth < 5 → cst d ≤ 20000 → nl d ≤ 10 → Fine (rk d 5).1 := fun d a b c dd ee => Fine.rk ⟨a, b, by omega, by omega⟩ (by decide) (by rw [e200]; omega) (by omega)
    have hzs2 : z.natAbs.log2 < 1920 := by simpa [PyData.showable] using hzs
    have stro : noOdd (.str st) = true ∧ st.length ≤ 3 := by
      have c5 : c4 = 0 ∨ c4 = 1 ∨ c4 = 2 ∨ c4 = 3 := by omega
      rw [← hst]
      rcases c5 with y | y | y | y <;> rw [y] <;> exact ⟨by decide, by decide⟩
    have t0 : ItP [p1, p2, p3, p4, p6, q1, q2, q3, q4, q5] H17 (V.int z) := ⟨.int z, [], Tr.int z, by simp [slim, slimAll], by simp [PyData.depth, PyData.depthAll], (fine1 (.int z) (by simp [PyData.showable, PyData.showableAll, hzs2] <;> decide) (by simp [noOdd, noOddAll]) (by simp [PyData.depth, PyData.depthAll]) (by simp [cst, cstAll]) (by simp [nl, nlAll])), by simp⟩
    have t1 : ItP [p1, p2, p3, p4, p6, q1, q2, q3, q4, q5] H17 (V.ref p1) := ⟨.list [.int z], [p1], Tr.lst Fp1_17 (.cons (.int z) .nil (by simp)) (by simp), by simp [slim, slimAll], by simp [PyData.depth, PyData.depthAll], (fine1 (.list [.int z]) (by simp [PyData.showable, PyData.showableAll, hzs2] <;> decide) (by simp [noOdd, noOddAll]) (by simp [PyData.depth, PyData.depthAll]) (by simp [cst, cstAll]) (by simp [nl, nlAll])), by simp⟩
    have t2 : ItP [p1, p2, p3, p4, p6, q1, q2, q3, q4, q5] H17 (V.ref p3) := ⟨.list [.list [.int z], .int 0], [p3, p2], Tr.lst Fp3_17 (.cons (.lst Fp2_17 (.cons (.int z) .nil (by simp)) (by simp)) (.cons (.int 0) .nil (by simp)) (by simp)) (by simpa using Np3_p2), by simp [slim, slimAll], by simp [PyData.depth, PyData.depthAll], (fine1 (.list [.list [.int z], .int 0]) (by simp [PyData.showable, PyData.showableAll, hzs2] <;> decide) (by simp [noOdd, noOddAll]) (by simp [PyData.depth, PyData.depthAll]) (by simp [cst, cstAll]) (by simp [nl, nlAll])), by simp⟩
    have t3 : ItP [p1, p2, p3, p4, p6, q1, q2, q3, q4, q5] H17 (V.str st) := ⟨.str st, [], Tr.str st, rfl, by simp [PyData.depth], fine1 (.str st) rfl stro.1 (by simp [PyData.depth]) (by have := stro.2; simp only [cst]; omega) (by simp [nl]), by simp⟩
    have t4 : ItP [p1, p2, p3, p4, p6, q1, q2, q3, q4, q5] H17 (V.non) := ⟨.none, [], Tr.non, by simp [slim, slimAll], by simp [PyData.depth, PyData.depthAll], (fine1 (.none) (by simp [PyData.showable, PyData.showableAll, hzs2] <;> decide) (by simp [noOdd, noOddAll]) (by simp [PyData.depth, PyData.depthAll]) (by simp [cst, cstAll]) (by simp [nl, nlAll])), by simp⟩
    have t5 : ItP [p1, p2, p3, p4, p6, q1, q2, q3, q4, q5] H17 (V.bl true) := ⟨.bool true, [], Tr.bl true, by simp [slim, slimAll], by simp [PyData.depth, PyData.depthAll], (fine1 (.bool true) (by simp [PyData.showable, PyData.showableAll, hzs2] <;> decide) (by simp [noOdd, noOddAll]) (by simp [PyData.depth, PyData.depthAll]) (by simp [cst, cstAll]) (by simp [nl, nlAll])), by simp⟩
    have t6 : ItP [p1, p2, p3, p4, p6, q1, q2, q3, q4, q5] H17 (V.ref p5) := ⟨.tuple [.int z, .list [.int 1]], [p4], Tr.tup Fp5_17 (.cons (.int z) (.cons (.lst Fp4_17 (.cons (.int 1) .nil (by simp)) (by simp)) .nil (by simp)) (by simp)), by simp [slim, slimAll], by simp [PyData.depth, PyData.depthAll], (fine1 (.tuple [.int z, .list [.int 1]]) (by simp [PyData.showable, PyData.showableAll, hzs2] <;> decide) (by simp [noOdd, noOddAll]) (by simp [PyData.depth, PyData.depthAll]) (by simp [cst, cstAll]) (by simp [nl, nlAll])), by simp⟩
    have t7 : ItP [p1, p2, p3, p4, p6, q1, q2, q3, q4, q5] H17 (V.ref p6) := ⟨.list [], [p6], Tr.lst Fp6_17 .nil (by simp), by simp [slim, slimAll], by simp [PyData.depth, PyData.depthAll], (fine1 (.list []) (by simp [PyData.showable, PyData.showableAll, hzs2] <;> decide) (by simp [noOdd, noOddAll]) (by simp [PyData.depth, PyData.depthAll]) (by simp [cst, cstAll]) (by simp [nl, nlAll])), by simp⟩
    have t8 : ItP [p1, p2, p3, p4, p6, q1, q2, q3, q4, q5] H17 (V.ref q7) := ⟨.tuple [.list [.int 1, .int 2], .int 3, .list [.list [.int z]], .tuple [.list [.int z], .list [.int 0]]], [q1, q3, q2, q4, q5], Tr.tup Fq7_17 (.cons (.lst Fq1_17 (.cons (.int 1) (.cons (.int 2) .nil (by simp)) (by simp)) (by simp)) (.cons (.int 3) (.cons (.lst Fq3_17 (.cons (.lst Fq2_17 (.cons (.int z) .nil (by simp)) (by simp)) .nil (by simp)) (by simpa using Nq3_q2)) (.cons (.tup Fq6_17 (.cons (.lst Fq4_17 (.cons (.int z) .nil (by simp)) (by simp)) (.cons (.lst Fq5_17 (.cons (.int 0) .nil (by simp)) (by simp)) .nil (by simp)) (by simpa using Ne.symm Nq5_q4))) .nil (by simp)) (by simp [Ne.symm Nq4_q3, Ne.symm Nq5_q3, Ne.symm Nq4_q2, Ne.symm Nq5_q2])) (by simp)) (by simp [Ne.symm Nq3_q1, Ne.symm Nq2_q1, Ne.symm Nq4_q1, Ne.symm Nq5_q1])), by simp [slim, slimAll], by simp [PyData.depth, PyData.depthAll], (fine1 (.tuple [.list [.int 1, .int 2], .int 3, .list [.list [.int z]], .tuple [.list [.int z], .list [.int 0]]]) (by simp [PyData.showable, PyData.showableAll, hzs2] <;> decide) (by simp [noOdd, noOddAll]) (by simp [PyData.depth, PyData.depthAll]) (by simp [cst, cstAll]) (by simp [nl, nlAll])), by simp⟩
    have tall : ∀ (i : Nat) (v : V), ([V.int z, V.ref p1, V.ref p3, V.str st, V.non, V.bl true, V.ref p5, V.ref p6, V.ref q7] : List V)[i]? = some v → ItP [p1, p2, p3, p4, p6, q1, q2, q3, q4, q5] H17 v := by
      intro i v hv
      rcases i with _ | i
      · cases hv; exact t0
      rcases i with _ | i
      · cases hv; exact t1
      rcases i with _ | i
      · cases hv; exact t2
      rcases i with _ | i
      · cases hv; exact t3
      rcases i with _ | i
      · cases hv; exact t4
      rcases i with _ | i
      · cases hv; exact t5
      rcases i with _ | i
      · cases hv; exact t6
      rcases i with _ | i
      · cases hv; exact t7
      rcases i with _ | i
      · cases hv; exact t8
      · simp at hv
    clear t0 t1 t2 t3 t4 t5 t6 t7 t8
    have fps : ∀ a ∈ [p1, p2, p3, p4, p6, q1, q2, q3, q4, q5], a ≠ s ∧ H0 a = none := by
      intro a y
      simp only [List.mem_cons, List.not_mem_nil, or_false] at y
      rcases y with y | y | y | y | y | y | y | y | y | y <;> subst y
      · exact ⟨Np1_s, Zp1⟩
      · exact ⟨Np2_s, Zp2⟩
      · exact ⟨Np3_s, Zp3⟩
      · exact ⟨Np4_s, Zp4⟩
      · exact ⟨Np6_s, Zp6⟩
      · exact ⟨Nq1_s, Zq1⟩
      · exact ⟨Nq2_s, Zq2⟩
      · exact ⟨Nq3_s, Zq3⟩
      · exact ⟨Nq4_s, Zq4⟩
      · exact ⟨Nq5_s, Zq5⟩
    exact right2 T rfl Fs_17 ok2 C17 NL_s FL_17 rfl z1 tall fps q

end
end K00

set_option Elab.async false
set_option linter.all false
set_option maxRecDepth 100000
set_option maxHeartbeats 1000000
namespace K00
open PySem PySem.Spec PyProof.Rows L2 Ly
local macro_rules | `(tactic| walk_at "side") => `(tactic| first | assumption | rfl | decide | omega | (constructor <;> first | decide | omega) | (left; constructor <;> first | decide | omega) | (right; constructor <;> first | decide | omega))
local macro_rules | `(tactic| walk_at "val") => `(tactic| first
  | exact val_c
  | exact val_var rfl
  | exact va_nil
  | (refine' va_cons ?m1 ?m2; (case m1 => walk_at "val"); (case m2 => walk_at "val"))
  | (refine' v_add ?m1 ?m2; (case m1 => walk_at "val"); (case m2 => walk_at "val"))
  | (refine' v_sub ?m1 ?m2; (case m1 => walk_at "val"); (case m2 => walk_at "val"))
  | (refine' v_mul ?m1 ?m2 ?m3; (case m1 => walk_at "val"); (case m2 => walk_at "val"); (case m3 => walk_at "side"))
  | (refine' v_mod ?m1 ?m2 ?m3; (case m1 => walk_at "val"); (case m2 => walk_at "val"); (case m3 => walk_at "side"))
  | (refine' v_fdiv ?m1 ?m2 ?m3; (case m1 => walk_at "val"); (case m2 => walk_at "val"); (case m3 => walk_at "side"))
  | (refine' v_pow ?m1 ?m2 ?m3; (case m1 => walk_at "val"); (case m2 => walk_at "val"); (case m3 => walk_at "side"))
  | (refine' v_neg ?m1; (case m1 => walk_at "val"))
  | (refine' v_int1 ?m1; (case m1 => walk_at "val"))
  | (refine' v_abs ?m1; (case m1 => walk_at "val"))
  | (refine' v_max2 ?m1; (case m1 => walk_at "val"))
  | (refine' v_min2 ?m1; (case m1 => walk_at "val"))
  | (refine' v_lenL ?m1 ?m2; (case m1 => walk_at "val"); (case m2 => first | assumption | exact SqL.of (by assumption)))
  | (refine' v_ixL ?m1 ?m2 ?m3 ?m4; (case m1 => walk_at "val"); (case m2 => walk_at "val"); (case m3 => first | assumption | exact SqL.of (by assumption)); (case m4 => first | assumption | rfl)))
local macro_rules | `(tactic| walk_at "ans") => `(tactic| first
  | (refine' a_lt ?m1 ?m2; (case m1 => walk_at "val"); (case m2 => walk_at "val"))
  | (refine' a_gt ?m1 ?m2; (case m1 => walk_at "val"); (case m2 => walk_at "val"))
  | (refine' a_le ?m1 ?m2; (case m1 => walk_at "val"); (case m2 => walk_at "val"))
  | (refine' a_ge ?m1 ?m2; (case m1 => walk_at "val"); (case m2 => walk_at "val"))
  | (refine' a_eqI ?m1 ?m2; (case m1 => walk_at "val"); (case m2 => walk_at "val"))
  | (refine' a_neI ?m1 ?m2; (case m1 => walk_at "val"); (case m2 => walk_at "val")))
section
variable {P : Program} {w : World} {K : PySem.W.Frag} {mg : Str → Option Value} {base : Heap}
def spLaw (K : PySem.W.Frag) : Sp := fun vs H Q _ => ∃ (a : Addr) (ns : List Int), vs = [.ref a] ∧ SqL K H a (ns.map V.int) ∧ ns.length ≤ 63 ∧ ∀ H', Q (.bl true) H'
theorem ok_law (T : Tx K mg) : FnG P w K mg base 8 T.f_law T.d_law ["_law_script"] (spLaw K) := by
  have G__law_right := ok_right (P := P) (w := w) (base := base) T
  have G__law_dl_sack := ok_sack (P := P) (w := w) (base := base) T
  refine gOf T.F_law sc_law (fun vs H Q E h => ?_) (fun cdv A outer s H vs Q E hA hr h => ?_)
  · obtain ⟨a, ns, rfl, _⟩ := h
    rfl
  · obtain ⟨a, ns, rfl, hS, hl, q⟩ := h
    refine ⟨_, (pss_cons (ps_for PassesOwn.never rfl (pi_range1 rfl T.m_range (pa_cons (pe_callB (call_max2 rfl) (by rfl) T.m_max (by decide +kernel) (pa_cons pe_int (pa_cons (pe_callB (call_min2 rfl) (by rfl) T.m_min (by decide +kernel) (pa_cons pe_int (pa_cons (pe_callB (len_K (K := K) rfl) (by rfl) T.m_len (by decide +kernel) (pa_cons (pv 0) pa_nil)) pa_nil))) pa_nil))) pa_nil)) (pg_name (i := 1) sc_law.nd rfl (.inl rfl))
      (pss_one (ps_if (pt_not (tr_K (K := K) rfl (pe_g (FnG.up G__law_right (by decide)) hA hr (by rfl) T.g__law_right T.F__law_right.kp T.b__law_right (pa_cons (pe_g (FnG.up G__law_dl_sack (by decide)) hA hr (by rfl) T.g__law_dl_sack T.F__law_dl_sack.kp T.b__law_dl_sack (pa_cons (pv 0) (pa_cons (pv 1) pa_nil))) pa_nil)))) (pss_one (ps_ret pe_bl)) pss_nil)))
      (pss_one (ps_ret pe_bl))), ?_⟩
    have hm : ∃ m : Int, 0 ≤ m ∧ m ≤ 30 ∧ VA (tCons (tCB (fun xs H Q => ∃ i j, xs = [.int i, .int j] ∧ Q (.int (if j > i then j else i)) H) (tCons (tC (.int 1)) (tCons (tCB (fun xs H Q => ∃ i j, xs = [.int i, .int j] ∧ Q (.int (if j < i then j else i)) H) (tCons (tC (.int 30)) (tCons (tCB (rLenU K) (tCons (tVar 0) tNil)) tNil))) tNil))) tNil)
        (L2.start ["_law_script", "_law_rank"] [.ref a]) H [.int m] := by
      refine ⟨_, ?_, ?_, by walk_at "val"⟩
      · split <;> omega
      · split
        · split <;> omega
        · omega
    obtain ⟨m, m0, m1, hm⟩ := hm
    refine s_forR hm (by omega) (by omega) ?_
    refine for_range (lo := 0) (n := m.toNat) (fun i σ H' => σ.length = 2 ∧ σ[0]? = some (some (.ref a)) ∧ SqL K H' a (ns.map V.int)) ⟨rfl, rfl, hS⟩ (fun i σ H' hi z => ?_) (fun σ H' _ => q H')
    obtain ⟨sl, s0, hS'⟩ := z
    have g0 : (σ.set 1 (some (.int (0 + i))))[0]? = some (some (.ref a)) := by
      rw [List.getElem?_set_ne (by decide)]
      exact s0
    have g1 : (σ.set 1 (some (.int (0 + i))))[1]? = some (some (.int (0 + i))) := by
      rw [List.getElem?_set_self (by omega)]
    have gl : (σ.set 1 (some (.int (0 + i)))).length = 2 := by
      rw [List.length_set]
      exact sl
    show (tIfS _ _ _ _ (σ.set 1 (some (.int (0 + i)))) H')
    generalize σ.set 1 (some (.int (0 + i))) = σ2 at g0 g1 gl ⊢
    refine ⟨.ref a, g0, .int (0 + i), g1, a, ns, 0 + i, rfl, hS', by omega, by omega, fun p xs hp ok => ?_⟩
    have Bp := But.new (fp := []) (o := .lst xs) hp
    have Fp : (upd H' p (.lst xs)) p = some (.lst xs) := upd_same
    have keepS : ∀ H1 H2 : Hp, But [] H' H1 → But [p] H1 H2 → SqL K H2 a (ns.map V.int) := by
      intro H1 H2 b1 b2
      rcases hS' with y | y
      · have npa : a ∉ [p] := by
          intro z
          have e1 : a = p := by simpa using z
          subst e1
          rcases y with y | ⟨o, y⟩ <;> rw [hp] at y <;> cases y
        exact SqL.but (SqL.but (.inl y) b1 (by simp)) b2 npa
      · exact .inr y
    generalize upd H' p (.lst xs) = H1 at Bp Fp ⊢
    refine ⟨p, xs, rfl, Fp, ok, fun H2 B2 => ⟨true, rfl, ?_⟩⟩
    exact iteF ⟨gl, g0, keepS _ _ Bp B2⟩

end
end K00

set_option Elab.async false
set_option linter.all false
set_option maxRecDepth 100000
set_option maxHeartbeats 1000000
namespace K00
open PySem PySem.Spec PyProof.Rows L2 Ly
theorem all_mk {P : Program} {w : World} {K : PySem.W.Frag} {h : Heap} {mg : Str → Option Value} {fa : Addr} (X : K.In h) (G : h.Ns mainGlobals mg) (hfa : mg "law" = some (.ref fa))
    {f__law_dl_sack : Addr} {od__law_dl_sack an__law_dl_sack : Option Addr} {sl__law_dl_sack : Array (Option Value)} {oc__law_dl_sack kV__law_dl_sack dc__law_dl_sack pm__law_dl_sack cd__law_dl_sack ct__law_dl_sack : Value}
    {f__law_dl_pick : Addr} {od__law_dl_pick an__law_dl_pick : Option Addr} {sl__law_dl_pick : Array (Option Value)} {oc__law_dl_pick kV__law_dl_pick dc__law_dl_pick pm__law_dl_pick cd__law_dl_pick ct__law_dl_pick : Value}
    {f__law_dl_ranks : Addr} {od__law_dl_ranks an__law_dl_ranks : Option Addr} {sl__law_dl_ranks : Array (Option Value)} {oc__law_dl_ranks kV__law_dl_ranks dc__law_dl_ranks pm__law_dl_ranks cd__law_dl_ranks ct__law_dl_ranks : Value}
    {f__law_dl_first_error : Addr} {od__law_dl_first_error an__law_dl_first_error : Option Addr} {sl__law_dl_first_error : Array (Option Value)} {oc__law_dl_first_error kV__law_dl_first_error dc__law_dl_first_error pm__law_dl_first_error cd__law_dl_first_error ct__law_dl_first_error : Value}
    {f__law_dl_made_error : Addr} {od__law_dl_made_error an__law_dl_made_error : Option Addr} {sl__law_dl_made_error : Array (Option Value)} {oc__law_dl_made_error kV__law_dl_made_error dc__law_dl_made_error pm__law_dl_made_error cd__law_dl_made_error ct__law_dl_made_error : Value}
    {f__law_dl_of_kinds : Addr} {od__law_dl_of_kinds an__law_dl_of_kinds : Option Addr} {sl__law_dl_of_kinds : Array (Option Value)} {oc__law_dl_of_kinds kV__law_dl_of_kinds dc__law_dl_of_kinds pm__law_dl_of_kinds cd__law_dl_of_kinds ct__law_dl_of_kinds : Value}
    {f__law_right : Addr} {od__law_right an__law_right : Option Addr} {sl__law_right : Array (Option Value)} {oc__law_right kV__law_right dc__law_right pm__law_right cd__law_right ct__law_right : Value}
    {f_law : Addr} {od_law an_law : Option Addr} {sl_law : Array (Option Value)} {oc_law kV_law dc_law pm_law cd_law ct_law : Value}
    {C_DaysError : Addr} {nm_DaysError q_DaysError : Str} {N_DaysError : Addr} {bs_DaysError bm_DaysError : List Value} {sn_DaysError : List Str} {sub_DaysError : List Value} {ab_DaysError : Bool} {col_DaysError : Option Bool} {dd_DaysError : Option Addr} {m0_DaysError m1_DaysError m2_DaysError m3_DaysError m5_DaysError : Option Value}
    {C_InvalidRow : Addr} {nm_InvalidRow q_InvalidRow : Str} {N_InvalidRow : Addr} {bs_InvalidRow bm_InvalidRow : List Value} {sn_InvalidRow : List Str} {sub_InvalidRow : List Value} {ab_InvalidRow : Bool} {col_InvalidRow : Option Bool} {dd_InvalidRow : Option Addr} {m0_InvalidRow m1_InvalidRow m2_InvalidRow m3_InvalidRow m5_InvalidRow : Option Value}
    {C_InvalidLadder : Addr} {nm_InvalidLadder q_InvalidLadder : Str} {N_InvalidLadder : Addr} {bs_InvalidLadder bm_InvalidLadder : List Value} {sn_InvalidLadder : List Str} {sub_InvalidLadder : List Value} {ab_InvalidLadder : Bool} {col_InvalidLadder : Option Bool} {dd_InvalidLadder : Option Addr} {m0_InvalidLadder m1_InvalidLadder m2_InvalidLadder m3_InvalidLadder m5_InvalidLadder : Option Value}
    {C_InvalidSet : Addr} {nm_InvalidSet q_InvalidSet : Str} {N_InvalidSet : Addr} {bs_InvalidSet bm_InvalidSet : List Value} {sn_InvalidSet : List Str} {sub_InvalidSet : List Value} {ab_InvalidSet : Bool} {col_InvalidSet : Option Bool} {dd_InvalidSet : Option Addr} {m0_InvalidSet m1_InvalidSet m2_InvalidSet m3_InvalidSet m5_InvalidSet : Option Value}
    {C_InvalidNumber : Addr} {nm_InvalidNumber q_InvalidNumber : Str} {N_InvalidNumber : Addr} {bs_InvalidNumber bm_InvalidNumber : List Value} {sn_InvalidNumber : List Str} {sub_InvalidNumber : List Value} {ab_InvalidNumber : Bool} {col_InvalidNumber : Option Bool} {dd_InvalidNumber : Option Addr} {m0_InvalidNumber m1_InvalidNumber m2_InvalidNumber m3_InvalidNumber m5_InvalidNumber : Option Value}
    {C_InvalidYears : Addr} {nm_InvalidYears q_InvalidYears : Str} {N_InvalidYears : Addr} {bs_InvalidYears bm_InvalidYears : List Value} {sn_InvalidYears : List Str} {sub_InvalidYears : List Value} {ab_InvalidYears : Bool} {col_InvalidYears : Option Bool} {dd_InvalidYears : Option Addr} {m0_InvalidYears m1_InvalidYears m2_InvalidYears m3_InvalidYears m5_InvalidYears : Option Value}
    {C_InvalidDate : Addr} {nm_InvalidDate q_InvalidDate : Str} {N_InvalidDate : Addr} {bs_InvalidDate bm_InvalidDate : List Value} {sn_InvalidDate : List Str} {sub_InvalidDate : List Value} {ab_InvalidDate : Bool} {col_InvalidDate : Option Bool} {dd_InvalidDate : Option Addr} {m0_InvalidDate m1_InvalidDate m2_InvalidDate m3_InvalidDate m5_InvalidDate : Option Value}
    {C_InvalidName : Addr} {nm_InvalidName q_InvalidName : Str} {N_InvalidName : Addr} {bs_InvalidName bm_InvalidName : List Value} {sn_InvalidName : List Str} {sub_InvalidName : List Value} {ab_InvalidName : Bool} {col_InvalidName : Option Bool} {dd_InvalidName : Option Addr} {m0_InvalidName m1_InvalidName m2_InvalidName m3_InvalidName m5_InvalidName : Option Value}
    {C_DoubleName : Addr} {nm_DoubleName q_DoubleName : Str} {N_DoubleName : Addr} {bs_DoubleName bm_DoubleName : List Value} {sn_DoubleName : List Str} {sub_DoubleName : List Value} {ab_DoubleName : Bool} {col_DoubleName : Option Bool} {dd_DoubleName : Option Addr} {m0_DoubleName m1_DoubleName m2_DoubleName m3_DoubleName m5_DoubleName : Option Value}
    {C_UnknownName : Addr} {nm_UnknownName q_UnknownName : Str} {N_UnknownName : Addr} {bs_UnknownName bm_UnknownName : List Value} {sn_UnknownName : List Str} {sub_UnknownName : List Value} {ab_UnknownName : Bool} {col_UnknownName : Option Bool} {dd_UnknownName : Option Addr} {m0_UnknownName m1_UnknownName m2_UnknownName m3_UnknownName m5_UnknownName : Option Value}
    {C_NoDays : Addr} {nm_NoDays q_NoDays : Str} {N_NoDays : Addr} {bs_NoDays bm_NoDays : List Value} {sn_NoDays : List Str} {sub_NoDays : List Value} {ab_NoDays : Bool} {col_NoDays : Option Bool} {dd_NoDays : Option Addr} {m0_NoDays m1_NoDays m2_NoDays m3_NoDays m5_NoDays : Option Value}
    {C_InvalidNote : Addr} {nm_InvalidNote q_InvalidNote : Str} {N_InvalidNote : Addr} {bs_InvalidNote bm_InvalidNote : List Value} {sn_InvalidNote : List Str} {sub_InvalidNote : List Value} {ab_InvalidNote : Bool} {col_InvalidNote : Option Bool} {dd_InvalidNote : Option Addr} {m0_InvalidNote m1_InvalidNote m2_InvalidNote m3_InvalidNote m5_InvalidNote : Option Value}
    {C_NothingToUndo : Addr} {nm_NothingToUndo q_NothingToUndo : Str} {N_NothingToUndo : Addr} {bs_NothingToUndo bm_NothingToUndo : List Value} {sn_NothingToUndo : List Str} {sub_NothingToUndo : List Value} {ab_NothingToUndo : Bool} {col_NothingToUndo : Option Bool} {dd_NothingToUndo : Option Addr} {m0_NothingToUndo m1_NothingToUndo m2_NothingToUndo m3_NothingToUndo m5_NothingToUndo : Option Value}
    {C_Unreadable : Addr} {nm_Unreadable q_Unreadable : Str} {N_Unreadable : Addr} {bs_Unreadable bm_Unreadable : List Value} {sn_Unreadable : List Str} {sub_Unreadable : List Value} {ab_Unreadable : Bool} {col_Unreadable : Option Bool} {dd_Unreadable : Option Addr} {m0_Unreadable m1_Unreadable m2_Unreadable m3_Unreadable m5_Unreadable : Option Value}
    {f_init : Addr} {od_init an_init : Option Addr} {sl_init : Array (Option Value)} {oc_init kV_init dc_init pm_init cd_init ct_init : Value}
    (z_max : PySem.W.nsIn K mainGlobals "max" = some none)
    (z_len : PySem.W.nsIn K mainGlobals "len" = some none)
    (z_int : PySem.W.nsIn K mainGlobals "int" = some none)
    (z_abs : PySem.W.nsIn K mainGlobals "abs" = some none)
    (z_isinstance : PySem.W.nsIn K mainGlobals "isinstance" = some none)
    (z_list : PySem.W.nsIn K mainGlobals "list" = some none)
    (z_tuple : PySem.W.nsIn K mainGlobals "tuple" = some none)
    (z_range : PySem.W.nsIn K mainGlobals "range" = some none)
    (z_repr : PySem.W.nsIn K mainGlobals "repr" = some none)
    (z_sorted : PySem.W.nsIn K mainGlobals "sorted" = some none)
    (z_ValueError : PySem.W.nsIn K mainGlobals "ValueError" = some none)
    (z_set : PySem.W.nsIn K mainGlobals "set" = some none)
    (z_min : PySem.W.nsIn K mainGlobals "min" = some none)
    (a__law_dl_sack : PySem.W.nsIn K mainGlobals "_law_dl_sack" = some (some (.ref f__law_dl_sack)))
    (l__law_dl_sack : K.lookup f__law_dl_sack = some ⟨oc__law_dl_sack, od__law_dl_sack, .func (PySem.W.fnOf "_law_dl_sack" "_law_dl_sack" (defArgs s__law_dl_sack) (defBody s__law_dl_sack) (defScope s__law_dl_sack) .none kV__law_dl_sack dc__law_dl_sack pm__law_dl_sack an__law_dl_sack cd__law_dl_sack ct__law_dl_sack), sl__law_dl_sack⟩)
    (c__law_dl_sack : PySem.W.codeIn K cd__law_dl_sack "_law_dl_sack" = true) (k__law_dl_sack : PySem.W.keepIn K (.ref f__law_dl_sack) = true)
    (a__law_dl_pick : PySem.W.nsIn K mainGlobals "_law_dl_pick" = some (some (.ref f__law_dl_pick)))
    (l__law_dl_pick : K.lookup f__law_dl_pick = some ⟨oc__law_dl_pick, od__law_dl_pick, .func (PySem.W.fnOf "_law_dl_pick" "_law_dl_pick" (defArgs s__law_dl_pick) (defBody s__law_dl_pick) (defScope s__law_dl_pick) .none kV__law_dl_pick dc__law_dl_pick pm__law_dl_pick an__law_dl_pick cd__law_dl_pick ct__law_dl_pick), sl__law_dl_pick⟩)
    (c__law_dl_pick : PySem.W.codeIn K cd__law_dl_pick "_law_dl_pick" = true) (k__law_dl_pick : PySem.W.keepIn K (.ref f__law_dl_pick) = true)
    (a__law_dl_ranks : PySem.W.nsIn K mainGlobals "_law_dl_ranks" = some (some (.ref f__law_dl_ranks)))
    (l__law_dl_ranks : K.lookup f__law_dl_ranks = some ⟨oc__law_dl_ranks, od__law_dl_ranks, .func (PySem.W.fnOf "_law_dl_ranks" "_law_dl_ranks" (defArgs s__law_dl_ranks) (defBody s__law_dl_ranks) (defScope s__law_dl_ranks) .none kV__law_dl_ranks dc__law_dl_ranks pm__law_dl_ranks an__law_dl_ranks cd__law_dl_ranks ct__law_dl_ranks), sl__law_dl_ranks⟩)
    (c__law_dl_ranks : PySem.W.codeIn K cd__law_dl_ranks "_law_dl_ranks" = true) (k__law_dl_ranks : PySem.W.keepIn K (.ref f__law_dl_ranks) = true)
    (a__law_dl_first_error : PySem.W.nsIn K mainGlobals "_law_dl_first_error" = some (some (.ref f__law_dl_first_error)))
    (l__law_dl_first_error : K.lookup f__law_dl_first_error = some ⟨oc__law_dl_first_error, od__law_dl_first_error, .func (PySem.W.fnOf "_law_dl_first_error" "_law_dl_first_error" (defArgs s__law_dl_first_error) (defBody s__law_dl_first_error) (defScope s__law_dl_first_error) .none kV__law_dl_first_error dc__law_dl_first_error pm__law_dl_first_error an__law_dl_first_error cd__law_dl_first_error ct__law_dl_first_error), sl__law_dl_first_error⟩)
    (c__law_dl_first_error : PySem.W.codeIn K cd__law_dl_first_error "_law_dl_first_error" = true) (k__law_dl_first_error : PySem.W.keepIn K (.ref f__law_dl_first_error) = true)
    (a__law_dl_made_error : PySem.W.nsIn K mainGlobals "_law_dl_made_error" = some (some (.ref f__law_dl_made_error)))
    (l__law_dl_made_error : K.lookup f__law_dl_made_error = some ⟨oc__law_dl_made_error, od__law_dl_made_error, .func (PySem.W.fnOf "_law_dl_made_error" "_law_dl_made_error" (defArgs s__law_dl_made_error) (defBody s__law_dl_made_error) (defScope s__law_dl_made_error) .none kV__law_dl_made_error dc__law_dl_made_error pm__law_dl_made_error an__law_dl_made_error cd__law_dl_made_error ct__law_dl_made_error), sl__law_dl_made_error⟩)
    (c__law_dl_made_error : PySem.W.codeIn K cd__law_dl_made_error "_law_dl_made_error" = true) (k__law_dl_made_error : PySem.W.keepIn K (.ref f__law_dl_made_error) = true)
    (a__law_dl_of_kinds : PySem.W.nsIn K mainGlobals "_law_dl_of_kinds" = some (some (.ref f__law_dl_of_kinds)))
    (l__law_dl_of_kinds : K.lookup f__law_dl_of_kinds = some ⟨oc__law_dl_of_kinds, od__law_dl_of_kinds, .func (PySem.W.fnOf "_law_dl_of_kinds" "_law_dl_of_kinds" (defArgs s__law_dl_of_kinds) (defBody s__law_dl_of_kinds) (defScope s__law_dl_of_kinds) .none kV__law_dl_of_kinds dc__law_dl_of_kinds pm__law_dl_of_kinds an__law_dl_of_kinds cd__law_dl_of_kinds ct__law_dl_of_kinds), sl__law_dl_of_kinds⟩)
    (c__law_dl_of_kinds : PySem.W.codeIn K cd__law_dl_of_kinds "_law_dl_of_kinds" = true) (k__law_dl_of_kinds : PySem.W.keepIn K (.ref f__law_dl_of_kinds) = true)
    (a__law_right : PySem.W.nsIn K mainGlobals "_law_right" = some (some (.ref f__law_right)))
    (l__law_right : K.lookup f__law_right = some ⟨oc__law_right, od__law_right, .func (PySem.W.fnOf "_law_right" "_law_right" (defArgs s__law_right) (defBody s__law_right) (defScope s__law_right) .none kV__law_right dc__law_right pm__law_right an__law_right cd__law_right ct__law_right), sl__law_right⟩)
    (c__law_right : PySem.W.codeIn K cd__law_right "_law_right" = true) (k__law_right : PySem.W.keepIn K (.ref f__law_right) = true)
    (a_law : PySem.W.nsIn K mainGlobals "law" = some (some (.ref f_law)))
    (l_law : K.lookup f_law = some ⟨oc_law, od_law, .func (PySem.W.fnOf "law" "law" (defArgs s_law) (defBody s_law) (defScope s_law) .none kV_law dc_law pm_law an_law cd_law ct_law), sl_law⟩)
    (c_law : PySem.W.codeIn K cd_law "law" = true) (k_law : PySem.W.keepIn K (.ref f_law) = true)
    (g_DaysError : PySem.W.nsIn K mainGlobals "DaysError" = some (some (.ref C_DaysError)))
    (x_DaysError : K.lookup C_DaysError = some (excClassObj nm_DaysError q_DaysError C_DaysError N_DaysError bs_DaysError bm_DaysError true sn_DaysError sub_DaysError ab_DaysError col_DaysError dd_DaysError m0_DaysError m1_DaysError m2_DaysError m3_DaysError m5_DaysError "ValueError.__new__"))
    (g_InvalidRow : PySem.W.nsIn K mainGlobals "InvalidRow" = some (some (.ref C_InvalidRow)))
    (x_InvalidRow : K.lookup C_InvalidRow = some (excClassObj nm_InvalidRow q_InvalidRow C_InvalidRow N_InvalidRow bs_InvalidRow bm_InvalidRow true sn_InvalidRow sub_InvalidRow ab_InvalidRow col_InvalidRow dd_InvalidRow m0_InvalidRow m1_InvalidRow m2_InvalidRow m3_InvalidRow m5_InvalidRow "ValueError.__new__"))
    (g_InvalidLadder : PySem.W.nsIn K mainGlobals "InvalidLadder" = some (some (.ref C_InvalidLadder)))
    (x_InvalidLadder : K.lookup C_InvalidLadder = some (excClassObj nm_InvalidLadder q_InvalidLadder C_InvalidLadder N_InvalidLadder bs_InvalidLadder bm_InvalidLadder true sn_InvalidLadder sub_InvalidLadder ab_InvalidLadder col_InvalidLadder dd_InvalidLadder m0_InvalidLadder m1_InvalidLadder m2_InvalidLadder m3_InvalidLadder m5_InvalidLadder "ValueError.__new__"))
    (g_InvalidSet : PySem.W.nsIn K mainGlobals "InvalidSet" = some (some (.ref C_InvalidSet)))
    (x_InvalidSet : K.lookup C_InvalidSet = some (excClassObj nm_InvalidSet q_InvalidSet C_InvalidSet N_InvalidSet bs_InvalidSet bm_InvalidSet true sn_InvalidSet sub_InvalidSet ab_InvalidSet col_InvalidSet dd_InvalidSet m0_InvalidSet m1_InvalidSet m2_InvalidSet m3_InvalidSet m5_InvalidSet "ValueError.__new__"))
    (g_InvalidNumber : PySem.W.nsIn K mainGlobals "InvalidNumber" = some (some (.ref C_InvalidNumber)))
    (x_InvalidNumber : K.lookup C_InvalidNumber = some (excClassObj nm_InvalidNumber q_InvalidNumber C_InvalidNumber N_InvalidNumber bs_InvalidNumber bm_InvalidNumber true sn_InvalidNumber sub_InvalidNumber ab_InvalidNumber col_InvalidNumber dd_InvalidNumber m0_InvalidNumber m1_InvalidNumber m2_InvalidNumber m3_InvalidNumber m5_InvalidNumber "ValueError.__new__"))
    (g_InvalidYears : PySem.W.nsIn K mainGlobals "InvalidYears" = some (some (.ref C_InvalidYears)))
    (x_InvalidYears : K.lookup C_InvalidYears = some (excClassObj nm_InvalidYears q_InvalidYears C_InvalidYears N_InvalidYears bs_InvalidYears bm_InvalidYears true sn_InvalidYears sub_InvalidYears ab_InvalidYears col_InvalidYears dd_InvalidYears m0_InvalidYears m1_InvalidYears m2_InvalidYears m3_InvalidYears m5_InvalidYears "ValueError.__new__"))
    (g_InvalidDate : PySem.W.nsIn K mainGlobals "InvalidDate" = some (some (.ref C_InvalidDate)))
    (x_InvalidDate : K.lookup C_InvalidDate = some (excClassObj nm_InvalidDate q_InvalidDate C_InvalidDate N_InvalidDate bs_InvalidDate bm_InvalidDate true sn_InvalidDate sub_InvalidDate ab_InvalidDate col_InvalidDate dd_InvalidDate m0_InvalidDate m1_InvalidDate m2_InvalidDate m3_InvalidDate m5_InvalidDate "ValueError.__new__"))
    (g_InvalidName : PySem.W.nsIn K mainGlobals "InvalidName" = some (some (.ref C_InvalidName)))
    (x_InvalidName : K.lookup C_InvalidName = some (excClassObj nm_InvalidName q_InvalidName C_InvalidName N_InvalidName bs_InvalidName bm_InvalidName true sn_InvalidName sub_InvalidName ab_InvalidName col_InvalidName dd_InvalidName m0_InvalidName m1_InvalidName m2_InvalidName m3_InvalidName m5_InvalidName "ValueError.__new__"))
    (g_DoubleName : PySem.W.nsIn K mainGlobals "DoubleName" = some (some (.ref C_DoubleName)))
    (x_DoubleName : K.lookup C_DoubleName = some (excClassObj nm_DoubleName q_DoubleName C_DoubleName N_DoubleName bs_DoubleName bm_DoubleName true sn_DoubleName sub_DoubleName ab_DoubleName col_DoubleName dd_DoubleName m0_DoubleName m1_DoubleName m2_DoubleName m3_DoubleName m5_DoubleName "ValueError.__new__"))
    (g_UnknownName : PySem.W.nsIn K mainGlobals "UnknownName" = some (some (.ref C_UnknownName)))
    (x_UnknownName : K.lookup C_UnknownName = some (excClassObj nm_UnknownName q_UnknownName C_UnknownName N_UnknownName bs_UnknownName bm_UnknownName true sn_UnknownName sub_UnknownName ab_UnknownName col_UnknownName dd_UnknownName m0_UnknownName m1_UnknownName m2_UnknownName m3_UnknownName m5_UnknownName "ValueError.__new__"))
    (g_NoDays : PySem.W.nsIn K mainGlobals "NoDays" = some (some (.ref C_NoDays)))
    (x_NoDays : K.lookup C_NoDays = some (excClassObj nm_NoDays q_NoDays C_NoDays N_NoDays bs_NoDays bm_NoDays true sn_NoDays sub_NoDays ab_NoDays col_NoDays dd_NoDays m0_NoDays m1_NoDays m2_NoDays m3_NoDays m5_NoDays "ValueError.__new__"))
    (g_InvalidNote : PySem.W.nsIn K mainGlobals "InvalidNote" = some (some (.ref C_InvalidNote)))
    (x_InvalidNote : K.lookup C_InvalidNote = some (excClassObj nm_InvalidNote q_InvalidNote C_InvalidNote N_InvalidNote bs_InvalidNote bm_InvalidNote true sn_InvalidNote sub_InvalidNote ab_InvalidNote col_InvalidNote dd_InvalidNote m0_InvalidNote m1_InvalidNote m2_InvalidNote m3_InvalidNote m5_InvalidNote "ValueError.__new__"))
    (g_NothingToUndo : PySem.W.nsIn K mainGlobals "NothingToUndo" = some (some (.ref C_NothingToUndo)))
    (x_NothingToUndo : K.lookup C_NothingToUndo = some (excClassObj nm_NothingToUndo q_NothingToUndo C_NothingToUndo N_NothingToUndo bs_NothingToUndo bm_NothingToUndo true sn_NothingToUndo sub_NothingToUndo ab_NothingToUndo col_NothingToUndo dd_NothingToUndo m0_NothingToUndo m1_NothingToUndo m2_NothingToUndo m3_NothingToUndo m5_NothingToUndo "ValueError.__new__"))
    (g_Unreadable : PySem.W.nsIn K mainGlobals "Unreadable" = some (some (.ref C_Unreadable)))
    (x_Unreadable : K.lookup C_Unreadable = some (excClassObj nm_Unreadable q_Unreadable C_Unreadable N_Unreadable bs_Unreadable bm_Unreadable true sn_Unreadable sub_Unreadable ab_Unreadable col_Unreadable dd_Unreadable m0_Unreadable m1_Unreadable m2_Unreadable m3_Unreadable m5_Unreadable "ValueError.__new__"))
    (a_init : PySem.W.findIn K (.ref C_DaysError) "__init__" = some (some (.ref f_init)))
    (l_init : K.lookup f_init = some ⟨oc_init, od_init, .func (PySem.W.fnOf "__init__" "DaysError.__init__" (defArgs s_init) (defBody s_init) (defScope s_init) .none kV_init dc_init pm_init an_init cd_init ct_init), sl_init⟩)
    (c_init : PySem.W.codeIn K cd_init "DaysError.__init__" = true) (k_init : PySem.W.keepIn K (.ref f_init) = true)
    (r_DaysError : PySem.HandSPX.refsVE bm_DaysError = true) (e_DaysError : ecB K C_DaysError f_init = true)
    (r_InvalidRow : PySem.HandSPX.refsVE bm_InvalidRow = true) (e_InvalidRow : ecB K C_InvalidRow f_init = true)
    (r_InvalidLadder : PySem.HandSPX.refsVE bm_InvalidLadder = true) (e_InvalidLadder : ecB K C_InvalidLadder f_init = true)
    (r_InvalidSet : PySem.HandSPX.refsVE bm_InvalidSet = true) (e_InvalidSet : ecB K C_InvalidSet f_init = true)
    (r_InvalidNumber : PySem.HandSPX.refsVE bm_InvalidNumber = true) (e_InvalidNumber : ecB K C_InvalidNumber f_init = true)
    (r_InvalidYears : PySem.HandSPX.refsVE bm_InvalidYears = true) (e_InvalidYears : ecB K C_InvalidYears f_init = true)
    (r_InvalidDate : PySem.HandSPX.refsVE bm_InvalidDate = true) (e_InvalidDate : ecB K C_InvalidDate f_init = true)
    (r_InvalidName : PySem.HandSPX.refsVE bm_InvalidName = true) (e_InvalidName : ecB K C_InvalidName f_init = true)
    (r_DoubleName : PySem.HandSPX.refsVE bm_DoubleName = true) (e_DoubleName : ecB K C_DoubleName f_init = true)
    (r_UnknownName : PySem.HandSPX.refsVE bm_UnknownName = true) (e_UnknownName : ecB K C_UnknownName f_init = true)
    (r_NoDays : PySem.HandSPX.refsVE bm_NoDays = true) (e_NoDays : ecB K C_NoDays f_init = true)
    (r_InvalidNote : PySem.HandSPX.refsVE bm_InvalidNote = true) (e_InvalidNote : ecB K C_InvalidNote f_init = true)
    (r_NothingToUndo : PySem.HandSPX.refsVE bm_NothingToUndo = true) (e_NothingToUndo : ecB K C_NothingToUndo f_init = true)
    (r_Unreadable : PySem.HandSPX.refsVE bm_Unreadable = true) (e_Unreadable : ecB K C_Unreadable f_init = true)
    (kt : kitsB K [C_DaysError, C_InvalidRow, C_InvalidLadder, C_InvalidSet, C_InvalidNumber, C_InvalidYears, C_InvalidDate, C_InvalidName, C_DoubleName, C_UnknownName, C_NoDays, C_InvalidNote, C_NothingToUndo, C_Unreadable] = true)
    : ∃ fd : FuncData, (∀ (s : Shared) (v : Value), BindsTo s fd ⟨[v], []⟩ [("_law_script", v)]) ∧ ∀ base : Heap, K.In base → base.Ns mainGlobals mg → FnG P w K mg base 8 fa fd ["_law_script"] (spLaw K) := by
  have e0 := hfa.symm.trans (PySem.W.mg_of X G a_law)
  cases e0
  have F__law_dl_sack := fun_mk (st := s__law_dl_sack) l__law_dl_sack c__law_dl_sack k__law_dl_sack
  have b__law_dl_sack := F__law_dl_sack.binds (ps := ["_law_script", "_law_rank"]) fun _ _ _ _ _ _ us hl => match us, hl with | [_, _], _ => rfl
  have F__law_dl_pick := fun_mk (st := s__law_dl_pick) l__law_dl_pick c__law_dl_pick k__law_dl_pick
  have b__law_dl_pick := F__law_dl_pick.binds (ps := ["_law_sack", "_law_many"]) fun _ _ _ _ _ _ us hl => match us, hl with | [_, _], _ => rfl
  have F__law_dl_ranks := fun_mk (st := s__law_dl_ranks) l__law_dl_ranks c__law_dl_ranks k__law_dl_ranks
  have b__law_dl_ranks := F__law_dl_ranks.binds (ps := ["_law_thing", "_law_ranks"]) fun _ _ _ _ _ _ us hl => match us, hl with | [_, _], _ => rfl
  have F__law_dl_first_error := fun_mk (st := s__law_dl_first_error) l__law_dl_first_error c__law_dl_first_error k__law_dl_first_error
  have b__law_dl_first_error := F__law_dl_first_error.binds (ps := ["_law_rank", "_law_thing", "_law_is_named"]) fun _ _ _ _ _ _ us hl => match us, hl with | [_, _, _], _ => rfl
  have F__law_dl_made_error := fun_mk (st := s__law_dl_made_error) l__law_dl_made_error c__law_dl_made_error k__law_dl_made_error
  have b__law_dl_made_error := F__law_dl_made_error.binds (ps := ["_law_rank", "_law_thing", "_law_is_named"]) fun _ _ _ _ _ _ us hl => match us, hl with | [_, _, _], _ => rfl
  have F__law_dl_of_kinds := fun_mk (st := s__law_dl_of_kinds) l__law_dl_of_kinds c__law_dl_of_kinds k__law_dl_of_kinds
  have b__law_dl_of_kinds := F__law_dl_of_kinds.binds (ps := ["_law_caught"]) fun _ _ _ _ _ _ us hl => match us, hl with | [_], _ => rfl
  have F__law_right := fun_mk (st := s__law_right) l__law_right c__law_right k__law_right
  have b__law_right := F__law_right.binds (ps := ["_law_sack"]) fun _ _ _ _ _ _ us hl => match us, hl with | [_], _ => rfl
  have F_law := fun_mk (st := s_law) l_law c_law k_law
  have b_law := F_law.binds (ps := ["_law_script"]) fun _ _ _ _ _ _ us hl => match us, hl with | [_], _ => rfl
  have F_init := Fun.mk (x := "__init__") (qual := "DaysError.__init__") (st := s_init) ⟨oc_init, od_init, kV_init, dc_init, pm_init, an_init, cd_init, ct_init, sl_init, rfl, l_init, c_init⟩ k_init
  let T : Tx K mg := {
    m_max := PySem.W.mg_none_of X G z_max
    m_len := PySem.W.mg_none_of X G z_len
    m_int := PySem.W.mg_none_of X G z_int
    m_abs := PySem.W.mg_none_of X G z_abs
    m_isinstance := PySem.W.mg_none_of X G z_isinstance
    m_list := PySem.W.mg_none_of X G z_list
    m_tuple := PySem.W.mg_none_of X G z_tuple
    m_range := PySem.W.mg_none_of X G z_range
    m_repr := PySem.W.mg_none_of X G z_repr
    m_sorted := PySem.W.mg_none_of X G z_sorted
    m_ValueError := PySem.W.mg_none_of X G z_ValueError
    m_set := PySem.W.mg_none_of X G z_set
    m_min := PySem.W.mg_none_of X G z_min
    f__law_dl_sack := f__law_dl_sack, d__law_dl_sack := _, F__law_dl_sack := F__law_dl_sack, g__law_dl_sack := PySem.W.mg_of X G a__law_dl_sack, b__law_dl_sack := b__law_dl_sack
    f__law_dl_pick := f__law_dl_pick, d__law_dl_pick := _, F__law_dl_pick := F__law_dl_pick, g__law_dl_pick := PySem.W.mg_of X G a__law_dl_pick, b__law_dl_pick := b__law_dl_pick
    f__law_dl_ranks := f__law_dl_ranks, d__law_dl_ranks := _, F__law_dl_ranks := F__law_dl_ranks, g__law_dl_ranks := PySem.W.mg_of X G a__law_dl_ranks, b__law_dl_ranks := b__law_dl_ranks
    f__law_dl_first_error := f__law_dl_first_error, d__law_dl_first_error := _, F__law_dl_first_error := F__law_dl_first_error, g__law_dl_first_error := PySem.W.mg_of X G a__law_dl_first_error, b__law_dl_first_error := b__law_dl_first_error
    f__law_dl_made_error := f__law_dl_made_error, d__law_dl_made_error := _, F__law_dl_made_error := F__law_dl_made_error, g__law_dl_made_error := PySem.W.mg_of X G a__law_dl_made_error, b__law_dl_made_error := b__law_dl_made_error
    f__law_dl_of_kinds := f__law_dl_of_kinds, d__law_dl_of_kinds := _, F__law_dl_of_kinds := F__law_dl_of_kinds, g__law_dl_of_kinds := PySem.W.mg_of X G a__law_dl_of_kinds, b__law_dl_of_kinds := b__law_dl_of_kinds
    f__law_right := f__law_right, d__law_right := _, F__law_right := F__law_right, g__law_right := PySem.W.mg_of X G a__law_right, b__law_right := b__law_right
    f_law := _, d_law := _, F_law := F_law, g_law := PySem.W.mg_of X G a_law, b_law := b_law
    f_init := f_init, d_init := _, F_init := F_init, bp_init := fun s a u => .of_eq rfl, bk_init := fun s a u => .of_eq rfl
    C_DaysError := C_DaysError, g_DaysError := PySem.W.mg_of X G g_DaysError, X_DaysError := ec_of x_DaysError r_DaysError e_DaysError
    C_InvalidRow := C_InvalidRow, g_InvalidRow := PySem.W.mg_of X G g_InvalidRow, X_InvalidRow := ec_of x_InvalidRow r_InvalidRow e_InvalidRow
    C_InvalidLadder := C_InvalidLadder, g_InvalidLadder := PySem.W.mg_of X G g_InvalidLadder, X_InvalidLadder := ec_of x_InvalidLadder r_InvalidLadder e_InvalidLadder
    C_InvalidSet := C_InvalidSet, g_InvalidSet := PySem.W.mg_of X G g_InvalidSet, X_InvalidSet := ec_of x_InvalidSet r_InvalidSet e_InvalidSet
    C_InvalidNumber := C_InvalidNumber, g_InvalidNumber := PySem.W.mg_of X G g_InvalidNumber, X_InvalidNumber := ec_of x_InvalidNumber r_InvalidNumber e_InvalidNumber
    C_InvalidYears := C_InvalidYears, g_InvalidYears := PySem.W.mg_of X G g_InvalidYears, X_InvalidYears := ec_of x_InvalidYears r_InvalidYears e_InvalidYears
    C_InvalidDate := C_InvalidDate, g_InvalidDate := PySem.W.mg_of X G g_InvalidDate, X_InvalidDate := ec_of x_InvalidDate r_InvalidDate e_InvalidDate
    C_InvalidName := C_InvalidName, g_InvalidName := PySem.W.mg_of X G g_InvalidName, X_InvalidName := ec_of x_InvalidName r_InvalidName e_InvalidName
    C_DoubleName := C_DoubleName, g_DoubleName := PySem.W.mg_of X G g_DoubleName, X_DoubleName := ec_of x_DoubleName r_DoubleName e_DoubleName
    C_UnknownName := C_UnknownName, g_UnknownName := PySem.W.mg_of X G g_UnknownName, X_UnknownName := ec_of x_UnknownName r_UnknownName e_UnknownName
    C_NoDays := C_NoDays, g_NoDays := PySem.W.mg_of X G g_NoDays, X_NoDays := ec_of x_NoDays r_NoDays e_NoDays
    C_InvalidNote := C_InvalidNote, g_InvalidNote := PySem.W.mg_of X G g_InvalidNote, X_InvalidNote := ec_of x_InvalidNote r_InvalidNote e_InvalidNote
    C_NothingToUndo := C_NothingToUndo, g_NothingToUndo := PySem.W.mg_of X G g_NothingToUndo, X_NothingToUndo := ec_of x_NothingToUndo r_NothingToUndo e_NothingToUndo
    C_Unreadable := C_Unreadable, g_Unreadable := PySem.W.mg_of X G g_Unreadable, X_Unreadable := ec_of x_Unreadable r_Unreadable e_Unreadable
    kits := kt
  }
  exact ⟨_, fun s v => .of_eq rfl, fun base _ _ => ok_law T⟩
end K00
open PySem PySem.W PyProof.Rows
set_option maxHeartbeats 0 in
theorem PySem.Challenge.cw_ladderdays_k00_errors_keep_their_value_holds : PySem.Challenge.rw_ladderdays_k00_errors_keep_their_value.Holds := by
  w_on; o_law; k_head; (case hw => w_witness2)
  k_fill
  refine Ly.walkG (l := PySem.Challenge.rw_ladderdays_k00_errors_keep_their_value) (n := 63) (k := 8) (x := "_law_script") (sp := K00.spLaw) rfl (by decide) rfl ⟨rfl, by decide, by decide⟩ (fun w h Y => PySem.W.kIn_of Y) ?F (fun _ _ a ns hl _ _ hS => ⟨a, ns, rfl, hS, hl, fun _ => rfl⟩)
  case F =>
    intro w mg fa h KX G hmg
    refine' K00.all_mk KX G hmg ?z_max ?z_len ?z_int ?z_abs ?z_isinstance ?z_list ?z_tuple ?z_range ?z_repr ?z_sorted ?z_ValueError ?z_set ?z_min ?a__law_dl_sack ?l__law_dl_sack ?c__law_dl_sack ?k__law_dl_sack ?a__law_dl_pick ?l__law_dl_pick ?c__law_dl_pick ?k__law_dl_pick ?a__law_dl_ranks ?l__law_dl_ranks ?c__law_dl_ranks ?k__law_dl_ranks ?a__law_dl_first_error ?l__law_dl_first_error ?c__law_dl_first_error ?k__law_dl_first_error ?a__law_dl_made_error ?l__law_dl_made_error ?c__law_dl_made_error ?k__law_dl_made_error ?a__law_dl_of_kinds ?l__law_dl_of_kinds ?c__law_dl_of_kinds ?k__law_dl_of_kinds ?a__law_right ?l__law_right ?c__law_right ?k__law_right ?a_law ?l_law ?c_law ?k_law ?g_DaysError ?x_DaysError ?g_InvalidRow ?x_InvalidRow ?g_InvalidLadder ?x_InvalidLadder ?g_InvalidSet ?x_InvalidSet ?g_InvalidNumber ?x_InvalidNumber ?g_InvalidYears ?x_InvalidYears ?g_InvalidDate ?x_InvalidDate ?g_InvalidName ?x_InvalidName ?g_DoubleName ?x_DoubleName ?g_UnknownName ?x_UnknownName ?g_NoDays ?x_NoDays ?g_InvalidNote ?x_InvalidNote ?g_NothingToUndo ?x_NothingToUndo ?g_Unreadable ?x_Unreadable ?a_init ?l_init ?c_init ?k_init ?r_DaysError ?e_DaysError ?r_InvalidRow ?e_InvalidRow ?r_InvalidLadder ?e_InvalidLadder ?r_InvalidSet ?e_InvalidSet ?r_InvalidNumber ?e_InvalidNumber ?r_InvalidYears ?e_InvalidYears ?r_InvalidDate ?e_InvalidDate ?r_InvalidName ?e_InvalidName ?r_DoubleName ?e_DoubleName ?r_UnknownName ?e_UnknownName ?r_NoDays ?e_NoDays ?r_InvalidNote ?e_InvalidNote ?r_NothingToUndo ?e_NothingToUndo ?r_Unreadable ?e_Unreadable ?kt
    (case z_max => k_is)
    (case z_len => k_is)
    (case z_int => k_is)
    (case z_abs => k_is)
    (case z_isinstance => k_is)
    (case z_list => k_is)
    (case z_tuple => k_is)
    (case z_range => k_is)
    (case z_repr => k_is)
    (case z_sorted => k_is)
    (case z_ValueError => k_is)
    (case z_set => k_is)
    (case z_min => k_is)
    (case a__law_dl_sack => k_is)
    (case l__law_dl_sack => k_is)
    (case c__law_dl_sack => k_is)
    (case k__law_dl_sack => k_is)
    (case a__law_dl_pick => k_is)
    (case l__law_dl_pick => k_is)
    (case c__law_dl_pick => k_is)
    (case k__law_dl_pick => k_is)
    (case a__law_dl_ranks => k_is)
    (case l__law_dl_ranks => k_is)
    (case c__law_dl_ranks => k_is)
    (case k__law_dl_ranks => k_is)
    (case a__law_dl_first_error => k_is)
    (case l__law_dl_first_error => k_is)
    (case c__law_dl_first_error => k_is)
    (case k__law_dl_first_error => k_is)
    (case a__law_dl_made_error => k_is)
    (case l__law_dl_made_error => k_is)
    (case c__law_dl_made_error => k_is)
    (case k__law_dl_made_error => k_is)
    (case a__law_dl_of_kinds => k_is)
    (case l__law_dl_of_kinds => k_is)
    (case c__law_dl_of_kinds => k_is)
    (case k__law_dl_of_kinds => k_is)
    (case a__law_right => k_is)
    (case l__law_right => k_is)
    (case c__law_right => k_is)
    (case k__law_right => k_is)
    (case a_law => k_is)
    (case l_law => k_is)
    (case c_law => k_is)
    (case k_law => k_is)
    (case g_DaysError => k_is)
    (case x_DaysError => k_is)
    (case g_InvalidRow => k_is)
    (case x_InvalidRow => k_is)
    (case g_InvalidLadder => k_is)
    (case x_InvalidLadder => k_is)
    (case g_InvalidSet => k_is)
    (case x_InvalidSet => k_is)
    (case g_InvalidNumber => k_is)
    (case x_InvalidNumber => k_is)
    (case g_InvalidYears => k_is)
    (case x_InvalidYears => k_is)
    (case g_InvalidDate => k_is)
    (case x_InvalidDate => k_is)
    (case g_InvalidName => k_is)
    (case x_InvalidName => k_is)
    (case g_DoubleName => k_is)
    (case x_DoubleName => k_is)
    (case g_UnknownName => k_is)
    (case x_UnknownName => k_is)
    (case g_NoDays => k_is)
    (case x_NoDays => k_is)
    (case g_InvalidNote => k_is)
    (case x_InvalidNote => k_is)
    (case g_NothingToUndo => k_is)
    (case x_NothingToUndo => k_is)
    (case g_Unreadable => k_is)
    (case x_Unreadable => k_is)
    (case a_init => k_is)
    (case l_init => k_is)
    (case c_init => k_is)
    (case k_init => k_is)
    (case r_DaysError => first | rfl | kernel_rfl)
    (case e_DaysError => first | rfl | kernel_rfl)
    (case r_InvalidRow => first | rfl | kernel_rfl)
    (case e_InvalidRow => first | rfl | kernel_rfl)
    (case r_InvalidLadder => first | rfl | kernel_rfl)
    (case e_InvalidLadder => first | rfl | kernel_rfl)
    (case r_InvalidSet => first | rfl | kernel_rfl)
    (case e_InvalidSet => first | rfl | kernel_rfl)
    (case r_InvalidNumber => first | rfl | kernel_rfl)
    (case e_InvalidNumber => first | rfl | kernel_rfl)
    (case r_InvalidYears => first | rfl | kernel_rfl)
    (case e_InvalidYears => first | rfl | kernel_rfl)
    (case r_InvalidDate => first | rfl | kernel_rfl)
    (case e_InvalidDate => first | rfl | kernel_rfl)
    (case r_InvalidName => first | rfl | kernel_rfl)
    (case e_InvalidName => first | rfl | kernel_rfl)
    (case r_DoubleName => first | rfl | kernel_rfl)
    (case e_DoubleName => first | rfl | kernel_rfl)
    (case r_UnknownName => first | rfl | kernel_rfl)
    (case e_UnknownName => first | rfl | kernel_rfl)
    (case r_NoDays => first | rfl | kernel_rfl)
    (case e_NoDays => first | rfl | kernel_rfl)
    (case r_InvalidNote => first | rfl | kernel_rfl)
    (case e_InvalidNote => first | rfl | kernel_rfl)
    (case r_NothingToUndo => first | rfl | kernel_rfl)
    (case e_NothingToUndo => first | rfl | kernel_rfl)
    (case r_Unreadable => first | rfl | kernel_rfl)
    (case e_Unreadable => first | rfl | kernel_rfl)
    (case kt => first | rfl | kernel_rfl)
