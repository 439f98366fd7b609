import PyProof.Rows.All
import Wide.All
import OpenK.AllK
import Wide.FinOn
import PyProof.ReprRoads
import HandS.ForMost
import HandS.ForExc
import HandS.Wide
import HandS.IsInst
import HandS.EndBits
import HandS.Strs
import PyProof.Rows.SetFrom
import HandS.ExcInit
import HandS.ExcField
import HandS.ExcIs
import KE.KExcIs
import HandS.Steps
import PyProof.StrLawsRepr
import PyProof.FitsInt
import HandS.Gcd
import HandS.WideBits
import PySem.Challenge.RW_ladderdays_k01_sets_and_their_days
set_option Elab.async false
set_option linter.all false
set_option maxRecDepth 100000
set_option maxHeartbeats 1000000
namespace Ly
open PySem PySem.Spec PyProof.Rows L2

/-! ### powers of great ints -/
def PowC (i j : Int) : Prop := 0 ≤ j ∧ (i.natAbs.log2 + 1 : Nat) * j ≤ (134217728 : Int)
theorem bits_le (x : Int) : Builtin.Int.intBits x ≤ x.natAbs.log2 + 1 := by
  unfold Builtin.Int.intBits
  split <;> omega
theorem op_powL {X : Cx} : OpR X (binaryOp .Pow) (rI PowC fun i j => .int (i ^ j.toNat)) := opI fun i j _ _ _ _ _ hc q => by
  obtain ⟨h0, h1⟩ := hc
  refine pow_int h0 ?_ q
  have b : (Builtin.Int.intBits i : Int) ≤ ((i.natAbs.log2 + 1 : Nat) : Int) := by exact_mod_cast bits_le i
  have m := Int.mul_le_mul_of_nonneg_right b h0
  have e : (2 : Int) ^ 27 = 134217728 := by decide
  omega

/-! ### defs whose callers stand in no repr -/
structure FnG (P : Program) (w : World) (K : PySem.W.Frag) (mg : Str → Option Value) (base : Heap) (k : Nat) (f : Addr) (fd : FuncData) (ps : List Str) (sp : Sp) : Prop where
  lenG : ∀ vs H Q E, sp vs H Q E → vs.length = ps.length
  runG : ∀ (A : Around), A.guards = some [] → ∀ (outer : List Env) (s : Shared) (H : Hp) (args : Args) (us : List Value) (vs : List V) (Q : VK) (E : XK), Room k A → Env0 P w K mg base A outer s H →
    BindsTo s fd args (ps.zip us) → Vals vs us → sp vs H Q E → codeAny (model P w) A (.call (.ref f) args) (CR CX0 outer P w H s Q E) s
section
variable {P : Program} {w : World} {K : PySem.W.Frag} {mg : Str → Option Value} {base : Heap} {k : Nat} {f : Addr} {fd : FuncData} {ps : List Str} {sp : Sp}
theorem FnG.of (F : FnOk P w K mg base CX0 k f fd ps sp) : FnG P w K mg base k f fd ps sp := ⟨F.len, fun A _ => F.run A⟩
theorem FnG.up {j : Nat} (F : FnG P w K mg base j f fd ps sp) (h : j ≤ k) : FnG P w K mg base k f fd ps sp :=
  ⟨F.lenG, fun A hA o s H args us vs Q E hr => F.runG A hA o s H args us vs Q E (hr.mono h)⟩
end

section
variable {X : Cx} {k : Nat} {f : Addr} {fd : FuncData} {ps : List Str} {sp : Sp} {dvs : List V} {ds : List Value} {x : Str} {p pos : Pos} {e : Expr} {es : List Expr} {t : TA}
theorem FnG.go {pins : List (Addr × Obj)} {σ : L2.St} {H : Hp} {s : Shared} {Q : VK} {us : List Value} {vs : List V} {args : Args} (F : FnG X.prog X.w X.K X.mg X.base k f fd ps sp) (hA : X.A.guards = some []) (hr : Room k X.A)
    (hb : BindsTo s fd args (ps.zip us)) (I : Inv X pins σ H s) (r : Vals vs us) (h : sp vs H Q E0) : codeAny (model X.prog X.w) X.A (.call (.ref f) args) (fun r s' => match r with
      | .ok (.ret u) => EP X pins σ Q u s'
      | .ok _ => False
      | .error _ => False) s := by
  refine codeAny_mono (F.runG X.A hA X.stack s H args us vs Q E0 hr I.env0 hb r h) fun r s' hq => ?_
  rcases r with z | z
  · exact hq
  · cases z <;> first | exact I.after hq | exact hq
theorem pe_g (F : FnG X.prog X.w X.K X.mg X.base k f fd ps sp) (hA : X.A.guards = some []) (hr : Room k X.A) (hg : Gl X x) (hm : X.mg x = some (.ref f)) (hk : PySem.W.keepIn X.K (.ref f) = true) (hb : Binds X.K fd ps [])
    (ha : PA X (e :: es) t) (hdb : (x == ("__debug__" : Str)) = false := by decide) (he : starEach (e :: es) X.env = (false, eval e X.env) :: starEach es X.env := by rfl) (hpl : (backTo pos (starEach es X.env)).any (·.1) = false := by rfl) :
    PE X (.Call (.Name x p) (e :: es) [] pos) (tCall sp [] E0 t) := by
  constructor
  intro pins s σ H Q I h
  refine wpAny_Call_Name_kw (ld_glob I hg hm ?_ hdb)
  refine PySem.W.callWith_K (h₀ := X.base) I.ok.mod.kin hk (thn (ha.run pos pins s σ H _ I h) ?_) he hpl
  rintro us s1 ⟨vs, H1, I1, r, q⟩
  have q1 : sp vs H1 Q E0 := by
    have z := q
    rw [List.append_nil] at z
    exact z
  have hl : (us ++ []).length = ps.length := by
    rw [List.append_nil, ← r.length]
    exact F.lenG _ _ _ _ q1
  have hb1 := hb s1 us I1.kIn hl
  rw [List.append_nil] at hb1
  refine ⟨I1.kIn, wpAny_call (codeAny_mono (F.go hA hr hb1 I1 r q1) fun r s' hq => ?_)⟩
  rcases r with z | z
  · exact hq.elim
  · cases z <;> first | exact hq | exact hq.elim
variable {kws : List Keyword} {tk : TA} {ks : List Str} {g : List Value → List Value → List Value} {gV : List V → List V → List V}
theorem pe_gk (F : FnG X.prog X.w X.K X.mg X.base k f fd ps sp) (hA : X.A.guards = some []) (hr : Room k X.A) (hg : Gl X x) (hm : X.mg x = some (.ref f)) (hk : PySem.W.keepIn X.K (.ref f) = true) (hb : KBinds X.K fd ps ks g gV)
    (ha : PA X (e :: es) t) (hkw : PK X kws tk) (hall : (backToKw pos (keywordEach kws X.env)).all (·.1.isSome) = true := by rfl) (hks : (backToKw pos (keywordEach kws X.env)).filterMap (·.1) = ks := by rfl)
    (hdb : (x == ("__debug__" : Str)) = false := by decide) (he : starEach (e :: es) X.env = (false, eval e X.env) :: starEach es X.env := by rfl)
    (hpl : ((backTo pos (starEach (e :: es) X.env)).any (·.1) || (backToKw pos (keywordEach kws X.env)).any (·.1.isNone)) = false := by rfl) :
    PE X (.Call (.Name x p) (e :: es) kws pos) (tCallK sp gV E0 t tk) := by
  constructor
  intro pins s σ H Q I h
  refine wpAny_Call_Name_kw (ld_glob I hg hm ?_ hdb)
  refine PySem.W.callWith_KW (h₀ := X.base) I.ok.mod.kin hk hall (thn (ha.run pos pins s σ H _ I h) ?_) hpl he
  rintro us s1 ⟨vs, H1, I1, r, q⟩
  refine thn (hkw.run pos pins s1 σ H1 _ I1 q) ?_
  rintro ws s2 ⟨zs, H2, I2, rz, q2⟩
  refine ⟨I2.kIn, ?_⟩
  rw [hks]
  have r2 := hb.rel r rz
  have hl : (g us ws).length = ps.length := by
    rw [← r2.length]
    exact F.lenG _ _ _ _ q2
  refine wpAny_call (codeAny_mono (F.go hA hr (hb.to s2 us ws I2.kIn hl) I2 r2 q2) fun r s' hq => ?_)
  rcases r with z | z
  · exact hq.elim
  · cases z <;> first | exact hq | exact hq.elim
end

/-! ### a def by its body -/
section
variable {P : Program} {w : World} {K : PySem.W.Frag} {mg : Str → Option Value} {base : Heap}
theorem gOf {x qual : Str} {st : Stmt} {f : Addr} {fd : FuncData} {N ps : List Str} {k : Nat} {sp : Sp} (F : Fun K x qual st f fd) (S : FnScope N ps (defScope st)) (len : ∀ vs H Q E, sp vs H Q E → vs.length = ps.length)
    (hbody : ∀ (cdv : Value) (A : Around) (outer : List Env) (s : Shared) (H : Hp) (vs : List V) (Q : VK) (E : XK), A.guards = some [] → Room k (A.deeper (envOfC qual (defScope st) s.heap.objs.size f cdv)) → sp vs H Q E →
      ∃ t, PSs (cxOf CX0 P w K mg base N qual (defScope st) f cdv A outer s H E).nox (defBody st) t ∧ t { nx := fun _ H' => Q .non H', rt := Q } (start N vs) H) : FnG P w K mg base (k + 1) f fd ps sp := by
  obtain ⟨oc, od, kV, doc, pm, an, cdv, ct, osl, rfl, lk, hcd⟩ := F.ex
  refine ⟨len, fun A hA outer s H args us vs Q E hr e0 hb r hsp => ?_⟩
  have hl := len _ _ _ _ hsp
  have KX : K.In s.heap := e0.mod.kin.keeps fun b o z => (e0.bs b o z).1
  have lim : s.heap.NoLimit := e0.mod.nolimit.keeps fun b o z => (e0.bs b o z).1
  have kind1 : ∀ y ∈ ps.zip us, (defScope st).names.lookup y.1 = some .local ∨ ((defScope st).names.lookup y.1 = some .cell ∧ ((cellsFrom (s.heap.objs.size + 1) (defScope st).names []).lookup y.1).isSome = true) := by
    rintro ⟨n, v⟩ hy
    rcases S.par n (List.of_mem_zip hy).1 with q | q
    · exact Or.inl q
    · exact Or.inr ⟨q, PySem.W.cellsFrom_some _ _ _ (Or.inl q)⟩
  refine codeAny_call_function hr.depth (KX _ _ lk) rfl S.co S.gen rfl (PySem.W.codeRec_of KX hcd) (hb _ _ _ _ ?_)
  refine wpAny_newFunctionEnv_cells S.kind kind1 ?_
  rintro env rfl s1 x
  refine ⟨lim.keeps x.toInCall.keep, codeAny_func ?_⟩
  obtain ⟨t, ht, hq⟩ := hbody cdv A outer s H vs Q E hA (hr.deeper _) hsp
  have I := inv_start (CX := CX0) (P := P) (mg := mg) (E := E) (f := f) (cd := cdv) S hr.hd e0 hl r x
  refine wpAny_mono (ht.nox.run [] s1 (start N vs) H _ I hq) (fun fl s' hs => ?_) fun _ _ z => z
  cases fl with
  | ret u =>
    obtain ⟨v, σ', H', J, rv, q⟩ := hs
    exact ⟨v, H', J.os, J.bare, J.base, J.hok, rv, q⟩
  | next =>
    obtain ⟨σ', H', J, q⟩ := hs
    exact ⟨V.non, H', J.os, J.bare, J.base, J.hok, rfl, q⟩
  | brk =>
    obtain ⟨_, _, _, q⟩ := hs
    exact q.elim
  | cont =>
    obtain ⟨_, _, _, q⟩ := hs
    exact q.elim
end

/-! ### repr of data -/
theorem Dp.noDict {K : PySem.W.Frag} {H : Hp} : (∀ (d : PyData) (v : V), Dp K H v d → d.hasDict = false) := by
  intro d
  refine PyData.rec (motive_1 := fun d => ∀ v, Dp K H v d → d.hasDict = false) (motive_2 := fun ds => ∀ vs, DpAll K H vs ds → PyData.hasDictAll ds = false) (motive_3 := fun _ => True) (motive_4 := fun _ => True) ?_ ?_ ?_ ?_ ?_ ?_ ?_ ?_ ?_ ?_ ?_ ?_ d
  · intro v _; rfl
  · intro b v _; rfl
  · intro b v _; rfl
  · intro b v _; rfl
  · intro ds ih v h
    cases h with
    | lst _ h2 => simpa [PyData.hasDict] using ih _ h2
  · intro ds ih v h
    cases h with
    | tup _ h2 => simpa [PyData.hasDict] using ih _ h2
  · intro kvs _ v h
    cases h
  · intro vs _; rfl
  · intro d ds i1 i2 vs h
    cases h with
    | cons h1 h2 => simp [PyData.hasDictAll, i1 _ h1, i2 _ h2]
  · trivial
  · intros; trivial
  · intros; trivial
def rRepr (K : PySem.W.Frag) : List V → Hp → VK → Prop := fun xs H Q => ∃ x d, xs = [x] ∧ Dp K H x d ∧ d.showable = true ∧ d.depth ≤ 100 ∧ d.shown.length ≤ sizeLine ∧ Q (.str d.shown) H
theorem call_repr {X : Cx} {k : Nat} (hA : X.A.guards = some []) (hr : Room k X.A) : CallR X (.builtin "repr") (rRepr X.K) := by
  intro pins s σ H xs us Q I r h
  obtain ⟨x, d, rfl, hd, hs, hde, hz, q⟩ := h
  obtain ⟨u, rfl, ru⟩ := vals1 r
  have hu : X.A.units + (d.depth + 1) < cLine := by
    have := hr.un
    omega
  obtain ⟨as, rd⟩ := Dp.reads I d x u hd ru
  have fin : ∀ (h' : Heap) (t : Tok) (tk : Nat), (∀ b o, s.heap.get? b = some o → h'.get? b = some o) → EP X pins σ Q (.str d.shown t) { s with heap := h', toks := tk } := fun h' t tk kk =>
    ⟨.str d.shown, H, I.kept kk, ⟨t, rfl⟩, q⟩
  cases hd with
  | non => cases ru; exact PySem.P.repr_of_none (fin s.heap _ _ fun _ _ z => z)
  | bl b =>
    cases ru
    have z := fin s.heap s.toks (s.toks + 1) fun _ _ z => z
    cases b <;> exact PySem.P.repr_of_bool z
  | int i =>
    obtain ⟨t, rfl⟩ := ru
    exact PySem.P.repr_of_int (by simpa [PyData.showable] using hs) (fin s.heap _ _ fun _ _ z => z)
  | str y =>
    obtain ⟨t, rfl⟩ := ru
    exact PySem.P.repr_of_str (fin s.heap _ _ fun _ _ z => z) hz
  | lst h1 h2 =>
    cases ru
    exact repr_of_reads' rd hs (PyData.noDict_hsm (Dp.noDict _ _ (.lst h1 h2))) hA hu (fun _ _ z => z) (fun h' t tk kk => fin h' t tk kk) hz
  | tup h1 h2 =>
    cases ru
    exact repr_of_reads' rd hs (PyData.noDict_hsm (Dp.noDict _ _ (.tup h1 h2))) hA hu (fun _ _ z => z) (fun h' t tk kk => fin h' t tk kk) hz
end Ly

set_option Elab.async false
set_option linter.all false
set_option maxRecDepth 100000
set_option maxHeartbeats 2000000
namespace Ly
open PySem PySem.Spec PyProof.Rows L2
abbrev set0 (w : World) : Obj := { cls := .type "set", dict := none, data := .set #[] 0 (.fresh 0 0 (!w.params.followText "set-order")) }
abbrev fm (ns : List Int) (i : Nat) : List Int := firstMet (fun j => ns.getD j 0) i
abbrev inFm (ns : List Int) (i : Nat) : Int → Bool := fun k => (fm ns i).any (· == k)
section
variable {prog : Program} {w : World} {A : Around} {R : Result → Shared → Prop} {I : Addr} {fp wr : List Addr} {G : Array GenState → Array GenState → Prop} {n : Nat} {P : Nat → Value → Prop} {St : Nat → Shared → Prop}
theorem upd_loop (W : WalksS prog w A.in1 I fp wr G n P St) (S : Addr) (hSf : S ∉ fp) (ns : List Int) (hval : ∀ i v, P i v → ∃ t, v = .int (ns.getD i 0) t) (hb : n + 1 < scanBound) :
    ∀ (k i : Nat) (s : Shared), n - i = k → i ≤ n → St i s → SetR w s.heap S (inFm ns i) (fm ns i).length →
      (∀ s', Moved (S :: wr) G s s' → SetR w s'.heap S (inFm ns n) (fm ns n).length → R (.ok (.ret .none)) s') → codeAny (model prog w) A (.builtin "set.update.loop" ⟨[.ref S, .ref I], []⟩) R s := by
  have hSw : S ∉ wr := fun z => hSf (W.sub _ z)
  have sub1 : ∀ b ∈ wr, b ∈ S :: wr := fun b z => List.mem_cons_of_mem _ z
  intro k
  induction k with
  | zero =>
    intro i s hk hi hst hS hR
    obtain rfl : i = n := by omega
    refine codeAny_builtin F.entry_set_update_loop ?_
    rw [Around.under_plainId F.plain_set_update_loop _]
    show wpAny _ A.in1 (pyNext (.ref I) >>= _) _ _ s
    refine wpAny_bind (W.done s _ _ hst fun s' hm => ?_)
    show wpAny _ A.in1 (ret Value.none) _ _ s'
    exact wpAny_pure (hR s' (hm.mono sub1) (hS.at fun o z => hm.heap S o hSw z))
  | succ k ih =>
    intro i s hk hi hst hS hR
    have hlt : i < n := by omega
    refine codeAny_builtin F.entry_set_update_loop ?_
    rw [Around.under_plainId F.plain_set_update_loop _]
    show wpAny _ A.in1 (pyNext (.ref I) >>= _) _ _ s
    refine wpAny_bind (W.item i s _ _ hlt hst fun v s' hP hst' hm => ?_)
    obtain ⟨t, rfl⟩ := hval i v hP
    have hS1 : SetR w s'.heap S (inFm ns i) (fm ns i).length := hS.at fun o z => hm.heap S o hSw z
    show wpAny _ A.in1 (holding [Value.int (ns.getD i 0) t] (setAdd S (.int (ns.getD i 0) t)) >>= _) _ _ s'
    refine wpAny_bind (wpAny_holding ?_)
    unfold setAdd
    refine wpAny_holding (wpAny_bind ((intKind prog w).pyHash (k := ns.getD i 0) (intKind_is _ _ _ _) ?_))
    have room1 : (fm ns i).length + 1 < scanBound := by
      have z : (fm ns i).length ≤ i := firstMet_length_le (fun j => ns.getD j 0) i
      omega
    refine setR_add_hashed (s := { s' with toks := s'.toks + 1 }) hS1 room1 fun h' hsb hS2 => ?_
    have hS3 : SetR w h' S (inFm ns (i + 1)) (fm ns (i + 1)).length := by
      have e1 : (fm ns (i + 1)).length = if inFm ns i (ns.getD i 0) = true then (fm ns i).length else (fm ns i).length + 1 := by
        show (firstMet _ (i + 1)).length = _
        rw [firstMet_succ, step_length]
      rw [e1]
      refine hS2.congr fun k' => ?_
      show (firstMet _ (i + 1)).any _ = _
      rw [firstMet_succ, step_any]
    refine wpAny_pure ⟨plainId_quiet F.plain_set_update_loop _, ih (i + 1) _ (by omega) hlt (W.frame _ s' _ _ hst' (Nat.le_succ _) fun b hb o e => ?_) hS3 fun s'' hm2 hS4 => ?_⟩
    · rw [hsb.2 b (fun z : b = S => hSf (z ▸ hb))]
      exact e
    · refine hR s'' (Moved.trans W.gtrans ((hm.mono sub1).then_heap (Nat.le_succ _) fun b o hb e => ?_) hm2) hS4
      rw [hsb.2 b (fun z : b = S => hb (z ▸ List.mem_cons_self))]
      exact e
end
section
variable {prog : Program} {w : World} {A : Around} {E : Value → Shared → Prop} {s : Shared}
theorem new_set1 (a : Value) {Q₁ : Value → Shared → Prop} (h : Q₁ (.ref s.heap.objs.size) { s with heap := s.heap.push (set0 w) }) :
    codeAny (model prog w) A (.call (.builtin "set.__new__") ⟨[.type "set", a], []⟩) (wants Q₁ E) s := by
  refine codeAny_of_tree ?_
  show wpAny _ A.in1 (do checkBuiltinCall "set.__new__" ⟨[.type "set", a], []⟩; again (.builtin "set.__new__" ⟨[.type "set", a], []⟩)) _ _ s
  refine wpAny_bind (wpAny_of_eq (F.newCall_set_1 a) (wpAny_pure ⟨plainId_quiet F.plain_set_new _, ?_⟩))
  refine codeAny_builtin F.entry_set_new ?_
  rw [Around.under_plainId F.plain_set_new _]
  unfold Builtin.«set.__new__» Builtin.Frozenset.newClass
  have sub1 := sub_set_self
  obtain ⟨hp, g, d, tk, os⟩ := s
  dsimp only
  wp_walk
  refine wpAny_askSetting (wpAny_pure ?_)
  dsimp only
  simp only [newObj]
  exact wpAny_bind (wpAny_alloc (wpAny_pure (wpAny_pure h)))
theorem set_ofL {l : Addr} {items : Array Value} {ns : List Int} {Q : Value → Shared → Prop} (hh : A.handled = none) (hl : s.heap.IsList l items) (hi : IntsAre items.toList ns) (hb : items.size + 1 < scanBound)
    (h : ∀ (h' : Heap) (tk : Nat), SetR w h' s.heap.objs.size (inFm ns items.size) (fm ns items.size).length → (∀ b o, b < s.heap.objs.size → s.heap.get? b = some o → h'.get? b = some o) → Q (.ref s.heap.objs.size) { s with heap := h', toks := tk }) :
    wpAny (model prog w) A (call (.type "set") [.ref l]) Q E s := by
  obtain ⟨c, tl, mro1⟩ := F.called_set.mro
  have m1 := F.called_set.made
  have m2 := F.called_set.sub
  refine wpAny_call (codeAny_of_tree ?_)
  show wpAny _ _ (callAny (.type "set") _) _ _ _
  refine wpAny_pure ⟨Code.quiet_builtin _ (by decide +kernel), ?_⟩
  refine codeAny_builtin F.entry_type_call ?_
  rw [Around.under_plain (weight_type_call_type "set" [.ref l] []) rfl]
  have m3 := F.called_set.notType
  have m4 := F.called_set.canCreate
  have m5 := F.typeCall_set_1 (.ref l)
  repeat (any_goals (first | assumption | wp_step))
  refine codeAny_mono (new_set1 (w := w) (.ref l) (E := E) (Q₁ := fun obj s₁ => obj = .ref s.heap.objs.size ∧ s₁ = { s with heap := s.heap.push (set0 w) }) ⟨rfl, rfl⟩) fun r s₁ hr => ?_
  rcases r with e | (obj | _ | _ | _) <;> first | exact hr | exact hr.elim | skip
  obtain ⟨rfl, rfl⟩ := hr
  have hS : (s.heap.push (set0 w)).get? s.heap.objs.size = some (set0 w) := Heap.get?_push_size _ rfl
  have hT : Shared.TypeIs { s with heap := s.heap.push (set0 w) } (.ref s.heap.objs.size) "set" := ⟨_, hS, rfl⟩
  have i1 := F.called_set.init.lookup
  have i2 := F.called_set.init.bind (.ref s.heap.objs.size)
  repeat (any_goals (first | assumption | wp_step))
  refine codeAny_mono (codeAny_call_builtin (R := wants (fun r s₂ => r = .none ∧ ∃ h' tk, s₂ = { s with heap := h', toks := tk } ∧ SetR w h' s.heap.objs.size (inFm ns items.size) (fm ns items.size).length ∧
      (∀ b o, b < s.heap.objs.size → s.heap.get? b = some o → h'.get? b = some o)) E) F.called_set.init.plain F.entry_set_init (check_set_init_1 hT ?_)) fun r₂ s₂ hr₂ => ?_
  · obtain ⟨ol, hol, hcl, nl, hdl⟩ := hl
    obtain ⟨ocls, odict, odata, oslots⟩ := ol
    simp only at hcl hdl
    subst hcl; subst hdl
    have hol1 : (s.heap.push (set0 w)).get? l = some { cls := .type "list", dict := odict, data := .seq items nl, slots := oslots } := Heap.get?_push_of_some _ hol
    have s1 := F.sub_list_set
    have s2 := F.sub_list_frozenset
    have s3 : (Value.type "list" == Value.type "dict") = false := by decide
    have hl1 : (s.heap.push (set0 w)).IsList l items := ⟨_, hol1, rfl, nl, rfl⟩
    unfold Builtin.«set.__init__» noKeywords Builtin.Frozenset.updateFrom
    generalize hPI : pyIter = PI
    wp_walk
    subst hPI
    refine wpAny_pyIter_list hl1 ?_
    refine wpAny_bind (wpAny_runValue ?_)
    have hlS : l < s.heap.objs.size := Heap.lt_size hol
    have hh3 : A.in1.in1.in1.handled = none := by simp [hh]
    have neI : l ≠ (s.heap.push (set0 w)).objs.size := by
      rw [Heap.size_push]; exact Nat.ne_of_lt (Nat.lt_succ_of_lt hlS)
    have nfp : s.heap.objs.size ∉ [(s.heap.push (set0 w)).objs.size, l] := by
      rw [Heap.size_push]
      simp only [List.mem_cons, List.mem_singleton, List.not_mem_nil, or_false, not_or]
      exact ⟨Nat.ne_of_lt (Nat.lt_succ_self _), Nat.ne_of_gt hlS⟩
    have val1 : ∀ (i : Nat) (v : Value), items[i]? = some v → ∃ t, v = .int (ns.getD i 0) t := fun i v hv => IntsAre.int_at hi i v (by rw [Array.getElem?_toList]; exact hv)
    refine upd_loop ((Walks.list hh3 _ l neI items).toS) s.heap.objs.size nfp ns val1 hb (items.size - 0) 0 _ (by omega) (Nat.zero_le _) ⟨⟨_, Heap.get?_push_size _ rfl, rfl, rfl⟩, (hl1.push _)⟩ ?hS0 ?hR
    case hS0 => exact (setR_fresh (h := s.heap) w).at fun o z => Heap.get?_push_of_some _ z
    case hR =>
      intro s' hm hS'
      obtain ⟨h', g', d', tk', os'⟩ := s'
      have eg : g' = s.gens := hm.gens
      have ed : d' = s.drawn := hm.drawn
      have eo : os' = s.os := hm.os
      subst eg; subst ed; subst eo
      show wpAny _ _ _ _ _ _
      refine wpAny_pure ?_
      show wpAny _ _ (ret Value.none) _ _ _
      refine wpAny_pure ⟨rfl, h', tk', rfl, hS', fun b o hb e => ?_⟩
      have n1 : b ≠ s.heap.objs.size := Nat.ne_of_lt hb
      have n2 : b ≠ (s.heap.push (set0 w)).objs.size := by
        rw [Heap.size_push]; exact Nat.ne_of_lt (Nat.lt_succ_of_lt hb)
      refine hm.heap b o ?_ (Heap.get?_push_of_some _ (Heap.get?_push_of_some _ e))
      simp only [List.mem_cons, List.mem_singleton, List.not_mem_nil, or_false, not_or]
      exact ⟨n1, n2⟩
  · rcases r₂ with e | (r | _ | _ | _) <;> first | exact hr₂ | exact hr₂.elim | skip
    obtain ⟨rfl, h', tk, rfl, hS', hk'⟩ := hr₂
    repeat (any_goals (first | assumption | wp_step))
    exact h _ _ hS' hk'
end
/-- set(xs), xs a list of ints -/
def rSetI (K : PySem.W.Frag) (w : World) : List V → Hp → VK → Prop := fun xs H Q => ∃ (l : Addr) (ns : List Int), xs = [.ref l] ∧ SqL K H l (ns.map V.int) ∧ ns.length + 1 < scanBound ∧
  ∀ p (S : Int → Bool) n, H p = none → (∀ k, S k = true ↔ k ∈ ns) → n ≤ ns.length → Q (.ref p) (upd H p (SetO w p S n))
theorem cr_setI {X : Cx} (hc : X.calm = true) : CallR X (.type "set") (rSetI X.K X.w) := by
  intro pins s σ H xs us Q I r h
  obtain ⟨l, ns, rfl, hS, hb, q⟩ := h
  obtain ⟨u, rfl, ru⟩ := vals1 r
  cases ru
  obtain ⟨its, rv, pl, hz⟩ := I.list hS
  have hl : its.toArray.size = ns.length := by rw [List.size_toArray, ← rv.length, List.length_map]
  refine set_ofL (I.ok.hd hc) pl.isList (ns := ns) (by simpa using rv.ints) (by rw [hl]; exact hb) fun h' tk hR hk => ?_
  rw [hl] at hR
  have hn : H s.heap.objs.size = none := I.hok.fresh (Nat.le_refl _)
  refine ⟨.ref s.heap.objs.size, upd H s.heap.objs.size (SetO X.w s.heap.objs.size (inFm ns ns.length) (fm ns ns.length).length), ?_, rfl, q _ _ _ hn (fun k => ?_) (firstMet_length_le _ _)⟩
  · exact I.laid (t' := tk) (fun b o e => hk b o (Heap.lt_size e) e) (Nat.le_refl _) (setO_new hR)
  · show (firstMet _ _).any _ = true ↔ _
    rw [firstMet_any, List.any_eq_true]
    constructor
    · rintro ⟨z, hz1, hz2⟩
      obtain ⟨j, hj, rfl⟩ := List.mem_map.mp hz1
      have hj2 := List.mem_range.mp hj
      have e : ns.getD j 0 = k := by simpa using hz2
      rw [← e, List.getD_eq_getElem?_getD, List.getElem?_eq_getElem hj2]
      exact List.getElem_mem hj2
    · intro hk2
      obtain ⟨j, hj, e⟩ := List.getElem_of_mem hk2
      refine ⟨k, List.mem_map.mpr ⟨j, List.mem_range.mpr hj, ?_⟩, by simp⟩
      show ns.getD j 0 = k
      rw [List.getD_eq_getElem?_getD, List.getElem?_eq_getElem hj]
      exact e
end Ly

set_option Elab.async false
set_option linter.all false
set_option maxRecDepth 100000
set_option maxHeartbeats 4000000
/-! own exceptions made by a keyword, held as values -/
namespace PySem
namespace LyX
open PySem.W PySem.Calls PyProof.Rows PySem.HandSPX
open Builtin Builtin.ObjectAttr
section
variable {prog : Program} {w : World} {A : Around} {E : Value → Shared → Prop} {R : Result → Shared → Prop} {h : Heap} {g : Array GenState} {d : Drawn} {t : Nat} {os : OsState}
variable {nm q : Str} {C N : Addr} {bs bm bmB : List Value} {hdct : Bool} {sn : List Str} {sub : List Value} {ab : Bool} {col : Option Bool} {dd : Option Addr} {k0 k1 k2 k3 k5 : Option Value} {B newId initId : String}
abbrev ClsAt (h : Heap) (nm q : Str) (C N : Addr) (bs bm : List Value) (hdct : Bool) (sn : List Str) (sub : List Value) (ab : Bool) (col : Option Bool) (dd : Option Addr) (k0 k1 k2 k3 k5 : Option Value) (newId : String) : Prop :=
  h.get? C = some (excClassObj nm q C N bs bm hdct sn sub ab col dd k0 k1 k2 k3 k5 newId)
theorem kw_new_check {M : Model} {kw : List (Str × Value)} (F : ExcBaseFacts B newId initId bmB) (hT : ∀ X : String, bm.contains (.type X) = bmB.contains (.type X)) {Q : Unit → Shared → Prop}
    (hC : ClsAt h nm q C N bs bm hdct sn sub ab col dd k0 k1 k2 k3 k5 newId) (hq : Q () ⟨h, g, d, t, os⟩) : wpAny M A (checkBuiltinCall newId ⟨[.ref C], kw⟩) Q E ⟨h, g, d, t, os⟩ := by
  have hc1 : (Value.ref C :: bm).contains (.type B) = true := by
    rw [List.contains_cons, hT, F.hasB, Bool.or_true]
  have hs1 := F.noStar
  simp only [checkBuiltinCall, F.newKind, F.newSplit, F.newRow]
  repeat (first | (refine wpAny_loadPart_at hC ?_) | (refine wpAny_isSubtype_exc hC ?_; rw [hc1]) | (refine wpAny_staticBase_exc hC ?_) | (refine wpAny_madeBy_exc hC ?_) | (simp only [bne_self_eq_false, Bool.false_eq_true, if_false]) | wp_step)
  exact hq
theorem kw_new_made {kw : List (Str × Value)} (F : ExcBaseFacts B newId initId bmB) (hT : ∀ X : String, bm.contains (.type X) = bmB.contains (.type X)) (hC : ClsAt h nm q C N bs bm hdct sn sub ab col dd k0 k1 k2 k3 k5 newId)
    (hq : R (.ok (.ret (.ref (h.objs.size + 1)))) ⟨(h.push (kdv_tup [])).push (excO C h.objs.size), g, d, t, os⟩) : codeAny (model prog w) A (.builtin newId ⟨[.ref C], kw⟩) R ⟨h, g, d, t, os⟩ := by
  have e1 := F.ends
  have c1 : (Value.ref C :: bm).contains (.type B) = true := by
    rw [List.contains_cons, hT, F.hasB, Bool.or_true]
  have c2 : (Value.ref C :: bm).contains (.type "AttributeError") = false := by
    rw [List.contains_cons, hT, F.noAttr]; rfl
  have c3 : (Value.ref C :: bm).contains (.type "NameError") = false := by
    rw [List.contains_cons, hT, F.noName]; rfl
  refine codeAny_builtinAt F.entry ?_
  unfold Builtin.«BaseException.__new__»
  refine wpAt_bind ?_
  show wpAt _ _ _ (stack >>= _) _ _ _
  refine wpAt_bind (wpAt_stack fun p below => ?_)
  refine wpAt_of_wpAny ?_
  wp_walk
  refine wpAt_of_wpAny ?_
  rw [F.owner]
  have nil0 : ([] : List Value).length ≤ sizeLine := Nat.zero_le _
  repeat (first | (with_reducible refine wpAny_madeHere_exc F.canon hC ?_) | (with_reducible refine wpAny_loadPart_at hC ?_) | (with_reducible refine wpAny_isSubtype_exc hC ?_; first | rw [c1] | rw [c2] | rw [c3]) | wp_step)
  show R _ _
  rw [Heap.size_push]
  exact hq
theorem kw_type_call {kw : List (Str × Value)} (F : ExcBaseFacts B newId initId bmB) (hT : ∀ X : String, bm.contains (.type X) = bmB.contains (.type X)) {fI : Addr} {Q : Fin → Shared → Prop}
    (hC : ClsAt h nm q C N bs bm hdct sn sub ab col dd k0 k1 k2 k3 k5 newId)
    (hi : W.Looks (model prog w) h (typeLookup (.ref C) "__init__") (some (.ref fI))) (hb : ∀ self, W.Looks (model prog w) h (bindSpecial (.ref fI) self) (.ref fI, [self]))
    (hq : codeAny (model prog w) A (.call (.ref fI) ⟨[.ref (h.objs.size + 1)], kw⟩)
      (fun r s' => match r with | .ok (.ret v) => v = .none ∧ Q (.done (.ret (.ref (h.objs.size + 1)))) s' | .ok _ => False | .error e => E e s') ⟨(h.push (kdv_tup [])).push (excO C h.objs.size), g, d, t, os⟩) :
    wpAny (model prog w) A (Builtin.«type.__call__» ⟨[.ref C], kw⟩) Q E ⟨h, g, d, t, os⟩ := by
  repeat (first | (with_reducible refine wpAny_loadPart_at hC ?_) | (with_reducible refine wpAny_madeBy_exc hC ?_) | wp_step)
  refine codeAny_call_builtin_code (Code.quiet_builtin _ F.quiet) (kw_new_check F hT hC ?_)
  refine kw_new_made F hT hC ?_
  show wpAny _ _ _ _ _ _
  have kk : ∀ b o, h.get? b = some o → ((h.push (kdv_tup [])).push (excO C h.objs.size)).get? b = some o := fun b o z => Heap.get?_push_of_some _ (Heap.get?_push_of_some _ z)
  have hC1 := kk _ _ hC
  have got : ((h.push (kdv_tup [])).push (excO C h.objs.size)).get? (h.objs.size + 1) = some (excO C h.objs.size) := by heap_get
  have self1 : (Value.ref C :: bm).contains (.ref C) = true := by simp
  have i1 := hi.keeps kk
  have b1 := (hb (.ref (h.objs.size + 1))).keeps kk
  unfold isInstance
  repeat (first | (with_reducible refine wpAny_loadPart_at got ?_) | (with_reducible refine wpAny_isSubtype_exc hC1 ?_; rw [self1]) | wp_step)
  show wpAny _ _ (typeLookup (.ref C) _) _ _ _
  refine i1.at ?_
  refine wpAny_holding (wpAny_bind (b1.at ?_))
  refine wpAny_bind (wpAny_call (codeAny_mono hq fun r s' z => ?_))
  rcases r with e | (v | _ | _ | _) <;> first | exact z | exact z.elim | skip
  obtain ⟨rfl, z⟩ := z
  first | exact wpAny_pure (wpAny_pure z) | (wp_walk; exact z)
theorem kw_check_call {M : Model} {kw : List (Str × Value)} {Q : Unit → Shared → Prop} (hC : ClsAt h nm q C N bs bm hdct sn sub ab col dd k0 k1 k2 k3 k5 newId) (hq : Q () ⟨h, g, d, t, os⟩) :
    wpAny M A (checkBuiltinCall "type.__call__" ⟨[.ref C], kw⟩) Q E ⟨h, g, d, t, os⟩ := by
  have f3 := tc_sub
  have hTy : (⟨h, g, d, t, os⟩ : Shared).TypeIs (.ref C) "type" := ⟨_, hC, rfl⟩
  simp only [checkBuiltinCall, tc_kind, tc_split]
  repeat (any_goals (first | assumption | (with_reducible refine wpAny_loadPart_at hC ?_) | (with_reducible refine wpAny_onRaise ?_) | (with_reducible refine wpAny_map ?_) | wp_step))
theorem kw_call {kw : List (Str × Value)} (F : ExcBaseFacts B newId initId bmB) (hT : ∀ X : String, bm.contains (.type X) = bmB.contains (.type X)) {fI : Addr} (hC : ClsAt h nm q C N bs bm hdct sn sub ab col dd k0 k1 k2 k3 k5 newId)
    (hi : W.Looks (model prog w) h (typeLookup (.ref C) "__init__") (some (.ref fI))) (hb : ∀ self, W.Looks (model prog w) h (bindSpecial (.ref fI) self) (.ref fI, [self]))
    (hq : codeAny (model prog w) (A.under (.builtin "type.__call__" ⟨[.ref C], kw⟩)) (.call (.ref fI) ⟨[.ref (h.objs.size + 1)], kw⟩) (W.InitBack (h.objs.size + 1) R) ⟨(h.push (kdv_tup [])).push (excO C h.objs.size), g, d, t, os⟩) :
    codeAny (model prog w) A (.call (.ref C) ⟨[], kw⟩) R ⟨h, g, d, t, os⟩ := by
  have f1 := tc_lookup
  have f2 := tc_bind (.ref C)
  have hTy : (⟨h, g, d, t, os⟩ : Shared).TypeIs (.ref C) "type" := ⟨_, hC, rfl⟩
  refine codeAny_of_tree ?_
  show wpAny _ _ (callAny (.ref C) _) _ _ _
  repeat (any_goals (first | assumption | (with_reducible refine wpAny_loadPart_at hC ?_) | wp_step))
  refine ⟨rfl, ?_⟩
  refine codeAny_call_builtin_at (Code.quiet_builtin _ (by decide +kernel)) entry_typeCall (kw_check_call hC (kw_type_call F hT hC hi hb ?_))
  refine codeAny_mono hq fun r s' z => ?_
  rcases r with e | (v | _ | _ | _) <;> exact z
end
end LyX
end PySem

set_option Elab.async false
set_option linter.all false
set_option maxRecDepth 100000
set_option maxHeartbeats 4000000
namespace Ly
open PySem PySem.Spec PyProof.Rows L2
/-! ### own exceptions as values: at a the object, at d its dict -/
def tExV (C : Addr) (sp : Sp) (ta : TA) : TE := fun σ H Q => ta σ H fun vs H1 => vs.length = 1 ∧ ∀ a, H1 a = none → sp (.ref a :: vs) (upd H1 a (exo a C none)) (fun v H2 => v = .non ∧ Q (.ref a) H2) E0
section
variable {X : Cx} {k : Nat} {fI C : Addr} {fd : FuncData} {ps : List Str} {sp : Sp} {x : Str} {p pos : Pos} {e : Expr} {es : List Expr} {ta : TA} {kws : List Keyword} {nv : Str}
theorem exv_run {pins : List (Addr × Obj)} {σ : L2.St} {H1 : Hp} {Q : VK} {hp : Heap} {gs : Array GenState} {dr : Drawn} {tk : Nat} {os : OsState} {us : List Value} {ua args : List Value} {vs : List V} {kw : List (Str × Value)}
    (F1 : FnOk X.prog X.w X.K X.mg X.base CX0 k fI fd ps sp) (hr : Room (k + 1) X.A) (I1 : Inv X pins σ H1 ⟨hp, gs, dr, tk, os⟩) (r1 : Vals vs us)
    (hb : ∀ s : Shared, BindsTo s fd ⟨.ref (hp.objs.size + 1) :: args, kw⟩ (ps.zip (.ref (hp.objs.size + 1) :: us)))
    (q1 : ∀ a, H1 a = none → sp (.ref a :: vs) (upd H1 a (exo a C none)) (fun v H2 => v = .non ∧ Q (.ref a) H2) E0) :
    codeAny (model X.prog X.w) (X.A.under (.builtin "type.__call__" ⟨.ref C :: args, kw⟩)) (.call (.ref fI) ⟨.ref (hp.objs.size + 1) :: args, kw⟩)
      (PySem.W.InitBack (hp.objs.size + 1) fun r s' => match r with
        | .ok (.ret u) => EP X pins σ Q u s'
        | .ok _ => False
        | .error _ => False) ⟨(hp.push (PySem.W.kdv_tup ua)).push (PySem.HandSPX.excO C hp.objs.size), gs, dr, tk, os⟩ := by
  have hsz : hp.objs.size ≤ hp.objs.size + 1 := Nat.le_succ _
  have hn : H1 (hp.objs.size + 1) = none := I1.hok.fresh hsz
  have hq := q1 (hp.objs.size + 1) hn
  have kk : ∀ b o, hp.get? b = some o → ((hp.push (PySem.W.kdv_tup ua)).push (PySem.HandSPX.excO C hp.objs.size)).get? b = some o := fun b o z => Heap.get?_push_of_some _ (Heap.get?_push_of_some _ z)
  have hget : ((hp.push (PySem.W.kdv_tup ua)).push (PySem.HandSPX.excO C hp.objs.size)).get? (hp.objs.size + 1) = some (PySem.HandSPX.excO C hp.objs.size) := by heap_get
  have I2 := I1.laid (t' := tk) (a := hp.objs.size + 1) (o := exo (hp.objs.size + 1) C none) kk hsz (exo_ok hget)
  have r2 : Vals (V.ref (hp.objs.size + 1) :: vs) (Value.ref (hp.objs.size + 1) :: us) := .cons rfl r1
  refine codeAny_mono (F1.run _ X.stack _ _ _ (Value.ref (hp.objs.size + 1) :: us) _ _ E0 (hr.make C args kw) (I2.env0.make C args kw) (hb _) r2 hq) fun r s' hq' => ?_
  rcases r with z | z
  · exact hq'.elim
  · cases z with
    | ret u =>
      obtain ⟨v, H', I3, rv, ev, q3⟩ := I2.after hq'
      subst ev
      exact ⟨rv, ⟨V.ref (hp.objs.size + 1), H', I3, rfl, q3⟩⟩
    | next => exact hq'.elim
    | brk => exact hq'.elim
    | cont => exact hq'.elim
theorem exv_end {pins : List (Addr × Obj)} {σ : L2.St} {Q : VK} {s : Shared} {f : Value} {args : Args} (h : codeAny (model X.prog X.w) X.A (.call f args) (fun r s' => match r with
        | .ok (.ret u) => EP X pins σ Q u s'
        | .ok _ => False
        | .error _ => False) s) : wpAny (model X.prog X.w) X.A (call f args.pos args.kw) (EP X pins σ Q) X.xe s := by
  refine wpAny_call (codeAny_mono h fun r s' z => ?_)
  rcases r with y | y
  · exact z.elim
  · cases y <;> first | exact z | exact z.elim
/-- C(e) -/
theorem pe_exv (T : OexC X.K C) (iC : PySem.W.findIn X.K (.ref C) "__init__" = some (some (.ref fI))) (tI : PySem.W.typeIn X.K (.ref fI) = some (.type "function")) (F1 : FnOk X.prog X.w X.K X.mg X.base CX0 k fI fd ps sp) (hr : Room (k + 1) X.A)
    (hb : ∀ (s : Shared) (a u : Value), BindsTo s fd ⟨[a, u], []⟩ (ps.zip [a, u])) (hg : Gl X x) (hm : X.mg x = some (.ref C)) (ha : PA X (e :: es) ta) (hdb : (x == ("__debug__" : Str)) = false := by decide)
    (he : starEach (e :: es) X.env = (false, eval e X.env) :: starEach es X.env := by rfl) (hpl : (backTo pos (starEach es X.env)).any (·.1) = false := by rfl) : PE X (.Call (.Name x p) (e :: es) [] pos) (tExV C sp ta) := by
  constructor
  intro pins s σ H Q I h
  obtain ⟨nm, q, N, bs, bm, sn, sub, ab, col, dd, k0, k1, k2, k3, k5, hC, hbm⟩ := T.cls
  refine wpAny_Call_Name_kw (ld_glob I hg hm ?_ hdb)
  refine PySem.W.callWith_K (h₀ := X.base) I.ok.mod.kin T.kC (thn (ha.run pos pins s σ H _ I h) ?_) he hpl
  rintro us ⟨hp, gs, dr, tk, os⟩ ⟨vs, H1, I1, r1, hl, q1⟩
  refine ⟨I1.kIn, ?_⟩
  have hl2 : us.length = 1 := r1.length.symm.trans hl
  obtain ⟨u, rfl⟩ : ∃ u, us = [u] := by
    match us, hl2 with
    | [u], _ => exact ⟨u, rfl⟩
  refine exv_end (args := ⟨[u], []⟩) (PySem.HandSPX.call_own F.excBase_ValueError (fun Y => PySem.HandSPX.refsVE_contains Y bm hbm) (I1.kIn _ _ hC) (PySem.W.looks_findIn I1.kIn iC) (fun self => PySem.W.bind_fn I1.kIn self tI) (by show 1 ≤ sizeLine; rw [sizeLine_eq]; omega) ?_)
  exact exv_run F1 hr I1 r1 (fun s => hb s _ u) q1
/-- C(value=e) -/
theorem pe_exk (T : OexC X.K C) (iC : PySem.W.findIn X.K (.ref C) "__init__" = some (some (.ref fI))) (tI : PySem.W.typeIn X.K (.ref fI) = some (.type "function")) (F1 : FnOk X.prog X.w X.K X.mg X.base CX0 k fI fd ps sp) (hr : Room (k + 1) X.A)
    (hb : ∀ (s : Shared) (a u : Value), BindsTo s fd ⟨[a], [(nv, u)]⟩ (ps.zip [a, u])) (hg : Gl X x) (hm : X.mg x = some (.ref C)) (hkw : PK X kws ta) (hdb : (x == ("__debug__" : Str)) = false := by decide)
    (hall : (backToKw pos (keywordEach kws X.env)).all (·.1.isSome) = true := by rfl) (hks : (backToKw pos (keywordEach kws X.env)).filterMap (·.1) = [nv] := by rfl)
    (hpl : ((backTo pos (starEach [] X.env)).any (·.1) || (backToKw pos (keywordEach kws X.env)).any (·.1.isNone)) = false := by rfl) : PE X (.Call (.Name x p) [] kws pos) (tExV C sp ta) := by
  constructor
  intro pins s σ H Q I h
  obtain ⟨nm, q, N, bs, bm, sn, sub, ab, col, dd, k0, k1, k2, k3, k5, hC, hbm⟩ := T.cls
  refine wpAny_Call_Name_kw (ld_glob I hg hm ?_ hdb)
  refine PySem.W.callWith_KW0 (h₀ := X.base) I.ok.mod.kin T.kC hall ?_ hpl
  refine thn (hkw.run pos pins s σ H _ I h) ?_
  rintro us ⟨hp, gs, dr, tk, os⟩ ⟨vs, H1, I1, r1, hl, q1⟩
  refine ⟨I1.kIn, ?_⟩
  rw [hks]
  have hl2 : us.length = 1 := r1.length.symm.trans hl
  obtain ⟨u, rfl⟩ : ∃ u, us = [u] := by
    match us, hl2 with
    | [u], _ => exact ⟨u, rfl⟩
  refine exv_end (args := ⟨[], [(nv, u)]⟩) (PySem.LyX.kw_call F.excBase_ValueError (fun Y => PySem.HandSPX.refsVE_contains Y bm hbm) (I1.kIn _ _ hC) (PySem.W.looks_findIn I1.kIn iC) (fun self => PySem.W.bind_fn I1.kIn self tI) ?_)
  exact exv_run (args := []) (kw := [(nv, u)]) (ua := []) F1 hr I1 r1 (fun s => hb s _ u) q1
end
/-! ### its field, its class -/
def tExF (f : Str) (te : TE) (K : PySem.W.Frag) : TE := fun σ H Q => te σ H fun x H1 => ∃ (a C d : Addr) (fs : List (Str × V)) (v : V), x = .ref a ∧ XfC K C ∧ PySem.W.findIn K (.ref C) f = some none ∧ H1 a = some (exo a C (some d)) ∧ H1 d = some (exd d fs) ∧ fs.lookup f = some v ∧ Q v H1
theorem pe_exf {X : Cx} {e : Expr} {te : TE} {pos : Pos} {n : Str} (he : PE X e te) (hb : attributeBase e n X.env (eval e X.env) = eval e X.env := by rfl) : PE X (.Attribute e n pos) (tExF n te X.K) := by
  constructor
  intro pins s σ H Q I h
  refine attr_of hb (thn (he.run pins s σ H _ I h) ?_)
  rintro u s1 ⟨x, H1, I1, rx, a, C, d, fs, v, rfl, T, hno, ea, ed, l, q⟩
  obtain rfl : u = Value.ref a := rx
  obtain ⟨t1, ha⟩ := exo_at I1.hok ea
  obtain ⟨mA, hns, hr⟩ := exd_at I1.hok ed
  obtain ⟨od, ho, hl⟩ := lookIn_ns hns
  obtain ⟨u, hu, ru⟩ := RelO.some_of (v := v) (o := mA n) (by rw [← l]; exact hr n)
  have J : PySem.W.InstAt s1.heap a { cls := .ref C, dict := some d, data := .fields #[.ref t1, .none, .none, .none, .bool false, .none] } C (some od) := ⟨ha, rfl, rfl, ho⟩
  exact HandSPX.exc_get I1.kIn J T.ga T.gg T.exC (PySem.W.findObj_own T.hdC hno rfl (by rw [hl, hu])) (handed_of ru) ⟨v, H1, I1.tok _, ru, q⟩
end Ly

set_option Elab.async false
set_option linter.all false
set_option maxRecDepth 100000
set_option maxHeartbeats 1000000
namespace Ly
open PySem PySem.Spec PyProof.Rows L2
/-! ### unions -/
def o2 (r r' : R2) : R2 := fun x y H Q => r x y H Q ∨ r' x y H Q
theorem OpR.o {X : Cx} {f : Value → Value → Sem Value} {r r' : R2} (h : OpR X f r) (h' : OpR X f r') : OpR X f (o2 r r') := fun pins s σ H x y v u Q I rx ry z =>
  z.elim (h pins s σ H x y v u Q I rx ry) (h' pins s σ H x y v u Q I rx ry)
abbrev RC := List V → Hp → VK → Prop
def c2 (r r' : RC) : RC := fun xs H Q => r xs H Q ∨ r' xs H Q
theorem CallR.o {X : Cx} {f : Value} {r r' : RC} (h : CallR X f r) (h' : CallR X f r') : CallR X f (c2 r r') := fun pins s σ H xs us Q I r z =>
  z.elim (h pins s σ H xs us Q I r) (h' pins s σ H xs us Q I r)
/-! ### isinstance of an exception that is held -/
structure EC (K : PySem.W.Frag) (C fI : Addr) : Prop where
  ox : OexC K C
  xf : XfC K C
  ec : ExcC K C
  iC : PySem.W.findIn K (.ref C) "__init__" = some (some (.ref fI))
  tI : PySem.W.typeIn K (.ref fI) = some (.type "function")
  nv : PySem.W.findIn K (.ref C) "value" = some none
def rIsX (K : PySem.W.Frag) : RC := fun xs H Q => ∃ (a C d : Addr) (fs : List (Str × V)) (c : V) (u : Value) (b : Bool), xs = [.ref a, c] ∧ ClsV c u ∧ ExcC K C ∧ H a = some (exo a C (some d)) ∧ H d = some (exd d fs) ∧ PySem.W.kitOne K (.ref C) u = some b ∧ Q (.bl b) H
theorem call_isX {X : Cx} : CallR X (.builtin "isinstance") (rIsX X.K) := by
  intro pins s σ H xs us Q I r h
  obtain ⟨a, C, d, fs, c, u, b, rfl, hc, T, ea, ed, hk, q⟩ := h
  obtain ⟨v1, v2, rfl, r1, r2⟩ := vals2 r
  have e2 := hc.eq r2
  subst e2
  cases r1
  obtain ⟨t1, ha⟩ := exo_at I.hok ea
  obtain ⟨mA, hns, hr⟩ := exd_at I.hok ed
  obtain ⟨od, ho, hl⟩ := lookIn_ns hns
  have J : PySem.W.InstAt s.heap a { cls := .ref C, dict := some d, data := .fields #[.ref t1, .none, .none, .none, .bool false, .none] } C (some od) := ⟨ha, rfl, rfl, ho⟩
  obtain ⟨cd, hcd, _⟩ := PySem.W.any_some T.hd
  have hcl : (PySem.W.clsIn X.K C).isSome = true := by rw [hcd]; rfl
  exact PySem.W.kia_one (PySem.W.kitx_exc hcl T.hg T.hk T.hs T.ha T.hn T.ht T.hm) I.kIn J hk (fun z => nomatch z) fun tk => ⟨.bl b, H, I.tok tk, rfl, q⟩
section
variable {X : Cx}
def rAddI : R2 := rI0 fun i j => .int (i + j)
def rAddU : R2 := o2 rAddI rCat
theorem op_addU : OpR X (binaryOp .Add) rAddU := OpR.o op_add op_cat
def rMulI : R2 := rI CMul fun i j => .int (i * j)
def rMulU : R2 := o2 rMulI rRep
theorem op_mulU : OpR X (binaryOp .Mult) rMulU := OpR.o op_mul op_rep
def rEqU (K : PySem.W.Frag) : R2 := o2 rEq (rEqD K)
def rNeU (K : PySem.W.Frag) : R2 := o2 rNe (rNeD K)
theorem op_eqU (hu : X.A.units + 64 < cLine) : OpR X (compareOp .Eq) (rEqU X.K) := OpR.o op_eq (op_eqD hu)
theorem op_neU (hu : X.A.units + 64 < cLine) : OpR X (compareOp .NotEq) (rNeU X.K) := OpR.o op_ne (op_neD hu)
def rIxU (K : PySem.W.Frag) : R2 := fun x y H Q => rIxL K x y H Q ∨ rIxT K x y H Q
theorem ix_U : IxR X (rIxU X.K) := IxR.or ix_list ix_tup
def rSlU (K : PySem.W.Frag) : V → Option Int → Option Int → Hp → VK → Prop := fun x lo hi H Q => rSlL K x lo hi H Q ∨ rSlS x lo hi H Q
theorem sl_U : SlR X (rSlU X.K) := SlR.or sl_list sl_str
def rIsiU (K : PySem.W.Frag) : RC := c2 (rIsX K) (c2 (rIsi K) (rIsiT K))
theorem call_isiU : CallR X (.builtin "isinstance") (rIsiU X.K) := CallR.o call_isX (CallR.o call_isi call_isiT)
end
/-! ### the draws -/
def SackOk (b : Nat) (xs : List V) : Prop := ∃ s0 s1 s2 : Int, xs = [.int s0, .int s1, .int s2] ∧ 0 ≤ s0 ∧ 0 ≤ s1 ∧ s1 < 2 ^ 120 ∧ 0 ≤ s2 ∧ s2 ≤ b
theorem SackOk.mono {b c : Nat} {xs : List V} (h : SackOk b xs) (l : b ≤ c) : SackOk c xs := by
  obtain ⟨s0, s1, s2, e, h0, h1, h2, h3, h4⟩ := h
  exact ⟨s0, s1, s2, e, h0, h1, h2, h3, by omega⟩
def spSack (K : PySem.W.Frag) : Sp := fun vs H Q _ => ∃ (a : Addr) (ns : List Int) (r : Int), vs = [.ref a, .int r] ∧ SqL K H a (ns.map V.int) ∧ 0 ≤ r ∧ r < 100 ∧ ∀ p xs, H p = none → SackOk 0 xs → Q (.ref p) (upd H p (.lst xs))
def spPick : Sp := fun vs H Q _ => ∃ (a : Addr) (xs : List V) (m : Int) (b : Nat), vs = [.ref a, .int m] ∧ H a = some (.lst xs) ∧ SackOk b xs ∧ b ≤ 2 ^ 100 ∧ 0 < m ∧ m < 2 ^ 8000 ∧
  ∀ xs' n, SackOk (b + 1) xs' → 0 ≤ n → n < m → Q (.int n) (upd H a (.lst xs'))
theorem powC_of {i : Int} {n : Nat} {k : Nat} (h : i.natAbs < 2 ^ n) (h0 : 0 < n) (hk : (n + 1) * k ≤ 134217728) : PowC i (k : Int) := by
  refine ⟨by omega, ?_⟩
  have z := PySem.Flt.log2_lt_of h0 h
  have e : (i.natAbs.log2 + 1) * k ≤ (n + 1) * k := Nat.mul_le_mul_right k (by omega)
  have e2 := Nat.le_trans e hk
  rw [← Int.natCast_mul]
  generalize (i.natAbs.log2 + 1) * k = y at e2
  omega
theorem int_pow_toNat {i : Int} {k : Nat} : i ^ ((k : Int)).toNat = i ^ k := by rw [Int.toNat_natCast]
end Ly

set_option Elab.async false
set_option linter.all false
set_option maxRecDepth 100000
set_option maxHeartbeats 1000000
namespace Ly
open PySem PySem.Spec PyProof.Rows L2
section
variable {σ : L2.St} {H : Hp} {v x y : V} {ta tb te : TE} {t u : TT} {ts : TA} {i j m : Int} {K : PySem.W.Frag} {b : Bool} {D : Ends} {rest : TS} {n : Nat} {a : Addr} {xs vs : List V}
/-! ### one value, the heap as it was -/
theorem v_add (ha : Val ta σ H (.int i)) (hb : Val tb σ H (.int j)) : Val (tOp rAddU ta tb) σ H (.int (i + j)) := fun Q q => ha _ (hb _ (Or.inl ⟨i, j, rfl, rfl, q⟩))
theorem v_sub (ha : Val ta σ H (.int i)) (hb : Val tb σ H (.int j)) : Val (tOp (rI0 fun i j => .int (i - j)) ta tb) σ H (.int (i - j)) := fun Q q => ha _ (hb _ ⟨i, j, rfl, rfl, q⟩)
theorem v_mul (ha : Val ta σ H (.int i)) (hb : Val tb σ H (.int j)) (h : CMul i j) : Val (tOp rMulU ta tb) σ H (.int (i * j)) := fun Q q => ha _ (hb _ (Or.inl ⟨i, j, rfl, rfl, h, q⟩))
theorem v_pow (ha : Val ta σ H (.int i)) (hb : Val tb σ H (.int (n : Nat))) (h : PowC i (n : Nat)) : Val (tOp (rI PowC fun i j => .int (i ^ j.toNat)) ta tb) σ H (.int (i ^ n)) := fun Q q =>
  ha _ (hb _ ⟨i, _, rfl, rfl, h, by
    show Q (.int (i ^ ((n : Int)).toNat)) H
    rw [int_pow_toNat]
    exact q⟩)
theorem v_mod (ha : Val ta σ H (.int i)) (hb : Val tb σ H (.int j)) (h : 0 < j) : Val (tOp (rI (fun _ j => 0 < j) fun i j => .int (i % j)) ta tb) σ H (.int (i % j)) := fun Q q => ha _ (hb _ ⟨i, j, rfl, rfl, h, q⟩)
theorem v_fdiv (ha : Val ta σ H (.int i)) (hb : Val tb σ H (.int j)) (h : CDivW i j) : Val (tOp (rI CDivW fun i j => .int (i / j)) ta tb) σ H (.int (i / j)) := fun Q q => ha _ (hb _ ⟨i, j, rfl, rfl, h, q⟩)
theorem v_neg (ha : Val ta σ H (.int i)) : Val (tUn (rU fun i => .int (-i)) ta) σ H (.int (-i)) := fun Q q => ha _ ⟨i, rfl, q⟩
/-- arguments -/
def VA (ts : TA) (σ : L2.St) (H : Hp) (vs : List V) : Prop := ∀ Q : List V → Hp → Prop, Q vs H → ts σ H Q
theorem va_nil : VA tNil σ H [] := fun Q q => q
theorem va_cons (ha : Val ta σ H v) (hs : VA ts σ H vs) : VA (tCons ta ts) σ H (v :: vs) := fun Q q => ha _ (hs _ q)
theorem v_int1 (h : VA ts σ H [.int i]) : Val (tCB (fun xs H Q => (∃ i, xs = [.int i] ∧ Q (.int i) H) ∨ ∃ k, xs = [.bl k] ∧ Q (.int (if k then 1 else 0)) H) ts) σ H (.int i) := fun Q q => h _ (Or.inl ⟨i, rfl, q⟩)
theorem v_intB (h : VA ts σ H [.bl b]) : Val (tCB (fun xs H Q => (∃ i, xs = [.int i] ∧ Q (.int i) H) ∨ ∃ k, xs = [.bl k] ∧ Q (.int (if k then 1 else 0)) H) ts) σ H (.int (if b then 1 else 0)) := fun Q q => h _ (Or.inr ⟨b, rfl, q⟩)
theorem v_abs (h : VA ts σ H [.int i]) : Val (tCB (fun xs H Q => ∃ i, xs = [.int i] ∧ Q (.int (if i < 0 then -i else i)) H) ts) σ H (.int (if i < 0 then -i else i)) := fun Q q => h _ ⟨i, rfl, q⟩
theorem v_max2 (h : VA ts σ H [.int i, .int j]) : Val (tCB (fun xs H Q => ∃ i j, xs = [.int i, .int j] ∧ Q (.int (if j > i then j else i)) H) ts) σ H (.int (if j > i then j else i)) := fun Q q => h _ ⟨i, j, rfl, q⟩
theorem v_min2 (h : VA ts σ H [.int i, .int j]) : Val (tCB (fun xs H Q => ∃ i j, xs = [.int i, .int j] ∧ Q (.int (if j < i then j else i)) H) ts) σ H (.int (if j < i then j else i)) := fun Q q => h _ ⟨i, j, rfl, q⟩
def rLenU (K : PySem.W.Frag) : RC := fun xs H Q => ∃ p ys, xs = [.ref p] ∧ (SqL K H p ys ∨ SqT K H p ys) ∧ Q (.int ys.length) H
theorem v_lenL (h : VA ts σ H [.ref a]) (hx : SqL K H a xs) : Val (tCB (rLenU K) ts) σ H (.int xs.length) := fun Q q => h _ ⟨a, xs, rfl, Or.inl hx, q⟩
theorem v_lenT (h : VA ts σ H [.ref a]) (hx : SqT K H a xs) : Val (tCB (rLenU K) ts) σ H (.int xs.length) := fun Q q => h _ ⟨a, xs, rfl, Or.inr hx, q⟩
theorem v_ixL (ha : Val ta σ H (.ref a)) (hb : Val tb σ H (.int i)) (hx : SqL K H a xs) (hi : atI xs i = some v) : Val (tOp (rIxU K) ta tb) σ H v := fun Q q => ha _ (hb _ (Or.inl ⟨a, xs, i, v, rfl, rfl, hx, hi, q⟩))
theorem v_ixT (ha : Val ta σ H (.ref a)) (hb : Val tb σ H (.int i)) (hx : SqT K H a xs) (hi : atI xs i = some v) : Val (tOp (rIxU K) ta tb) σ H v := fun Q q => ha _ (hb _ (Or.inr ⟨a, xs, i, v, rfl, rfl, hx, hi, q⟩))
/-! ### tests -/
theorem a_lt (ha : Val ta σ H (.int i)) (hb : Val tb σ H (.int j)) : Ans (tTest (tOp (rI0 fun i j => .bl (decide (i < j))) ta tb)) σ H (decide (i < j)) := fun Q q => ha _ (hb _ ⟨i, j, rfl, rfl, _, rfl, q⟩)
theorem a_gt (ha : Val ta σ H (.int i)) (hb : Val tb σ H (.int j)) : Ans (tTest (tOp (rI0 fun i j => .bl (decide (j < i))) ta tb)) σ H (decide (j < i)) := fun Q q => ha _ (hb _ ⟨i, j, rfl, rfl, _, rfl, q⟩)
theorem a_le (ha : Val ta σ H (.int i)) (hb : Val tb σ H (.int j)) : Ans (tTest (tOp (rI0 fun i j => .bl (decide (i ≤ j))) ta tb)) σ H (decide (i ≤ j)) := fun Q q => ha _ (hb _ ⟨i, j, rfl, rfl, _, rfl, q⟩)
theorem a_ge (ha : Val ta σ H (.int i)) (hb : Val tb σ H (.int j)) : Ans (tTest (tOp (rI0 fun i j => .bl (decide (j ≤ i))) ta tb)) σ H (decide (j ≤ i)) := fun Q q => ha _ (hb _ ⟨i, j, rfl, rfl, _, rfl, q⟩)
theorem a_eqI (ha : Val ta σ H (.int i)) (hb : Val tb σ H (.int j)) : Ans (tTest (tOp (rEqU K) ta tb)) σ H (decide (i = j)) := fun Q q => ha _ (hb _ (Or.inl ⟨rfl, _, rfl, by
  rw [show decide (V.int i = V.int j) = decide (i = j) by simp]; exact q⟩))
theorem a_neI (ha : Val ta σ H (.int i)) (hb : Val tb σ H (.int j)) : Ans (tTest (tOp (rNeU K) ta tb)) σ H (!decide (i = j)) := fun Q q => ha _ (hb _ (Or.inl ⟨rfl, _, rfl, by
  rw [show decide (V.int i = V.int j) = decide (i = j) by simp]; exact q⟩))
theorem v_eqI (ha : Val ta σ H (.int i)) (hb : Val tb σ H (.int j)) : Val (tOp (rEqU K) ta tb) σ H (.bl (decide (i = j))) := fun Q q => ha _ (hb _ (Or.inl ⟨rfl, by
  rw [show decide (V.int i = V.int j) = decide (i = j) by simp]; exact q⟩))
theorem v_ifT (h : Ans t σ H true) (ha : Val ta σ H v) : Val (tIf t ta tb) σ H v := fun Q q => h _ (iteT (ha _ q))
theorem v_ifF (h : Ans t σ H false) (hb : Val tb σ H v) : Val (tIf t ta tb) σ H v := fun Q q => h _ (iteF (hb _ q))
theorem v_if (h : Ans t σ H b) (ha : b = true → Val ta σ H x) (hb : b = false → Val tb σ H y) : Val (tIf t ta tb) σ H (if b = true then x else y) := fun Q q => by
  cases b with
  | true => exact h _ (iteT (ha rfl _ q))
  | false => exact h _ (iteF (hb rfl _ q))
/-! ### statements -/
theorem s_asg {k : Nat} (h : Val te σ H v) (q : rest D (σ.set k (some v)) H) : tSeq (tAsg te (gName k)) rest D σ H := h _ q
theorem s_if {tA tB : TS} (h : Ans t σ H b) (h1 : b = true → tSeq tA rest D σ H) (h2 : b = false → tSeq tB rest D σ H) : tSeq (tIfS t tA tB) rest D σ H := by
  cases b with
  | true => exact h _ (iteT (h1 rfl))
  | false => exact h _ (iteF (h2 rfl))
theorem s_ifN {tA : TS} (h : Ans t σ H b) (h1 : b = true → tSeq tA rest D σ H) (h2 : b = false → rest D σ H) : tSeq (tIfS t tA tNext) rest D σ H := by
  cases b with
  | true => exact h _ (iteT (h1 rfl))
  | false => exact h _ (iteF (h2 rfl))
theorem s_ret (h : Val te σ H v) (q : D.rt v H) : tRet te D σ H := h _ q
theorem l_lst {Q : VK} (h : VA ts σ H vs) (hz : vs.length ≤ sizeLine) (q : ∀ p, H p = none → Q (.ref p) (upd H p (.lst vs))) : tLst ts σ H Q := h _ ⟨hz, q⟩
theorem l_tup {Q : VK} (h : VA ts σ H vs) (hz : vs.length ≤ sizeLine) (q : ∀ p, H p = none → Q (.ref p) (upd H p (.tup vs))) : tTup ts σ H Q := h _ ⟨hz, q⟩
theorem s_lst {k : Nat} (h : VA ts σ H vs) (hz : vs.length ≤ sizeLine) (q : ∀ p, H p = none → rest D (σ.set k (some (.ref p))) (upd H p (.lst vs))) : tSeq (tAsg (tLst ts) (gName k)) rest D σ H := h _ ⟨hz, q⟩
theorem s_tup {k : Nat} (h : VA ts σ H vs) (hz : vs.length ≤ sizeLine) (q : ∀ p, H p = none → rest D (σ.set k (some (.ref p))) (upd H p (.tup vs))) : tSeq (tAsg (tTup ts) (gName k)) rest D σ H := h _ ⟨hz, q⟩
/-- xs[i] = e, a list of ours -/
theorem s_put {k : Nat} (h : Val te σ H v) (ha : Val ta σ H (.ref a)) (hb : Val tb σ H (.int i)) (hx : H a = some (.lst xs)) (hi : ixN xs.length i = some k) (q : rest D σ (upd H a (.lst (xs.set k v)))) :
    tSeq (tAsg te (gSub ta tb rSetL)) rest D σ H := h _ (ha _ (hb _ ⟨a, xs, i, k, rfl, rfl, hx, hi, q⟩))
end
end Ly

set_option Elab.async false
set_option linter.all false
set_option maxRecDepth 100000
set_option maxHeartbeats 1000000
namespace Ly
open PySem PySem.Spec PyProof.Rows L2
/-! ### trees of our own: data whose lists stand apart, each in one place -/
mutual
inductive Tr (H : Hp) : V → PyData → List Addr → Prop
  | non : Tr H .non .none []
  | bl (b : Bool) : Tr H (.bl b) (.bool b) []
  | int (i : Int) : Tr H (.int i) (.int i) []
  | str (x : Str) : Tr H (.str x) (.str x) []
  | lst {a : Addr} {xs : List V} {ds : List PyData} {fp : List Addr} : H a = some (.lst xs) → TrAll H xs ds fp → a ∉ fp → Tr H (.ref a) (.list ds) (a :: fp)
  | tup {a : Addr} {xs : List V} {ds : List PyData} {fp : List Addr} : H a = some (.tup xs) → TrAll H xs ds fp → Tr H (.ref a) (.tuple ds) fp
inductive TrAll (H : Hp) : List V → List PyData → List Addr → Prop
  | nil : TrAll H [] [] []
  | cons {v : V} {vs : List V} {d : PyData} {ds : List PyData} {f1 f2 : List Addr} : Tr H v d f1 → TrAll H vs ds f2 → (∀ a ∈ f1, a ∉ f2) → TrAll H (v :: vs) (d :: ds) (f1 ++ f2)
end
mutual
theorem Tr.dp {K : PySem.W.Frag} {H : Hp} : ∀ {v : V} {d : PyData} {fp : List Addr}, Tr H v d fp → Dp K H v d
  | _, _, _, .non => .non
  | _, _, _, .bl b => .bl b
  | _, _, _, .int i => .int i
  | _, _, _, .str x => .str x
  | _, _, _, .lst h t _ => .lst (SqL.of h) (TrAll.dp t)
  | _, _, _, .tup h t => .tup (SqT.of h) (TrAll.dp t)
theorem TrAll.dp {K : PySem.W.Frag} {H : Hp} : ∀ {vs : List V} {ds : List PyData} {fp : List Addr}, TrAll H vs ds fp → DpAll K H vs ds
  | _, _, _, .nil => .nil
  | _, _, _, .cons h t _ => .cons (Tr.dp h) (TrAll.dp t)
end
mutual
theorem Tr.keep {H H' : Hp} : ∀ {v : V} {d : PyData} {fp : List Addr}, Tr H v d fp → (∀ a ∈ fp, H' a = H a) → (∀ a xs, H a = some (.tup xs) → H' a = some (.tup xs)) → Tr H' v d fp
  | _, _, _, .non, _, _ => .non
  | _, _, _, .bl b, _, _ => .bl b
  | _, _, _, .int i, _, _ => .int i
  | _, _, _, .str x, _, _ => .str x
  | _, _, _, .lst h t n, k, kt => .lst ((k _ (List.mem_cons_self ..)).trans h) (TrAll.keep t (fun a ha => k a (List.mem_cons_of_mem _ ha)) kt) n
  | _, _, _, .tup h t, k, kt => .tup (kt _ _ h) (TrAll.keep t k kt)
theorem TrAll.keep {H H' : Hp} : ∀ {vs : List V} {ds : List PyData} {fp : List Addr}, TrAll H vs ds fp → (∀ a ∈ fp, H' a = H a) → (∀ a xs, H a = some (.tup xs) → H' a = some (.tup xs)) → TrAll H' vs ds fp
  | _, _, _, .nil, _, _ => .nil
  | _, _, _, .cons h t n, k, kt => .cons (Tr.keep h (fun a ha => k a (List.mem_append_left _ ha)) kt) (TrAll.keep t (fun a ha => k a (List.mem_append_right _ ha)) kt) n
end
mutual
theorem Tr.own {H : Hp} : ∀ {v : V} {d : PyData} {fp : List Addr}, Tr H v d fp → ∀ a ∈ fp, ∃ xs, H a = some (.lst xs)
  | _, _, _, .non, _, z => by cases z
  | _, _, _, .bl b, _, z => by cases z
  | _, _, _, .int i, _, z => by cases z
  | _, _, _, .str x, _, z => by cases z
  | _, _, _, .lst h t _, a, z => (List.mem_cons.mp z).elim (fun e => ⟨_, e ▸ h⟩) (TrAll.own t a)
  | _, _, _, .tup h t, a, z => TrAll.own t a z
theorem TrAll.own {H : Hp} : ∀ {vs : List V} {ds : List PyData} {fp : List Addr}, TrAll H vs ds fp → ∀ a ∈ fp, ∃ xs, H a = some (.lst xs)
  | _, _, _, .nil, _, z => by cases z
  | _, _, _, .cons h t _, a, z => (List.mem_append.mp z).elim (Tr.own h a) (TrAll.own t a)
end
theorem TrAll.len {H : Hp} : ∀ {vs : List V} {ds : List PyData} {fp : List Addr}, TrAll H vs ds fp → vs.length = ds.length
  | _, _, _, .nil => rfl
  | _, _, _, .cons _ t _ => congrArg Nat.succ (TrAll.len t)
/-- kept from H on, but at fp -/
def But (fp : List Addr) (H H' : Hp) : Prop := ∀ b o, H b = some o → b ∉ fp → H' b = some o
theorem But.trans {fp : List Addr} {H H1 H2 : Hp} (x : But fp H H1) (y : But fp H1 H2) : But fp H H2 := fun b o e n => y b o (x b o e n) n
theorem But.mono {fp fp' : List Addr} {H H1 : Hp} (x : But fp H H1) (h : ∀ a ∈ fp, a ∈ fp') : But fp' H H1 := fun b o e n => x b o e fun z => n (h b z)
theorem But.refl {fp : List Addr} {H : Hp} : But fp H H := fun _ _ e _ => e
theorem But.new {fp : List Addr} {H : Hp} {p : Addr} {o : HO} (h : H p = none) : But fp H (upd H p o) := fun b u e _ => by
  rw [upd_ne (ne_of_none e h)]
  exact e
theorem Tr.but {H H' : Hp} {v : V} {d : PyData} {fp fq : List Addr} (t : Tr H v d fp) (b : But fq H H') (n : ∀ a ∈ fp, a ∉ fq) (nt : ∀ a xs, H a = some (.tup xs) → a ∉ fq) : Tr H' v d fp :=
  t.keep (fun a ha => by obtain ⟨xs, e⟩ := t.own a ha; rw [e]; exact b a _ e (n a ha)) fun a xs e => b a _ e (nt a xs e)
theorem TrAll.but {H H' : Hp} {vs : List V} {ds : List PyData} {fp fq : List Addr} (t : TrAll H vs ds fp) (b : But fq H H') (n : ∀ a ∈ fp, a ∉ fq) (nt : ∀ a xs, H a = some (.tup xs) → a ∉ fq) : TrAll H' vs ds fp :=
  t.keep (fun a ha => by obtain ⟨xs, e⟩ := t.own a ha; rw [e]; exact b a _ e (n a ha)) fun a xs e => b a _ e (nt a xs e)
/-! ### one item of a list in sight -/
theorem TrAll.at_ {H : Hp} : ∀ {vs : List V} {ds : List PyData} {fp : List Addr} {i : Nat} {v : V}, TrAll H vs ds fp → vs[i]? = some v →
    ∃ d f, ds[i]? = some d ∧ Tr H v d f ∧ (∀ a ∈ f, a ∈ fp) ∧ ∀ (H' : Hp) (d' : PyData), Tr H' v d' f → (∀ a ∈ fp, a ∉ f → H' a = H a) → (∀ a xs, H a = some (.tup xs) → H' a = some (.tup xs)) → TrAll H' vs (ds.set i d') fp
  | _, _, _, _, _, .nil, e => by simp at e
  | _, _, _, 0, v, .cons (v := v0) (f1 := f1) (f2 := f2) h t n, e => by
    have e1 : v0 = v := by simpa using e
    subst e1
    refine ⟨_, f1, rfl, h, fun a ha => List.mem_append_left _ ha, fun H' d' h' k kt => .cons h' (t.keep (fun a ha => k a (List.mem_append_right _ ha) fun z => n a z ha) kt) n⟩
  | _, _, _, i + 1, v, .cons (f1 := f1) (f2 := f2) h t n, e => by
    obtain ⟨d, f, e1, h1, s1, back⟩ := TrAll.at_ t (i := i) (v := v) (by simpa using e)
    refine ⟨d, f, by simpa using e1, h1, fun a ha => List.mem_append_right _ (s1 a ha), fun H' d' h' k kt => ?_⟩
    exact .cons (h.keep (fun a ha => k a (List.mem_append_left _ ha) fun z => n a ha (s1 a z)) kt) (back H' d' h' (fun a ha => k a (List.mem_append_right _ ha)) kt) n
/-! ### what `ranks` makes of data -/
mutual
def rk : PyData → Int → PyData × Int
  | .list ds, n => (.list ((rkAll ds n).1 ++ [.int (rkAll ds n).2]), (rkAll ds n).2 + 1)
  | .tuple ds, n => (.tuple (rkAll ds n).1, (rkAll ds n).2)
  | d, n => (d, n)
def rkAll : List PyData → Int → List PyData × Int
  | [], n => ([], n)
  | d :: ds, n => ((rk d n).1 :: (rkAll ds (rk d n).2).1, (rkAll ds (rk d n).2).2)
end
theorem rkAll_len : ∀ (ds : List PyData) (n : Int), (rkAll ds n).1.length = ds.length
  | [], _ => by simp [rkAll]
  | d :: ds, n => by simp [rkAll, rkAll_len ds]
theorem rkAll_app : ∀ (ds es : List PyData) (n : Int), rkAll (ds ++ es) n = ((rkAll ds n).1 ++ (rkAll es (rkAll ds n).2).1, (rkAll es (rkAll ds n).2).2)
  | [], es, n => by simp [rkAll]
  | d :: ds, es, n => by simp [rkAll, rkAll_app ds es]
/-- the first i items ranked -/
def rkTo (ds : List PyData) (n : Int) (i : Nat) : List PyData := (rkAll (ds.take i) n).1 ++ ds.drop i
def rkN (ds : List PyData) (n : Int) (i : Nat) : Int := (rkAll (ds.take i) n).2
theorem rkTo_zero (ds : List PyData) (n : Int) : rkTo ds n 0 = ds := by simp [rkTo, rkAll]
theorem rkN_zero (ds : List PyData) (n : Int) : rkN ds n 0 = n := by simp [rkN, rkAll]
theorem rkTo_all (ds : List PyData) (n : Int) : rkTo ds n ds.length = (rkAll ds n).1 := by simp [rkTo]
theorem rkN_all (ds : List PyData) (n : Int) : rkN ds n ds.length = (rkAll ds n).2 := by simp [rkN]
theorem rkTo_at {ds : List PyData} {n : Int} {i : Nat} {d : PyData} (h : ds[i]? = some d) : (rkTo ds n i)[i]? = some d := by
  have hi : i < ds.length := (List.getElem?_eq_some_iff.mp h).1
  have l : (rkAll (ds.take i) n).1.length = i := by rw [rkAll_len, List.length_take]; omega
  rw [rkTo, List.getElem?_append_right (by omega), l, Nat.sub_self, List.getElem?_drop, Nat.add_zero]
  exact h
theorem rkTo_succ {ds : List PyData} {n : Int} {i : Nat} {d : PyData} (h : ds[i]? = some d) : (rkTo ds n i).set i (rk d (rkN ds n i)).1 = rkTo ds n (i + 1) ∧ rkN ds n (i + 1) = (rk d (rkN ds n i)).2 := by
  have hi : i < ds.length := (List.getElem?_eq_some_iff.mp h).1
  have l : (rkAll (ds.take i) n).1.length = i := by rw [rkAll_len, List.length_take]; omega
  have e1 : ds.take (i + 1) = ds.take i ++ [d] := by rw [List.take_add_one, h]; rfl
  have e2 : ds.drop i = d :: ds.drop (i + 1) := by
    rw [List.drop_eq_getElem_cons hi]
    rw [List.getElem?_eq_getElem hi] at h
    rw [Option.some.inj h]
  constructor
  · rw [rkTo, rkTo, e1, rkAll_app, e2, List.set_append_right _ _ (by omega), l, Nat.sub_self]
    simp [rkAll, rkN]
  · rw [rkN, e1, rkAll_app]
    simp [rkAll, rkN]
mutual
/-- no list is too long -/
def slim : PyData → Bool
  | .list ds => decide (ds.length ≤ 100000) && slimAll ds
  | .tuple ds => slimAll ds
  | _ => true
def slimAll : List PyData → Bool
  | [] => true
  | d :: ds => slim d && slimAll ds
end
theorem slimAll_at : ∀ {ds : List PyData} {i : Nat} {d : PyData}, slimAll ds = true → ds[i]? = some d → slim d = true
  | [], _, _, _, e => by simp at e
  | c :: ds, 0, d, h, e => by
    have e1 : c = d := by simpa using e
    subst e1
    simp only [slimAll, Bool.and_eq_true] at h
    exact h.1
  | c :: ds, i + 1, d, h, e => by
    simp only [slimAll, Bool.and_eq_true] at h
    exact slimAll_at h.2 (by simpa using e)
theorem depth_at : ∀ {ds : List PyData} {i : Nat} {d : PyData}, ds[i]? = some d → d.depth ≤ PyData.depthAll ds
  | [], _, _, e => by simp at e
  | c :: ds, 0, d, e => by
    have e1 : c = d := by simpa using e
    subst e1
    simp only [PyData.depthAll]
    omega
  | c :: ds, i + 1, d, e => by
    have z : d.depth ≤ PyData.depthAll ds := depth_at (by simpa using e)
    simp only [PyData.depthAll]
    omega
def spRanks (dep : Nat) : Sp := fun vs H Q _ => ∃ (v : V) (r : Addr) (d : PyData) (fp : List Addr) (n : Int), vs = [v, .ref r] ∧ Tr H v d fp ∧ H r = some (.lst [.int n]) ∧ r ∉ fp ∧ d.depth < dep ∧ slim d = true ∧
  ∀ H', But (r :: fp) H H' → Tr H' v (rk d n).1 fp → H' r = some (.lst [.int (rk d n).2]) → Q .non H'
/-! ### kinds of data -/
def tyN : PyData → String
  | .none => "NoneType"
  | .bool _ => "bool"
  | .int _ => "int"
  | .str _ => "str"
  | .list _ => "list"
  | .tuple _ => "tuple"
  | .dict _ => "dict"
theorem Tr.ty {K : PySem.W.Frag} {H : Hp} {v : V} {d : PyData} {fp : List Addr} (t : Tr H v d fp) : TyX K H v (.type (tyN d)) := by
  cases t with
  | non => exact .base .non
  | bl b => exact .base (.bl b)
  | int i => exact .base (.int i)
  | str x => exact .base (.str x)
  | lst h _ _ => exact .base (.lst h)
  | tup h _ => exact .base (.tup h)
def isL : PyData → Bool
  | .list _ => true
  | _ => false
def isLT : PyData → Bool
  | .list _ => true
  | .tuple _ => true
  | _ => false
theorem kb1 : kitB "NoneType" "list" = some false := by decide +kernel
theorem kb2 : kitB "bool" "list" = some false := by decide +kernel
theorem kb3 : kitB "int" "list" = some false := by decide +kernel
theorem kb4 : kitB "str" "list" = some false := by decide +kernel
theorem kb5 : kitB "list" "list" = some true := by decide +kernel
theorem kb6 : kitB "tuple" "list" = some false := by decide +kernel
theorem kc1 : kitB "NoneType" "tuple" = some false := by decide +kernel
theorem kc2 : kitB "bool" "tuple" = some false := by decide +kernel
theorem kc3 : kitB "int" "tuple" = some false := by decide +kernel
theorem kc4 : kitB "str" "tuple" = some false := by decide +kernel
theorem kc5 : kitB "list" "tuple" = some false := by decide +kernel
theorem kc6 : kitB "tuple" "tuple" = some true := by decide +kernel
theorem kit_L {K : PySem.W.Frag} {H : Hp} {v : V} {d : PyData} {fp : List Addr} (t : Tr H v d fp) : PySem.W.kitOne K (.type (tyN d)) (.type "list") = some (isL d) := by
  cases t with
  | non => exact kit_ty kb1
  | bl b => exact kit_ty kb2
  | int i => exact kit_ty kb3
  | str x => exact kit_ty kb4
  | lst h _ _ => exact kit_ty kb5
  | tup h _ => exact kit_ty kb6
theorem kit_LT {K : PySem.W.Frag} {H : Hp} {v : V} {d : PyData} {fp : List Addr} (t : Tr H v d fp) : PySem.W.kitAny K (.type (tyN d)) [.type "list", .type "tuple"] = some (isLT d) := by
  have h2 : ∃ b, PySem.W.kitOne K (.type (tyN d)) (.type "tuple") = some b ∧ (isL d || b) = isLT d := by
    cases t with
    | non => exact ⟨false, kit_ty kc1, rfl⟩
    | bl b => exact ⟨false, kit_ty kc2, rfl⟩
    | int i => exact ⟨false, kit_ty kc3, rfl⟩
    | str x => exact ⟨false, kit_ty kc4, rfl⟩
    | lst h _ _ => exact ⟨false, kit_ty kc5, rfl⟩
    | tup h _ => exact ⟨true, kit_ty kc6, rfl⟩
  obtain ⟨b, hb, e⟩ := h2
  refine kitAny_cons (kit_L t) (fun z => kitAny_cons hb (fun y => ?_) fun y => ?_) fun z => ?_
  · rw [kitAny_nil, ← e, z, y]; rfl
  · rw [← e, y, Bool.or_true]
  · rw [← e, z, Bool.true_or]
end Ly

set_option Elab.async false
set_option linter.all false
set_option maxRecDepth 100000
set_option maxHeartbeats 1000000
namespace Ly
open PySem PySem.Spec PyProof.Rows L2
def rListOf (K : PySem.W.Frag) : RC := fun xs H Q => ∃ p ys, xs = [.ref p] ∧ (SqL K H p ys ∨ SqT K H p ys) ∧ ∀ l, H l = none → Q (.ref l) (upd H l (.lst ys))
def tTr (K : PySem.W.Frag) (te : TE) : TT := fun σ H Q => te σ H fun x H' => ∃ k, TruV K x H' k ∧ Q k H'
def t_rk2 (K : PySem.W.Frag) : TS := tIfS (tTr K (tCB (rIsiU K) (tCons (tVar 0) (tCons (tC (.ty "list")) tNil))))
  (tSeq (tDrop (tBM K "list" rAppend (tVar 0) (tCons (tOp (rIxU K) (tVar 1) (tC (.int 0))) tNil))) (tAsg (tOp rAddU (tOp (rIxU K) (tVar 1) (tC (.int 0))) (tC (.int 1))) (gSub (tVar 1) (tC (.int 0)) rSetL))) tNext
def t_rk (K : PySem.W.Frag) (sp : Sp) : TS := tSeq (tIfS (tTr K (tCB (rIsiU K) (tCons (tVar 0) (tCons (tTup (tCons (tC (.ty "list")) (tCons (tC (.ty "tuple")) tNil))) tNil))))
  (tFor (iList K (tCB (rListOf K) (tCons (tVar 0) tNil))) (gName 2) (tDrop (tCall sp [] E0 (tCons (tVar 2) (tCons (tVar 1) tNil))))) tNext) (t_rk2 K)
section
variable {K : PySem.W.Frag} {v : V} {r : Addr} {d : PyData} {fp : List Addr} {n : Int} {H : Hp} {Q : VK}
theorem rk2_read {σ : L2.St} {H1 : Hp} {d1 : PyData} {n1 : Int} {D : Ends} (h0 : σ[0]? = some (some v)) (h1 : σ[1]? = some (some (.ref r))) (b : But (r :: fp) H H1) (t : Tr H1 v d1 fp) (hR : H1 r = some (.lst [.int n1])) (nr : r ∉ fp)
    (hn : isL d1 = false → rk d n = (d1, n1)) (hl : ∀ es, d1 = .list es → rk d n = (.list (es ++ [.int n1]), n1 + 1) ∧ es.length ≤ 100000)
    (q : ∀ H', But (r :: fp) H H' → Tr H' v (rk d n).1 fp → H' r = some (.lst [.int (rk d n).2]) → D.nx σ H') : t_rk2 K D σ H1 := by
  refine ⟨v, h0, Or.inr (Or.inl ⟨v, .ty "list", _, _, isL d1, rfl, .ty _, t.ty, kit_L t, _, rfl, ?_⟩)⟩
  cases hL : isL d1 with
  | false =>
    refine iteF ?_
    have e := hn hL
    exact q H1 b (by rw [e]; exact t) (by rw [e]; exact hR)
  | true =>
    refine iteT ?_
    cases t with
    | non => cases hL
    | bl _ => cases hL
    | int _ => cases hL
    | str _ => cases hL
    | tup _ _ => cases hL
    | @lst a xs es fp' ha ta na =>
      obtain ⟨e, hz⟩ := hl es rfl
      have nra : r ≠ a := fun z => nr (z ▸ List.mem_cons_self ..)
      have hz2 : xs.length < sizeLine := by
        rw [ta.len]
        exact Nat.lt_of_le_of_lt hz (by decide)
      refine ⟨.ref a, h0, Or.inl ⟨rfl, _, SqL.of ha⟩, ?_⟩
      refine ⟨.ref r, h1, Or.inl ⟨r, _, 0, .int n1, rfl, rfl, SqL.of hR, rfl, ?_⟩⟩
      refine ⟨a, xs, .int n1, rfl, rfl, ha, hz2, ?_⟩
      have hR2 : (upd H1 a (.lst (xs ++ [.int n1]))) r = some (.lst [.int n1]) := by rw [upd_ne nra]; exact hR
      refine ⟨.ref r, h1, Or.inl ⟨r, _, 0, .int n1, rfl, rfl, SqL.of hR2, rfl, Or.inl ⟨n1, 1, rfl, rfl, ?_⟩⟩⟩
      refine ⟨.ref r, h1, r, _, 0, 0, rfl, rfl, hR2, rfl, ?_⟩
      have nra' : a ≠ r := Ne.symm nra
      refine q _ (fun c o z nc => ?_) ?_ ?_
      · have n1 : c ≠ r := fun y => nc (y ▸ List.mem_cons_self ..)
        have n2 : c ≠ a := fun y => nc (y ▸ List.mem_cons_of_mem _ (List.mem_cons_self ..))
        rw [upd_ne n1, upd_ne n2]
        exact b c o z nc
      · rw [e]
        have kt : TrAll (upd (upd H1 a (.lst (xs ++ [.int n1]))) r (.lst ([V.int n1].set 0 (.int (n1 + 1))))) xs es fp' := by
          refine ta.keep (fun c hc => ?_) fun c ys hc => ?_
          · have m1 : c ≠ r := fun y => nr (y ▸ List.mem_cons_of_mem _ hc)
            have m2 : c ≠ a := fun y => na (y ▸ hc)
            rw [upd_ne m1, upd_ne m2]
          · have m1 : c ≠ r := fun y => by rw [y, hR] at hc; cases hc
            have m2 : c ≠ a := fun y => by rw [y, ha] at hc; cases hc
            rw [upd_ne m1, upd_ne m2]
            exact hc
        have app : ∀ {H0 : Hp} {vs : List V} {ds : List PyData} {f : List Addr} (m : Int), TrAll H0 vs ds f → TrAll H0 (vs ++ [.int m]) (ds ++ [.int m]) f := by
          intro H0 vs
          induction vs with
          | nil =>
            intro ds f m z
            cases z
            exact TrAll.cons (f1 := []) (f2 := []) (.int m) .nil (fun _ z => by cases z)
          | cons x vs ih =>
            intro ds f m z
            cases z with
            | cons z1 z2 z3 => exact .cons z1 (ih m z2) z3
        refine .lst ?_ (app n1 kt) na
        rw [upd_ne nra', upd_same]
      · rw [upd_same, e]
        rfl
theorem rk_read {k : Nat} (t : Tr H v d fp) (hR : H r = some (.lst [.int n])) (nr : r ∉ fp) (hd : d.depth < k + 1) (hsl : slim d = true)
    (q : ∀ H', But (r :: fp) H H' → Tr H' v (rk d n).1 fp → H' r = some (.lst [.int (rk d n).2]) → Q .non H') {N : List Str} (hN : N.length = 3) :
    t_rk K (spRanks k) { nx := fun _ H' => Q .non H', rt := Q } (L2.start N [v, .ref r]) H := by
  have hst : L2.start N [v, .ref r] = [some v, some (.ref r), none] := by
    unfold L2.start
    rw [hN]
    rfl
  rw [hst]
  refine ⟨v, rfl, ⟨by show 2 ≤ sizeLine; decide, fun p hp => ?_⟩⟩
  have tp : Tr (upd H p (.tup [.ty "list", .ty "tuple"])) v d fp := t.but (fq := []) (But.new hp) (fun _ _ z => by cases z) (fun _ _ _ z => by cases z)
  refine Or.inr (Or.inr ⟨v, p, [.ty "list", .ty "tuple"], _, _, isLT d, rfl, upd_same, .cons (.ty _) (.cons (.ty _) .nil), tp.ty, kit_LT t, _, rfl, ?_⟩)
  have bp : But (r :: fp) H (upd H p (.tup [.ty "list", .ty "tuple"])) := But.new hp
  have hRp : (upd H p (.tup [.ty "list", .ty "tuple"])) r = some (.lst [.int n]) := by
    rw [upd_ne (ne_of_none hR hp)]
    exact hR
  generalize upd H p (.tup [.ty "list", .ty "tuple"]) = H1 at tp bp hRp
  -- what the loop over the items does
  have loop : ∀ (xs : List V) (ds : List PyData) (fq : List Addr), TrAll H1 xs ds fq → (∀ a ∈ fq, a ∈ fp) → PyData.depthAll ds < k → slimAll ds = true → ∀ (a : Addr), v = .ref a → (SqL K H1 a xs ∨ SqT K H1 a xs) →
      (∀ σ' H', σ'[0]? = some (some v) → σ'[1]? = some (some (.ref r)) → But (r :: fq) H1 H' → TrAll H' xs (rkAll ds n).1 fq → H' r = some (.lst [.int (rkAll ds n).2]) → t_rk2 K { nx := fun _ H' => Q .non H', rt := Q } σ' H') →
      tFor (iList K (tCB (rListOf K) (tCons (tVar 0) tNil))) (gName 2) (tDrop (tCall (spRanks k) [] E0 (tCons (tVar 2) (tCons (tVar 1) tNil)))) { nx := t_rk2 K { nx := fun _ H' => Q .non H', rt := Q }, rt := Q } [some v, some (.ref r), none] H1 := by
    intro xs ds fq ta hsub hdep hsl2 a hva hsq fin
    refine ⟨v, rfl, a, xs, by rw [hva], hsq, fun l hl => ⟨l, rfl, ⟨xs, SqL.of upd_same⟩, ?_⟩⟩
    have nrq : r ∉ fq := fun z => nr (hsub r z)
    have hlr : l ≠ r := (ne_of_none hRp hl).symm
    have hlq : l ∉ fq := fun z => by
      obtain ⟨ys, e⟩ := ta.own l z
      rw [hl] at e
      cases e
    refine for_list (fun i σ H' => σ[0]? = some (some v) ∧ σ[1]? = some (some (.ref r)) ∧ σ.length = 3 ∧ But (r :: fq) H1 H' ∧ H' l = some (.lst xs) ∧ TrAll H' xs (rkTo ds n i) fq ∧ H' r = some (.lst [.int (rkN ds n i)]))
      ⟨rfl, rfl, rfl, But.new hl, upd_same, ?_, ?_⟩ (fun i σ H' _ z => SqL.of z.2.2.2.2.1) (fun i x σ H' hx z => ?_) (fun σ H' z => ?_)
    · rw [rkTo_zero]
      exact ta.but (fq := []) (But.new hl) (fun _ _ z => by cases z) (fun _ _ _ z => by cases z)
    · rw [rkN_zero, upd_ne hlr.symm]
      exact hRp
    · obtain ⟨s0, s1, sl, bz, hlz, tz, rz⟩ := z
      obtain ⟨d0, f, e1, t1, sub1, back⟩ := tz.at_ hx
      have e0 : ds[i]? = some d0 := by
        have hi : i < ds.length := by
          rw [← ta.len]
          exact (List.getElem?_eq_some_iff.mp hx).1
        have e2 := rkTo_at (n := n) (List.getElem?_eq_getElem hi)
        rw [e1] at e2
        rw [List.getElem?_eq_getElem hi, Option.some.inj e2]
      obtain ⟨u1, u2⟩ := rkTo_succ (n := n) e0
      refine ⟨x, ?_, .ref r, ?_, x, r, d0, f, rkN ds n i, rfl, t1, rz, fun z => nrq (sub1 r z), Nat.lt_of_le_of_lt (depth_at e0) hdep, slimAll_at hsl2 e0, fun H2 b2 t2 r2 => ?_⟩
      · rw [List.getElem?_set_self (by omega)]
      · rw [List.getElem?_set_ne (by decide)]
        exact s1
      · have keepT : ∀ c ys, H' c = some (.tup ys) → H2 c = some (.tup ys) := fun c ys hc => b2 c _ hc fun z => by
          rcases List.mem_cons.mp z with y | y
          · rw [y, rz] at hc
            cases hc
          · obtain ⟨ws, e⟩ := t1.own c y
            rw [e] at hc
            cases hc
        refine ⟨?_, ?_, ?_, ?_, ?_, ?_, ?_⟩
        · rw [List.getElem?_set_ne (by decide)]
          exact s0
        · rw [List.getElem?_set_ne (by decide)]
          exact s1
        · rw [List.length_set]
          exact sl
        · refine bz.trans (b2.mono fun c hc => ?_)
          rcases List.mem_cons.mp hc with y | y
          · exact y ▸ List.mem_cons_self ..
          · exact List.mem_cons_of_mem _ (sub1 c y)
        · refine b2 l _ hlz fun z => ?_
          rcases List.mem_cons.mp z with y | y
          · exact hlr y
          · exact hlq (sub1 l y)
        · rw [← u1]
          refine back H2 _ t2 (fun c hc nc => ?_) keepT
          obtain ⟨ys, e⟩ := tz.own c hc
          rw [e]
          refine b2 c _ e fun z => ?_
          rcases List.mem_cons.mp z with y | y
          · exact nrq (y ▸ hc)
          · exact nc y
        · rw [u2]
          exact r2
    · obtain ⟨s0, s1, sl, bz, hlz, tz, rz⟩ := z
      have el : xs.length = ds.length := ta.len
      rw [el, rkTo_all] at tz
      rw [el, rkN_all] at rz
      exact fin σ H' s0 s1 bz tz rz
  cases hLT : isLT d with
  | false =>
    refine iteF ?_
    refine rk2_read (H := H) (d := d) (n := n) (d1 := d) (n1 := n) rfl rfl bp tp hRp nr (fun _ => ?_) (fun es e => ?_) q
    · cases d <;> first | rfl | (cases hLT) | (simp [rk])
    · rw [e] at hLT
      cases hLT
  | true =>
    refine iteT ?_
    cases tp with
    | non => cases hLT
    | bl _ => cases hLT
    | int _ => cases hLT
    | str _ => cases hLT
    | @lst a xs ds fq ha ta na =>
      simp only [slim, Bool.and_eq_true, decide_eq_true_eq] at hsl
      simp only [PyData.depth] at hd
      refine loop xs ds fq ta (fun c hc => List.mem_cons_of_mem _ hc) (by omega) hsl.2 a rfl (Or.inl (SqL.of ha)) fun σ' H' s0 s1 b' t' r' => ?_
      have nra : a ≠ r := fun z => nr (z ▸ List.mem_cons_self ..)
      have ha' : H' a = some (.lst xs) := b' a _ ha fun z => (List.mem_cons.mp z).elim nra na
      refine rk2_read (H := H) (d := .list ds) (n := n) s0 s1 (bp.trans (b'.mono fun c hc => ?_)) (.lst ha' t' na) r' nr (fun z => by cases z) (fun es e => ?_) q
      · exact (List.mem_cons.mp hc).elim (fun y => y ▸ List.mem_cons_self ..) fun y => List.mem_cons_of_mem _ (List.mem_cons_of_mem _ y)
      · have e2 : (rkAll ds n).1 = es := by injection e
        refine ⟨by simp only [rk, e2], ?_⟩
        rw [← e2, rkAll_len]
        exact hsl.1
    | @tup a xs ds fq ha ta =>
      simp only [slim] at hsl
      simp only [PyData.depth] at hd
      refine loop xs ds fp ta (fun c hc => hc) (by omega) hsl a rfl (Or.inr (SqT.of ha)) fun σ' H' s0 s1 b' t' r' => ?_
      have ha' : H' a = some (.tup xs) := b' a _ ha fun z => (List.mem_cons.mp z).elim (fun y => by rw [y, hRp] at ha; cases ha) fun y => by
        obtain ⟨ys, e⟩ := ta.own a y
        rw [e] at ha
        cases ha
      refine rk2_read (H := H) (d := .tuple ds) (n := n) s0 s1 (bp.trans b') (.tup ha' t') r' nr (fun _ => by simp only [rk]) (fun es e => by cases e) q
end
end Ly

set_option Elab.async false
set_option linter.all false
set_option maxRecDepth 100000
set_option maxHeartbeats 1000000
namespace Ly
open PySem PySem.Spec PyProof.Rows L2
/-! ### what the written part says of an error class, by one look -/
def ecB (K : PySem.W.Frag) (C fI : Addr) : Bool :=
  decide (PySem.W.findIn K (.ref C) "__setattr__" = some (some (.builtin "object.__setattr__"))) && (decide (PySem.W.subIn K (.ref C) (.type "BaseException") = some true) && (decide (PySem.W.typeIn K (.ref C) = some (.type "type")) &&
  (PySem.W.keepIn K (.ref C) && (decide (PySem.W.findIn K (.ref C) "__getattribute__" = some (some (.builtin "BaseException.__getattribute__"))) && (decide (PySem.W.findIn K (.ref C) "__getattr__" = some none) &&
  (PySem.W.hasDictIn K C && (decide (PySem.W.findIn K (.ref C) "__class__" = some (some (.builtin "object.__class__"))) && (decide (PySem.W.specialIn K (.builtin "object.__class__") "__get__" = some (some (.builtin "getset_descriptor.__get__"))) &&
  (decide (PySem.W.takesIn K (.builtin "object.__class__") = some true) && (decide (PySem.W.mroIn K C (.type "object") = some true) && (decide (PySem.W.findIn K (.ref C) "__init__" = some (some (.ref fI))) &&
  (decide (PySem.W.typeIn K (.ref fI) = some (.type "function")) && decide (PySem.W.findIn K (.ref C) "value" = some none)))))))))))))
theorem ec_of {K : PySem.W.Frag} {C fI : Addr} {nm q : Str} {N : Addr} {bs bm : List Value} {sn : List Str} {sub : List Value} {ab : Bool} {col : Option Bool} {dd : Option Addr} {k0 k1 k2 k3 k5 : Option Value}
    (hl : K.lookup C = some (excClassObj nm q C N bs bm true sn sub ab col dd k0 k1 k2 k3 k5 "ValueError.__new__")) (hm : PySem.HandSPX.refsVE bm = true) (h : ecB K C fI = true) : EC K C fI := by
  simp only [ecB, Bool.and_eq_true, decide_eq_true_eq] at h
  obtain ⟨h1, h2, h3, h4, h5, h6, h7, h8, h9, h10, h11, h12, h13, h14⟩ := h
  exact { ox := { cls := ⟨nm, q, N, bs, bm, sn, sub, ab, col, dd, k0, k1, k2, k3, k5, hl, hm⟩, sa := h1, exC := h2, tyC := h3, kC := h4 }, xf := ⟨h5, h6, h2, h7⟩, ec := ⟨h5, h6, h2, h7, h8, h9, h10, h11⟩, iC := h12, tI := h13, nv := h14 }
/-- which of the classes cs (the first one is the base of all) are which, and that all are ValueErrors -/
def kitsB (K : PySem.W.Frag) (cs : List Addr) : Bool := (List.range cs.length).all fun i => decide (PySem.W.kitOne K (.ref (cs.getD i 0)) (.type "ValueError") = some true) &&
  (List.range cs.length).all fun j => decide (PySem.W.kitOne K (.ref (cs.getD i 0)) (.ref (cs.getD j 0)) = some (decide (i = j ∨ j = 0)))
theorem kits_of {K : PySem.W.Frag} {cs : List Addr} (h : kitsB K cs = true) {i j : Nat} (hi : i < cs.length) (hj : j < cs.length) :
    PySem.W.kitOne K (.ref (cs.getD i 0)) (.type "ValueError") = some true ∧ PySem.W.kitOne K (.ref (cs.getD i 0)) (.ref (cs.getD j 0)) = some (decide (i = j ∨ j = 0)) := by
  simp only [kitsB, List.all_eq_true, List.mem_range, Bool.and_eq_true, decide_eq_true_eq] at h
  exact ⟨(h i hi).1, (h i hi).2 j hj⟩
/-! ### made -/
def spInit (K : PySem.W.Frag) : Sp := fun vs H Q _ => ∃ (a C : Addr) (v : V), vs = [.ref a, v] ∧ H a = some (exo a C none) ∧ OexC K C ∧ PySem.W.findIn K (.ref C) "value" = some none ∧
  ∀ d, H d = none → d ≠ a → Q .non (upd (upd H d (exd d [("value", v)])) a (exo a C (some d)))
/-- an exception of the class at C, its value v -/
def ErrAt (H : Hp) (a C : Addr) (v : V) : Prop := ∃ d, H a = some (exo a C (some d)) ∧ H d = some (exd d [("value", v)])
theorem ErrAt.but {H H' : Hp} {a C : Addr} {v : V} {fp : List Addr} (e : ErrAt H a C v) (b : But fp H H') (n : ∀ c xs, H c = some (.lst xs) ∨ c ∉ fp) : ErrAt H' a C v := by
  obtain ⟨d, h1, h2⟩ := e
  refine ⟨d, b a _ h1 ?_, b d _ h2 ?_⟩
  · rcases n a [] with z | z
    · rw [h1] at z
      have z' := Option.some.inj z
      cases z'
    · exact z
  · rcases n d [] with z | z
    · rw [h2] at z
      have z' := Option.some.inj z
      cases z'
    · exact z
theorem exo_lst {a C : Addr} {d : Option Addr} {xs : List V} : exo a C d ≠ .lst xs := fun z => by
  have z' : HO.ext _ = HO.lst xs := z
  cases z'
theorem exd_lst {a : Addr} {fs : List (Str × V)} {xs : List V} : exd a fs ≠ .lst xs := fun z => by
  have z' : HO.ext _ = HO.lst xs := z
  cases z'
theorem ErrAt.but' {H H' : Hp} {a C : Addr} {v : V} {fp : List Addr} (e : ErrAt H a C v) (b : But fp H H') (n : ∀ c ∈ fp, ∃ xs, H c = some (.lst xs)) : ErrAt H' a C v := by
  obtain ⟨d, h1, h2⟩ := e
  refine ⟨d, b a _ h1 fun z => ?_, b d _ h2 fun z => ?_⟩
  · obtain ⟨xs, y⟩ := n a z
    rw [h1] at y
    exact exo_lst (Option.some.inj y)
  · obtain ⟨xs, y⟩ := n d z
    rw [h2] at y
    exact exd_lst (Option.some.inj y)
section
variable {K : PySem.W.Frag} {σ : L2.St} {H : Hp} {v : V} {a C : Addr} {te : TE} {ts : TA} {b : Bool} {D : Ends} {c : V}
theorem init_read {N : List Str} {Q : VK} (hN : N.length = 2) (ha : H a = some (exo a C none)) (T : OexC K C) (nv : PySem.W.findIn K (.ref C) "value" = some none)
    (q : ∀ d, H d = none → d ≠ a → Q .non (upd (upd H d (exd d [("value", v)])) a (exo a C (some d)))) : tOst K "value" (tVar 0) (tVar 1) { nx := fun _ H' => Q .non H', rt := Q } (L2.start N [.ref a, v]) H := by
  have hst : L2.start N [.ref a, v] = [some (.ref a), some v] := by
    unfold L2.start
    rw [hN]
    rfl
  rw [hst]
  exact ⟨v, rfl, .ref a, rfl, a, C, rfl, T, nv, Or.inl ⟨ha, q⟩⟩
theorem l_exv {Q : VK} (h : VA ts σ H [v]) (T : OexC K C) (nv : PySem.W.findIn K (.ref C) "value" = some none)
    (q : ∀ H' a, But [] H H' → H a = none → ErrAt H' a C v → Q (.ref a) H') : tExV C (spInit K) ts σ H Q := by
  refine h _ ⟨rfl, fun a ha => ⟨a, C, v, rfl, upd_same, T, nv, fun d hd hda => ⟨rfl, ?_⟩⟩⟩
  have hd0 : H d = none := by
    rw [upd_ne hda] at hd
    exact hd
  refine q _ a (fun b o e _ => ?_) ha ⟨d, upd_same, ?_⟩
  · rw [upd_ne (ne_of_none e ha), upd_ne (ne_of_none e hd0), upd_ne (ne_of_none e ha)]
    exact e
  · rw [upd_ne hda, upd_same]
theorem err_ret (h1 : VA ts σ H [v]) (hb : Val te σ H (.bl b)) (T : OexC K C) (nv : PySem.W.findIn K (.ref C) "value" = some none)
    (q : ∀ H' a, But [] H H' → H a = none → ErrAt H' a C v → D.rt (.ref a) H') : tRet (tIf (tTr K te) (tExV C (spInit K) ts) (tExV C (spInit K) ts)) D σ H := by
  refine hb _ ⟨b, rfl, ?_⟩
  cases b with
  | true => exact iteT (l_exv h1 T nv q)
  | false => exact iteF (l_exv h1 T nv q)
theorem v_isX {u : Value} (h : VA ts σ H [.ref a, c]) (hc : ClsV c u) (T : ExcC K C) (e : ErrAt H a C v) (hk : PySem.W.kitOne K (.ref C) u = some b) : Val (tCB (rIsiU K) ts) σ H (.bl b) := fun Q q => by
  obtain ⟨d, h1, h2⟩ := e
  exact h _ (Or.inl ⟨a, C, d, _, c, u, b, rfl, hc, T, h1, h2, hk, q⟩)
theorem v_exf (h : Val te σ H (.ref a)) (T : EC K C fI) (e : ErrAt H a C v) : Val (tExF "value" te K) σ H v := fun Q q => by
  obtain ⟨d, h1, h2⟩ := e
  exact h _ ⟨a, C, d, _, v, rfl, T.xf, T.nv, h1, h2, by simp [List.lookup], q⟩
/-- xs + [..] -/
theorem s_addL {rest : TS} {ta : TE} {xs vs : List V} {k : Nat} (ha : Val ta σ H (.ref a)) (hx : H a = some (.lst xs)) (h : VA ts σ H vs) (hz : xs.length + vs.length ≤ 1000)
    (q : ∀ p H', But [] H H' → H p = none → H' p = some (.lst (xs ++ vs)) → rest D (σ.set k (some (.ref p))) H') : tSeq (tAsg (tOp rAddU ta (tLst ts)) (gName k)) rest D σ H := by
  have z1 : (1000 : Nat) ≤ sizeLine := by decide
  refine ha _ (h _ ⟨by omega, fun p hp => Or.inr ⟨a, p, xs, vs, rfl, rfl, ?_, upd_same, by omega, fun r hr => ?_⟩⟩)
  · rw [upd_ne (ne_of_none hx hp)]
    exact hx
  · have hrp : r ≠ p := fun z => by rw [z, upd_same] at hr; cases hr
    have hr0 : H r = none := by
      rw [upd_ne hrp] at hr
      exact hr
    refine q r _ (fun b o e _ => ?_) hr0 upd_same
    rw [upd_ne (ne_of_none e hr0), upd_ne (ne_of_none e hp)]
    exact e
/-- [k for k in range(n) if found[k]] -/
theorem l_picked {n : Nat} {bs : List Bool} {f : Addr} {i j : Nat} {Q : VK} (hn : bs.length = n) (hn2 : n ≤ 1000) (hi : ∀ x : V, ((σ.set j none).set j (some x))[i]? = some (some (.ref f))) (hj : j < σ.length) (hf : H f = some (.lst (bs.map V.bl)))
    (q : ∀ p H', But [] H H' → H p = none → H' p = some (.lst (((List.range n).filter fun k => bs.getD k false).map fun k : Nat => V.int (k : Int))) → Q (.ref p) H') :
    tLc (iRng1 (tCons (tC (.int n)) tNil)) (gName j) (tTr K (tOp (rIxU K) (tVar i) (tVar j))) (tVar j) [j] σ H Q := by
  have z1 : (1000 : Nat) < sizeLine := by decide
  refine ⟨n, rfl, by omega, by omega, fun Dp hD => ?_⟩
  refine lc_range (lo := 0) (n := ((n : Int)).toNat) (fun m H' => But [] H H' ∧ H' Dp = some (.lst (((List.range m).filter fun k => bs.getD k false).map fun k : Nat => V.int (k : Int))) ∧ m ≤ n) ⟨But.new hD, upd_same, Nat.zero_le _⟩ (fun m H' hm z => ?_) (fun H' z => ?_)
  · rw [Int.toNat_natCast] at hm
    obtain ⟨bz, dz, _⟩ := z
    have hb : (bs.map V.bl)[m]? = some (.bl (bs.getD m false)) := by
      rw [List.getElem?_map, List.getElem?_eq_getElem (by omega), List.getD_eq_getElem?_getD, List.getElem?_eq_getElem (by omega)]
      rfl
    have hfz : H' f = some (.lst (bs.map V.bl)) := bz f _ hf (by simp)
    have e0 : (0 : Int) + (m : Int) = (m : Int) := by omega
    have ew : wipe σ [j] = σ.set j none := rfl
    refine ⟨by rw [ew]; show ((σ.set j none).set j (some (V.int (0 + m)))).set j none = σ.set j none; rw [List.set_set, List.set_set], ?_⟩
    refine ⟨.ref f, by rw [ew]; exact hi _, .int (0 + m), by rw [ew, List.getElem?_set_self (by rw [List.length_set]; exact hj)], Or.inl ⟨f, _, (0 + m), _, rfl, rfl, SqL.of hfz, by rw [e0]; exact atI_nat hb, ?_⟩⟩
    refine ⟨bs.getD m false, rfl, ?_⟩
    have er : (List.range (m + 1)).filter (fun k => bs.getD k false) = (List.range m).filter (fun k => bs.getD k false) ++ if bs.getD m false = true then [m] else [] := by
      rw [List.range_succ, List.filter_append]
      congr 1
      show List.filter (fun k => bs.getD k false) [m] = _
      rw [List.filter_cons]
      cases bs.getD m false <;> rfl
    cases hv : bs.getD m false with
    | true =>
      rw [hv] at er
      refine iteT ⟨.int (0 + m), by rw [ew, List.getElem?_set_self (by rw [List.length_set]; exact hj)], _, dz, ?_, fun b o e nb => ?_, ?_, hm⟩
      · rw [List.length_map]
        have := List.length_filter_le (fun k => bs.getD k false) (List.range m)
        rw [List.length_range] at this
        omega
      · rw [upd_ne (ne_of_none e hD)]
        exact bz b o e nb
      · rw [upd_same, er, if_pos rfl, List.map_append, e0]
        rfl
    | false =>
      rw [hv] at er
      refine iteF ⟨bz, ?_, hm⟩
      rw [er, if_neg Bool.false_ne_true, List.append_nil]
      exact dz
  · rw [Int.toNat_natCast] at z
    exact q Dp H' z.1 hD z.2.1
end
end Ly

set_option Elab.async false
set_option linter.all false
set_option maxRecDepth 100000
set_option maxHeartbeats 1000000
namespace Ly
open PySem PySem.Spec PyProof.Rows L2
/-! ### how long what is shown can be -/
mutual
def cst : PyData → Nat
  | .none => 10
  | .bool _ => 10
  | .int _ => 1930
  | .str x => 10 * x.length + 10
  | .list ds => cstAll ds + 10
  | .tuple ds => cstAll ds + 10
  | .dict _ => 0
def cstAll : List PyData → Nat
  | [] => 0
  | d :: ds => cst d + 10 + cstAll ds
end
mutual
/-- no dict, no odd sign -/
def noOdd : PyData → Bool
  | .str x => x.cps.toList.all fun c => decide (c < 16 ^ 8)
  | .list ds => noOddAll ds
  | .tuple ds => noOddAll ds
  | .dict _ => false
  | _ => true
def noOddAll : List PyData → Bool
  | [] => true
  | d :: ds => noOdd d && noOddAll ds
end
theorem textFrom_le : ∀ (ts : List Str) (k : Nat) (acc : Str), (textFrom k acc ts).length ≤ acc.length + (ts.map fun t => t.length + 2).sum
  | [], k, acc => by simp [textFrom]
  | t :: r, k, acc => by
    have h := textFrom_le r (k + 1) (acc ++ (if k > 0 then ", " else "" : String) ++ t)
    have e : (acc ++ (if k > 0 then ", " else "" : String) ++ t).length ≤ acc.length + 2 + t.length := by
      rw [Str.length_append, Str.length_append]
      split
      · show acc.length + 2 + t.length ≤ _
        omega
      · show acc.length + 0 + t.length ≤ _
        omega
    have e2 : (textFrom k acc (t :: r)) = textFrom (k + 1) (acc ++ (if k > 0 then ", " else "" : String) ++ t) r := rfl
    rw [e2, List.map_cons, List.sum_cons]
    omega
theorem join_le : ∀ ts : List Str, (Str.join ", " ts).length ≤ (ts.map fun t => t.length + 2).sum
  | [] => by decide
  | t :: r => by
    have h := join_length_add (t :: r) (by simp)
    have e : ∀ l : List Str, piled l = (l.map fun t => t.length + 2).sum := by
      intro l
      induction l with
      | nil => rfl
      | cons a l ih => simp [piled, ih]
    rw [e] at h
    omega
mutual
theorem shown_le : ∀ d : PyData, d.showable = true → noOdd d = true → d.shown.length ≤ cst d
  | .none, _, _ => by decide
  | .bool b, _, _ => by cases b <;> decide
  | .int i, h, _ => by
    have h2 : i.natAbs.log2 < 1920 := by simpa [PyData.showable] using h
    have z := int_text_len_1921 h2
    show (Str.ofString (toString i)).length ≤ 1930
    omega
  | .str x, _, h => by
    have h2 : ∀ c ∈ x.cps.toList, c < 16 ^ 8 := by
      intro c hc
      simp only [noOdd, List.all_eq_true, decide_eq_true_eq] at h
      exact h c hc
    have z := StrLaws.reprText_len x h2
    show (reprText x).length ≤ 10 * x.length + 10
    omega
  | .list ds, h, k => by
    have z := shownAll_le ds (by simpa [PyData.showable] using h) (by simpa [noOdd] using k)
    show (textFrom 0 "[" (PyData.shownAll ds) ++ ("]" : String)).length ≤ cstAll ds + 10
    rw [Str.length_append]
    have y := textFrom_le (PyData.shownAll ds) 0 "["
    have a : ((("[" : String) : Str)).length = 1 := by decide
    have b : ((("]" : String) : Str)).length = 1 := by decide
    omega
  | .tuple ds, h, k => by
    have z := shownAll_le ds (by simpa [PyData.showable] using h) (by simpa [noOdd] using k)
    show (("(" : Str) ++ Str.join ", " (PyData.shownAll ds) ++ (if (PyData.shownAll ds).length == 1 then ",)" else ")" : String)).length ≤ cstAll ds + 10
    rw [Str.length_append, Str.length_append]
    have y := join_le (PyData.shownAll ds)
    have a : ((("(" : String) : Str)).length = 1 := by decide
    have b : ((((if (PyData.shownAll ds).length == 1 then ",)" else ")" : String)) : Str)).length ≤ 2 := by split <;> decide
    omega
  | .dict _, _, k => by cases k
theorem shownAll_le : ∀ ds : List PyData, PyData.showableAll ds = true → noOddAll ds = true → ((PyData.shownAll ds).map fun t => t.length + 2).sum ≤ cstAll ds
  | [], _, _ => by simp [PyData.shownAll, cstAll]
  | d :: ds, h, k => by
    simp only [PyData.showableAll, Bool.and_eq_true] at h
    simp only [noOddAll, Bool.and_eq_true] at k
    have a := shown_le d h.1 k.1
    have b := shownAll_le ds h.2 k.2
    simp only [PyData.shownAll, cstAll, List.map_cons, List.sum_cons]
    omega
end
/-! ### ranked data can be shown, too -/
mutual
def nl : PyData → Nat
  | .list ds => nlAll ds + 1
  | .tuple ds => nlAll ds
  | _ => 0
def nlAll : List PyData → Nat
  | [] => 0
  | d :: ds => nl d + nlAll ds
end
theorem cstAll_app (ds es : List PyData) : cstAll (ds ++ es) = cstAll ds + cstAll es := by
  induction ds with
  | nil => simp [cstAll]
  | cons d ds ih => simp only [List.cons_append, cstAll, ih]; omega
theorem showableAll_app (ds es : List PyData) : PyData.showableAll (ds ++ es) = (PyData.showableAll ds && PyData.showableAll es) := by
  induction ds with
  | nil => simp [PyData.showableAll]
  | cons d ds ih => simp only [List.cons_append, PyData.showableAll, ih, Bool.and_assoc]
theorem noOddAll_app (ds es : List PyData) : noOddAll (ds ++ es) = (noOddAll ds && noOddAll es) := by
  induction ds with
  | nil => simp [noOddAll]
  | cons d ds ih => simp only [List.cons_append, noOddAll, ih, Bool.and_assoc]
theorem depthAll_app (ds es : List PyData) : PyData.depthAll (ds ++ es) = max (PyData.depthAll ds) (PyData.depthAll es) := by
  induction ds with
  | nil => simp [PyData.depthAll]
  | cons d ds ih => simp only [List.cons_append, PyData.depthAll, ih]; omega
theorem int_showable {i : Int} (h : i.natAbs < 2 ^ 200) : (PyData.int i).showable = true := by
  have z := PySem.Flt.log2_lt_of (by decide : 0 < 200) h
  simp only [PyData.showable, decide_eq_true_eq]
  omega
structure Ranked (d d' : PyData) (n n' : Int) : Prop where
  num : n' = n + nl d
  show_ : d.showable = true → 0 ≤ n → n + nl d < 2 ^ 200 → d'.showable = true
  odd : noOdd d = true → noOdd d' = true
  dep : d'.depth = d.depth
  len : cst d' ≤ cst d + 1940 * nl d
structure RankedAll (d d' : List PyData) (n n' : Int) : Prop where
  num : n' = n + nlAll d
  show_ : PyData.showableAll d = true → 0 ≤ n → n + nlAll d < 2 ^ 200 → PyData.showableAll d' = true
  odd : noOddAll d = true → noOddAll d' = true
  dep : PyData.depthAll d' = PyData.depthAll d
  len : cstAll d' ≤ cstAll d + 1940 * nlAll d
mutual
theorem rk_ranked : ∀ (d : PyData) (n : Int), Ranked d (rk d n).1 n (rk d n).2
  | .none, n => ⟨by simp [rk, nl], fun h _ _ => by simpa [rk] using h, fun h => by simpa [rk] using h, by simp [rk], by simp [rk, nl]⟩
  | .bool _, n => ⟨by simp [rk, nl], fun h _ _ => by simpa [rk] using h, fun h => by simpa [rk] using h, by simp [rk], by simp [rk, nl]⟩
  | .int _, n => ⟨by simp [rk, nl], fun h _ _ => by simpa [rk] using h, fun h => by simpa [rk] using h, by simp [rk], by simp [rk, nl]⟩
  | .str _, n => ⟨by simp [rk, nl], fun h _ _ => by simpa [rk] using h, fun h => by simpa [rk] using h, by simp [rk], by simp [rk, nl]⟩
  | .dict _, n => ⟨by simp [rk, nl], fun h _ _ => by simpa [rk] using h, fun h => by simpa [rk] using h, by simp [rk], by simp [rk, nl]⟩
  | .tuple ds, n => by
    have z := rkAll_ranked ds n
    refine ⟨by simpa [rk, nl] using z.num, fun h a b => ?_, fun h => ?_, by simp [rk, PyData.depth, z.dep], ?_⟩
    · simp only [rk, PyData.showable]
      exact z.show_ (by simpa [PyData.showable] using h) a (by simpa [nl] using b)
    · simp only [rk, noOdd]
      exact z.odd (by simpa [noOdd] using h)
    · have := z.len
      simp only [rk, cst, nl]
      omega
  | .list ds, n => by
    have z := rkAll_ranked ds n
    have zn := z.num
    refine ⟨?_, fun h a b => ?_, fun h => ?_, ?_, ?_⟩
    · simp only [rk, nl]
      rw [zn]
      omega
    · simp only [rk, PyData.showable, showableAll_app, Bool.and_eq_true]
      simp only [nl] at b
      refine ⟨z.show_ (by simpa [PyData.showable] using h) a (by omega), ?_⟩
      have y : (PyData.int (rkAll ds n).2).showable = true := int_showable (by rw [zn]; omega)
      simp only [PyData.showableAll, y, Bool.and_true]
    · simp only [rk, noOdd, noOddAll_app, Bool.and_eq_true]
      exact ⟨z.odd (by simpa [noOdd] using h), by simp [noOddAll, noOdd]⟩
    · simp only [rk, PyData.depth, depthAll_app, z.dep, PyData.depthAll]
      omega
    · have := z.len
      simp only [rk, cst, nl, cstAll_app, cstAll]
      omega
theorem rkAll_ranked : ∀ (ds : List PyData) (n : Int), RankedAll ds (rkAll ds n).1 n (rkAll ds n).2
  | [], n => ⟨by simp [rkAll, nlAll], fun h _ _ => by simpa [rkAll] using h, fun h => by simpa [rkAll] using h, by simp [rkAll], by simp [rkAll, nlAll]⟩
  | d :: ds, n => by
    have a := rk_ranked d n
    have b := rkAll_ranked ds (rk d n).2
    have an := a.num
    have bn := b.num
    refine ⟨?_, fun h x y => ?_, fun h => ?_, ?_, ?_⟩
    · simp only [rkAll, nlAll]
      rw [bn, an]
      omega
    · simp only [PyData.showableAll, Bool.and_eq_true] at h
      simp only [nlAll] at y
      simp only [rkAll, PyData.showableAll, Bool.and_eq_true]
      exact ⟨a.show_ h.1 x (by omega), b.show_ h.2 (by rw [an]; omega) (by rw [an]; omega)⟩
    · simp only [noOddAll, Bool.and_eq_true] at h
      simp only [rkAll, noOddAll, Bool.and_eq_true]
      exact ⟨a.odd h.1, b.odd h.2⟩
    · simp only [rkAll, PyData.depthAll, a.dep, b.dep]
    · have := a.len
      have := b.len
      simp only [rkAll, cstAll, nlAll]
      omega
end
/-! ### repr of data that are fine -/
structure Fine (d : PyData) : Prop where
  sh : d.showable = true
  od : noOdd d = true
  dp : d.depth ≤ 50
  ln : cst d ≤ 10000000
theorem Fine.len {d : PyData} (f : Fine d) : d.shown.length ≤ sizeLine := by
  have a := shown_le d f.sh f.od
  have b : (10000000 : Nat) ≤ sizeLine := by decide
  have c := f.ln
  omega
theorem Fine.rk {d : PyData} {n : Int} (f : Fine d) (h0 : 0 ≤ n) (h1 : n + nl d < 2 ^ 200) (hc : cst d + 1940 * nl d ≤ 10000000) : Fine (Ly.rk d n).1 := by
  have z := rk_ranked d n
  exact ⟨z.show_ f.sh h0 h1, z.odd f.od, by rw [z.dep]; exact f.dp, Nat.le_trans z.len hc⟩
section
variable {K : PySem.W.Frag} {σ : L2.St} {H : Hp} {v : V} {ts : TA} {d : PyData}
theorem v_repr (h : VA ts σ H [v]) (hd : Dp K H v d) (f : Fine d) : Val (tCB (rRepr K) ts) σ H (.str d.shown) := fun Q q => h _ ⟨v, d, rfl, hd, f.sh, Nat.le_trans f.dp (by decide), f.len, q⟩
theorem a_neS {ta tb : TE} {x y : Str} (ha : Val ta σ H (.str x)) (hb : Val tb σ H (.str y)) : Ans (tTest (tOp (rNeU K) ta tb)) σ H (!decide (x = y)) := fun Q q => ha _ (hb _ (Or.inl ⟨rfl, _, rfl, by
  rw [show decide (V.str x = V.str y) = decide (x = y) by simp]; exact q⟩))
theorem a_eqS {ta tb : TE} {x y : Str} (ha : Val ta σ H (.str x)) (hb : Val tb σ H (.str y)) : Ans (tTest (tOp (rEqU K) ta tb)) σ H (decide (x = y)) := fun Q q => ha _ (hb _ (Or.inl ⟨rfl, _, rfl, by
  rw [show decide (V.str x = V.str y) = decide (x = y) by simp]; exact q⟩))
theorem l_pick {Q : VK} {a : Addr} {xs : List V} {m : Int} {b : Nat} (h : VA ts σ H [.ref a, .int m]) (hx : H a = some (.lst xs)) (ok : SackOk b xs) (hb : b ≤ 2 ^ 100) (m0 : 0 < m) (m1 : m < 2 ^ 8000)
    (q : ∀ H' xs' n, But [a] H H' → (∀ c, H' c = none ↔ H c = none) → H' a = some (.lst xs') → SackOk (b + 1) xs' → 0 ≤ n → n < m → Q (.int n) H') : tCall spPick [] E0 ts σ H Q := by
  refine h _ ⟨a, xs, m, b, rfl, hx, ok, hb, m0, m1, fun xs' n o n0 n1 => ?_⟩
  refine q _ xs' n (fun c u e nc => ?_) (fun c => ?_) upd_same o n0 n1
  · rw [upd_ne fun z => nc (by rw [z]; exact List.mem_singleton.mpr rfl)]
    exact e
  · by_cases z : c = a
    · subst z
      rw [upd_same, hx]
      constructor <;> intro y <;> cases y
    · rw [upd_ne z]
theorem l_call {sp : Sp} {vs : List V} {Q : VK} (h : VA ts σ H vs) (q : sp vs H Q E0) : tCall sp [] E0 ts σ H Q := h _ (by
  show sp (vs ++ []) H Q E0
  rw [List.append_nil]
  exact q)
theorem s_rcall {sp : Sp} {vs : List V} {D : Ends} (h : VA ts σ H vs) (q : sp vs H D.rt E0) : tRet (tCall sp [] E0 ts) D σ H := l_call h q
theorem s_ecall {sp : Sp} {vs : List V} {D : Ends} {rest : TS} (h : VA ts σ H vs) (q : sp vs H (fun _ H' => rest D σ H') E0) : tSeq (tDrop (tCall sp [] E0 ts)) rest D σ H := l_call h q
theorem s_acall {sp : Sp} {vs : List V} {D : Ends} {rest : TS} {k : Nat} (h : VA ts σ H vs) (q : sp vs H (fun v H' => rest D (σ.set k (some v)) H') E0) : tSeq (tAsg (tCall sp [] E0 ts) (gName k)) rest D σ H := l_call h q
theorem s_par {i j : Nat} {ta tb : TE} {D : Ends} {rest : TS} (h : ta σ H fun x H1 => tb σ H1 fun y H2 => ∃ v w, [x, y] = [v, w] ∧ rest D ((σ.set i (some v)).set j (some w)) H2) : tSeq (tPar i j (tCons ta (tCons tb tNil))) rest D σ H := h
end
end Ly

set_option Elab.async false
set_option linter.all false
set_option maxRecDepth 100000
set_option maxHeartbeats 1000000
namespace Ly
open PySem PySem.Spec PyProof.Rows L2
/-! ### the rules with the written part by its own name -/
section
variable {X : Cx} {K : PySem.W.Frag} {w : World}
theorem ix_K (hK : X.K = K) : IxR X (rIxU K) := by subst hK; exact ix_U
theorem sl_K (hK : X.K = K) : SlR X (rSlU K) := by subst hK; exact sl_U
theorem eq_K (hK : X.K = K) (hu : X.A.units + 64 < cLine) : OpR X (compareOp .Eq) (rEqU K) := by subst hK; exact op_eqU hu
theorem ne_K (hK : X.K = K) (hu : X.A.units + 64 < cLine) : OpR X (compareOp .NotEq) (rNeU K) := by subst hK; exact op_neU hu
theorem in_K (hK : X.K = K) : OpR X (compareOp .In) (rIn K false) := by subst hK; exact op_in_seq
theorem len_K (hK : X.K = K) : CallR X (.builtin "len") (rLenU K) := by subst hK; exact call_len_seq
theorem repr_K {k : Nat} (hK : X.K = K) (hA : X.A.guards = some []) (hr : Room k X.A) : CallR X (.builtin "repr") (rRepr K) := by subst hK; exact call_repr hA hr
theorem isi_K (hK : X.K = K) : CallR X (.builtin "isinstance") (rIsiU K) := by subst hK; exact call_isiU
theorem lof_K (hK : X.K = K) : CallR X (.type "list") (rListOf K) := by subst hK; exact call_list_of
theorem set_K (hK : X.K = K) (hw : X.w = w) (hc : X.calm = true) : CallR X (.type "set") (rSetI K w) := by subst hK; subst hw; exact cr_setI hc
theorem srt_K (hw : X.w = w) (hc : X.calm = true) : CallR X (.builtin "sorted") (rSortedSet w) := by subst hw; exact cr_sortedSet hc
theorem all_K (hK : X.K = K) (hc : X.calm = true) : CallR X (.builtin "all") (rAll K) := by subst hK; exact cr_all hc
theorem any_K (hK : X.K = K) (hc : X.calm = true) : CallR X (.builtin "any") (rAny K) := by subst hK; exact cr_any hc
theorem sum_K (hK : X.K = K) (hc : X.calm = true) : CallR X (.builtin "sum") (rSum K) := by subst hK; exact cr_sum hc
theorem min_K (hK : X.K = K) (hc : X.calm = true) : CallR X (.builtin "min") (rMin K) := by subst hK; exact cr_min hc
theorem max_K (hK : X.K = K) (hc : X.calm = true) : CallR X (.builtin "max") (rMax K) := by subst hK; exact cr_max hc
variable {a o e : Expr} {ta to : TE} {t : TA} {tg : Expr} {pos apos cpos : Pos} {n : Str}
theorem tr_K (hK : X.K = K) (ha : PE X a ta) (he : ∀ whole, isTrue a X.env whole = (do let v ← whole; standAt a.pos; holding [v] (truthy v)) := by exact fun _ => rfl) : PT X a (tTr K ta) := by
  subst hK
  exact pt_truth ha he
theorem il_K (hK : X.K = K) (ha : PE X a ta) : PI X tg a (iList K ta) := by subst hK; exact pi_list ha
theorem it_K (hK : X.K = K) (ha : PE X a ta) : PI X tg a (iTup K ta) := by subst hK; exact pi_tup ha
theorem exf_K (hK : X.K = K) (ha : PE X e ta) (hb : attributeBase e n X.env (eval e X.env) = eval e X.env := by rfl) : PE X (.Attribute e n pos) (tExF n ta K) := by subst hK; exact pe_exf ha hb
theorem app_K (hK : X.K = K) (ho : PE X o to) (ha : PA X [e] t) (hbase : attributeBase o "append" X.env (eval o X.env) = eval o X.env := by rfl)
    (hfew : ((backTo cpos (starEach [e] X.env)).all (fun x => !x.1) && (backToKw cpos (keywordEach [] X.env)).all (fun x => x.1.isSome) && decide ([e].length + ([] : List Keyword).length + (if ([] : List Keyword).isEmpty then 0 else 1) < 30)) = true := by rfl)
    (hline : (apos.endLine == cpos.line) = true := by rfl) (hs : starEach [e] X.env = (false, eval e X.env) :: starEach [] X.env := by rfl) (hplain : (backTo cpos (starEach [] X.env)).any (·.1) = false := by rfl) :
    PE X (.Call (.Attribute o "append" apos) [e] [] cpos) (tBM K "list" rAppend to t) := by
  subst hK
  exact pe_bm PySem.F.plainAttrs_list PySem.F.slot_list_append PySem.F.type_list_append mt_append ho ha hbase hfew hline hs hplain
end
end Ly

set_option Elab.async false
set_option linter.all false
set_option maxRecDepth 100000
set_option maxHeartbeats 1000000
namespace Ly
open PySem PySem.Spec PyProof.Rows L2
/-! ### the law's own call, over a def that may show things -/
section
variable {P : Program} {w : World} {K : PySem.W.Frag} {mg mb : Str → Option Value} {k : Nat} {fa a : Addr} {fd : FuncData} {x : Str} {sp : Sp} {s1 : Shared} {vs : List Value} {ns : List Int}
abbrev LawEnd (s1 : Shared) (r : Result) (s' : Shared) : Prop := r = .ok (.ret (.bool true)) ∧ OldK s1.heap s'.heap ∧ s'.os = s1.os ∧ AllBare s'.gens
theorem lawG_core (KX : K.In s1.heap) (hns : s1.heap.Ns mainGlobals mg) (hb : s1.heap.Ns builtinsNs mb) (hbb : ∀ x : Str, x ≠ "__name__" → mb x = bootBuiltins x) (hlim : s1.heap.NoLimit) (hg : s1.gens = #[])
    (ha : s1.heap.get? a = some { cls := .type "list", data := .seq vs.toArray }) (hr : Room k callerA) (F : ∀ base : Heap, K.In base → base.Ns mainGlobals mg → FnG P w K mg base k fa fd [x] sp)
    (hbind : ∀ (s : Shared) (u : Value), BindsTo s fd ⟨[u], []⟩ [(x, u)]) (hsp : ∀ H : Hp, Only H → SqL K H a (ns.map V.int) → sp [.ref a] H (fun v _ => v = .bl true) fun _ _ _ => False) :
    ∀ H : Hp, Only H → SqL K H a (ns.map V.int) → HOk P w H s1.heap → (∀ b, H b ≠ none → b = a) → (H a ≠ none → K.lookup a = none) → codeAny (model P w) callerA (.call (.ref fa) ⟨[.ref a], []⟩) (LawEnd s1) s1 := by
  intro H hO hS hok hA hK
  have isA : ∀ {b : Addr} {u : HO}, H b = some u → b = a := fun {b u} q => hA b (by rw [q]; simp)
  have hid : ∀ {b : Addr} {o : Obj}, s1.heap.get? b = some o → H b = none → (hidT s1.heap H).get? b = some o := fun e n => hidT_get e n
  have nod : ∀ {b : Addr} {o : Obj} {es : Array DictEntry} {ep : Nat}, s1.heap.get? b = some o → o.data = .dict es ep → H b = none := by
    intro b o es ep e d
    cases q : H b with
    | none => rfl
    | some u =>
      obtain rfl := isA q
      rw [ha] at e
      cases e
      have d1 : Data.seq vs.toArray _ = Data.dict es ep := d
      cases d1
  have nsH : ∀ {b : Addr} {m : Str → Option Value}, s1.heap.Ns b m → (hidT s1.heap H).Ns b m := by
    rintro b m ⟨o, es, ep, e, d, r⟩
    exact ⟨o, es, ep, hid e (nod e d), d, r⟩
  have hKb : K.In (hidT s1.heap H) := by
    intro b o e
    refine hid (KX b o e) ?_
    cases q : H b with
    | none => rfl
    | some u =>
      obtain rfl := isA q
      rw [hK (by rw [q]; simp)] at e
      cases e
  obtain ⟨mc, l1, l2⟩ := hlim
  have hM : Mod K mg (hidT s1.heap H) := ⟨hKb, nsH hns, ⟨mb, nsH hb, hbb⟩, ⟨mc, nsH l1, l2⟩⟩
  have e0 : Env0 P w K mg (hidT s1.heap H) callerA [] s1 H := ⟨rfl, hM, fun b o e => of_hidT e, Nat.le_of_eq (hidT_size _ _), trivial, fun b z => absurd (show b ∈ ([] : List Addr) from z) (by simp), hok, .of_eq hg⟩
  refine codeAny_mono ((F _ hKb (nsH hns)).runG callerA rfl [] s1 H ⟨[.ref a], []⟩ [.ref a] [.ref a] _ _ hr e0 (hbind s1 (.ref a)) (.cons rfl .nil) (hsp H hO hS)) fun r s' h => ?_
  rcases r with e | fl
  · exact h.elim
  · cases fl with
    | next => exact h.elim
    | brk => exact h.elim
    | cont => exact h.elim
    | ret u =>
      obtain ⟨v, H', os1, bare1, un1, hok1, r1, q1⟩ := h
      obtain rfl : v = .bl true := q1
      obtain rfl : u = Value.bool true := r1
      refine ⟨rfl, OldK.of_keep fun b o e => ?_, os1, bare1⟩
      cases q : H b with
      | none => exact un1.keep b o e q (fun z => absurd (show b ∈ ([] : List Addr) from z) (by simp)) (by simp)
      | some u =>
        rcases hO b with z | ⟨ob, xs, z⟩
        · rw [q] at z
          cases z
        · obtain ⟨e1, _⟩ := hok b _ z
          obtain ⟨e2, _⟩ := hok1 b _ (un1.frzs b ob _ z)
          rw [e] at e1
          cases e1
          exact e2
theorem lawG (KX : K.In s1.heap) (hns : s1.heap.Ns mainGlobals mg) (hb : s1.heap.Ns builtinsNs mb) (hbb : ∀ x : Str, x ≠ "__name__" → mb x = bootBuiltins x) (hlim : s1.heap.NoLimit) (hg : s1.gens = #[])
    (ha : s1.heap.get? a = some { cls := .type "list", data := .seq vs.toArray }) (hi : IntsAre vs ns) (hl : ns.length ≤ sizeLine) (hr : Room k callerA) (F : ∀ base : Heap, K.In base → base.Ns mainGlobals mg → FnG P w K mg base k fa fd [x] sp)
    (hbind : ∀ (s : Shared) (u : Value), BindsTo s fd ⟨[u], []⟩ [(x, u)]) (hsp : ∀ H : Hp, Only H → SqL K H a (ns.map V.int) → sp [.ref a] H (fun v _ => v = .bl true) fun _ _ _ => False) :
    codeAny (model P w) callerA (.call (.ref fa) ⟨[.ref a], []⟩) (LawEnd s1) s1 := by
  have rv := vals_ints hi
  have lv := hi.length
  have core := lawG_core (ns := ns) KX hns hb hbb hlim hg ha hr F hbind hsp
  cases hk : K.lookup a with
  | some o =>
    have e := KX a o hk
    rw [ha] at e
    cases e
    have s0 : SqL K (fun _ => none) a (ns.map V.int) := .inr ⟨_, vs.toArray, _, hk, rfl, rfl, rfl, by rw [List.size_toArray, lv]; exact hl, by simpa using rv⟩
    refine core (fun _ => none) (fun _ => .inl rfl) s0 (fun b u z => ?_) (fun b z => absurd rfl z) fun z => absurd rfl z
    have z1 : (none : Option HO) = some u := z
    cases z1
  | none =>
    have at1 : (fun b => if b = a then some (HO.frz { cls := .type "list", data := .seq vs.toArray } (.lst (ns.map V.int))) else none : Hp) a = some (.frz { cls := .type "list", data := .seq vs.toArray } (.lst (ns.map V.int))) := if_pos rfl
    refine core (fun b => if b = a then some (.frz { cls := .type "list", data := .seq vs.toArray } (.lst (ns.map V.int))) else none) (fun b => ?_) (.inl (.inr ⟨_, at1⟩)) (fun b u z => ?_) (fun b z => ?_) fun _ => hk
    · by_cases hb1 : b = a
      · exact .inr ⟨_, _, if_pos hb1⟩
      · exact .inl (if_neg hb1)
    · by_cases hb1 : b = a
      · have z1 := (if_pos hb1).symm.trans z
        cases z1
        subst hb1
        exact ⟨ha, by rw [List.length_map]; exact hl, vs, _, rv, ha⟩
      · have z1 := (if_neg hb1).symm.trans z
        cases z1
    · by_cases hb1 : b = a
      · exact hb1
      · exact absurd (if_neg hb1) z
end
theorem walkG {l : PySem.W.OpenLaw} {n k : Nat} {q : Program} {loose : List Str} {XP : (Str → Option Value) → Heap → Prop} {YP : World → Heap → Prop} {d : DefRec} {K : Params → PySem.W.Frag} {sp : PySem.W.Frag → Sp} {x : Str}
    (hn : l.most = some n) (hn2 : n ≤ sizeLine) (hdf : d.params.defaults = []) (hr : Room k callerA) (hY : ∀ (w : World) (h : Heap), YP w h → (K w.params).In h)
    (F : ∀ (w : World) (mg : Str → Option Value) (fa : Addr) (h : Heap), (K w.params).In h → h.Ns mainGlobals mg → mg d.name = some (.ref fa) →
      ∃ fd : FuncData, (∀ (s : Shared) (u : Value), BindsTo s fd ⟨[u], []⟩ [(x, u)]) ∧ ∀ base : Heap, (K w.params).In base → base.Ns mainGlobals mg → FnG l.prog w (K w.params) mg base k fa fd [x] (sp (K w.params)))
    (hsp : ∀ (K : PySem.W.Frag) (H : Hp) (a : Addr) (ns : List Int), ns.length ≤ n → (∀ z ∈ ns, Builtin.Int.intBits z ≤ 1048576) → Only H → SqL K H a (ns.map V.int) → sp K [.ref a] H (fun v _ => v = .bl true) fun _ _ _ => False) :
    PySem.W.WalkO q loose XP YP l.row.toRowW d [] (fun f vs => PySem.call f vs) := by
  refine Att.attach_callB hn hdf ?_
  intro w s₀ s₁ mg mb fa o pm cd doc a vs ns G Y ho hd hcd hmg hobj hints hlen hbits hg
  have KX := hY w _ Y
  obtain ⟨fd, hb, hF⟩ := F w mg fa _ KX G.T.g hmg
  exact lawG KX G.T.g G.T.b G.T.builtins G.T.nolimit hg hobj hints (Nat.le_trans hlen hn2) hr hF hb fun H hO hS => hsp _ H a ns hlen hbits hO hS
theorem SqL.but {K : PySem.W.Frag} {H H' : Hp} {a : Addr} {xs : List V} {fp : List Addr} (h : SqL K H a xs) (b : But fp H H') (n : a ∉ fp) : SqL K H' a xs := by
  rcases h with h | h
  · left
    rcases h with h | ⟨o, h⟩
    · exact .inl (b a _ h n)
    · exact .inr ⟨o, b a _ h n⟩
  · exact .inr h
theorem s_forR {σ : L2.St} {H : Hp} {ts : TA} {g : TG} {tb rest : TS} {D : Ends} {m : Int} (h : VA ts σ H [.int m]) (h0 : -(2 ^ 62) ≤ m) (h1 : m < 2 ^ 62) (q : tFor (fun _ H R => R (Itr 0 m.toNat) H) g tb { D with nx := rest D } σ H) :
    tSeq (tFor (iRng1 ts) g tb) rest D σ H := h _ ⟨m, rfl, h0, h1, q⟩
end Ly

set_option Elab.async false
set_option linter.all false
set_option maxRecDepth 100000
set_option maxHeartbeats 1000000
namespace Ly
open PySem PySem.Spec PyProof.Rows L2
/-! ### plain data and lists of our own, slot by slot -/
abbrev D := PyData
inductive Sl where
  | un
  | sh (d : D)
  | ow (b : Bool) (ds : List D)
abbrev Rho := List Sl
def hide (H : Hp) (O : List Addr) : Hp := fun b => if b ∈ O then none else H b
theorem hide_in {H : Hp} {O : List Addr} {b : Addr} (h : b ∈ O) : hide H O b = none := if_pos h
theorem hide_out {H : Hp} {O : List Addr} {b : Addr} (h : b ∉ O) : hide H O b = H b := if_neg h
theorem hide_some {H : Hp} {O : List Addr} {b : Addr} {o : HO} (h : hide H O b = some o) : b ∉ O ∧ H b = some o := by
  by_cases z : b ∈ O
  · rw [hide_in z] at h
    cases h
  · rw [hide_out z] at h
    exact ⟨z, h⟩
/-- what one heap knows another one knows, too -/
def Le (H H' : Hp) : Prop := ∀ b o, H b = some o → H' b = some o
theorem Le.rfl {H : Hp} : Le H H := fun _ _ e => e
theorem Le.trans {H1 H2 H3 : Hp} (x : Le H1 H2) (y : Le H2 H3) : Le H1 H3 := fun b o e => y b o (x b o e)
theorem Le.new {H : Hp} {p : Addr} {o : HO} (h : H p = none) : Le H (upd H p o) := fun b u e => by
  rw [upd_ne (ne_of_none e h)]
  exact e
theorem hide_le {H : Hp} {O : List Addr} : Le (hide H O) H := fun b o e => (hide_some e).2
theorem Le.hide {H H' : Hp} {O : List Addr} (l : Le H H') : Le (Ly.hide H O) (Ly.hide H' O) := fun b o e => by
  obtain ⟨n, h⟩ := hide_some e
  rw [hide_out n]
  exact l b o h
/-- no address of these is in use by another one -/
def ListsAt (H : Hp) (O : List Addr) : Prop := ∀ a ∈ O, ∃ xs, H a = some (.lst xs)
theorem ListsAt.out {H : Hp} {O : List Addr} (h : ListsAt H O) {p : Addr} (hp : H p = none) : p ∉ O := fun z => by
  obtain ⟨xs, e⟩ := h p z
  rw [hp] at e
  cases e
theorem ListsAt.le {H H' : Hp} {O : List Addr} (h : ListsAt H O) (l : Le H H') : ListsAt H' O := fun a z => by
  obtain ⟨xs, e⟩ := h a z
  exact ⟨xs, l a _ e⟩
section
variable {K : PySem.W.Frag}
theorem SqT.le {H H' : Hp} {a : Addr} {xs : List V} (h : SqT K H a xs) (l : Le H H') : SqT K H' a xs := by
  rcases h with (h | ⟨o, h⟩) | h
  · exact .inl (.inl (l _ _ h))
  · exact .inl (.inr ⟨o, l _ _ h⟩)
  · exact .inr h
mutual
/-- plain data, each list of it a list of the heap -/
inductive Dq (K : PySem.W.Frag) (H : Hp) : V → D → Prop
  | non : Dq K H .non .none
  | bl (b : Bool) : Dq K H (.bl b) (.bool b)
  | int (i : Int) : Dq K H (.int i) (.int i)
  | str (x : Str) : Dq K H (.str x) (.str x)
  | lst {a : Addr} {xs : List V} {ds : List D} : H a = some (.lst xs) → DqAll K H xs ds → Dq K H (.ref a) (.list ds)
  | tup {a : Addr} {xs : List V} {ds : List D} : SqT K H a xs → DqAll K H xs ds → Dq K H (.ref a) (.tuple ds)
inductive DqAll (K : PySem.W.Frag) (H : Hp) : List V → List D → Prop
  | nil : DqAll K H [] []
  | cons {v : V} {vs : List V} {d : D} {ds : List D} : Dq K H v d → DqAll K H vs ds → DqAll K H (v :: vs) (d :: ds)
end
mutual
theorem Dq.le {H H' : Hp} (l : Le H H') : ∀ {v : V} {d : D}, Dq K H v d → Dq K H' v d
  | _, _, .non => .non
  | _, _, .bl b => .bl b
  | _, _, .int i => .int i
  | _, _, .str x => .str x
  | _, _, .lst h t => .lst (l _ _ h) (DqAll.le l t)
  | _, _, .tup h t => .tup (SqT.le h l) (DqAll.le l t)
theorem DqAll.le {H H' : Hp} (l : Le H H') : ∀ {vs : List V} {ds : List D}, DqAll K H vs ds → DqAll K H' vs ds
  | _, _, .nil => .nil
  | _, _, .cons h t => .cons (Dq.le l h) (DqAll.le l t)
end
mutual
theorem Dq.dp {H : Hp} : ∀ {v : V} {d : D}, Dq K H v d → Dp K H v d
  | _, _, .non => .non
  | _, _, .bl b => .bl b
  | _, _, .int i => .int i
  | _, _, .str x => .str x
  | _, _, .lst h t => .lst (.inl (.inl h)) (DqAll.dp t)
  | _, _, .tup h t => .tup h (DqAll.dp t)
theorem DqAll.dp {H : Hp} : ∀ {vs : List V} {ds : List D}, DqAll K H vs ds → DpAll K H vs ds
  | _, _, .nil => .nil
  | _, _, .cons h t => .cons (Dq.dp h) (DqAll.dp t)
end
theorem DqAll.len {H : Hp} : ∀ {vs : List V} {ds : List D}, DqAll K H vs ds → vs.length = ds.length
  | _, _, .nil => rfl
  | _, _, .cons _ t => congrArg Nat.succ (DqAll.len t)
theorem DqAll.get {H : Hp} : ∀ {vs : List V} {ds : List D} {i : Nat} {d : D}, DqAll K H vs ds → ds[i]? = some d → ∃ v, vs[i]? = some v ∧ Dq K H v d
  | _, _, _, _, .nil, e => by simp at e
  | _, _, 0, _, .cons h _, e => by
    simp at e
    subst e
    exact ⟨_, rfl, h⟩
  | _, _, i + 1, _, .cons _ t, e => by
    obtain ⟨v, h1, h2⟩ := DqAll.get t (i := i) (by simpa using e)
    exact ⟨v, by simpa using h1, h2⟩
theorem DqAll.app {H : Hp} : ∀ {vs ws : List V} {ds es : List D}, DqAll K H vs ds → DqAll K H ws es → DqAll K H (vs ++ ws) (ds ++ es)
  | _, _, _, _, .nil, t => t
  | _, _, _, _, .cons h t, u => .cons h (DqAll.app t u)
theorem DqAll.take {H : Hp} : ∀ {vs : List V} {ds : List D} (n : Nat), DqAll K H vs ds → DqAll K H (vs.take n) (ds.take n)
  | _, _, 0, _ => .nil
  | _, _, _ + 1, .nil => .nil
  | _, _, n + 1, .cons h t => .cons h (DqAll.take n t)
theorem DqAll.drop {H : Hp} : ∀ {vs : List V} {ds : List D} (n : Nat), DqAll K H vs ds → DqAll K H (vs.drop n) (ds.drop n)
  | _, _, 0, t => t
  | _, _, _ + 1, .nil => .nil
  | _, _, n + 1, .cons _ t => DqAll.drop n t
theorem DqAll.set {H : Hp} {v : V} {d : D} (h : Dq K H v d) : ∀ {vs : List V} {ds : List D} (n : Nat), DqAll K H vs ds → DqAll K H (vs.set n v) (ds.set n d)
  | _, _, _, .nil => .nil
  | _, _, 0, .cons _ t => .cons h t
  | _, _, n + 1, .cons g t => .cons g (DqAll.set h n t)
/-- ints of a list -/
def intsOf : List D → Option (List Int)
  | [] => some []
  | .int i :: ds => (intsOf ds).map fun t => i :: t
  | _ :: _ => none
theorem DqAll.asInts {H : Hp} : ∀ {vs : List V} {ds : List D} {ns : List Int}, DqAll K H vs ds → intsOf ds = some ns → vs = ns.map V.int
  | _, _, _, .nil, e => by
    unfold intsOf at e
    cases e
    rfl
  | _, _, _, .cons (d := .int i) h t, e => by
    unfold intsOf at e
    obtain ⟨ms, e1, e2⟩ := Option.map_eq_some_iff.mp e
    subst e2
    cases h
    rw [DqAll.asInts t e1]
    rfl
  | _, _, _, .cons (d := .none) h t, e => by unfold intsOf at e; cases e
  | _, _, _, .cons (d := .bool _) h t, e => by unfold intsOf at e; cases e
  | _, _, _, .cons (d := .str _) h t, e => by unfold intsOf at e; cases e
  | _, _, _, .cons (d := .list _) h t, e => by unfold intsOf at e; cases e
  | _, _, _, .cons (d := .tuple _) h t, e => by unfold intsOf at e; cases e
theorem DqAll.ofInts {H : Hp} : ∀ (ns : List Int), DqAll K H (ns.map V.int) (ns.map PyData.int)
  | [] => .nil
  | n :: ns => .cons (.int n) (DqAll.ofInts ns)
/-- b: a list of the caller's own (true), or of this frame's (false) -/
def slotOk (K : PySem.W.Frag) (O0 : List Addr) (H : Hp) (O : List Addr) (x : Option (Option V)) : Sl → Prop
  | .un => True
  | .sh d => ∃ v, x = some (some v) ∧ Dq K (hide H O) v d
  | .ow b ds => ∃ a vs, x = some (some (.ref a)) ∧ a ∈ O ∧ H a = some (.lst vs) ∧ DqAll K (hide H O) vs ds ∧ (b = true ↔ a ∈ O0)
def Own (σ : L2.St) (ρ : Rho) (a : Addr) : Prop := ∃ (i : Nat) (b : Bool) (ds : List D), ρ[i]? = some (.ow b ds) ∧ σ[i]? = some (some (.ref a))
structure Wd (K : PySem.W.Frag) (O0 : List Addr) (H : Hp) (O : List Addr) (σ : L2.St) (ρ : Rho) : Prop where
  len : σ.length = ρ.length
  base : ∀ a ∈ O0, a ∈ O
  lists : ListsAt H O
  slot : ∀ (i : Nat) (s : Sl), ρ[i]? = some s → slotOk K O0 H O σ[i]? s
  inj : ∀ (i j : Nat) (a : Addr) (b c : Bool) (ds es : List D), ρ[i]? = some (.ow b ds) → ρ[j]? = some (.ow c es) → σ[i]? = some (some (.ref a)) → σ[j]? = some (some (.ref a)) → i = j
structure Step (K : PySem.W.Frag) (O0 : List Addr) (σ : L2.St) (ρ : Rho) (H : Hp) (O : List Addr) (σ' : L2.St) (ρ' : Rho) (H' : Hp) (O' : List Addr) : Prop where
  keep : ∀ b o, H b = some o → b ∉ O → H' b = some o
  grow : ∀ b ∈ O', b ∈ O ∨ H b = none
  far : ∀ b ∈ O, ¬ Own σ ρ b → H' b = H b
  same : ∀ a, Own σ' ρ' a → Own σ ρ a ∨ H a = none
  wd : Wd K O0 H' O' σ' ρ'
section
variable {O0 : List Addr} {σ σ1 σ2 σ' : L2.St} {ρ ρ1 ρ2 ρ' : Rho} {H H1 H2 H' : Hp} {O O1 O2 O' : List Addr}
theorem Step.le (s : Step K O0 σ ρ H O σ' ρ' H' O') : Le (hide H O) (hide H' O') := fun b o e => by
  obtain ⟨n, h⟩ := hide_some e
  rw [hide_out fun z => (s.grow b z).elim n fun y => by rw [h] at y; cases y]
  exact s.keep b o h n
theorem Wd.own (w : Wd K O0 H O σ ρ) {a : Addr} (o : Own σ ρ a) : a ∈ O := by
  obtain ⟨i, c, ds, h1, h2⟩ := o
  obtain ⟨b, vs, e, hb, _⟩ := w.slot i _ h1
  rw [h2] at e
  cases e
  exact hb
theorem Step.rfl (w : Wd K O0 H O σ ρ) : Step K O0 σ ρ H O σ ρ H O := ⟨fun _ _ e _ => e, fun _ z => .inl z, fun _ _ _ => Eq.refl _, fun _ z => .inl z, w⟩
theorem Step.trans (s : Step K O0 σ ρ H O σ1 ρ1 H1 O1) (t : Step K O0 σ1 ρ1 H1 O1 σ2 ρ2 H2 O2) (w : Wd K O0 H O σ ρ) : Step K O0 σ ρ H O σ2 ρ2 H2 O2 where
  keep := fun b o e n => t.keep b o (s.keep b o e n) fun z => (s.grow b z).elim n fun y => by rw [e] at y; cases y
  grow := fun b z => by
    rcases t.grow b z with y | y
    · exact s.grow b y
    · by_cases hb : b ∈ O
      · exact .inl hb
      · right
        cases e : H b with
        | none => rfl
        | some o =>
          rw [s.keep b o e hb] at y
          cases y
  far := fun b hb n => by
    have e1 := s.far b hb n
    obtain ⟨xs, e⟩ := w.lists b hb
    have n1 : ¬ Own σ1 ρ1 b := fun z => (s.same b z).elim n fun y => by rw [e] at y; cases y
    by_cases h1 : b ∈ O1
    · rw [t.far b h1 n1, e1]
    · rw [e] at e1
      rw [t.keep b _ e1 h1, e]
  same := fun a z => by
    rcases t.same a z with y | y
    · exact s.same a y
    · by_cases n : Own σ ρ a
      · exact .inl n
      right
      cases e : H a with
      | none => rfl
      | some o =>
        by_cases ha : a ∈ O
        · rw [s.far a ha n, e] at y
          cases y
        · rw [s.keep a o e ha] at y
          cases y
  wd := t.wd
end
end
end Ly

set_option Elab.async false
set_option linter.all false
set_option maxRecDepth 100000
set_option maxHeartbeats 1000000
namespace Ly
open PySem PySem.Spec PyProof.Rows L2
/-! ### what a term makes of the slots: a function of the data alone -/
abbrev Den (α : Type) := Rho → Option (α × Rho)
def dThen {α β : Type} (fa : Den α) (g : α → Option β) : Den β := fun ρ => (fa ρ).bind fun x => (g x.1).map fun z => (z, x.2)
def dPair {α β : Type} (fa : Den α) (fb : Den β) : Den (α × β) := fun ρ => (fa ρ).bind fun x => (fb x.2).map fun y => ((x.1, y.1), y.2)
def dCons {α : Type} (fa : Den α) (fs : Den (List α)) : Den (List α) := dThen (dPair fa fs) fun p => some (p.1 :: p.2)
def dNil {α : Type} : Den (List α) := fun ρ => some ([], ρ)
def dIf {α : Type} (ft : Den Bool) (fa fb : Den α) : Den α := fun ρ => (ft ρ).bind fun x => if x.1 = true then fa x.2 else fb x.2
def dC {α : Type} (a : α) : Den α := fun ρ => some (a, ρ)
def dV (i : Nat) : Den D := fun ρ => match ρ[i]? with
  | some (.sh d) => some (d, ρ)
  | _ => none
section
variable (K : PySem.W.Frag)
def Ev (te : TE) (f : Den D) : Prop := ∀ (O0 : List Addr) (H : Hp) (O : List Addr) (σ : L2.St) (ρ : Rho) (d : D) (ρ' : Rho), Wd K O0 H O σ ρ → f ρ = some (d, ρ') →
  ∀ Q : VK, (∀ H' O' v, Step K O0 σ ρ H O σ ρ' H' O' → Dq K (hide H' O') v d → Q v H') → te σ H Q
def Ea (ts : TA) (f : Den (List D)) : Prop := ∀ (O0 : List Addr) (H : Hp) (O : List Addr) (σ : L2.St) (ρ : Rho) (ds : List D) (ρ' : Rho), Wd K O0 H O σ ρ → f ρ = some (ds, ρ') →
  ∀ Q : List V → Hp → Prop, (∀ H' O' vs, Step K O0 σ ρ H O σ ρ' H' O' → DqAll K (hide H' O') vs ds → Q vs H') → ts σ H Q
def Et (tt : TT) (f : Den Bool) : Prop := ∀ (O0 : List Addr) (H : Hp) (O : List Addr) (σ : L2.St) (ρ : Rho) (b : Bool) (ρ' : Rho), Wd K O0 H O σ ρ → f ρ = some (b, ρ') →
  ∀ Q : Bool → Hp → Prop, (∀ H' O', Step K O0 σ ρ H O σ ρ' H' O' → Q b H') → tt σ H Q
def Eo (tt : TO) (f : Den (Option Int)) : Prop := ∀ (O0 : List Addr) (H : Hp) (O : List Addr) (σ : L2.St) (ρ : Rho) (b : Option Int) (ρ' : Rho), Wd K O0 H O σ ρ → f ρ = some (b, ρ') →
  ∀ Q : Option Int → Hp → Prop, (∀ H' O', Step K O0 σ ρ H O σ ρ' H' O' → Q b H') → tt σ H Q
/-- what a rule leaves: a greater heap, a value of the data -/
def Rt (H : Hp) (O : List Addr) (z : D) (Q : VK) : Prop := ∀ H' v, Le H H' → Dq K (hide H' O) v z → Q v H'
def Op1 (r : V → Hp → VK → Prop) (g : D → Option D) : Prop := ∀ (H : Hp) (O : List Addr) (x : V) (d z : D), ListsAt H O → Dq K (hide H O) x d → g d = some z → ∀ Q, Rt K H O z Q → r x H Q
def Op2 (r : R2) (g : D → D → Option D) : Prop := ∀ (H : Hp) (O : List Addr) (x y : V) (d e z : D), ListsAt H O → Dq K (hide H O) x d → Dq K (hide H O) y e → g d e = some z → ∀ Q, Rt K H O z Q → r x y H Q
def OpN (r : List V → Hp → VK → Prop) (g : List D → Option D) : Prop := ∀ (H : Hp) (O : List Addr) (vs : List V) (ds : List D) (z : D), ListsAt H O → DqAll K (hide H O) vs ds → g ds = some z → ∀ Q, Rt K H O z Q → r vs H Q
def OpS (r : V → Option Int → Option Int → Hp → VK → Prop) (g : D → Option Int → Option Int → Option D) : Prop :=
  ∀ (H : Hp) (O : List Addr) (x : V) (lo hi : Option Int) (d z : D), ListsAt H O → Dq K (hide H O) x d → g d lo hi = some z → ∀ Q, Rt K H O z Q → r x lo hi H Q
/-- a def that answers with data of data -/
def spD (n : Nat) (g : List D → Option D) : Sp := fun vs H Q _ => ∃ O ds z, ListsAt H O ∧ vs.length = n ∧ DqAll K (hide H O) vs ds ∧ g ds = some z ∧ Rt K H O z Q
end
section
variable {K : PySem.W.Frag}
theorem Wd.more {O0 : List Addr} {H H' : Hp} {O : List Addr} {σ : L2.St} {ρ : Rho} (w : Wd K O0 H O σ ρ) (l : Le H H') : Step K O0 σ ρ H O σ ρ H' O :=
  ⟨fun b o e _ => l b o e, fun _ z => .inl z, fun b hb _ => by
    obtain ⟨xs, e⟩ := w.lists b hb
    rw [e]
    exact l b _ e, fun _ z => .inl z, ⟨w.len, w.base, w.lists.le l, fun i s e => by
      have q := w.slot i s e
      cases s with
      | un => trivial
      | sh d =>
        obtain ⟨v, h1, h2⟩ := q
        exact ⟨v, h1, Dq.le (Le.hide l) h2⟩
      | ow b ds =>
        obtain ⟨a, vs, h1, h2, h3, h4, h5⟩ := q
        exact ⟨a, vs, h1, h2, l _ _ h3, DqAll.le (Le.hide l) h4, h5⟩, w.inj⟩⟩
theorem Rt.same {H : Hp} {O : List Addr} {z : D} {Q : VK} {v : V} (h : Rt K H O z Q) (q : Dq K (hide H O) v z) : Q v H := h H v .rfl q
theorem Rt.lst {H : Hp} {O : List Addr} {ds : List D} {vs : List V} {Q : VK} (h : Rt K H O (.list ds) Q) (l : ListsAt H O) (q : DqAll K (hide H O) vs ds) : ∀ p, H p = none → Q (.ref p) (upd H p (.lst vs)) := fun p hp =>
  h _ _ (.new hp) (.lst (by rw [hide_out (l.out hp)]; exact if_pos rfl) (DqAll.le (Le.hide (.new hp)) q))
theorem Rt.tup {H : Hp} {O : List Addr} {ds : List D} {vs : List V} {Q : VK} (h : Rt K H O (.tuple ds) Q) (l : ListsAt H O) (q : DqAll K (hide H O) vs ds) : ∀ p, H p = none → Q (.ref p) (upd H p (.tup vs)) := fun p hp =>
  h _ _ (.new hp) (.tup (.inl (.inl (by rw [hide_out (l.out hp)]; exact if_pos rfl))) (DqAll.le (Le.hide (.new hp)) q))
variable {ta tb te : TE} {ts tk : TA} {tt tu : TT} {fa fb fe : Den D} {fs fk : Den (List D)} {ft fu : Den Bool}
theorem ev_c {v : V} {d : D} (h : ∀ H, Dq K H v d) : Ev K (tC v) (dC d) := fun O0 H O σ ρ d ρ' w e Q q => by cases e; exact q H O _ (.rfl w) (h _)
theorem ev_int {i : Int} : Ev K (tC (.int i)) (dC (.int i)) := ev_c fun _ => .int i
theorem ev_bl {b : Bool} : Ev K (tC (.bl b)) (dC (.bool b)) := ev_c fun _ => .bl b
theorem ev_str {x : Str} : Ev K (tC (.str x)) (dC (.str x)) := ev_c fun _ => .str x
theorem ev_non : Ev K (tC .non) (dC .none) := ev_c fun _ => .non
theorem ev_var {i : Nat} : Ev K (tVar i) (dV i) := fun O0 H O σ ρ d ρ' w e Q q => by
  unfold dV at e
  split at e
  · rename_i d0 h
    cases e
    obtain ⟨v, h1, h2⟩ := w.slot i _ h
    exact ⟨v, h1, q H O v (.rfl w) h2⟩
  · cases e
theorem ea_nil : Ea K tNil dNil := fun O0 H O σ ρ ds ρ' w e Q q => by cases e; exact q H O _ (.rfl w) .nil
theorem dThen_some {α β : Type} {fa : Den α} {g : α → Option β} {ρ ρ' : Rho} {z : β} (e : dThen fa g ρ = some (z, ρ')) : ∃ x, fa ρ = some (x, ρ') ∧ g x = some z := by
  unfold dThen at e
  obtain ⟨⟨x, ρ1⟩, e1, e⟩ := Option.bind_eq_some_iff.mp e
  obtain ⟨y, e2, e⟩ := Option.map_eq_some_iff.mp e
  cases e
  exact ⟨x, e1, e2⟩
theorem dPair_some {α β : Type} {fa : Den α} {fb : Den β} {ρ ρ' : Rho} {z : α × β} (e : dPair fa fb ρ = some (z, ρ')) : ∃ ρ1, fa ρ = some (z.1, ρ1) ∧ fb ρ1 = some (z.2, ρ') := by
  unfold dPair at e
  obtain ⟨⟨x, ρ1⟩, e1, e⟩ := Option.bind_eq_some_iff.mp e
  obtain ⟨⟨y, ρ2⟩, e2, e⟩ := Option.map_eq_some_iff.mp e
  cases e
  exact ⟨ρ1, e1, e2⟩
theorem ea_cons (ha : Ev K ta fa) (hs : Ea K ts fs) : Ea K (tCons ta ts) (dCons fa fs) := fun O0 H O σ ρ ds ρ' w e Q q => by
  obtain ⟨⟨x, xs⟩, e1, e2⟩ := dThen_some e
  cases e2
  obtain ⟨ρ1, e1, e2⟩ := dPair_some e1
  refine ha O0 H O σ ρ x ρ1 w e1 _ fun H1 O1 v1 s1 p1 => ?_
  refine hs O0 H1 O1 σ ρ1 xs ρ' s1.wd e2 _ fun H2 O2 v2 s2 p2 => ?_
  exact q H2 O2 _ (s1.trans s2 w) (.cons (Dq.le s2.le p1) p2)
theorem ev_op {r : R2} {g : D → D → Option D} (h : Op2 K r g) (ha : Ev K ta fa) (hb : Ev K tb fb) : Ev K (tOp r ta tb) (dThen (dPair fa fb) fun p => g p.1 p.2) := fun O0 H O σ ρ d ρ' w e Q q => by
  obtain ⟨⟨x, y⟩, e1, e3⟩ := dThen_some e
  obtain ⟨ρ1, e1, e2⟩ := dPair_some e1
  refine ha O0 H O σ ρ x ρ1 w e1 _ fun H1 O1 v1 s1 p1 => ?_
  refine hb O0 H1 O1 σ ρ1 y ρ' s1.wd e2 _ fun H2 O2 v2 s2 p2 => ?_
  refine h H2 O2 v1 v2 x y d s2.wd.lists (Dq.le s2.le p1) p2 e3 Q fun H3 v l hv => ?_
  exact q H3 O2 v ((s1.trans s2 w).trans (s2.wd.more l) w) hv
theorem ev_un {r : V → Hp → VK → Prop} {g : D → Option D} (h : Op1 K r g) (ha : Ev K ta fa) : Ev K (tUn r ta) (dThen fa g) := fun O0 H O σ ρ d ρ' w e Q q => by
  obtain ⟨x, e1, e3⟩ := dThen_some e
  refine ha O0 H O σ ρ x ρ' w e1 _ fun H1 O1 v1 s1 p1 => ?_
  refine h H1 O1 v1 x d s1.wd.lists p1 e3 Q fun H3 v l hv => ?_
  exact q H3 O1 v (s1.trans (s1.wd.more l) w) hv
theorem ev_cb {r : List V → Hp → VK → Prop} {g : List D → Option D} (h : OpN K r g) (ha : Ea K ts fs) : Ev K (tCB r ts) (dThen fs g) := fun O0 H O σ ρ d ρ' w e Q q => by
  obtain ⟨x, e1, e3⟩ := dThen_some e
  refine ha O0 H O σ ρ x ρ' w e1 _ fun H1 O1 v1 s1 p1 => ?_
  refine h H1 O1 v1 x d s1.wd.lists p1 e3 Q fun H3 v l hv => ?_
  exact q H3 O1 v (s1.trans (s1.wd.more l) w) hv
/-- a def of one's own, by position -/
theorem ev_call {n : Nat} {g : List D → Option D} {E : XK} (ha : Ea K ts fs) (hn : ∀ ρ ds ρ', fs ρ = some (ds, ρ') → ds.length = n) : Ev K (tCall (spD K n g) [] E ts) (dThen fs g) := fun O0 H O σ ρ d ρ' w e Q q => by
  obtain ⟨x, e1, e3⟩ := dThen_some e
  refine ha O0 H O σ ρ x ρ' w e1 _ fun H1 O1 v1 s1 p1 => ?_
  refine ⟨O1, x, d, s1.wd.lists, ?_, ?_, e3, fun H3 v l hv => ?_⟩
  · rw [List.append_nil, p1.len]
    exact hn _ _ _ e1
  · rw [List.append_nil]
    exact p1
  · exact q H3 O1 v (s1.trans (s1.wd.more l) w) hv
/-- by position and by name: gV puts the values into their places -/
theorem ev_callk {n : Nat} {g : List D → Option D} {E : XK} {gV : List V → List V → List V} {gD : List D → List D → List D} (ha : Ea K ts fs) (hk : Ea K tk fk) (hg : ∀ H vs ds ws es, DqAll K H vs ds → DqAll K H ws es → DqAll K H (gV vs ws) (gD ds es))
    (hn : ∀ ρ ds ρ1 es ρ2, fs ρ = some (ds, ρ1) → fk ρ1 = some (es, ρ2) → (gD ds es).length = n) : Ev K (tCallK (spD K n g) gV E ts tk) (dThen (dPair fs fk) fun p => g (gD p.1 p.2)) := fun O0 H O σ ρ d ρ' w e Q q => by
  obtain ⟨⟨x, y⟩, e1, e3⟩ := dThen_some e
  obtain ⟨ρ1, e1, e2⟩ := dPair_some e1
  refine ha O0 H O σ ρ x ρ1 w e1 _ fun H1 O1 v1 s1 p1 => ?_
  refine hk O0 H1 O1 σ ρ1 y ρ' s1.wd e2 _ fun H2 O2 v2 s2 p2 => ?_
  have p := hg _ _ _ _ _ (DqAll.le s2.le p1) p2
  refine ⟨O2, gD x y, d, s2.wd.lists, ?_, p, e3, fun H3 v l hv => ?_⟩
  · rw [p.len]
    exact hn _ _ _ _ _ e1 e2
  · exact q H3 O2 v ((s1.trans s2 w).trans (s2.wd.more l) w) hv
def few (ds : List D) : Option (List D) := if ds.length ≤ 1000000 then some ds else none
theorem few_some {ds es : List D} (h : few ds = some es) : es = ds ∧ ds.length ≤ sizeLine := by
  unfold few at h
  split at h
  · cases h
    exact ⟨rfl, by rw [sizeLine_eq]; omega⟩
  · cases h
theorem ev_tup (ha : Ea K ts fs) : Ev K (tTup ts) (dThen fs fun ds => (few ds).map .tuple) := fun O0 H O σ ρ d ρ' w e Q q => by
  obtain ⟨x, e1, e3⟩ := dThen_some e
  obtain ⟨y, e4, rfl⟩ := Option.map_eq_some_iff.mp e3
  obtain ⟨rfl, hl⟩ := few_some e4
  refine ha O0 H O σ ρ y ρ' w e1 _ fun H1 O1 v1 s1 p1 => ?_
  refine ⟨by rw [p1.len]; exact hl, Rt.tup (K := K) (O := O1) (fun H3 v l hv => ?_) s1.wd.lists p1⟩
  exact q H3 O1 v (s1.trans (s1.wd.more l) w) hv
theorem ev_lst (ha : Ea K ts fs) : Ev K (tLst ts) (dThen fs fun ds => (few ds).map .list) := fun O0 H O σ ρ d ρ' w e Q q => by
  obtain ⟨x, e1, e3⟩ := dThen_some e
  obtain ⟨y, e4, rfl⟩ := Option.map_eq_some_iff.mp e3
  obtain ⟨rfl, hl⟩ := few_some e4
  refine ha O0 H O σ ρ y ρ' w e1 _ fun H1 O1 v1 s1 p1 => ?_
  refine ⟨by rw [p1.len]; exact hl, Rt.lst (K := K) (O := O1) (fun H3 v l hv => ?_) s1.wd.lists p1⟩
  exact q H3 O1 v (s1.trans (s1.wd.more l) w) hv
theorem ev_if (ht : Et K tt ft) (ha : Ev K ta fa) (hb : Ev K tb fb) : Ev K (tIf tt ta tb) (dIf ft fa fb) := fun O0 H O σ ρ d ρ' w e Q q => by
  unfold dIf at e
  obtain ⟨⟨x, ρ1⟩, e1, e⟩ := Option.bind_eq_some_iff.mp e
  refine ht O0 H O σ ρ x ρ1 w e1 _ fun H1 O1 s1 => ?_
  cases x with
  | true => exact iteT (ha O0 H1 O1 σ ρ1 d ρ' s1.wd (by simpa using e) _ fun H2 O2 v s2 p => q H2 O2 v (s1.trans s2 w) p)
  | false => exact iteF (hb O0 H1 O1 σ ρ1 d ρ' s1.wd (by simpa using e) _ fun H2 O2 v s2 p => q H2 O2 v (s1.trans s2 w) p)
/-! ### tests -/
def isB : D → Option Bool
  | .bool b => some b
  | _ => none
theorem isB_some {d : D} {b : Bool} (h : isB d = some b) : d = .bool b := by
  cases d <;> first | (cases h; rfl) | cases h
theorem et_test (ha : Ev K te fe) : Et K (tTest te) (dThen fe isB) := fun O0 H O σ ρ b ρ' w e Q q => by
  obtain ⟨x, e1, e3⟩ := dThen_some e
  obtain rfl := isB_some e3
  refine ha O0 H O σ ρ _ ρ' w e1 _ fun H1 O1 v1 s1 p1 => ?_
  cases p1
  exact ⟨b, rfl, q H1 O1 s1⟩
def truth : D → Option Bool
  | .none => some false
  | .bool b => some b
  | .int i => some (i != 0)
  | .list ds => some (!ds.isEmpty)
  | .tuple ds => some (!ds.isEmpty)
  | _ => none
theorem et_tr (ha : Ev K te fe) : Et K (tTr K te) (dThen fe truth) := fun O0 H O σ ρ b ρ' w e Q q => by
  obtain ⟨x, e1, e3⟩ := dThen_some e
  refine ha O0 H O σ ρ _ ρ' w e1 _ fun H1 O1 v1 s1 p1 => ?_
  refine ⟨b, ?_, q H1 O1 s1⟩
  cases p1 with
  | non => cases e3; rfl
  | bl b => cases e3; rfl
  | int i => cases e3; rfl
  | str x => cases e3
  | lst h t =>
    cases e3
    refine .inl ⟨_, .inl (.inl (hide_le _ _ h)), ?_⟩
    cases t <;> rfl
  | tup h t =>
    cases e3
    refine .inr (.inl ⟨_, SqT.le h hide_le, ?_⟩)
    cases t <;> rfl
def dNot (f : Den Bool) : Den Bool := dThen f fun b => some (!b)
theorem et_not (ht : Et K tt ft) : Et K (L2.tNot tt) (dNot ft) := fun O0 H O σ ρ b ρ' w e Q q => by
  obtain ⟨x, e1, e3⟩ := dThen_some e
  cases e3
  exact ht O0 H O σ ρ _ ρ' w e1 _ fun H1 O1 s1 => q H1 O1 s1
theorem et_and (ht : Et K tt ft) (hu : Et K tu fu) : Et K (L2.tAnd tt tu) (dIf ft fu (dC false)) := fun O0 H O σ ρ d ρ' w e Q q => by
  unfold dIf at e
  obtain ⟨⟨x, ρ1⟩, e1, e⟩ := Option.bind_eq_some_iff.mp e
  refine ht O0 H O σ ρ x ρ1 w e1 _ fun H1 O1 s1 => ?_
  cases x with
  | true => exact iteT (hu O0 H1 O1 σ ρ1 d ρ' s1.wd (by simpa using e) _ fun H2 O2 s2 => q H2 O2 (s1.trans s2 w))
  | false =>
    simp [dC] at e
    obtain ⟨rfl, rfl⟩ := e
    exact iteF (q H1 O1 s1)
theorem et_or (ht : Et K tt ft) (hu : Et K tu fu) : Et K (L2.tOr tt tu) (dIf ft (dC true) fu) := fun O0 H O σ ρ d ρ' w e Q q => by
  unfold dIf at e
  obtain ⟨⟨x, ρ1⟩, e1, e⟩ := Option.bind_eq_some_iff.mp e
  refine ht O0 H O σ ρ x ρ1 w e1 _ fun H1 O1 s1 => ?_
  cases x with
  | true =>
    simp [dC] at e
    obtain ⟨rfl, rfl⟩ := e
    exact iteT (q H1 O1 s1)
  | false => exact iteF (hu O0 H1 O1 σ ρ1 d ρ' s1.wd (by simpa using e) _ fun H2 O2 s2 => q H2 O2 (s1.trans s2 w))
def dB (f : Den D) : Den Bool := dThen f isB
theorem ev_andV (ha : Ev K ta fa) (hb : Ev K tb fb) : Ev K (L2.tAndV ta tb) (dIf (dB fa) fb (dC (.bool false))) := fun O0 H O σ ρ d ρ' w e Q q => by
  unfold dIf at e
  obtain ⟨⟨x, ρ1⟩, e1, e⟩ := Option.bind_eq_some_iff.mp e
  obtain ⟨y, e1, e2⟩ := dThen_some e1
  obtain rfl := isB_some e2
  refine ha O0 H O σ ρ _ ρ1 w e1 _ fun H1 O1 v s1 p => ?_
  cases p
  refine ⟨x, rfl, ?_⟩
  cases x with
  | true => exact iteT (hb O0 H1 O1 σ ρ1 d ρ' s1.wd (by simpa using e) _ fun H2 O2 v s2 p => q H2 O2 v (s1.trans s2 w) p)
  | false =>
    simp [dC] at e
    obtain ⟨rfl, rfl⟩ := e
    exact iteF (q H1 O1 _ s1 (.bl false))
theorem ev_orV (ha : Ev K ta fa) (hb : Ev K tb fb) : Ev K (L2.tOrV ta tb) (dIf (dB fa) (dC (.bool true)) fb) := fun O0 H O σ ρ d ρ' w e Q q => by
  unfold dIf at e
  obtain ⟨⟨x, ρ1⟩, e1, e⟩ := Option.bind_eq_some_iff.mp e
  obtain ⟨y, e1, e2⟩ := dThen_some e1
  obtain rfl := isB_some e2
  refine ha O0 H O σ ρ _ ρ1 w e1 _ fun H1 O1 v s1 p => ?_
  cases p
  refine ⟨x, rfl, ?_⟩
  cases x with
  | true =>
    simp [dC] at e
    obtain ⟨rfl, rfl⟩ := e
    exact iteT (q H1 O1 _ s1 (.bl true))
  | false => exact iteF (hb O0 H1 O1 σ ρ1 d ρ' s1.wd (by simpa using e) _ fun H2 O2 v s2 p => q H2 O2 v (s1.trans s2 w) p)
theorem ev_notV (ha : Ev K ta fa) : Ev K (L2.tNotV ta) (dThen (dB fa) fun b => some (.bool (!b))) := fun O0 H O σ ρ d ρ' w e Q q => by
  obtain ⟨x, e1, e2⟩ := dThen_some e
  cases e2
  obtain ⟨y, e1, e2⟩ := dThen_some e1
  obtain rfl := isB_some e2
  refine ha O0 H O σ ρ _ ρ' w e1 _ fun H1 O1 v s1 p => ?_
  cases p
  exact ⟨x, rfl, q H1 O1 _ s1 (.bl _)⟩
theorem ev_isN (ha : Ev K ta fa) : Ev K (L2.tIsN ta) (dThen fa fun d => some (.bool (match d with | .none => true | _ => false))) := fun O0 H O σ ρ d ρ' w e Q q => by
  obtain ⟨x, e1, e2⟩ := dThen_some e
  cases e2
  refine ha O0 H O σ ρ _ ρ' w e1 _ fun H1 O1 v s1 p => ?_
  refine q H1 O1 _ s1 ?_
  cases p <;> exact .bl _
theorem ev_sl {r : V → Option Int → Option Int → Hp → VK → Prop} {g : D → Option Int → Option Int → Option D} {tl th : TO} {fl fh : Den (Option Int)} (h : OpS K r g) (ha : Ev K te fe) (hl : Eo K tl fl) (hh : Eo K th fh) :
    Ev K (L2.tSl r te tl th) (dThen (dPair fe (dPair fl fh)) fun p => g p.1 p.2.1 p.2.2) := fun O0 H O σ ρ d ρ' w e Q q => by
  obtain ⟨⟨x, lo, hi⟩, e1, e3⟩ := dThen_some e
  obtain ⟨ρ1, e1, e2⟩ := dPair_some e1
  obtain ⟨ρ2, e2, e4⟩ := dPair_some e2
  refine ha O0 H O σ ρ x ρ1 w e1 _ fun H1 O1 v1 s1 p1 => ?_
  refine hl O0 H1 O1 σ ρ1 lo ρ2 s1.wd e2 _ fun H2 O2 s2 => ?_
  refine hh O0 H2 O2 σ ρ2 hi ρ' s2.wd e4 _ fun H3 O3 s3 => ?_
  refine h H3 O3 v1 lo hi x d s3.wd.lists (Dq.le s3.le (Dq.le s2.le p1)) e3 Q fun H4 v l hv => ?_
  exact q H4 O3 v (((s1.trans s2 w).trans s3 w).trans (s3.wd.more l) w) hv
end
end Ly

set_option Elab.async false
set_option linter.all false
set_option maxRecDepth 100000
set_option maxHeartbeats 1000000
namespace Ly
open PySem PySem.Spec PyProof.Rows L2
/-! ### statements -/
inductive Fl where
  | nx (ρ : Rho)
  | rt (d : D) (ρ : Rho)
abbrev DenS := Rho → Option Fl
section
variable (K : PySem.W.Frag)
def Es (t : TS) (f : DenS) : Prop := ∀ (O0 : List Addr) (H : Hp) (O : List Addr) (σ : L2.St) (ρ : Rho) (fl : Fl), Wd K O0 H O σ ρ → f ρ = some fl → ∀ D : Ends,
  (∀ ρ', fl = .nx ρ' → ∀ H' O' σ', Step K O0 σ ρ H O σ' ρ' H' O' → D.nx σ' H') → (∀ d ρ', fl = .rt d ρ' → ∀ H' O' σ' v, Step K O0 σ ρ H O σ' ρ' H' O' → Dq K (hide H' O') v d → D.rt v H') → t D σ H
/-- a target: the data put into slots -/
def Eg (g : TG) (f : D → Rho → Option Rho) : Prop := ∀ (O0 : List Addr) (H : Hp) (O : List Addr) (σ : L2.St) (ρ : Rho) (v : V) (d : D) (ρ' : Rho), Wd K O0 H O σ ρ → Dq K (hide H O) v d → f d ρ = some ρ' →
  ∀ Q : L2.St → Hp → Prop, (∀ σ', Step K O0 σ ρ H O σ' ρ' H O → Q σ' H) → g v σ H Q
def Egs (g : TGs) (f : List D → Rho → Option Rho) : Prop := ∀ (O0 : List Addr) (H : Hp) (O : List Addr) (σ : L2.St) (ρ : Rho) (vs : List V) (ds : List D) (ρ' : Rho), Wd K O0 H O σ ρ → DqAll K (hide H O) vs ds → f ds ρ = some ρ' →
  ∀ Q : L2.St → Hp → Prop, (∀ σ', Step K O0 σ ρ H O σ' ρ' H O → Q σ' H) → g vs σ H Q
/-- what a loop walks: data, one by one, while the heap grows -/
def SrcAt (J : It) (B : Hp) (xs : List D) : Prop := ∀ (i : Nat) (H : Hp) (O : List Addr), ListsAt H O → Le B (hide H O) →
  (∀ d, xs[i]? = some d → J.go i H ∧ ∀ x H', J.yld i H x H' → Le H H' ∧ Dq K (hide H' O) x d) ∧ (xs.length ≤ i → J.stop i H)
def Ei (wi : TI) (f : Den (List D)) : Prop := ∀ (O0 : List Addr) (H : Hp) (O : List Addr) (σ : L2.St) (ρ : Rho) (ds : List D) (ρ' : Rho), Wd K O0 H O σ ρ → f ρ = some (ds, ρ') →
  ∀ R : It → Hp → Prop, (∀ H' O' J, Step K O0 σ ρ H O σ ρ' H' O' → SrcAt K J (hide H' O') ds → R J H') → wi σ H R
end
def sNext : DenS := fun ρ => some (.nx ρ)
def sSeq (f g : DenS) : DenS := fun ρ => match f ρ with
  | some (.nx ρ1) => g ρ1
  | r => r
def sRet (f : Den D) : DenS := fun ρ => (f ρ).map fun x => .rt x.1 x.2
def sIf (ft : Den Bool) (f g : DenS) : DenS := fun ρ => (ft ρ).bind fun x => if x.1 = true then f x.2 else g x.2
def sAsg (f : Den D) (g : D → Rho → Option Rho) : DenS := fun ρ => (f ρ).bind fun x => (g x.1 x.2).map .nx
def sDrop (f : Den D) : DenS := fun ρ => (f ρ).map fun x => .nx x.2
def gtName (i : Nat) : D → Rho → Option Rho := fun d ρ => if i < ρ.length then some (ρ.set i (.sh d)) else none
def gtNil : List D → Rho → Option Rho
  | [], ρ => some ρ
  | _, _ => none
def gtCons (f : D → Rho → Option Rho) (g : List D → Rho → Option Rho) : List D → Rho → Option Rho
  | d :: ds, ρ => (f d ρ).bind fun ρ1 => g ds ρ1
  | _, _ => none
def gtTup (n : Nat) (g : List D → Rho → Option Rho) : D → Rho → Option Rho
  | .tuple ds, ρ => if ds.length = n then g ds ρ else none
  | _, _ => none
def forL (g : D → Rho → Option Rho) (fb : DenS) : List D → DenS
  | [], ρ => some (.nx ρ)
  | x :: xs, ρ => (g x ρ).bind fun ρ1 => match fb ρ1 with
    | some (.nx ρ2) => forL g fb xs ρ2
    | r => r
def sFor (fi : Den (List D)) (g : D → Rho → Option Rho) (fb : DenS) : DenS := fun ρ => (fi ρ).bind fun x => forL g fb x.1 x.2
def wl (ft : Den Bool) (fb : DenS) : Nat → DenS
  | 0, _ => none
  | n + 1, ρ => (ft ρ).bind fun x => if x.1 = true then (match fb x.2 with
    | some (.nx ρ2) => wl ft fb n ρ2
    | r => r) else some (.nx x.2)
theorem wl_more {ft : Den Bool} {fb : DenS} : ∀ {n : Nat} {ρ : Rho} {fl : Fl}, wl ft fb n ρ = some fl → wl ft fb (n + 1) ρ = some fl
  | 0, _, _, e => by cases e
  | n + 1, ρ, fl, e => by
    unfold wl at e
    obtain ⟨⟨b, ρ1⟩, e1, e⟩ := Option.bind_eq_some_iff.mp e
    unfold wl
    rw [e1]
    simp only [Option.bind_some]
    cases b with
    | false => exact e
    | true =>
      simp only [if_true] at e ⊢
      cases q : fb ρ1 with
      | none => rw [q] at e; exact e
      | some r =>
        rw [q] at e
        cases r with
        | nx ρ2 => exact wl_more e
        | rt d ρ2 => exact e
theorem wl_mono {ft : Den Bool} {fb : DenS} {n m : Nat} {ρ : Rho} {fl : Fl} (h : wl ft fb n ρ = some fl) (l : n ≤ m) : wl ft fb m ρ = some fl := by
  induction l with
  | refl => exact h
  | step _ ih => exact wl_more ih
open Classical in
noncomputable def sWhile (ft : Den Bool) (fb : DenS) : DenS := fun ρ => if h : ∃ n fl, wl ft fb n ρ = some fl then some (Classical.choose (Classical.choose_spec h)) else none
theorem sWhile_of {ft : Den Bool} {fb : DenS} {n : Nat} {ρ : Rho} {fl : Fl} (h : wl ft fb n ρ = some fl) : sWhile ft fb ρ = some fl := by
  unfold sWhile
  have ex : ∃ n fl, wl ft fb n ρ = some fl := ⟨n, fl, h⟩
  rw [dif_pos ex]
  have e := Classical.choose_spec (Classical.choose_spec ex)
  have a := wl_mono h (Nat.le_max_left n (Classical.choose ex))
  have b := wl_mono e (Nat.le_max_right n (Classical.choose ex))
  rw [a] at b
  exact b.symm
theorem sWhile_some {ft : Den Bool} {fb : DenS} {ρ : Rho} {fl : Fl} (h : sWhile ft fb ρ = some fl) : ∃ n, wl ft fb n ρ = some fl := by
  unfold sWhile at h
  split at h
  · rename_i ex
    cases h
    exact ⟨_, Classical.choose_spec (Classical.choose_spec ex)⟩
  · cases h
section
variable {K : PySem.W.Frag} {te : TE} {tt : TT} {t u : TS} {fe : Den D} {ft : Den Bool} {f g : DenS} {tg : TG} {gf : D → Rho → Option Rho} {tgs : TGs} {gsf : List D → Rho → Option Rho}
theorem es_next : Es K L2.tNext sNext := fun O0 H O σ ρ fl w e D hn hr => by cases e; exact hn ρ rfl H O σ (.rfl w)
theorem es_seq (ht : Es K t f) (hu : Es K u g) : Es K (L2.tSeq t u) (sSeq f g) := fun O0 H O σ ρ fl w e D hn hr => by
  unfold sSeq at e
  split at e
  · rename_i ρ1 e1
    refine ht O0 H O σ ρ _ w e1 _ (fun ρ2 q H1 O1 σ1 s => ?_) fun d ρ2 q => by cases q
    cases q
    exact hu O0 H1 O1 σ1 ρ1 fl s.wd e D (fun ρ' q H2 O2 σ2 s2 => hn ρ' q H2 O2 σ2 (s.trans s2 w)) fun d ρ' q H2 O2 σ2 v s2 p => hr d ρ' q H2 O2 σ2 v (s.trans s2 w) p
  · rename_i h
    refine ht O0 H O σ ρ fl w e _ (fun ρ2 q => absurd (e.trans (congrArg some q)) (h ρ2)) fun d ρ2 q H1 O1 σ1 v s p => hr d ρ2 q H1 O1 σ1 v s p
theorem es_ret (ha : Ev K te fe) : Es K (L2.tRet te) (sRet fe) := fun O0 H O σ ρ fl w e D hn hr => by
  obtain ⟨⟨d, ρ'⟩, e1, e2⟩ := Option.map_eq_some_iff.mp e
  cases e2
  exact ha O0 H O σ ρ d ρ' w e1 _ fun H1 O1 v s p => hr d ρ' rfl H1 O1 σ v s p
theorem es_drop (ha : Ev K te fe) : Es K (L2.tDrop te) (sDrop fe) := fun O0 H O σ ρ fl w e D hn hr => by
  obtain ⟨⟨d, ρ'⟩, e1, e2⟩ := Option.map_eq_some_iff.mp e
  cases e2
  exact ha O0 H O σ ρ d ρ' w e1 _ fun H1 O1 v s p => hn ρ' rfl H1 O1 σ s
theorem es_if (hc : Et K tt ft) (ht : Es K t f) (hu : Es K u g) : Es K (L2.tIfS tt t u) (sIf ft f g) := fun O0 H O σ ρ fl w e D hn hr => by
  obtain ⟨⟨b, ρ1⟩, e1, e⟩ := Option.bind_eq_some_iff.mp e
  refine hc O0 H O σ ρ b ρ1 w e1 _ fun H1 O1 s => ?_
  cases b with
  | true => exact iteT (ht O0 H1 O1 σ ρ1 fl s.wd (by simpa using e) D (fun ρ' q H2 O2 σ2 s2 => hn ρ' q H2 O2 σ2 (s.trans s2 w)) fun d ρ' q H2 O2 σ2 v s2 p => hr d ρ' q H2 O2 σ2 v (s.trans s2 w) p)
  | false => exact iteF (hu O0 H1 O1 σ ρ1 fl s.wd (by simpa using e) D (fun ρ' q H2 O2 σ2 s2 => hn ρ' q H2 O2 σ2 (s.trans s2 w)) fun d ρ' q H2 O2 σ2 v s2 p => hr d ρ' q H2 O2 σ2 v (s.trans s2 w) p)
theorem es_asg (ha : Ev K te fe) (hg : Eg K tg gf) : Es K (L2.tAsg te tg) (sAsg fe gf) := fun O0 H O σ ρ fl w e D hn hr => by
  obtain ⟨⟨d, ρ1⟩, e1, e⟩ := Option.bind_eq_some_iff.mp e
  obtain ⟨ρ2, e2, e⟩ := Option.map_eq_some_iff.mp e
  cases e
  refine ha O0 H O σ ρ d ρ1 w e1 _ fun H1 O1 v s p => ?_
  exact hg O0 H1 O1 σ ρ1 v d ρ2 s.wd p e2 _ fun σ2 s2 => hn ρ2 rfl H1 O1 σ2 (s.trans s2 w)
/-- a slot gets a value -/
theorem Wd.put {O0 : List Addr} {H : Hp} {O : List Addr} {σ : L2.St} {ρ : Rho} (w : Wd K O0 H O σ ρ) {i : Nat} {v : V} {d : D} (hi : i < ρ.length) (p : Dq K (hide H O) v d) : Step K O0 σ ρ H O (σ.set i (some v)) (ρ.set i (.sh d)) H O := by
  have own : ∀ {j : Nat} {b : Bool} {ds : List D} {a : Addr}, (ρ.set i (.sh d))[j]? = some (.ow b ds) → (σ.set i (some v))[j]? = some (some (.ref a)) → ρ[j]? = some (.ow b ds) ∧ σ[j]? = some (some (.ref a)) := fun {j b ds a} h1 h2 => by
    by_cases z : i = j
    · subst z
      rw [List.getElem?_set_self hi] at h1
      cases h1
    · rw [List.getElem?_set_ne z] at h1 h2
      exact ⟨h1, h2⟩
  refine ⟨fun _ _ e _ => e, fun _ z => .inl z, fun _ _ _ => rfl, fun a ⟨j, b, ds, h1, h2⟩ => .inl ⟨j, b, ds, own h1 h2⟩, ⟨by simp [w.len], w.base, w.lists, fun j s e => ?_, fun j k a b c ds es h1 h2 h3 h4 => w.inj j k a b c ds es (own h1 h3).1 (own h2 h4).1 (own h1 h3).2 (own h2 h4).2⟩⟩
  by_cases z : i = j
  · subst z
    rw [List.getElem?_set_self hi] at e
    cases e
    rw [List.getElem?_set_self (by rw [w.len]; exact hi)]
    exact ⟨v, rfl, p⟩
  · rw [List.getElem?_set_ne z] at e ⊢
    exact w.slot j s e
theorem eg_name {i : Nat} : Eg K (gName i) (gtName i) := fun O0 H O σ ρ v d ρ' w p e Q q => by
  unfold gtName at e
  split at e
  · rename_i hi
    cases e
    exact q _ (w.put hi p)
  · cases e
theorem egs_nil : Egs K gNil gtNil := fun O0 H O σ ρ vs ds ρ' w p e Q q => by
  cases p with
  | nil =>
    cases e
    exact ⟨rfl, q σ (.rfl w)⟩
  | cons h t => cases e
theorem egs_cons (h : Eg K tg gf) (hs : Egs K tgs gsf) : Egs K (gCons tg tgs) (gtCons gf gsf) := fun O0 H O σ ρ vs ds ρ' w p e Q q => by
  cases p with
  | nil => cases e
  | cons p1 p2 =>
    obtain ⟨ρ1, e1, e2⟩ := Option.bind_eq_some_iff.mp e
    refine ⟨_, _, rfl, h O0 H O σ ρ _ _ ρ1 w p1 e1 _ fun σ1 s => ?_⟩
    exact hs O0 H O σ1 ρ1 _ _ ρ' s.wd p2 e2 _ fun σ2 s2 => q σ2 (s.trans s2 w)
theorem eg_tup {n : Nat} (hs : Egs K tgs gsf) : Eg K (gTup K n tgs) (gtTup n gsf) := fun O0 H O σ ρ v d ρ' w p e Q q => by
  cases p with
  | tup h t =>
    unfold gtTup at e
    simp only at e
    split at e
    · rename_i hl
      exact ⟨_, _, rfl, SqT.le h hide_le, by rw [t.len]; exact hl, hs O0 H O σ ρ _ _ ρ' w t e Q q⟩
    · cases e
  | non => cases e
  | bl b => cases e
  | int i => cases e
  | str x => cases e
  | lst h t => cases e
theorem es_for {wi : TI} {fi : Den (List D)} (hi : Ei K wi fi) (hg : Eg K tg gf) (ht : Es K t f) : Es K (L2.tFor wi tg t) (sFor fi gf f) := fun O0 H O σ ρ fl w e D hn hr => by
  obtain ⟨⟨ds, ρ1⟩, e1, e⟩ := Option.bind_eq_some_iff.mp e
  refine hi O0 H O σ ρ ds ρ1 w e1 _ fun H1 O1 J s src => ?_
  refine ⟨fun i m σ2 H2 => ∃ O2 ρ2, Step K O0 σ ρ H O σ2 ρ2 H2 O2 ∧ Le (hide H1 O1) (hide H2 O2) ∧ i ≤ ds.length ∧ forL gf f (ds.drop i) ρ2 = some fl ∧ m = ds.length - i, ⟨ds.length, O1, ρ1, s, .rfl, Nat.zero_le _, by simpa using e, by omega⟩, ?_⟩
  rintro i m σ2 H2 ⟨O2, ρ2, s2, l2, hi, e2, rfl⟩
  have sr := src i H2 O2 s2.wd.lists l2
  by_cases hl : i < ds.length
  · right
    obtain ⟨d, hd⟩ : ∃ d, ds[i]? = some d := ⟨ds[i], by simp [hl]⟩
    obtain ⟨go, yl⟩ := sr.1 d hd
    have dr : ds.drop i = d :: ds.drop (i + 1) := by
      rw [List.drop_eq_getElem_cons hl]
      simp [List.getElem?_eq_getElem hl] at hd
      rw [hd]
    rw [dr] at e2
    unfold forL at e2
    obtain ⟨ρ3, e3, e4⟩ := Option.bind_eq_some_iff.mp e2
    refine ⟨go, fun σ' H' => ∃ O' ρ', Step K O0 σ ρ H O σ' ρ' H' O' ∧ Le (hide H1 O1) (hide H' O') ∧ forL gf f (ds.drop (i + 1)) ρ' = some fl, ?_, fun x H3 y => ?_⟩
    · rintro σ' H' ⟨O', ρ', a1, a2, a3⟩
      exact ⟨ds.length - (i + 1), by omega, O', ρ', a1, a2, hl, a3, rfl⟩
    · obtain ⟨l3, p3⟩ := yl x H3 y
      have s3 := s2.trans (s2.wd.more l3) w
      refine hg O0 H3 O2 σ2 ρ2 x d ρ3 s3.wd p3 e3 _ fun σ4 s4 => ?_
      have s34 := s3.trans s4 w
      cases q : f ρ3 with
      | none => rw [q] at e4; cases e4
      | some r =>
        rw [q] at e4
        refine ht O0 H3 O2 σ4 ρ3 r s4.wd q _ (fun ρ5 q5 H5 O5 σ5 s5 => ?_) fun d5 ρ5 q5 H5 O5 σ5 v5 s5 p5 => ?_
        · subst q5
          exact ⟨O5, ρ5, s34.trans s5 w, (l2.trans (Le.hide l3)).trans s5.le, e4⟩
        · subst q5
          cases e4
          exact hr d5 ρ5 rfl H5 O5 σ5 v5 (s34.trans s5 w) p5
  · left
    refine ⟨sr.2 (by omega), ?_⟩
    rw [List.drop_eq_nil_of_le (by omega)] at e2
    cases e2
    exact hn ρ2 rfl H2 O2 σ2 s2
theorem es_while (hc : Et K tt ft) (ht : Es K t f) : Es K (L2.tWhile tt t) (sWhile ft f) := fun O0 H O σ ρ fl w e D hn hr => by
  obtain ⟨n, e⟩ := sWhile_some e
  refine ⟨fun m σ2 H2 => ∃ O2 ρ2, Step K O0 σ ρ H O σ2 ρ2 H2 O2 ∧ wl ft f m ρ2 = some fl, ⟨n, O, ρ, .rfl w, e⟩, ?_⟩
  rintro m σ2 H2 ⟨O2, ρ2, s2, e2⟩
  cases m with
  | zero => cases e2
  | succ m =>
    unfold wl at e2
    obtain ⟨⟨b, ρ3⟩, e3, e2⟩ := Option.bind_eq_some_iff.mp e2
    refine hc O0 H2 O2 σ2 ρ2 b ρ3 s2.wd e3 _ fun H3 O3 s3 => ?_
    have s23 := s2.trans s3 w
    cases b with
    | false =>
      refine iteF ?_
      simp at e2
      cases e2
      exact hn ρ3 rfl H3 O3 σ2 s23
    | true =>
      refine iteT ?_
      simp only [if_true] at e2
      refine ⟨fun σ' H' => ∃ O' ρ', Step K O0 σ ρ H O σ' ρ' H' O' ∧ wl ft f m ρ' = some fl, fun σ' H' ⟨O', ρ', a1, a2⟩ => ⟨m, by omega, O', ρ', a1, a2⟩, ?_⟩
      cases q : f ρ3 with
      | none => rw [q] at e2; cases e2
      | some r =>
        rw [q] at e2
        refine ht O0 H3 O3 σ2 ρ3 r s3.wd q _ (fun ρ5 q5 H5 O5 σ5 s5 => ?_) fun d5 ρ5 q5 H5 O5 σ5 v5 s5 p5 => ?_
        · subst q5
          exact ⟨O5, ρ5, s23.trans s5 w, e2⟩
        · subst q5
          cases e2
          exact hr d5 ρ5 rfl H5 O5 σ5 v5 (s23.trans s5 w) p5
end
end Ly

set_option Elab.async false
set_option linter.all false
set_option maxRecDepth 100000
set_option maxHeartbeats 1000000
namespace Ly
open PySem PySem.Spec PyProof.Rows L2
/-! ### what loops walk -/
def asList : D → Option (List D)
  | .list ds => some ds
  | _ => none
def asTup : D → Option (List D)
  | .tuple ds => some ds
  | _ => none
def rngD (lo : Int) (n : Nat) : List D := (List.range n).map fun k => .int (lo + (k : Nat))
def rng1 : List D → Option (List D)
  | [.int j] => if -(2 ^ 62) ≤ j ∧ j < 2 ^ 62 then some (rngD 0 j.toNat) else none
  | _ => none
def rng2 : List D → Option (List D)
  | [.int i, .int j] => if -(2 ^ 62) ≤ i ∧ i < 2 ^ 62 ∧ -(2 ^ 62) ≤ j ∧ j < 2 ^ 62 then some (rngD i (j - i).toNat) else none
  | _ => none
/-- downwards, one by one -/
def rngDown : List D → Option (List D)
  | [.int i, .int j, .int c] => if c = -1 ∧ -(2 ^ 62) ≤ i ∧ i < 2 ^ 62 ∧ -(2 ^ 62) ≤ j ∧ j < 2 ^ 62 then some ((List.range (i - j).toNat).map fun k => .int (i - (k : Nat))) else none
  | _ => none
def zipD : List D → Option (List D)
  | [.list xs, .list ys] => some ((xs.zip ys).map fun p => .tuple [p.1, p.2])
  | _ => none
def enumFrom (i : Nat) : List D → List D
  | [] => []
  | x :: xs => .tuple [.int (i : Nat), x] :: enumFrom (i + 1) xs
def enumD : List D → Option (List D)
  | [.list xs] => some (enumFrom 0 xs)
  | _ => none
theorem enumFrom_get : ∀ {xs : List D} {k i : Nat} {d : D}, (enumFrom k xs)[i]? = some d → ∃ x, xs[i]? = some x ∧ d = .tuple [.int ((k + i : Nat) : Int), x]
  | [], k, i, d, e => by simp [enumFrom] at e
  | x :: xs, k, 0, d, e => by
    simp [enumFrom] at e
    exact ⟨x, rfl, by rw [← e]; simp⟩
  | x :: xs, k, i + 1, d, e => by
    obtain ⟨y, h1, h2⟩ := enumFrom_get (xs := xs) (k := k + 1) (i := i) (by simpa [enumFrom] using e)
    exact ⟨y, by simpa using h1, by rw [h2]; congr 4; omega⟩
theorem enumFrom_length : ∀ {xs : List D} {k : Nat}, (enumFrom k xs).length = xs.length
  | [], _ => rfl
  | _ :: xs, k => by simp [enumFrom, enumFrom_length (xs := xs) (k := k + 1)]
section
variable {K : PySem.W.Frag} {te : TE} {ts : TA} {fe : Den D} {fs : Den (List D)}
theorem hid_at {B H : Hp} {O : List Addr} {a : Addr} {o : HO} (l : Le B (hide H O)) (h : B a = some o) : H a = some o := (hide_some (l a o h)).2
theorem ei_list (ha : Ev K te fe) : Ei K (iList K te) (dThen fe asList) := fun O0 H O σ ρ ds ρ' w e R q => by
  obtain ⟨x, e1, e2⟩ := dThen_some e
  refine ha O0 H O σ ρ x ρ' w e1 _ fun H1 O1 v s p => ?_
  cases p with
  | lst h t =>
    rename_i a vs es
    cases e2
    refine ⟨a, rfl, ⟨vs, .inl (.inl (hide_le _ _ h))⟩, q H1 O1 _ s fun i H2 O2 l2 le => ⟨fun d hd => ?_, fun hl => ?_⟩⟩
    · obtain ⟨v, hv, pv⟩ := t.get hd
      have sq : SqL K H2 a vs := .inl (.inl (hid_at le h))
      refine ⟨⟨vs, v, sq, hv⟩, fun x H' y => ?_⟩
      obtain ⟨rfl, y⟩ := y
      have z := y vs sq
      rw [hv] at z
      cases z
      exact ⟨.rfl, Dq.le le pv⟩
    · exact ⟨vs, .inl (.inl (hid_at le h)), by rw [t.len]; exact hl⟩
  | non => cases e2
  | bl b => cases e2
  | int i => cases e2
  | str x => cases e2
  | tup h t => cases e2
theorem ei_tup (ha : Ev K te fe) : Ei K (iTup K te) (dThen fe asTup) := fun O0 H O σ ρ ds ρ' w e R q => by
  obtain ⟨x, e1, e2⟩ := dThen_some e
  refine ha O0 H O σ ρ x ρ' w e1 _ fun H1 O1 v s p => ?_
  cases p with
  | tup h t =>
    rename_i a vs es
    cases e2
    refine ⟨a, rfl, ⟨vs, SqT.le h hide_le⟩, q H1 O1 _ s fun i H2 O2 l2 le => ⟨fun d hd => ?_, fun hl => ?_⟩⟩
    · obtain ⟨v, hv, pv⟩ := t.get hd
      have sq : SqT K H2 a vs := SqT.le (SqT.le h le) hide_le
      refine ⟨⟨vs, v, sq, hv⟩, fun x H' y => ?_⟩
      obtain ⟨rfl, y⟩ := y
      have z := y vs sq
      rw [hv] at z
      cases z
      exact ⟨.rfl, Dq.le le pv⟩
    · exact ⟨vs, SqT.le (SqT.le h le) hide_le, by rw [t.len]; exact hl⟩
  | non => cases e2
  | bl b => cases e2
  | int i => cases e2
  | str x => cases e2
  | lst h t => cases e2
theorem src_rng {B : Hp} {lo : Int} {n : Nat} : SrcAt K (Itr lo n) B (rngD lo n) := fun i H O l le => ⟨fun d hd => by
  have hi : i < n := by
    have z := (List.getElem?_eq_some_iff.mp hd).1
    simpa [rngD] using z
  have e : d = .int (lo + (i : Nat)) := by
    simp [rngD, hi] at hd
    exact hd.symm
  refine ⟨hi, fun x H' y => ?_⟩
  obtain ⟨rfl, rfl⟩ := y
  rw [e]
  exact ⟨.rfl, .int _⟩, fun hl => by
  have z : (rngD lo n).length = n := by simp [rngD]
  rw [z] at hl
  exact hl⟩
theorem ei_rng1 (ha : Ea K ts fs) : Ei K (iRng1 ts) (dThen fs rng1) := fun O0 H O σ ρ ds ρ' w e R q => by
  obtain ⟨x, e1, e2⟩ := dThen_some e
  refine ha O0 H O σ ρ x ρ' w e1 _ fun H1 O1 v s p => ?_
  unfold rng1 at e2
  split at e2
  · rename_i j
    split at e2
    · rename_i hj
      cases e2
      cases p with
      | cons p1 p2 =>
        cases p1
        cases p2
        exact ⟨j, rfl, hj.1, hj.2, q H1 O1 _ s src_rng⟩
    · cases e2
  · cases e2
theorem ei_rng2 (ha : Ea K ts fs) : Ei K (iRng2 ts) (dThen fs rng2) := fun O0 H O σ ρ ds ρ' w e R q => by
  obtain ⟨x, e1, e2⟩ := dThen_some e
  refine ha O0 H O σ ρ x ρ' w e1 _ fun H1 O1 v s p => ?_
  unfold rng2 at e2
  split at e2
  · rename_i i j
    split at e2
    · rename_i hj
      cases e2
      cases p with
      | cons p1 p2 =>
        cases p1
        cases p2 with
        | cons p3 p4 =>
          cases p3
          cases p4
          exact ⟨i, j, rfl, hj, q H1 O1 _ s src_rng⟩
    · cases e2
  · cases e2
theorem ei_rngDown (ha : Ea K ts fs) : Ei K (iRng3 ts) (dThen fs rngDown) := fun O0 H O σ ρ ds ρ' w e R q => by
  obtain ⟨x, e1, e2⟩ := dThen_some e
  refine ha O0 H O σ ρ x ρ' w e1 _ fun H1 O1 v s p => ?_
  unfold rngDown at e2
  split at e2
  · rename_i i j c
    split at e2
    · rename_i hj
      cases e2
      obtain ⟨rfl, h1, h2, h3, h4⟩ := hj
      cases p with
      | cons p1 p2 =>
        cases p1
        cases p2 with
        | cons p3 p4 =>
          cases p3
          cases p4 with
          | cons p5 p6 =>
            cases p5
            cases p6
            refine ⟨i, j, -1, _, rfl, RgC.neg h1 h2 h3 h4, q H1 O1 _ s fun k H2 O2 l2 le => ⟨fun d hd => ?_, fun hl => ?_⟩⟩
            · have hk : k < (i - j).toNat := by
                have z := (List.getElem?_eq_some_iff.mp hd).1
                simpa using z
              have e : d = .int (i - (k : Nat)) := by
                rw [List.getElem?_map, List.getElem?_range hk] at hd
                simpa using hd.symm
              refine ⟨hk, fun x H' y => ?_⟩
              obtain ⟨rfl, rfl⟩ := y
              rw [e, show i + (k : Nat) * (-1 : Int) = i - (k : Nat) by omega]
              exact ⟨.rfl, .int _⟩
            · have z : ((List.range (i - j).toNat).map fun k => PyData.int (i - (k : Nat))).length = (i - j).toNat := by simp
              rw [z] at hl
              exact hl
    · cases e2
  · cases e2
theorem ei_zip (ha : Ea K ts fs) : Ei K (iZip K ts) (dThen fs zipD) := fun O0 H O σ ρ ds ρ' w e R q => by
  obtain ⟨x, e1, e2⟩ := dThen_some e
  refine ha O0 H O σ ρ x ρ' w e1 _ fun H1 O1 v s p => ?_
  unfold zipD at e2
  split at e2
  · rename_i xs ys
    cases e2
    cases p with
    | cons p1 p2 =>
      cases p2 with
      | cons p3 p4 =>
        cases p4
        cases p1 with
        | lst h1 t1 =>
          cases p3 with
          | lst h3 t3 =>
            rename_i a vs b ws
            refine ⟨a, b, vs, ws, rfl, .inl (.inl (hide_le _ _ h1)), .inl (.inl (hide_le _ _ h3)), q H1 O1 _ s fun i H2 O2 l2 le => ⟨fun d hd => ?_, fun hl => ?_⟩⟩
            · rw [List.getElem?_map] at hd
              obtain ⟨⟨m, n⟩, hz, e⟩ := Option.map_eq_some_iff.mp hd
              obtain ⟨hx, hy⟩ := List.getElem?_zip_eq_some.mp hz
              obtain ⟨v1, g1, r1⟩ := t1.get hx
              obtain ⟨v3, g3, r3⟩ := t3.get hy
              have sa : SqL K H2 a vs := .inl (.inl (hid_at le h1))
              have sb : SqL K H2 b ws := .inl (.inl (hid_at le h3))
              refine ⟨⟨vs, ws, v1, v3, sa, sb, g1, g3⟩, fun x H' y => ?_⟩
              obtain ⟨T, m1, n1, rfl, hT, rfl, y1, y2⟩ := y
              have z1 := y1 vs sa
              have z2 := y2 ws sb
              rw [g1] at z1
              rw [g3] at z2
              cases z1
              cases z2
              subst e
              refine ⟨.new hT, .tup (.inl (.inl (by rw [hide_out (l2.out hT)]; exact if_pos rfl))) (.cons ?_ (.cons ?_ .nil))⟩
              · exact Dq.le (Le.hide (.new hT)) (Dq.le le r1)
              · exact Dq.le (Le.hide (.new hT)) (Dq.le le r3)
            · refine ⟨vs, ws, .inl (.inl (hid_at le h1)), .inl (.inl (hid_at le h3)), ?_⟩
              rw [t1.len, t3.len]
              simp at hl
              omega
  · cases e2
theorem ei_enum (ha : Ea K ts fs) : Ei K (iEnum K ts) (dThen fs enumD) := fun O0 H O σ ρ ds ρ' w e R q => by
  obtain ⟨x, e1, e2⟩ := dThen_some e
  refine ha O0 H O σ ρ x ρ' w e1 _ fun H1 O1 v s p => ?_
  unfold enumD at e2
  split at e2
  · rename_i xs
    cases e2
    cases p with
    | cons p1 p2 =>
      cases p2
      cases p1 with
      | lst h1 t1 =>
        rename_i a vs
        refine ⟨a, vs, rfl, .inl (.inl (hide_le _ _ h1)), q H1 O1 _ s fun i H2 O2 l2 le => ⟨fun d hd => ?_, fun hl => ?_⟩⟩
        · obtain ⟨x, hx, rfl⟩ := enumFrom_get hd
          obtain ⟨v1, g1, r1⟩ := t1.get hx
          have sa : SqL K H2 a vs := .inl (.inl (hid_at le h1))
          refine ⟨⟨vs, v1, sa, g1⟩, fun x H' y => ?_⟩
          obtain ⟨T, m1, rfl, hT, rfl, y1⟩ := y
          have z1 := y1 vs sa
          rw [g1] at z1
          cases z1
          rw [Nat.zero_add]
          refine ⟨.new hT, .tup (.inl (.inl (by rw [hide_out (l2.out hT)]; exact if_pos rfl))) (.cons (.int _) (.cons ?_ .nil))⟩
          exact Dq.le (Le.hide (.new hT)) (Dq.le le r1)
        · exact ⟨vs, .inl (.inl (hid_at le h1)), by rw [t1.len]; rw [enumFrom_length] at hl; exact hl⟩
  · cases e2
end
end Ly

set_option Elab.async false
set_option linter.all false
set_option maxRecDepth 100000
set_option maxHeartbeats 1000000
namespace Ly
open PySem PySem.Spec PyProof.Rows L2
/-! ### comprehensions -/
def unset (ρ : Rho) : List Nat → Rho
  | [] => ρ
  | v :: vs => (unset ρ vs).set v .un
def back (ρ0 ρ : Rho) : List Nat → Rho
  | [] => ρ
  | v :: vs => (back ρ0 ρ vs).set v (ρ0[v]?.getD .un)
def noOw (ρ : Rho) (vs : List Nat) : Bool := vs.all fun v => match ρ[v]? with
  | some (.ow _ _) => false
  | _ => true
def compL (vs : List Nat) (g : D → Rho → Option Rho) (ft : Den Bool) (fe : Den D) : List D → Rho → Option (List D × Rho)
  | [], ρ => some ([], ρ)
  | x :: xs, ρ => (g x (unset ρ vs)).bind fun ρ1 => (ft ρ1).bind fun b => if b.1 = true then (fe b.2).bind fun y => (compL vs g ft fe xs y.2).map fun r => (y.1 :: r.1, r.2) else compL vs g ft fe xs b.2
def dComp (fi : Den (List D)) (vs : List Nat) (g : D → Rho → Option Rho) (ft : Den Bool) (fe : Den D) : Den D := fun ρ => (fi ρ).bind fun x =>
  if noOw x.2 vs = true then (compL vs g ft fe x.1 x.2).bind fun r => (few r.1).map fun ds => (.list ds, back x.2 r.2 vs) else none
theorem unset_length {ρ : Rho} : ∀ {vs : List Nat}, (unset ρ vs).length = ρ.length
  | [] => rfl
  | v :: vs => by unfold unset; rw [List.length_set]; exact unset_length
theorem back_length {ρ0 ρ : Rho} : ∀ {vs : List Nat}, (back ρ0 ρ vs).length = ρ.length
  | [] => rfl
  | v :: vs => by unfold back; rw [List.length_set]; exact back_length
theorem unset_get {ρ : Rho} {i : Nat} : ∀ {vs : List Nat}, (unset ρ vs)[i]? = if i ∈ vs then (if i < ρ.length then some .un else none) else ρ[i]?
  | [] => by simp [unset]
  | v :: vs => by
    unfold unset
    rw [List.getElem?_set, unset_length, unset_get (vs := vs)]
    by_cases e : v = i
    · subst e
      simp
    · have e' : ¬ i = v := fun z => e z.symm
      simp [e, e']
theorem back_get {ρ0 ρ : Rho} {i : Nat} (hl : ρ0.length = ρ.length) : ∀ {vs : List Nat}, (back ρ0 ρ vs)[i]? = if i ∈ vs then ρ0[i]? else ρ[i]?
  | [] => by simp [back]
  | v :: vs => by
    unfold back
    rw [List.getElem?_set, back_length, back_get hl (vs := vs)]
    by_cases e : v = i
    · subst e
      by_cases z : v < ρ.length
      · simp [z, hl]
      · simp [z, hl]
    · have e' : ¬ i = v := fun z => e z.symm
      simp [e, e']
theorem wipe_get {σ : L2.St} {i : Nat} : ∀ {vs : List Nat}, (wipe σ vs)[i]? = if i ∈ vs then (if i < σ.length then some none else none) else σ[i]?
  | [] => by simp [wipe]
  | v :: vs => by
    unfold wipe
    rw [List.getElem?_set, wipe_length, wipe_get (vs := vs)]
    by_cases e : v = i
    · subst e
      simp
    · have e' : ¬ i = v := fun z => e z.symm
      simp [e, e']
theorem wipe_set {σ : L2.St} {i : Nat} {x : Option V} {vs : List Nat} (h : i ∈ vs) : wipe (σ.set i x) vs = wipe σ vs := by
  apply List.ext_getElem?
  intro j
  rw [wipe_get, wipe_get]
  by_cases hj : j ∈ vs
  · simp [hj]
  · have e : i ≠ j := fun z => hj (z ▸ h)
    simp [hj, List.getElem?_set_ne e]
theorem wipe_wipe {σ : L2.St} {vs : List Nat} : wipe (wipe σ vs) vs = wipe σ vs := by
  apply List.ext_getElem?
  intro j
  rw [wipe_get, wipe_length]
  by_cases hj : j ∈ vs
  · rw [wipe_get]
    simp [hj]
  · simp [hj]
section
variable (K : PySem.W.Frag)
/-- a comprehension's own target -/
def Egv (vs : List Nat) (g : TG) (f : D → Rho → Option Rho) : Prop := ∀ (O0 : List Addr) (H : Hp) (O : List Addr) (σ : L2.St) (ρ : Rho) (v : V) (d : D) (ρ' : Rho), Wd K O0 H O σ ρ → Dq K (hide H O) v d → f d ρ = some ρ' →
  ∀ Q : L2.St → Hp → Prop, (∀ σ', wipe σ' vs = wipe σ vs → Step K O0 σ ρ H O σ' ρ' H O → Q σ' H) → g v σ H Q
def Egsv (vs : List Nat) (g : TGs) (f : List D → Rho → Option Rho) : Prop := ∀ (O0 : List Addr) (H : Hp) (O : List Addr) (σ : L2.St) (ρ : Rho) (xs : List V) (ds : List D) (ρ' : Rho), Wd K O0 H O σ ρ → DqAll K (hide H O) xs ds → f ds ρ = some ρ' →
  ∀ Q : L2.St → Hp → Prop, (∀ σ', wipe σ' vs = wipe σ vs → Step K O0 σ ρ H O σ' ρ' H O → Q σ' H) → g xs σ H Q
end
section
variable {K : PySem.W.Frag} {vs : List Nat} {tg : TG} {gf : D → Rho → Option Rho} {tgs : TGs} {gsf : List D → Rho → Option Rho} {te : TE} {tt : TT} {fe : Den D} {ft : Den Bool}
theorem egv_name {i : Nat} (h : i ∈ vs) : Egv K vs (gName i) (gtName i) := fun O0 H O σ ρ v d ρ' w p e Q q => by
  unfold gtName at e
  split at e
  · rename_i hi
    cases e
    exact q _ (wipe_set h) (w.put hi p)
  · cases e
theorem egsv_nil : Egsv K vs gNil gtNil := fun O0 H O σ ρ xs ds ρ' w p e Q q => by
  cases p with
  | nil =>
    cases e
    exact ⟨rfl, q σ rfl (.rfl w)⟩
  | cons h t => cases e
theorem egsv_cons (h : Egv K vs tg gf) (hs : Egsv K vs tgs gsf) : Egsv K vs (gCons tg tgs) (gtCons gf gsf) := fun O0 H O σ ρ xs ds ρ' w p e Q q => by
  cases p with
  | nil => cases e
  | cons p1 p2 =>
    obtain ⟨ρ1, e1, e2⟩ := Option.bind_eq_some_iff.mp e
    refine ⟨_, _, rfl, h O0 H O σ ρ _ _ ρ1 w p1 e1 _ fun σ1 u1 s => ?_⟩
    exact hs O0 H O σ1 ρ1 _ _ ρ' s.wd p2 e2 _ fun σ2 u2 s2 => q σ2 (u2.trans u1) (s.trans s2 w)
theorem egv_tup {n : Nat} (hs : Egsv K vs tgs gsf) : Egv K vs (gTup K n tgs) (gtTup n gsf) := fun O0 H O σ ρ v d ρ' w p e Q q => by
  cases p with
  | tup h t =>
    unfold gtTup at e
    simp only at e
    split at e
    · rename_i hl
      exact ⟨_, _, rfl, SqT.le h hide_le, by rw [t.len]; exact hl, hs O0 H O σ ρ _ _ ρ' w t e Q q⟩
    · cases e
  | non => cases e
  | bl b => cases e
  | int i => cases e
  | str x => cases e
  | lst h t => cases e
theorem et_yes : Et K tYes (dC true) := fun O0 H O σ ρ b ρ' w e Q q => by cases e; exact q H O (.rfl w)
theorem Wd.forget {O0 : List Addr} {H : Hp} {O : List Addr} {σ : L2.St} {ρ : Rho} (w : Wd K O0 H O σ ρ) : Step K O0 σ ρ H O (wipe σ vs) (unset ρ vs) H O := by
  have own : ∀ {j : Nat} {b : Bool} {ds : List D} {a : Addr}, (unset ρ vs)[j]? = some (.ow b ds) → (wipe σ vs)[j]? = some (some (.ref a)) → ρ[j]? = some (.ow b ds) ∧ σ[j]? = some (some (.ref a)) := fun {j b ds a} h1 h2 => by
    rw [unset_get] at h1
    rw [wipe_get] at h2
    by_cases z : j ∈ vs
    · rw [if_pos z] at h1
      split at h1 <;> cases h1
    · rw [if_neg z] at h1 h2
      exact ⟨h1, h2⟩
  refine ⟨fun _ _ e _ => e, fun _ z => .inl z, fun _ _ _ => rfl, fun a ⟨j, b, ds, h1, h2⟩ => .inl ⟨j, b, ds, own h1 h2⟩, ⟨by rw [wipe_length, unset_length]; exact w.len, w.base, w.lists, fun j s e => ?_, fun j k a b c ds es h1 h2 h3 h4 => w.inj j k a b c ds es (own h1 h3).1 (own h2 h4).1 (own h1 h3).2 (own h2 h4).2⟩⟩
  rw [unset_get] at e
  rw [wipe_get]
  by_cases z : j ∈ vs
  · rw [if_pos z] at e
    split at e
    · cases e
      trivial
    · cases e
  · rw [if_neg z] at e ⊢
    exact w.slot j s e
/-- the steps of a comprehension, its list aside -/
structure Stp (σ : L2.St) (ρ : Rho) (H : Hp) (O : List Addr) (σ' : L2.St) (ρ' : Rho) (H' : Hp) (O' : List Addr) : Prop where
  keep : ∀ b o, H b = some o → b ∉ O → H' b = some o
  grow : ∀ b ∈ O', b ∈ O ∨ H b = none
  far : ∀ b ∈ O, ¬ Own σ ρ b → H' b = H b
  same : ∀ a, Own σ' ρ' a → Own σ ρ a ∨ H a = none
section
variable {O0 : List Addr} {σ σ1 σ2 σ' : L2.St} {ρ ρ1 ρ2 ρ' : Rho} {H H1 H2 H' : Hp} {O O1 O2 O' : List Addr}
theorem Step.stp (s : Step K O0 σ ρ H O σ' ρ' H' O') : Stp σ ρ H O σ' ρ' H' O' := ⟨s.keep, s.grow, s.far, s.same⟩
theorem Stp.le (s : Stp σ ρ H O σ' ρ' H' O') : Le (hide H O) (hide H' O') := fun b o e => by
  obtain ⟨n, h⟩ := hide_some e
  rw [hide_out fun z => (s.grow b z).elim n fun y => by rw [h] at y; cases y]
  exact s.keep b o h n
theorem Stp.trans (s : Stp σ ρ H O σ1 ρ1 H1 O1) (t : Stp σ1 ρ1 H1 O1 σ2 ρ2 H2 O2) (w : ListsAt H O) : Stp σ ρ H O σ2 ρ2 H2 O2 where
  keep := fun b o e n => t.keep b o (s.keep b o e n) fun z => (s.grow b z).elim n fun y => by rw [e] at y; cases y
  grow := fun b z => by
    rcases t.grow b z with y | y
    · exact s.grow b y
    · by_cases hb : b ∈ O
      · exact .inl hb
      · right
        cases e : H b with
        | none => rfl
        | some o =>
          rw [s.keep b o e hb] at y
          cases y
  far := fun b hb n => by
    have e1 := s.far b hb n
    obtain ⟨xs, e⟩ := w b hb
    have n1 : ¬ Own σ1 ρ1 b := fun z => (s.same b z).elim n fun y => by rw [e] at y; cases y
    by_cases h1 : b ∈ O1
    · rw [t.far b h1 n1, e1]
    · rw [e] at e1
      rw [t.keep b _ e1 h1, e]
  same := fun a z => by
    rcases t.same a z with y | y
    · exact s.same a y
    · by_cases n : Own σ ρ a
      · exact .inl n
      right
      cases e : H a with
      | none => rfl
      | some o =>
        by_cases ha : a ∈ O
        · rw [s.far a ha n, e] at y
          cases y
        · rw [s.keep a o e ha] at y
          cases y
/-- a hidden list of no slot's own changes -/
theorem Wd.poke (w : Wd K O0 H O σ ρ) {A : Addr} {xs : List V} (hA : A ∈ O) (n : ¬ Own σ ρ A) : Wd K O0 (upd H A (.lst xs)) O σ ρ ∧ hide (upd H A (.lst xs)) O = hide H O := by
  have hh : hide (upd H A (.lst xs)) O = hide H O := by
    funext b
    by_cases z : b ∈ O
    · rw [hide_in z, hide_in z]
    · rw [hide_out z, hide_out z, upd_ne fun e : b = A => z (by rw [e]; exact hA)]
  refine ⟨⟨w.len, w.base, fun a ha => ?_, fun i s e => ?_, w.inj⟩, hh⟩
  · by_cases z : a = A
    · subst z
      exact ⟨xs, if_pos rfl⟩
    · rw [upd_ne z]
      exact w.lists a ha
  · have q := w.slot i s e
    cases s with
    | un => trivial
    | sh d =>
      obtain ⟨v, h1, h2⟩ := q
      exact ⟨v, h1, by rw [hh]; exact h2⟩
    | ow b ds =>
      obtain ⟨a, vs, h1, h2, h3, h4, h5⟩ := q
      refine ⟨a, vs, h1, h2, ?_, by rw [hh]; exact h4, h5⟩
      rw [upd_ne fun z : a = A => n (z ▸ ⟨i, b, ds, e, h1⟩)]
      exact h3
end
theorem ev_lc {wi : TI} {fi : Den (List D)} (hi : Ei K wi fi) (hg : Egv K vs tg gf) (ht : Et K tt ft) (he : Ev K te fe) : Ev K (tLc wi tg tt te vs) (dComp fi vs gf ft fe) := fun O0 H O σ ρ d ρ' w e Q q => by
  obtain ⟨⟨ds, ρ1⟩, e1, e⟩ := Option.bind_eq_some_iff.mp e
  simp only at e
  split at e
  case isFalse => cases e
  rename_i hno
  obtain ⟨⟨all, ρe⟩, e2, e⟩ := Option.bind_eq_some_iff.mp e
  obtain ⟨all', e3, e⟩ := Option.map_eq_some_iff.mp e
  cases e
  obtain ⟨rfl, hz⟩ := few_some e3
  simp only at hz e3 e2 hno q
  refine hi O0 H O σ ρ ds ρ1 w e1 _ fun H1 O1 J s src => ?_
  intro A hA
  have nA1 : A ∉ O1 := s.wd.lists.out hA
  have w1 := s.wd
  -- the beginning
  have l0 : Le H1 (upd H1 A (.lst [])) := .new hA
  have wA : Wd K (A :: O0) (upd H1 A (.lst [])) (A :: O1) (wipe σ vs) (unset ρ1 vs) := by
    have w2 := ((w1.more l0).wd.forget (vs := vs)).wd
    have hh : Le (hide (upd H1 A (.lst [])) O1) (upd H1 A (.lst [])) := hide_le
    have nd : Le (hide H1 O1) (hide (upd H1 A (.lst [])) (A :: O1)) := fun b o eb => by
      obtain ⟨n, hb⟩ := hide_some eb
      have bA : b ≠ A := ne_of_none hb hA
      rw [hide_out (by simp [bA, n]), upd_ne bA]
      exact hb
    refine ⟨w2.len, fun a ha => ?_, fun a ha => ?_, fun i sl ei => ?_, w2.inj⟩
    · rcases List.mem_cons.mp ha with z | z
      · exact z ▸ List.mem_cons_self
      · exact List.mem_cons_of_mem _ (w1.base a z)
    · rcases List.mem_cons.mp ha with z | z
      · exact ⟨[], by rw [z]; exact if_pos rfl⟩
      · obtain ⟨xs, ex⟩ := w1.lists a z
        exact ⟨xs, l0 a _ ex⟩
    · have q0 := (w1.forget (vs := vs)).wd.slot i sl ei
      cases sl with
      | un => trivial
      | sh d =>
        obtain ⟨v, h1, h2⟩ := q0
        exact ⟨v, h1, Dq.le nd h2⟩
      | ow b es =>
        obtain ⟨a, xs, h1, h2, h3, h4, h5⟩ := q0
        refine ⟨a, xs, h1, List.mem_cons_of_mem _ h2, l0 a _ h3, DqAll.le nd h4, h5.trans ⟨List.mem_cons_of_mem _, fun y => ?_⟩⟩
        rcases List.mem_cons.mp y with y | y
        · exact absurd (by rw [← y]; exact h2) nA1
        · exact y
  have st0 : Stp σ ρ1 H1 O1 (wipe σ vs) (unset ρ1 vs) (upd H1 A (.lst [])) (A :: O1) := by
    refine ⟨fun b o eb _ => l0 b o eb, fun b hb => ?_, fun b hb _ => ?_, (w1.forget (vs := vs)).same⟩
    · rcases List.mem_cons.mp hb with z | z
      · exact .inr (z ▸ hA)
      · exact .inl z
    · rw [upd_ne fun z : b = A => nA1 (by rw [← z]; exact hb)]
  have n0 : ¬ Own (wipe σ vs) (unset ρ1 vs) A := fun z => ((w1.forget (vs := vs)).same A z).elim (fun y => nA1 (w1.own y)) fun y => nA1 ((w1.forget (vs := vs)).wd.own z)
  refine ⟨fun i m H2 => ∃ O2 ρ2 acc es rest, Wd K (A :: O0) H2 O2 (wipe σ vs) (unset ρ2 vs) ∧ Stp σ ρ1 H1 O1 (wipe σ vs) (unset ρ2 vs) H2 O2 ∧ ¬ Own (wipe σ vs) (unset ρ2 vs) A ∧ ρ2.length = ρ1.length ∧
      H2 A = some (.lst acc) ∧ DqAll K (hide H2 O2) acc es ∧ compL vs gf ft fe (ds.drop i) ρ2 = some (rest, ρe) ∧ es ++ rest = all' ∧ i ≤ ds.length ∧ m = ds.length - i,
    ⟨ds.length, A :: O1, ρ1, [], [], all', wA, st0, n0, rfl, if_pos rfl, .nil, by simpa using e2, rfl, Nat.zero_le _, rfl⟩, ?_⟩
  rintro i m H2 ⟨O2, ρ2, acc, es, rest, w2, s2, n2, len2, hA2, pa, ec, ea, hil, rfl⟩
  have sr := src i H2 O2 w2.lists s2.le
  by_cases hl : i < ds.length
  · right
    obtain ⟨d, hd⟩ : ∃ d, ds[i]? = some d := ⟨ds[i], by simp [hl]⟩
    obtain ⟨go, yl⟩ := sr.1 d hd
    have dr : ds.drop i = d :: ds.drop (i + 1) := by
      rw [List.drop_eq_getElem_cons hl]
      simp [List.getElem?_eq_getElem hl] at hd
      rw [hd]
    rw [dr] at ec
    unfold compL at ec
    obtain ⟨ρ3, e3, e4⟩ := Option.bind_eq_some_iff.mp ec
    obtain ⟨⟨b, ρ4⟩, e4, e5⟩ := Option.bind_eq_some_iff.mp e4
    simp only at e5
    refine ⟨go, fun H' => ∃ O2 ρ2 acc es rest, Wd K (A :: O0) H' O2 (wipe σ vs) (unset ρ2 vs) ∧ Stp σ ρ1 H1 O1 (wipe σ vs) (unset ρ2 vs) H' O2 ∧ ¬ Own (wipe σ vs) (unset ρ2 vs) A ∧ ρ2.length = ρ1.length ∧
      H' A = some (.lst acc) ∧ DqAll K (hide H' O2) acc es ∧ compL vs gf ft fe (ds.drop (i + 1)) ρ2 = some (rest, ρe) ∧ es ++ rest = all', ?_, fun x H3 y => ?_⟩
    · rintro H' ⟨O', ρ', acc', es', rest', a1, a2, a3, a4, a5, a6, a7, a8⟩
      exact ⟨ds.length - (i + 1), by omega, O', ρ', acc', es', rest', a1, a2, a3, a4, a5, a6, a7, a8, hl, rfl⟩
    obtain ⟨l3, p3⟩ := yl x H3 y
    have s3 := w2.more l3
    have t3 : Stp σ ρ1 H1 O1 (wipe σ vs) (unset ρ2 vs) H3 O2 := s2.trans s3.stp w1.lists
    have A3 : H3 A = some (.lst acc) := l3 A _ hA2
    refine hg (A :: O0) H3 O2 (wipe σ vs) (unset ρ2 vs) x d ρ3 s3.wd p3 e3 _ fun σ4 u4 s4 => ?_
    rw [wipe_wipe] at u4
    refine ⟨u4, ?_⟩
    refine ht (A :: O0) H3 O2 σ4 ρ3 b ρ4 s4.wd e4 _ fun H5 O5 s5 => ?_
    have s35 := s4.trans s5 s3.wd
    have noA : ∀ {σx ρx Hx Ox}, Step K (A :: O0) (wipe σ vs) (unset ρ2 vs) H3 O2 σx ρx Hx Ox → ¬ Own σx ρx A := fun sx z => (sx.same A z).elim n2 fun y => by rw [A3] at y; cases y
    have atA : ∀ {σx ρx Hx Ox}, Step K (A :: O0) (wipe σ vs) (unset ρ2 vs) H3 O2 σx ρx Hx Ox → Hx A = some (.lst acc) := fun sx => by
      rw [sx.far A (w2.base A List.mem_cons_self) n2]
      exact A3
    have lenx : ∀ {ρx Hx Ox}, Step K (A :: O0) (wipe σ vs) (unset ρ2 vs) H3 O2 σ4 ρx Hx Ox → ρx.length = ρ1.length := fun sx => by
      have a := sx.wd.len
      have b := s4.wd.len
      have c : σ4.length = (wipe σ4 vs).length := (wipe_length _ _).symm
      rw [u4, wipe_length, w1.len] at c
      rw [← a, c]
    cases b with
    | false =>
      refine iteF ?_
      have e5 : compL vs gf ft fe (ds.drop (i + 1)) ρ4 = some (rest, ρe) := by simpa using e5
      have f := s35.wd.forget (vs := vs)
      rw [u4] at f
      have s36 := s35.trans f s3.wd
      refine ⟨O5, ρ4, acc, es, rest, s36.wd, t3.trans s36.stp w1.lists, noA s36, lenx s35, atA s35, DqAll.le s36.le (DqAll.le (Le.hide l3) pa), e5, ea⟩
    | true =>
      refine iteT ?_
      have e5 : ((fe ρ4).bind fun y => (compL vs gf ft fe (ds.drop (i + 1)) y.2).map fun r => (y.1 :: r.1, r.2)) = some (rest, ρe) := by simpa using e5
      obtain ⟨⟨dy, ρ6⟩, e6, e7⟩ := Option.bind_eq_some_iff.mp e5
      obtain ⟨⟨rest', ρe'⟩, e9, e8⟩ := Option.map_eq_some_iff.mp e7
      cases e8
      refine he (A :: O0) H5 O5 σ4 ρ4 dy ρ6 s5.wd e6 _ fun H6 O6 v6 s6 p6 => ?_
      have s36 := s35.trans s6 s3.wd
      have f := s36.wd.forget (vs := vs)
      rw [u4] at f
      have s37 := s36.trans f s3.wd
      have pk := s37.wd.poke (xs := acc ++ [v6]) (s37.wd.base A List.mem_cons_self) (noA s37)
      have hlen : acc.length = es.length := pa.len
      refine ⟨acc, atA s36, ?_, O6, ρ6, acc ++ [v6], es ++ [dy], rest', pk.1, ?_, noA s37, lenx s36, if_pos rfl, ?_, e9, ?_⟩
      · have : (es ++ dy :: rest').length ≤ sizeLine := by rw [ea]; exact hz
        simp at this
        omega
      · have t7 := t3.trans s37.stp w1.lists
        refine ⟨fun b o eb nb => ?_, t7.grow, fun b hb n => ?_, t7.same⟩
        · rw [upd_ne (ne_of_none eb hA)]
          exact t7.keep b o eb nb
        · rw [upd_ne fun z : b = A => nA1 (by rw [← z]; exact hb)]
          exact t7.far b hb n
      · rw [pk.2]
        refine DqAll.app (DqAll.le s37.le (DqAll.le (Le.hide l3) pa)) (.cons ?_ .nil)
        exact p6
      · rw [← ea]
        simp
  · left
    refine ⟨sr.2 (by omega), ?_⟩
    rw [List.drop_eq_nil_of_le (by omega)] at ec
    cases ec
    have hes : es = all' := by rw [← ea]; simp
    subst hes
    let O' := O2.filter fun b => decide (b ≠ A)
    have mem : ∀ b, b ∈ O' ↔ b ∈ O2 ∧ b ≠ A := fun b => by simp [O']
    have up : Le (hide H2 O2) (hide H2 O') := fun b o eb => by
      obtain ⟨n, hb⟩ := hide_some eb
      rw [hide_out fun z => n ((mem b).mp z).1]
      exact hb
    have lenr : ρ1.length = ρe.length := len2.symm
    have ownB : ∀ {j : Nat} {b : Bool} {xs : List D} {a : Addr}, (back ρ1 ρe vs)[j]? = some (.ow b xs) → σ[j]? = some (some (.ref a)) → (unset ρe vs)[j]? = some (.ow b xs) ∧ (wipe σ vs)[j]? = some (some (.ref a)) := fun {j b xs a} h1 h2 => by
      rw [back_get lenr] at h1
      rw [unset_get, wipe_get]
      by_cases z : j ∈ vs
      · rw [if_pos z] at h1
        have z1 := List.all_eq_true.mp hno j z
        rw [h1] at z1
        cases z1
      · rw [if_neg z] at h1 ⊢
        rw [if_neg z]
        exact ⟨h1, h2⟩
    have nA0 : A ∉ O0 := fun z => nA1 (w1.base A z)
    have wB : Wd K O0 H2 O' σ (back ρ1 ρe vs) := by
      refine ⟨by rw [back_length, ← lenr]; exact w1.len, fun a ha => (mem a).mpr ⟨w2.base a (List.mem_cons_of_mem _ ha), fun z => nA0 (z ▸ ha)⟩, fun a ha => w2.lists a ((mem a).mp ha).1, fun j sl ej => ?_,
        fun j k a b c xs ys h1 h2 h3 h4 => w2.inj j k a b c xs ys (ownB h1 h3).1 (ownB h2 h4).1 (ownB h1 h3).2 (ownB h2 h4).2⟩
      rw [back_get lenr] at ej
      by_cases z : j ∈ vs
      · rw [if_pos z] at ej
        have q0 := w1.slot j sl ej
        cases sl with
        | un => trivial
        | sh d =>
          obtain ⟨v, h1, h2⟩ := q0
          exact ⟨v, h1, Dq.le up (Dq.le s2.le h2)⟩
        | ow b xs =>
          have z1 := List.all_eq_true.mp hno j z
          rw [ej] at z1
          cases z1
      · rw [if_neg z] at ej
        have q0 := w2.slot j sl (by rw [unset_get, if_neg z]; exact ej)
        rw [wipe_get, if_neg z] at q0
        cases sl with
        | un => trivial
        | sh d =>
          obtain ⟨v, h1, h2⟩ := q0
          exact ⟨v, h1, Dq.le up h2⟩
        | ow b xs =>
          obtain ⟨a, vs', h1, h2, h3, h4, h5⟩ := q0
          have nA : a ≠ A := fun y => n2 (by
            subst y
            exact ⟨j, b, xs, by rw [unset_get, if_neg z]; exact ej, by rw [wipe_get, if_neg z]; exact h1⟩)
          refine ⟨a, vs', h1, (mem a).mpr ⟨h2, nA⟩, h3, DqAll.le up h4, h5.trans ⟨fun y => ?_, List.mem_cons_of_mem _⟩⟩
          rcases List.mem_cons.mp y with y | y
          · exact absurd y nA
          · exact y
    have sB : Step K O0 σ ρ1 H1 O1 σ (back ρ1 ρe vs) H2 O' := by
      refine ⟨s2.keep, fun b hb => s2.grow b ((mem b).mp hb).1, s2.far, fun a ⟨j, b, xs, h1, h2⟩ => s2.same a ⟨j, b, xs, ownB h1 h2⟩, wB⟩
    refine q H2 O' (.ref A) (s.trans sB w) (.lst ?_ (DqAll.le up pa))
    rw [hide_out fun z => ((mem A).mp z).2 rfl]
    exact hA2
end
end Ly

set_option Elab.async false
set_option linter.all false
set_option maxRecDepth 100000
set_option maxHeartbeats 1000000
namespace Ly
open PySem PySem.Spec PyProof.Rows L2
/-! ### what the operators make of data -/
def gI (g : Int → Int → D) : D → D → Option D
  | .int i, .int j => some (g i j)
  | _, _ => none
def gIc (c : Int → Int → Bool) (g : Int → Int → D) : D → D → Option D
  | .int i, .int j => if c i j = true then some (g i j) else none
  | _, _ => none
def gU (g : Int → D) : D → Option D
  | .int i => some (g i)
  | _ => none
def gAdd : D → D → Option D
  | .int i, .int j => some (.int (i + j))
  | .list xs, .list ys => (few (xs ++ ys)).map .list
  | _, _ => none
def cMul (i j : Int) : Bool := decide ((-(2 ^ 64) < i ∧ i < 2 ^ 64) ∨ (-(2 ^ 64) < j ∧ j < 2 ^ 64))
theorem cMul_ok {i j : Int} (h : cMul i j = true) : CMul i j := of_decide_eq_true (p := (-(2 ^ 64) < i ∧ i < 2 ^ 64) ∨ (-(2 ^ 64) < j ∧ j < 2 ^ 64)) h
def gMul : D → D → Option D
  | .int i, .int j => if cMul i j = true then some (.int (i * j)) else none
  | .list xs, .int k => if 0 ≤ k ∧ k < 1000000 then (few (List.replicate k.toNat xs).flatten).map .list else none
  | _, _ => none
def gEq : D → D → Option Bool
  | .int i, .int j => some (decide (i = j))
  | .none, .none => some true
  | .none, .int _ => some false
  | .int _, .none => some false
  | .bool a, .bool b => some (decide (a = b))
  | .str a, .str b => some (decide (a = b))
  | .list xs, .list ys => if SeqAt.shaped (.list xs) = true ∧ SeqAt.shaped (.list ys) = true then some (PyData.eqv (.list xs) (.list ys)) else none
  | _, _ => none
def gIx : D → D → Option D
  | .list xs, .int i => atI xs i
  | .tuple xs, .int i => atI xs i
  | _, _ => none
def cutD (xs : List D) (lo hi : Option Int) : List D := (xs.drop (HT.sIx xs.length 0 lo)).take (HT.sIx xs.length xs.length hi - HT.sIx xs.length 0 lo)
def gSl : D → Option Int → Option Int → Option D
  | .list xs, lo, hi => some (.list (cutD xs lo hi))
  | _, _, _ => none
def gIs : D → D → Option D
  | d, .none => some (.bool (match d with | .none => true | _ => false))
  | _, _ => none
def gIsnt : D → D → Option D
  | d, .none => some (.bool (match d with | .none => false | _ => true))
  | _, _ => none
def boolsOf : List D → Option (List Bool)
  | [] => some []
  | .bool i :: ds => (boolsOf ds).map fun t => i :: t
  | _ :: _ => none
def gLen : List D → Option D
  | [.list xs] => some (.int xs.length)
  | [.tuple xs] => some (.int xs.length)
  | _ => none
def gListOf : List D → Option D
  | [.list xs] => some (.list xs)
  | [.tuple xs] => some (.list xs)
  | _ => none
def gAll : List D → Option D
  | [.list xs] => (boolsOf xs).map fun bs => .bool (bs.all id)
  | _ => none
def gAny : List D → Option D
  | [.list xs] => (boolsOf xs).map fun bs => .bool (bs.any id)
  | _ => none
def leastOf : List Int → Int
  | [] => 0
  | [x] => x
  | x :: xs => min x (leastOf xs)
def mostOf : List Int → Int
  | [] => 0
  | [x] => x
  | x :: xs => max x (mostOf xs)
def gMin : List D → Option D
  | [.list xs] => (intsOf xs).bind fun ns => if ns = [] then none else some (.int (leastOf ns))
  | _ => none
def gMax : List D → Option D
  | [.list xs] => (intsOf xs).bind fun ns => if ns = [] then none else some (.int (mostOf ns))
  | _ => none
def gSum : List D → Option D
  | [.list xs] => (intsOf xs).map fun ns => .int ns.sum
  | _ => none
def gMin2 : List D → Option D
  | [.int i, .int j] => some (.int (if j < i then j else i))
  | _ => none
def gMax2 : List D → Option D
  | [.int i, .int j] => some (.int (if j > i then j else i))
  | _ => none
def gInt : List D → Option D
  | [.int i] => some (.int i)
  | [.bool k] => some (.int (if k then 1 else 0))
  | _ => none
def gAbs : List D → Option D
  | [.int i] => some (.int (if i < 0 then -i else i))
  | _ => none
def gGcd : List D → Option D
  | [.int i, .int j] => some (.int ((Nat.gcd i.natAbs j.natAbs : Nat) : Int))
  | _ => none
def gRepr : List D → Option D
  | [d] => if d.showable = true ∧ d.depth ≤ 100 ∧ d.shown.length ≤ 10000000 then some (.str d.shown) else none
  | _ => none
theorem leastOf_ok : ∀ {ns : List Int}, ns ≠ [] → leastOf ns ∈ ns ∧ ∀ y ∈ ns, leastOf ns ≤ y
  | [], h => absurd rfl h
  | [x], _ => by simp [leastOf]
  | x :: y :: ns, _ => by
    obtain ⟨h1, h2⟩ := leastOf_ok (ns := y :: ns) (by simp)
    unfold leastOf
    refine ⟨?_, fun z hz => ?_⟩
    · rcases Int.le_total x (leastOf (y :: ns)) with q | q
      · rw [Int.min_eq_left q]; exact List.mem_cons_self
      · rw [Int.min_eq_right q]; exact List.mem_cons_of_mem _ h1
    · rcases List.mem_cons.mp hz with rfl | q
      · exact Int.min_le_left _ _
      · exact Int.le_trans (Int.min_le_right _ _) (h2 z q)
theorem mostOf_ok : ∀ {ns : List Int}, ns ≠ [] → mostOf ns ∈ ns ∧ ∀ y ∈ ns, y ≤ mostOf ns
  | [], h => absurd rfl h
  | [x], _ => by simp [mostOf]
  | x :: y :: ns, _ => by
    obtain ⟨h1, h2⟩ := mostOf_ok (ns := y :: ns) (by simp)
    unfold mostOf
    refine ⟨?_, fun z hz => ?_⟩
    · rcases Int.le_total x (mostOf (y :: ns)) with q | q
      · rw [Int.max_eq_right q]; exact List.mem_cons_of_mem _ h1
      · rw [Int.max_eq_left q]; exact List.mem_cons_self
    · rcases List.mem_cons.mp hz with rfl | q
      · exact Int.le_max_left _ _
      · exact Int.le_trans (h2 z q) (Int.le_max_right _ _)
section
variable {K : PySem.W.Frag}
theorem DqAll.asBools {H : Hp} : ∀ {vs : List V} {ds : List D} {ns : List Bool}, DqAll K H vs ds → boolsOf ds = some ns → vs = ns.map V.bl
  | _, _, _, .nil, e => by
    unfold boolsOf at e
    cases e
    rfl
  | _, _, _, .cons (d := .bool i) h t, e => by
    unfold boolsOf at e
    obtain ⟨ms, e1, e2⟩ := Option.map_eq_some_iff.mp e
    subst e2
    cases h
    rw [DqAll.asBools t e1]
    rfl
  | _, _, _, .cons (d := .none) h t, e => by unfold boolsOf at e; cases e
  | _, _, _, .cons (d := .int _) h t, e => by unfold boolsOf at e; cases e
  | _, _, _, .cons (d := .str _) h t, e => by unfold boolsOf at e; cases e
  | _, _, _, .cons (d := .list _) h t, e => by unfold boolsOf at e; cases e
  | _, _, _, .cons (d := .tuple _) h t, e => by unfold boolsOf at e; cases e
theorem op2_I0 {g : Int → Int → V} {gd : Int → Int → D} (h : ∀ i j H, Dq K H (g i j) (gd i j)) : Op2 K (rI0 g) (gI gd) := fun H O x y d e z l p q e1 Q k => by
  unfold gI at e1
  split at e1
  · cases e1
    cases p
    cases q
    exact ⟨_, _, rfl, rfl, k.same (h _ _ _)⟩
  · cases e1
theorem op2_Ic {C : Int → Int → Prop} {c : Int → Int → Bool} {g : Int → Int → V} {gd : Int → Int → D} (hc : ∀ i j, c i j = true → C i j) (h : ∀ i j H, Dq K H (g i j) (gd i j)) : Op2 K (rI C g) (gIc c gd) := fun H O x y d e z l p q e1 Q k => by
  unfold gIc at e1
  split at e1
  · split at e1
    · rename_i hh
      cases e1
      cases p
      cases q
      exact ⟨_, _, rfl, rfl, hc _ _ hh, k.same (h _ _ _)⟩
    · cases e1
  · cases e1
theorem op1_U {g : Int → V} {gd : Int → D} (h : ∀ i H, Dq K H (g i) (gd i)) : Op1 K (rU g) (gU gd) := fun H O x d z l p e1 Q k => by
  unfold gU at e1
  split at e1
  · cases e1
    cases p
    exact ⟨_, rfl, k.same (h _ _)⟩
  · cases e1
theorem o_sub : Op2 K (rI0 fun i j => .int (i - j)) (gI fun i j => .int (i - j)) := op2_I0 fun _ _ _ => .int _
theorem o_lt : Op2 K (rI0 fun i j => .bl (decide (i < j))) (gI fun i j => .bool (decide (i < j))) := op2_I0 fun _ _ _ => .bl _
theorem o_le : Op2 K (rI0 fun i j => .bl (decide (i ≤ j))) (gI fun i j => .bool (decide (i ≤ j))) := op2_I0 fun _ _ _ => .bl _
theorem o_gt : Op2 K (rI0 fun i j => .bl (decide (j < i))) (gI fun i j => .bool (decide (j < i))) := op2_I0 fun _ _ _ => .bl _
theorem o_ge : Op2 K (rI0 fun i j => .bl (decide (j ≤ i))) (gI fun i j => .bool (decide (j ≤ i))) := op2_I0 fun _ _ _ => .bl _
theorem o_mod : Op2 K (rI (fun _ j => 0 < j) fun i j => .int (i % j)) (gIc (fun _ j => decide (0 < j)) fun i j => .int (i % j)) := op2_Ic (fun _ _ h => of_decide_eq_true h) fun _ _ _ => .int _
def cDiv (_ j : Int) : Bool := decide (0 < j ∧ j.natAbs.log2 < 9000)
theorem o_fdiv : Op2 K (rI CDivW fun i j => .int (i / j)) (gIc cDiv fun i j => .int (i / j)) := op2_Ic (fun _ j h => of_decide_eq_true (p := 0 < j ∧ j.natAbs.log2 < 9000) h) fun _ _ _ => .int _
def cPow (i j : Int) : Bool := decide (0 ≤ j ∧ (i.natAbs.log2 + 1 : Nat) * j ≤ (134217728 : Int))
theorem o_pow : Op2 K (rI PowC fun i j => .int (i ^ j.toNat)) (gIc cPow fun i j => .int (i ^ j.toNat)) := op2_Ic (fun i j h => of_decide_eq_true (p := 0 ≤ j ∧ (i.natAbs.log2 + 1 : Nat) * j ≤ (134217728 : Int)) h) fun _ _ _ => .int _
theorem o_neg : Op1 K (rU fun i => .int (-i)) (gU fun i => .int (-i)) := op1_U fun _ _ => .int _
theorem o_add : Op2 K rAddU gAdd := fun H O x y d e z l p q e1 Q k => by
  unfold gAdd at e1
  split at e1
  · cases e1
    cases p
    cases q
    exact .inl ⟨_, _, rfl, rfl, k.same (.int _)⟩
  · obtain ⟨ws, e2, rfl⟩ := Option.map_eq_some_iff.mp e1
    obtain ⟨rfl, hz⟩ := few_some e2
    cases p with
    | lst h1 t1 =>
      cases q with
      | lst h2 t2 =>
        refine .inr ⟨_, _, _, _, rfl, rfl, hide_le _ _ h1, hide_le _ _ h2, ?_, k.lst l (t1.app t2)⟩
        rw [t1.len, t2.len, ← List.length_append]
        exact hz
  · cases e1
theorem rep_all {H : Hp} {vs : List V} {ds : List D} (h : DqAll K H vs ds) : ∀ n : Nat, DqAll K H (List.replicate n vs).flatten (List.replicate n ds).flatten
  | 0 => .nil
  | n + 1 => by
    rw [List.replicate_succ, List.replicate_succ, List.flatten_cons, List.flatten_cons]
    exact h.app (rep_all h n)
theorem o_mul : Op2 K rMulU gMul := fun H O x y d e z l p q e1 Q k => by
  unfold gMul at e1
  split at e1
  · split at e1
    · rename_i hh
      cases e1
      cases p
      cases q
      exact .inl ⟨_, _, rfl, rfl, cMul_ok hh, k.same (.int _)⟩
    · cases e1
  · rename_i xs kk
    split at e1
    · rename_i hk
      obtain ⟨ws, e2, rfl⟩ := Option.map_eq_some_iff.mp e1
      obtain ⟨rfl, hz⟩ := few_some e2
      cases p with
      | lst h1 t1 =>
        cases q
        refine .inr ⟨_, _, _, rfl, rfl, hide_le _ _ h1, by omega, by omega, ?_, k.lst l (rep_all t1 _)⟩
        have e3 : (List.replicate kk.toNat xs).flatten.length = kk.toNat * xs.length := by simp
        rw [t1.len, Nat.mul_comm, ← e3]
        exact hz
    · cases e1
  · cases e1
theorem eqB {x y : V} {b : Bool} (h : decide (x = y) = b) {H : Hp} {O : List Addr} {Q : VK} (k : Rt K H O (.bool b) Q) : Q (.bl (decide (x = y))) H := by
  rw [h]
  exact k.same (.bl _)
theorem o_eq : Op2 K (rEqU K) (fun x y => (gEq x y).map .bool) := fun H O x y d e z l p q e1 Q k => by
  obtain ⟨b, e2, rfl⟩ := Option.map_eq_some_iff.mp e1
  unfold gEq at e2
  split at e2
  · cases e2; cases p; cases q
    exact .inl ⟨rfl, eqB (by simp) k⟩
  · cases e2; cases p; cases q
    exact .inl ⟨rfl, eqB (by simp) k⟩
  · cases e2; cases p; cases q
    exact .inl ⟨rfl, eqB (by simp) k⟩
  · cases e2; cases p; cases q
    exact .inl ⟨rfl, eqB (by simp) k⟩
  · cases e2; cases p; cases q
    exact .inl ⟨rfl, eqB (by simp) k⟩
  · cases e2; cases p; cases q
    exact .inl ⟨rfl, eqB (by simp) k⟩
  · split at e2
    · rename_i hh
      cases e2
      exact .inr ⟨_, _, (Dq.le hide_le p).dp, (Dq.le hide_le q).dp, hh.1, hh.2, k.same (.bl _)⟩
    · cases e2
  · cases e2
theorem o_ne : Op2 K (rNeU K) (fun x y => (gEq x y).map fun b => .bool (!b)) := fun H O x y d e z l p q e1 Q k => by
  obtain ⟨b, e2, rfl⟩ := Option.map_eq_some_iff.mp e1
  have fin : ∀ {x y : V}, decide (x = y) = b → Q (.bl (!decide (x = y))) H := fun h => by
    rw [h]
    exact k.same (.bl _)
  unfold gEq at e2
  split at e2
  · cases e2; cases p; cases q
    exact .inl ⟨rfl, fin (by simp)⟩
  · cases e2; cases p; cases q
    exact .inl ⟨rfl, fin (by simp)⟩
  · cases e2; cases p; cases q
    exact .inl ⟨rfl, fin (by simp)⟩
  · cases e2; cases p; cases q
    exact .inl ⟨rfl, fin (by simp)⟩
  · cases e2; cases p; cases q
    exact .inl ⟨rfl, fin (by simp)⟩
  · cases e2; cases p; cases q
    exact .inl ⟨rfl, fin (by simp)⟩
  · split at e2
    · rename_i hh
      cases e2
      exact .inr ⟨_, _, (Dq.le hide_le p).dp, (Dq.le hide_le q).dp, hh.1, hh.2, k.same (.bl _)⟩
    · cases e2
  · cases e2
theorem at_all {H : Hp} {vs : List V} {ds : List D} {i : Int} {d : D} (h : DqAll K H vs ds) (e : atI ds i = some d) : ∃ v, atI vs i = some v ∧ Dq K H v d := by
  unfold atI at e ⊢
  rw [h.len]
  obtain ⟨j, e1, e2⟩ := Option.bind_eq_some_iff.mp e
  obtain ⟨v, h1, h2⟩ := h.get e2
  exact ⟨v, by rw [e1]; exact h1, h2⟩
theorem o_ix : Op2 K (rIxU K) gIx := fun H O x y d e z l p q e1 Q k => by
  unfold gIx at e1
  split at e1
  · cases p with
    | lst h1 t1 =>
      cases q
      obtain ⟨v, a1, a2⟩ := at_all t1 e1
      exact .inl ⟨_, _, _, v, rfl, rfl, .inl (.inl (hide_le _ _ h1)), a1, k.same a2⟩
  · cases p with
    | tup h1 t1 =>
      cases q
      obtain ⟨v, a1, a2⟩ := at_all t1 e1
      exact .inr ⟨_, _, _, v, rfl, rfl, SqT.le h1 hide_le, a1, k.same a2⟩
  · cases e1
theorem o_sl : OpS K (rSlU K) gSl := fun H O x lo hi d z l p e1 Q k => by
  unfold gSl at e1
  split at e1
  · cases e1
    cases p with
    | lst h1 t1 =>
      refine .inl ⟨_, _, rfl, .inl (.inl (hide_le _ _ h1)), k.lst l ?_⟩
      unfold cutV cutD
      rw [t1.len]
      exact (t1.drop _).take _
  · cases e1
theorem o_is : Op2 K (fun x y H Q => y = .non ∧ Q (.bl (decide (x = .non))) H) gIs := fun H O x y d e z l p q e1 Q k => by
  unfold gIs at e1
  split at e1
  · cases e1
    cases q
    refine ⟨rfl, k.same ?_⟩
    cases p <;> exact .bl _
  · cases e1
theorem o_isnt : Op2 K (fun x y H Q => y = .non ∧ Q (.bl (!decide (x = .non))) H) gIsnt := fun H O x y d e z l p q e1 Q k => by
  unfold gIsnt at e1
  split at e1
  · cases e1
    cases q
    refine ⟨rfl, k.same ?_⟩
    cases p <;> exact .bl _
  · cases e1
theorem one_list {H : Hp} {vs : List V} {xs : List D} (p : DqAll K H vs [.list xs]) : ∃ a ys, vs = [.ref a] ∧ H a = some (.lst ys) ∧ DqAll K H ys xs := by
  cases p with
  | cons p1 p2 =>
    cases p2
    cases p1 with
    | lst h t => exact ⟨_, _, rfl, h, t⟩
theorem one_tup {H : Hp} {vs : List V} {xs : List D} (p : DqAll K H vs [.tuple xs]) : ∃ a ys, vs = [.ref a] ∧ SqT K H a ys ∧ DqAll K H ys xs := by
  cases p with
  | cons p1 p2 =>
    cases p2
    cases p1 with
    | tup h t => exact ⟨_, _, rfl, h, t⟩
theorem one_int {H : Hp} {vs : List V} {i : Int} (p : DqAll K H vs [.int i]) : vs = [.int i] := by
  cases p with
  | cons p1 p2 => cases p2; cases p1; rfl
theorem two_ints {H : Hp} {vs : List V} {i j : Int} (p : DqAll K H vs [.int i, .int j]) : vs = [.int i, .int j] := by
  cases p with
  | cons p1 p2 => cases p2 with
    | cons p3 p4 => cases p4; cases p3; cases p1; rfl
theorem c_len : OpN K (rLenU K) gLen := fun H O vs ds z l p e1 Q k => by
  unfold gLen at e1
  split at e1
  · cases e1
    obtain ⟨a, ys, rfl, h, t⟩ := one_list p
    refine ⟨a, ys, rfl, .inl (.inl (.inl (hide_le _ _ h))), ?_⟩
    rw [t.len]
    exact k.same (.int _)
  · cases e1
    obtain ⟨a, ys, rfl, h, t⟩ := one_tup p
    refine ⟨a, ys, rfl, .inr (SqT.le h hide_le), ?_⟩
    rw [t.len]
    exact k.same (.int _)
  · cases e1
theorem c_listOf : OpN K (rListOf K) gListOf := fun H O vs ds z l p e1 Q k => by
  unfold gListOf at e1
  split at e1
  · cases e1
    obtain ⟨a, ys, rfl, h, t⟩ := one_list p
    exact ⟨a, ys, rfl, .inl (.inl (.inl (hide_le _ _ h))), k.lst l t⟩
  · cases e1
    obtain ⟨a, ys, rfl, h, t⟩ := one_tup p
    exact ⟨a, ys, rfl, .inr (SqT.le h hide_le), k.lst l t⟩
  · cases e1
theorem c_all : OpN K (rAll K) gAll := fun H O vs ds z l p e1 Q k => by
  unfold gAll at e1
  split at e1
  · obtain ⟨bs, e2, rfl⟩ := Option.map_eq_some_iff.mp e1
    obtain ⟨a, ys, rfl, h, t⟩ := one_list p
    obtain rfl := t.asBools e2
    exact ⟨a, bs, rfl, .inl (.inl (hide_le _ _ h)), k.same (.bl _)⟩
  · cases e1
theorem c_any : OpN K (rAny K) gAny := fun H O vs ds z l p e1 Q k => by
  unfold gAny at e1
  split at e1
  · obtain ⟨bs, e2, rfl⟩ := Option.map_eq_some_iff.mp e1
    obtain ⟨a, ys, rfl, h, t⟩ := one_list p
    obtain rfl := t.asBools e2
    exact ⟨a, bs, rfl, .inl (.inl (hide_le _ _ h)), k.same (.bl _)⟩
  · cases e1
theorem c_sum : OpN K (rSum K) gSum := fun H O vs ds z l p e1 Q k => by
  unfold gSum at e1
  split at e1
  · obtain ⟨bs, e2, rfl⟩ := Option.map_eq_some_iff.mp e1
    obtain ⟨a, ys, rfl, h, t⟩ := one_list p
    obtain rfl := t.asInts e2
    exact ⟨a, bs, rfl, .inl (.inl (hide_le _ _ h)), k.same (.int _)⟩
  · cases e1
theorem c_min : OpN K (rMin K) gMin := fun H O vs ds z l p e1 Q k => by
  unfold gMin at e1
  split at e1
  · obtain ⟨ns, e2, e3⟩ := Option.bind_eq_some_iff.mp e1
    split at e3
    · cases e3
    · rename_i hn
      cases e3
      obtain ⟨a, ys, rfl, h, t⟩ := one_list p
      obtain rfl := t.asInts e2
      obtain ⟨m1, m2⟩ := leastOf_ok hn
      refine ⟨a, ns, rfl, .inl (.inl (hide_le _ _ h)), List.length_pos_iff.mpr hn, fun m q1 q2 => ?_⟩
      have : m = leastOf ns := Int.le_antisymm (q2 _ m1) (m2 _ q1)
      rw [this]
      exact k.same (.int _)
  · cases e1
theorem c_max : OpN K (rMax K) gMax := fun H O vs ds z l p e1 Q k => by
  unfold gMax at e1
  split at e1
  · obtain ⟨ns, e2, e3⟩ := Option.bind_eq_some_iff.mp e1
    split at e3
    · cases e3
    · rename_i hn
      cases e3
      obtain ⟨a, ys, rfl, h, t⟩ := one_list p
      obtain rfl := t.asInts e2
      obtain ⟨m1, m2⟩ := mostOf_ok hn
      refine ⟨a, ns, rfl, .inl (.inl (hide_le _ _ h)), List.length_pos_iff.mpr hn, fun m q1 q2 => ?_⟩
      have : m = mostOf ns := Int.le_antisymm (m2 _ q1) (q2 _ m1)
      rw [this]
      exact k.same (.int _)
  · cases e1
theorem c_min2 : OpN K (fun xs H Q => ∃ i j, xs = [.int i, .int j] ∧ Q (.int (if j < i then j else i)) H) gMin2 := fun H O vs ds z l p e1 Q k => by
  unfold gMin2 at e1
  split at e1
  · cases e1
    exact ⟨_, _, two_ints p, k.same (.int _)⟩
  · cases e1
theorem c_max2 : OpN K (fun xs H Q => ∃ i j, xs = [.int i, .int j] ∧ Q (.int (if j > i then j else i)) H) gMax2 := fun H O vs ds z l p e1 Q k => by
  unfold gMax2 at e1
  split at e1
  · cases e1
    exact ⟨_, _, two_ints p, k.same (.int _)⟩
  · cases e1
theorem c_abs : OpN K (fun xs H Q => ∃ i, xs = [.int i] ∧ Q (.int (if i < 0 then -i else i)) H) gAbs := fun H O vs ds z l p e1 Q k => by
  unfold gAbs at e1
  split at e1
  · cases e1
    exact ⟨_, one_int p, k.same (.int _)⟩
  · cases e1
theorem c_int : OpN K (fun xs H Q => (∃ i, xs = [.int i] ∧ Q (.int i) H) ∨ ∃ k, xs = [.bl k] ∧ Q (.int (if k then 1 else 0)) H) gInt := fun H O vs ds z l p e1 Q k => by
  unfold gInt at e1
  split at e1
  · cases e1
    exact .inl ⟨_, one_int p, k.same (.int _)⟩
  · cases e1
    cases p with
    | cons p1 p2 =>
      cases p2
      cases p1
      exact .inr ⟨_, rfl, k.same (.int _)⟩
  · cases e1
theorem c_gcd : OpN K rGcd gGcd := fun H O vs ds z l p e1 Q k => by
  unfold gGcd at e1
  split at e1
  · cases e1
    exact ⟨_, _, two_ints p, k.same (.int _)⟩
  · cases e1
theorem c_repr : OpN K (rRepr K) gRepr := fun H O vs ds z l p e1 Q k => by
  unfold gRepr at e1
  split at e1
  · split at e1
    · rename_i hh
      cases e1
      cases p with
      | cons p1 p2 =>
        cases p2
        exact ⟨_, _, rfl, (Dq.le hide_le p1).dp, hh.1, hh.2.1, by rw [sizeLine_eq]; omega, k.same (.str _)⟩
    · cases e1
  · cases e1
end
end Ly

set_option Elab.async false
set_option linter.all false
set_option maxRecDepth 100000
set_option maxHeartbeats 1000000
namespace Ly
open PySem PySem.Spec PyProof.Rows L2
/-! ### a def's body -/
def rho0 (ds : List D) (m : Nat) : Rho := ds.map .sh ++ List.replicate m .un
def endD : Option Fl → Option D
  | some (.rt d _) => some d
  | some (.nx _) => some .none
  | none => none
/-- what a def makes of the data of its arguments; m: how many slots there are beside -/
def fnD (f : DenS) (m : Nat) : List D → Option D := fun ds => endD (f (rho0 ds m))
def endO : Option Fl → Option (D × List D)
  | some (.rt d ρ) => match (ρ : List Sl)[0]? with
    | some (Sl.ow true xs) => some (d, xs)
    | _ => none
  | some (.nx ρ) => match (ρ : List Sl)[0]? with
    | some (Sl.ow true xs) => some (.none, xs)
    | _ => none
  | none => none
/-- the same of a def whose first argument is a list that it may change -/
def fnO (f : DenS) (m : Nat) : List D → List D → Option (D × List D) := fun xs ds => endO (f (.ow true xs :: rho0 ds m))
theorem rho0_get {ds : List D} {m i : Nat} {s : Sl} (h : (rho0 ds m)[i]? = some s) : (∃ d, ds[i]? = some d ∧ s = .sh d) ∨ s = .un := by
  unfold rho0 at h
  rw [List.getElem?_append] at h
  split at h
  · rw [List.getElem?_map] at h
    obtain ⟨d, h1, h2⟩ := Option.map_eq_some_iff.mp h
    exact .inl ⟨d, h1, h2.symm⟩
  · rw [List.getElem?_replicate] at h
    split at h
    · cases h
      exact .inr rfl
    · cases h
section
variable (K : PySem.W.Frag)
/-- a def that changes its first argument, a list of the caller's own -/
def spO (n : Nat) (g : List D → List D → Option (D × List D)) : Sp := fun vs H Q _ => ∃ O a ws xs ds0 ds z ds', vs = .ref a :: ws ∧ ListsAt H O ∧ a ∈ O ∧ H a = some (.lst xs) ∧ DqAll K (hide H O) xs ds0 ∧ ws.length = n ∧ DqAll K (hide H O) ws ds ∧ g ds0 ds = some (z, ds') ∧
  ∀ H' v xs', (∀ b o, H b = some o → b ≠ a → H' b = some o) → H' a = some (.lst xs') → DqAll K (hide H' O) xs' ds' → Dq K (hide H' O) v z → Q v H'
end
section
variable {K : PySem.W.Frag} {t : TS} {f : DenS} {N : List Str} {n : Nat}
theorem start_get {vs : List V} {i : Nat} : (start N vs)[i]? = if i < vs.length then (vs[i]?).map some else if i < N.length then some none else none := by
  unfold L2.start
  rw [List.getElem?_append]
  split
  · rename_i h
    rw [List.length_map] at h
    rw [if_pos h, List.getElem?_map]
  · rename_i h
    rw [List.length_map] at h
    rw [if_neg h, List.getElem?_replicate, List.length_map]
    by_cases q : i < N.length
    · rw [if_pos q, if_pos (by omega)]
    · rw [if_neg q, if_neg (by omega)]
theorem start_length {vs : List V} (h : vs.length ≤ N.length) : (start N vs).length = N.length := by
  unfold L2.start
  rw [List.length_append, List.length_map, List.length_replicate]
  omega
theorem out_le {H' : Hp} {O O' : List Addr} (h : ∀ a ∈ O, a ∈ O') : Le (hide H' O') (hide H' O) := fun b o e => by
  obtain ⟨m, q⟩ := hide_some e
  rw [hide_out fun z => m (h b z)]
  exact q
theorem bodyD (he : Es K t f) (hN : n ≤ N.length) {vs : List V} {H : Hp} {Q : VK} {E : XK} (h : spD K n (fnD f (N.length - n)) vs H Q E) : t { nx := fun _ H' => Q .non H', rt := Q } (start N vs) H := by
  obtain ⟨O, ds, z, l, hn, p, e, k⟩ := h
  have pl := p.len
  have w : Wd K O H O (start N vs) (rho0 ds (N.length - n)) := by
    refine ⟨?_, fun _ y => y, l, fun i s es => ?_, fun i j a b c xs ys h1 => ?_⟩
    · rw [start_length (by omega)]
      unfold rho0
      rw [List.length_append, List.length_map, List.length_replicate]
      omega
    · rcases rho0_get es with ⟨d, h1, rfl⟩ | rfl
      · obtain ⟨v, g1, g2⟩ := p.get h1
        refine ⟨v, ?_, g2⟩
        rw [start_get, if_pos (List.getElem?_eq_some_iff.mp g1).1, g1]
        rfl
      · trivial
    · rcases rho0_get h1 with ⟨d, _, q⟩ | q <;> cases q
  have none_own : ∀ a, ¬ Own (start N vs) (rho0 ds (N.length - n)) a := fun a ⟨i, b, xs, h1, _⟩ => by
    rcases rho0_get h1 with ⟨d, _, q⟩ | q <;> cases q
  have fin : ∀ {σ' ρ' H' O' v d}, Step K O (start N vs) (rho0 ds (N.length - n)) H O σ' ρ' H' O' → Dq K (hide H' O') v d → d = z → Q v H' := fun {σ' ρ' H' O' v d} s q e => by
    subst e
    refine k H' v (fun b o eb => ?_) (Dq.le (out_le s.wd.base) q)
    by_cases y : b ∈ O
    · rw [s.far b y (none_own b)]
      exact eb
    · exact s.keep b o eb y
  unfold fnD at e
  cases q : f (rho0 ds (N.length - n)) with
  | none => rw [q] at e; cases e
  | some fl =>
    rw [q] at e
    refine he O H O _ _ fl w q _ (fun ρ' e' H' O' σ' s => ?_) fun d ρ' e' H' O' σ' v s pv => ?_
    · subst e'
      cases e
      exact fin s .non rfl
    · subst e'
      cases e
      exact fin s pv rfl
theorem bodyO (he : Es K t f) (hN : n + 1 ≤ N.length) {vs : List V} {H : Hp} {Q : VK} {E : XK} (h : spO K n (fnO f (N.length - (n + 1))) vs H Q E) : t { nx := fun _ H' => Q .non H', rt := Q } (start N vs) H := by
  obtain ⟨O, a, ws, xs, ds0, ds, z, ds', rfl, l, ha, hx, px, hn, p, e, k⟩ := h
  have pl := p.len
  have get : ∀ {i s}, (Sl.ow true ds0 :: rho0 ds (N.length - (n + 1)))[i]? = some s → (i = 0 ∧ s = .ow true ds0) ∨ (∃ j d, i = j + 1 ∧ ds[j]? = some d ∧ s = .sh d) ∨ s = .un := fun {i s} es => by
    cases i with
    | zero =>
      left
      simp at es
      exact ⟨rfl, es.symm⟩
    | succ j =>
      right
      rcases rho0_get (by simpa using es) with ⟨d, h1, h2⟩ | h
      · exact .inl ⟨j, d, rfl, h1, h2⟩
      · exact .inr h
  have w : Wd K O H O (start N (.ref a :: ws)) (.ow true ds0 :: rho0 ds (N.length - (n + 1))) := by
    refine ⟨?_, fun _ y => y, l, fun i s es => ?_, fun i j b c d' xs ys h1 h2 _ _ => ?_⟩
    · rw [start_length (by simp; omega)]
      unfold rho0
      simp
      omega
    · rcases get es with ⟨rfl, rfl⟩ | ⟨j, d, rfl, h1, rfl⟩ | rfl
      · exact ⟨a, xs, by rw [start_get, if_pos (by simp)]; rfl, ha, hx, px, ⟨fun _ => ha, fun _ => rfl⟩⟩
      · obtain ⟨v, g1, g2⟩ := p.get h1
        refine ⟨v, ?_, g2⟩
        have hj := (List.getElem?_eq_some_iff.mp g1).1
        rw [start_get, if_pos (by simp; exact hj), List.getElem?_cons_succ, g1]
        rfl
      · trivial
    · rcases get h1 with ⟨rfl, _⟩ | ⟨_, _, _, _, q⟩ | q
      · rcases get h2 with ⟨rfl, _⟩ | ⟨_, _, _, _, q⟩ | q
        · rfl
        · cases q
        · cases q
      · cases q
      · cases q
  have own_a : ∀ b, Own (start N (.ref a :: ws)) (.ow true ds0 :: rho0 ds (N.length - (n + 1))) b → b = a := fun b ⟨i, c, ys, h1, h2⟩ => by
    rcases get h1 with ⟨rfl, _⟩ | ⟨_, _, _, _, q⟩ | q
    · rw [start_get, if_pos (by simp)] at h2
      simp at h2
      exact h2.symm
    · cases q
    · cases q
  have fin : ∀ {σ' ρ' H' O' v d ys}, Step K O (start N (.ref a :: ws)) (.ow true ds0 :: rho0 ds (N.length - (n + 1))) H O σ' ρ' H' O' → Dq K (hide H' O') v d → ρ'[0]? = some (.ow true ys) → d = z → ys = ds' → Q v H' := fun {σ' ρ' H' O' v d ys} s q h0 e1 e2 => by
    subst e1 e2
    obtain ⟨a', vs', g1, g2, g3, g4, g5⟩ := s.wd.slot 0 _ h0
    have hO := g5.mp rfl
    have ea : a' = a := by
      rcases s.same a' ⟨0, true, ys, h0, g1⟩ with y | y
      · exact own_a a' y
      · obtain ⟨us, ex⟩ := l a' hO
        rw [y] at ex
        cases ex
    subst ea
    have up := out_le (H' := H') s.wd.base
    refine k H' v vs' (fun b o eb nb => ?_) g3 (DqAll.le up g4) (Dq.le up q)
    by_cases y : b ∈ O
    · rw [s.far b y fun y => nb (own_a b y)]
      exact eb
    · exact s.keep b o eb y
  unfold fnO at e
  cases q : f (.ow true ds0 :: rho0 ds (N.length - (n + 1))) with
  | none => rw [q] at e; cases e
  | some fl =>
    rw [q] at e
    refine he O H O _ _ fl w q _ (fun ρ' e' H' O' σ' s => ?_) fun d ρ' e' H' O' σ' v s pv => ?_
    · subst e'
      unfold endO at e
      split at e
      · rename_i h0
        cases h0
      · rename_i h0
        cases h0
        split at e
        · rename_i h0
          cases e
          exact fin s .non h0 rfl rfl
        · cases e
      · cases e
    · subst e'
      unfold endO at e
      split at e
      · rename_i h0
        cases h0
        split at e
        · rename_i h0
          cases e
          exact fin s pv h0 rfl rfl
        · cases e
      · rename_i h0
        cases h0
      · cases e
end
/-! a def by the function of its body -/
section
variable {P : Program} {w : World} {K : PySem.W.Frag} {mg : Str → Option Value} {base : Heap}
theorem gD {x qual : Str} {st : Stmt} {fa : Addr} {fd : FuncData} {N ps : List Str} {k : Nat} {t : TS} {f : DenS} (F : Fun K x qual st fa fd) (S : FnScope N ps (defScope st)) (he : Es K t f) (hN : ps.length ≤ N.length)
    (hbody : ∀ (cdv : Value) (A : Around) (outer : List Env) (s : Shared) (H : Hp) (E : XK), A.guards = some [] → Room k (A.deeper (envOfC qual (defScope st) s.heap.objs.size fa cdv)) →
      PSs (cxOf CX0 P w K mg base N qual (defScope st) fa cdv A outer s H E).nox (defBody st) t) : FnG P w K mg base (k + 1) fa fd ps (spD K ps.length (fnD f (N.length - ps.length))) :=
  gOf F S (fun vs H Q E ⟨_, _, _, _, hn, _⟩ => hn) fun cdv A outer s H vs Q E hA hr h => ⟨t, hbody cdv A outer s H E hA hr, bodyD he hN h⟩
theorem gO {x qual : Str} {st : Stmt} {fa : Addr} {fd : FuncData} {N ps : List Str} {k n : Nat} {t : TS} {f : DenS} (F : Fun K x qual st fa fd) (S : FnScope N ps (defScope st)) (he : Es K t f) (hn : ps.length = n + 1) (hN : n + 1 ≤ N.length)
    (hbody : ∀ (cdv : Value) (A : Around) (outer : List Env) (s : Shared) (H : Hp) (E : XK), A.guards = some [] → Room k (A.deeper (envOfC qual (defScope st) s.heap.objs.size fa cdv)) →
      PSs (cxOf CX0 P w K mg base N qual (defScope st) fa cdv A outer s H E).nox (defBody st) t) : FnG P w K mg base (k + 1) fa fd ps (spO K n (fnO f (N.length - (n + 1)))) :=
  gOf F S (fun vs H Q E ⟨_, _, _, _, _, _, _, _, e, _, _, _, _, hl, _⟩ => by rw [e, hn]; simp [hl]) fun cdv A outer s H vs Q E hA hr h => ⟨t, hbody cdv A outer s H E hA hr, bodyO he hN h⟩
end
end Ly

set_option Elab.async false
set_option linter.all false
set_option maxRecDepth 100000
set_option maxHeartbeats 1000000
namespace Ly
open PySem PySem.Spec PyProof.Rows L2
/-! ### lists of our own -/
def owAt (ρ : Rho) (i : Nat) : Option (Bool × List D) := match ρ[i]? with
  | some (.ow b xs) => some (b, xs)
  | _ => none
theorem owAt_some {ρ : Rho} {i : Nat} {b : Bool} {xs : List D} (h : owAt ρ i = some (b, xs)) : ρ[i]? = some (.ow b xs) := by
  unfold owAt at h
  split at h
  · cases h
    assumption
  · cases h
def dIxO (i : Nat) (fb : Den D) : Den D := fun ρ => (owAt ρ i).bind fun _ => (fb ρ).bind fun y => (owAt y.2 i).bind fun o => match y.1 with
  | .int k => (atI o.2 k).map fun d => (d, y.2)
  | _ => none
def sPutO (i : Nat) (fe fb : Den D) : DenS := fun ρ => (fe ρ).bind fun x => (owAt x.2 i).bind fun _ => (fb x.2).bind fun y => (owAt y.2 i).bind fun o => match y.1 with
  | .int k => (ixN o.2.length k).map fun j => .nx (y.2.set i (.ow o.1 (o.2.set j x.1)))
  | _ => none
def dCallO (i : Nat) (fs : Den (List D)) (g : List D → List D → Option (D × List D)) : Den D := fun ρ => (owAt ρ i).bind fun _ => (fs ρ).bind fun y => (owAt y.2 i).bind fun o => (g o.2 y.1).map fun z => (z.1, y.2.set i (.ow o.1 z.2))
def dLenO (i : Nat) : Den D := fun ρ => (owAt ρ i).map fun o => (.int o.2.length, ρ)
def dSlO (i : Nat) (fl fh : Den (Option Int)) : Den D := fun ρ => (owAt ρ i).bind fun _ => (dPair fl fh ρ).bind fun y => (owAt y.2 i).map fun o => (.list (cutD o.2 y.1.1 y.1.2), y.2)
/-- a list of our own becomes data -/
def dFrz (i : Nat) : Den D := fun ρ => (owAt ρ i).bind fun o => if o.1 = true then none else some (.list o.2, ρ.set i (.sh (.list o.2)))
def sOwn (i : Nat) (fs : Den (List D)) : DenS := fun ρ => (fs ρ).bind fun x => (few x.1).bind fun ds => if i < x.2.length then some (.nx (x.2.set i (.ow false ds))) else none
def sAppO (i : Nat) (fe : Den D) : DenS := fun ρ => (owAt ρ i).bind fun _ => (fe ρ).bind fun y => (owAt y.2 i).bind fun o => (few (o.2 ++ [y.1])).map fun xs => .nx (y.2.set i (.ow o.1 xs))
section
variable {K : PySem.W.Frag} {te tb : TE} {ts : TA} {fe fb : Den D} {fs : Den (List D)}
theorem Wd.upd {O0 : List Addr} {σ : L2.St} {ρ : Rho} {H H' : Hp} {O : List Addr} {i : Nat} {b : Bool} {xs ds' : List D} {a : Addr} {vs' : List V} (w : Wd K O0 H O σ ρ) (hρ : ρ[i]? = some (.ow b xs)) (hσ : σ[i]? = some (some (.ref a)))
    (ke : ∀ c o, H c = some o → c ≠ a → H' c = some o) (ha : H' a = some (.lst vs')) (p : DqAll K (hide H' O) vs' ds') : Step K O0 σ ρ H O σ (ρ.set i (.ow b ds')) H' O := by
  have hi := (List.getElem?_eq_some_iff.mp hρ).1
  obtain ⟨a', vs0, e0, aO, ha0, pa0, fl⟩ := w.slot i _ hρ
  rw [hσ] at e0
  cases e0
  have le : Le (hide H O) (hide H' O) := fun c o e => by
    obtain ⟨n, h⟩ := hide_some e
    rw [hide_out n]
    exact ke c o h fun z => n (z ▸ aO)
  have own : ∀ {j : Nat} {c : Bool} {ys : List D}, (ρ.set i (.ow b ds'))[j]? = some (.ow c ys) → ∃ zs, ρ[j]? = some (.ow c zs) := fun {j c ys} h => by
    by_cases z : i = j
    · subst z
      rw [List.getElem?_set_self hi] at h
      cases h
      exact ⟨_, hρ⟩
    · rw [List.getElem?_set_ne z] at h
      exact ⟨_, h⟩
  refine ⟨fun c o e n => ke c o e fun z => n (z ▸ aO), fun _ z => .inl z, fun c hc n => ?_, fun c ⟨j, d, ys, h1, h2⟩ => ?_, ⟨by rw [List.length_set]; exact w.len, w.base, fun c hc => ?_, fun j s e => ?_, fun j k c d d' ys zs h1 h2 h3 h4 => ?_⟩⟩
  · obtain ⟨us, e⟩ := w.lists c hc
    rw [e]
    exact ke c _ e fun z => n (z ▸ ⟨i, b, xs, hρ, hσ⟩)
  · obtain ⟨zs, h⟩ := own h1
    exact .inl ⟨j, d, zs, h, h2⟩
  · by_cases z : c = a
    · rw [z]
      exact ⟨vs', ha⟩
    · obtain ⟨us, e⟩ := w.lists c hc
      exact ⟨us, ke c _ e z⟩
  · by_cases z : i = j
    · subst z
      rw [List.getElem?_set_self hi] at e
      cases e
      exact ⟨a, vs', hσ, aO, ha, p, fl⟩
    · rw [List.getElem?_set_ne z] at e
      have q := w.slot j s e
      cases s with
      | un => trivial
      | sh d =>
        obtain ⟨v, h1, h2⟩ := q
        exact ⟨v, h1, Dq.le le h2⟩
      | ow c ys =>
        obtain ⟨a', us, h1, h2, h3, h4, h5⟩ := q
        refine ⟨a', us, h1, h2, ke a' _ h3 fun y => z ?_, DqAll.le le h4, h5⟩
        subst y
        exact w.inj i j a' _ _ _ _ hρ e hσ h1
  · obtain ⟨ys', g1⟩ := own h1
    obtain ⟨zs', g2⟩ := own h2
    exact w.inj j k c _ _ _ _ g1 g2 h3 h4
theorem ev_ixO {i : Nat} (hb : Ev K tb fb) : Ev K (tOp (rIxU K) (tVar i) tb) (dIxO i fb) := fun O0 H O σ ρ d ρ' w e Q q => by
  obtain ⟨⟨b0, x0⟩, e0, e⟩ := Option.bind_eq_some_iff.mp e
  obtain ⟨⟨y, ρ1⟩, e1, e⟩ := Option.bind_eq_some_iff.mp e
  obtain ⟨⟨b, xs⟩, e2, e⟩ := Option.bind_eq_some_iff.mp e
  simp only at e e2
  obtain ⟨a, vs0, s0, _⟩ := w.slot i _ (owAt_some e0)
  refine ⟨_, s0, hb O0 H O σ ρ y ρ1 w e1 _ fun H1 O1 v s p => ?_⟩
  obtain ⟨a', vs, s1, aO, ha, pa, _⟩ := s.wd.slot i _ (owAt_some e2)
  rw [s0] at s1
  cases s1
  split at e
  · obtain ⟨z, e3, e4⟩ := Option.map_eq_some_iff.mp e
    cases e4
    cases p
    obtain ⟨u, g1, g2⟩ := at_all pa e3
    exact .inl ⟨_, _, _, u, rfl, rfl, .inl (.inl ha), g1, q H1 O1 u s g2⟩
  · cases e
theorem es_putO {i : Nat} (ha : Ev K te fe) (hb : Ev K tb fb) : Es K (L2.tAsg te (gSub (tVar i) tb rSetL)) (sPutO i fe fb) := fun O0 H O σ ρ fl w e D hn hr => by
  obtain ⟨⟨x, ρ1⟩, e1, e⟩ := Option.bind_eq_some_iff.mp e
  obtain ⟨⟨b0, x0⟩, e0, e⟩ := Option.bind_eq_some_iff.mp e
  obtain ⟨⟨y, ρ2⟩, e2, e⟩ := Option.bind_eq_some_iff.mp e
  obtain ⟨⟨b, xs⟩, e3, e⟩ := Option.bind_eq_some_iff.mp e
  simp only at e e0 e2 e3
  refine ha O0 H O σ ρ x ρ1 w e1 _ fun H1 O1 v1 s1 p1 => ?_
  obtain ⟨a, vs0, s0, _⟩ := s1.wd.slot i _ (owAt_some e0)
  refine ⟨_, s0, hb O0 H1 O1 σ ρ1 y ρ2 s1.wd e2 _ fun H2 O2 v2 s2 p2 => ?_⟩
  obtain ⟨a', vs, g0, aO, hx, pa, _⟩ := s2.wd.slot i _ (owAt_some e3)
  rw [s0] at g0
  cases g0
  split at e
  · obtain ⟨j, e4, e5⟩ := Option.map_eq_some_iff.mp e
    cases e5
    cases p2
    refine ⟨a, vs, _, j, rfl, rfl, hx, by rw [pa.len]; exact e4, ?_⟩
    have hh : hide (upd H2 a (.lst (vs.set j v1))) O2 = hide H2 O2 := by
      funext c
      by_cases z : c ∈ O2
      · rw [hide_in z, hide_in z]
      · rw [hide_out z, hide_out z, upd_ne fun q : c = a => z (by rw [q]; exact aO)]
    have st := s2.wd.upd (ds' := xs.set j x) (owAt_some e3) s0 (H' := upd H2 a (.lst (vs.set j v1))) (fun c o ec n => by rw [upd_ne n]; exact ec) (if_pos rfl) (by rw [hh]; exact pa.set (Dq.le s2.le p1) j)
    exact hn _ rfl _ O2 σ ((s1.trans s2 w).trans st w)
  · cases e
theorem ev_callO {i n : Nat} {g : List D → List D → Option (D × List D)} {E : XK} (hs : Ea K ts fs) (hn : ∀ ρ ds ρ', fs ρ = some (ds, ρ') → ds.length = n) : Ev K (tCall (spO K n g) [] E (tCons (tVar i) ts)) (dCallO i fs g) := fun O0 H O σ ρ d ρ' w e Q q => by
  obtain ⟨⟨b0, x0⟩, e0, e⟩ := Option.bind_eq_some_iff.mp e
  obtain ⟨⟨y, ρ1⟩, e1, e⟩ := Option.bind_eq_some_iff.mp e
  obtain ⟨⟨b, xs⟩, e2, e⟩ := Option.bind_eq_some_iff.mp e
  obtain ⟨⟨z, xs'⟩, e3, e4⟩ := Option.map_eq_some_iff.mp e
  simp only at e2 e3 e4
  cases e4
  obtain ⟨a, vs0, s0, _⟩ := w.slot i _ (owAt_some e0)
  refine ⟨_, s0, hs O0 H O σ ρ y ρ1 w e1 _ fun H1 O1 ws s p => ?_⟩
  obtain ⟨a', vs, s1, aO, ha, pa, _⟩ := s.wd.slot i _ (owAt_some e2)
  rw [s0] at s1
  cases s1
  refine ⟨O1, a, ws, vs, xs, y, d, xs', by rw [List.append_nil], s.wd.lists, aO, ha, pa, by rw [p.len]; exact hn _ _ _ e1, p, e3, fun H' v us ke hx px pv => ?_⟩
  exact q H' O1 v (s.trans (s.wd.upd (owAt_some e2) s0 ke hx px) w) pv
theorem ev_lenO {i : Nat} : Ev K (tCB (rLenU K) (tCons (tVar i) tNil)) (dLenO i) := fun O0 H O σ ρ d ρ' w e Q q => by
  obtain ⟨⟨b0, x0⟩, e0, e⟩ := Option.map_eq_some_iff.mp e
  cases e
  obtain ⟨a, vs, s0, aO, ha, pa, _⟩ := w.slot i _ (owAt_some e0)
  refine ⟨_, s0, a, vs, rfl, .inl (.inl (.inl ha)), ?_⟩
  rw [pa.len]
  exact q H O _ (.rfl w) (.int _)
theorem ev_slO {i : Nat} {tl th : TO} {fl fh : Den (Option Int)} (hl : Eo K tl fl) (hh : Eo K th fh) : Ev K (L2.tSl (rSlU K) (tVar i) tl th) (dSlO i fl fh) := fun O0 H O σ ρ d ρ' w e Q q => by
  obtain ⟨⟨b0, x0⟩, e0, e⟩ := Option.bind_eq_some_iff.mp e
  obtain ⟨⟨⟨lo, hi⟩, ρ2⟩, e1, e⟩ := Option.bind_eq_some_iff.mp e
  obtain ⟨⟨b, xs⟩, e2, e⟩ := Option.map_eq_some_iff.mp e
  cases e
  obtain ⟨ρ1, e3, e4⟩ := dPair_some e1
  obtain ⟨a, vs0, s0, _⟩ := w.slot i _ (owAt_some e0)
  refine ⟨_, s0, hl O0 H O σ ρ lo ρ1 w e3 _ fun H1 O1 s1 => ?_⟩
  refine hh O0 H1 O1 σ ρ1 hi ρ2 s1.wd e4 _ fun H2 O2 s2 => ?_
  obtain ⟨a', vs, g0, aO, ha, pa, _⟩ := s2.wd.slot i _ (owAt_some e2)
  rw [s0] at g0
  cases g0
  refine .inl ⟨a, vs, rfl, .inl (.inl ha), Rt.lst (K := K) (O := O2) (ds := cutD xs lo hi) (fun H3 v l hv => q H3 O2 v ((s1.trans s2 w).trans (s2.wd.more l) w) hv) s2.wd.lists ?_⟩
  unfold cutV cutD
  rw [pa.len]
  exact (pa.drop _).take _
theorem ev_frz {i : Nat} : Ev K (tVar i) (dFrz i) := fun O0 H O σ ρ d ρ' w e Q q => by
  obtain ⟨⟨b, xs⟩, e0, e⟩ := Option.bind_eq_some_iff.mp e
  simp only at e
  split at e
  · cases e
  · rename_i hb
    cases e
    have hρ := owAt_some e0
    have hi := (List.getElem?_eq_some_iff.mp hρ).1
    obtain ⟨a, vs, s0, aO, ha, pa, fl⟩ := w.slot i _ hρ
    refine ⟨_, s0, ?_⟩
    let O' := O.filter fun b => decide (b ≠ a)
    have mem : ∀ b, b ∈ O' ↔ b ∈ O ∧ b ≠ a := fun b => by simp [O']
    have up : Le (hide H O) (hide H O') := fun b o eb => by
      obtain ⟨n, hb⟩ := hide_some eb
      rw [hide_out fun z => n ((mem b).mp z).1]
      exact hb
    have own : ∀ {j : Nat} {c : Bool} {ys : List D}, (ρ.set i (.sh (.list xs)))[j]? = some (.ow c ys) → i ≠ j ∧ ρ[j]? = some (.ow c ys) := fun {j c ys} h => by
      by_cases z : i = j
      · subst z
        rw [List.getElem?_set_self hi] at h
        cases h
      · rw [List.getElem?_set_ne z] at h
        exact ⟨z, h⟩
    have dv : Dq K (hide H O') (.ref a) (.list xs) := .lst (by rw [hide_out fun z => ((mem a).mp z).2 rfl]; exact ha) (DqAll.le up pa)
    refine q H O' _ ⟨fun _ _ e _ => e, fun b z => .inl ((mem b).mp z).1, fun _ _ _ => rfl, fun c ⟨j, d, ys, h1, h2⟩ => .inl ⟨j, d, ys, (own h1).2, h2⟩, ⟨by rw [List.length_set]; exact w.len, fun c hc => (mem c).mpr ⟨w.base c hc, fun z => hb (fl.mpr (z ▸ hc))⟩,
      fun c hc => w.lists c ((mem c).mp hc).1, fun j s e => ?_, fun j k c b1 b2 ys zs h1 h2 h3 h4 => w.inj j k c _ _ _ _ (own h1).2 (own h2).2 h3 h4⟩⟩ dv
    by_cases z : i = j
    · subst z
      rw [List.getElem?_set_self hi] at e
      cases e
      exact ⟨_, s0, dv⟩
    · rw [List.getElem?_set_ne z] at e
      have g := w.slot j s e
      cases s with
      | un => trivial
      | sh d =>
        obtain ⟨v, h1, h2⟩ := g
        exact ⟨v, h1, Dq.le up h2⟩
      | ow c ys =>
        obtain ⟨a', us, h1, h2, h3, h4, h5⟩ := g
        refine ⟨a', us, h1, (mem a').mpr ⟨h2, fun y => z ?_⟩, h3, DqAll.le up h4, h5⟩
        subst y
        exact w.inj i j a' _ _ _ _ hρ e s0 h1
theorem es_own {i : Nat} (hs : Ea K ts fs) : Es K (L2.tAsg (tLst ts) (gName i)) (sOwn i fs) := fun O0 H O σ ρ fl w e Dn hn hr => by
  obtain ⟨⟨x, ρ1⟩, e1, e⟩ := Option.bind_eq_some_iff.mp e
  obtain ⟨ds, e2, e⟩ := Option.bind_eq_some_iff.mp e
  obtain ⟨rfl, hz⟩ := few_some e2
  simp only at e hz
  split at e
  case isFalse => cases e
  rename_i hi
  cases e
  refine hs O0 H O σ ρ _ ρ1 w e1 _ fun H1 O1 vs s p => ?_
  refine ⟨by rw [p.len]; exact hz, fun a ha => ?_⟩
  have w1 := s.wd
  have nA : a ∉ O1 := w1.lists.out ha
  have le : Le (hide H1 O1) (hide (upd H1 a (.lst vs)) (a :: O1)) := fun b o eb => by
    obtain ⟨n, hb⟩ := hide_some eb
    have bA : b ≠ a := ne_of_none hb ha
    rw [hide_out (by simp [bA, n]), upd_ne bA]
    exact hb
  have hi' : i < σ.length := by rw [w1.len]; exact hi
  have own : ∀ {j : Nat} {c : Bool} {ys : List D} {b : Addr}, (ρ1.set i (.ow false ds))[j]? = some (.ow c ys) → (σ.set i (some (.ref a)))[j]? = some (some (.ref b)) → (i = j ∧ b = a) ∨ (i ≠ j ∧ ρ1[j]? = some (.ow c ys) ∧ σ[j]? = some (some (.ref b))) := fun {j c ys b} h1 h2 => by
    by_cases z : i = j
    · subst z
      rw [List.getElem?_set_self hi'] at h2
      cases h2
      exact .inl ⟨rfl, rfl⟩
    · rw [List.getElem?_set_ne z] at h1 h2
      exact .inr ⟨z, h1, h2⟩
  have inO : ∀ {j : Nat} {c : Bool} {ys : List D} {b : Addr}, ρ1[j]? = some (.ow c ys) → σ[j]? = some (some (.ref b)) → b ∈ O1 := fun {j c ys b} h1 h2 => w1.own ⟨j, c, ys, h1, h2⟩
  refine hn _ rfl _ (a :: O1) _ (s.trans ⟨fun b o eb _ => Le.new ha b o eb, fun b hb => ?_, fun b hb _ => ?_, fun b ⟨j, c, ys, h1, h2⟩ => ?_, ⟨by rw [List.length_set, List.length_set]; exact w1.len, fun b hb => List.mem_cons_of_mem _ (w1.base b hb), fun b hb => ?_, fun j sl e => ?_, fun j k b c1 c2 ys zs h1 h2 h3 h4 => ?_⟩⟩ w)
  · rcases List.mem_cons.mp hb with z | z
    · exact .inr (z ▸ ha)
    · exact .inl z
  · rw [upd_ne fun z : b = a => nA (by rw [← z]; exact hb)]
  · rcases own h1 h2 with ⟨_, rfl⟩ | ⟨_, g1, g2⟩
    · exact .inr ha
    · exact .inl ⟨j, c, ys, g1, g2⟩
  · rcases List.mem_cons.mp hb with z | z
    · exact ⟨vs, by rw [z]; exact if_pos rfl⟩
    · obtain ⟨us, ex⟩ := w1.lists b z
      exact ⟨us, Le.new ha b _ ex⟩
  · by_cases z : i = j
    · subst z
      rw [List.getElem?_set_self hi] at e
      cases e
      exact ⟨a, vs, by rw [List.getElem?_set_self hi'], List.mem_cons_self, if_pos rfl, DqAll.le le p, ⟨fun y => (by cases y), fun y => absurd (w1.base a y) nA⟩⟩
    · rw [List.getElem?_set_ne z] at e ⊢
      have g := w1.slot j sl e
      cases sl with
      | un => trivial
      | sh d =>
        obtain ⟨v, h1, h2⟩ := g
        exact ⟨v, h1, Dq.le le h2⟩
      | ow c ys =>
        obtain ⟨a', us, h1, h2, h3, h4, h5⟩ := g
        exact ⟨a', us, h1, List.mem_cons_of_mem _ h2, Le.new ha a' _ h3, DqAll.le le h4, h5⟩
  · rcases own h1 h3 with ⟨z1, y1⟩ | ⟨z1, g1, g2⟩
    · rcases own h2 h4 with ⟨z2, y2⟩ | ⟨z2, g3, g4⟩
      · exact z1.symm.trans z2
      · exact absurd (y1 ▸ inO g3 g4) nA
    · rcases own h2 h4 with ⟨z2, y2⟩ | ⟨z2, g3, g4⟩
      · exact absurd (y2 ▸ inO g1 g2) nA
      · exact w1.inj j k b _ _ _ _ g1 g3 g2 g4
end
end Ly

set_option Elab.async false
set_option linter.all false
set_option maxRecDepth 100000
set_option maxHeartbeats 1000000
namespace Ly
open PySem PySem.Spec PyProof.Rows L2
/-! ### more rules -/
def asPart : D → Option (Option Int)
  | .int i => some (some i)
  | _ => none
def sRetN : DenS := fun ρ => some (.rt .none ρ)
def sNever : DenS := fun _ => none
def sPar (i j : Nat) (fs : Den (List D)) : DenS := fun ρ => (fs ρ).bind fun x => match x.1 with
  | [a, b] => if i < x.2.length ∧ j < x.2.length then some (.nx ((x.2.set i (.sh a)).set j (.sh b))) else none
  | _ => none
def sAug (i : Nat) (g : Int → Int → Int) (fe : Den D) : DenS := fun ρ => match ρ[i]? with
  | some (.sh (.int x)) => (fe ρ).bind fun y => match y.1 with
    | .int k => some (.nx (y.2.set i (.sh (.int (g x k)))))
    | _ => none
  | _ => none
def gIn : D → D → Option D
  | .int i, .list xs => (intsOf xs).map fun ns => .bool (ns.any fun k => k == i)
  | .int i, .tuple xs => (intsOf xs).map fun ns => .bool (ns.any fun k => k == i)
  | _, _ => none
section
variable {K : PySem.W.Frag} {te : TE} {ts : TA} {fe : Den D} {fs : Den (List D)}
theorem eo_none : Eo K tNoPart (dC none) := fun O0 H O σ ρ b ρ' w e Q q => by cases e; exact q H O (.rfl w)
theorem eo_some (ha : Ev K te fe) : Eo K (tPart te) (dThen fe asPart) := fun O0 H O σ ρ b ρ' w e Q q => by
  obtain ⟨x, e1, e2⟩ := dThen_some e
  refine ha O0 H O σ ρ x ρ' w e1 _ fun H1 O1 v s p => ?_
  cases p <;> cases e2
  exact ⟨_, rfl, q H1 O1 s⟩
theorem es_retN : Es K L2.tRetN sRetN := fun O0 H O σ ρ fl w e D hn hr => by
  cases e
  exact hr _ _ rfl H O σ .non (.rfl w) .non
theorem es_never : Es K L2.tNever sNever := fun O0 H O σ ρ fl w e D hn hr => by cases e
theorem es_any {t : TS} : Es K t sNever := fun O0 H O σ ρ fl w e D hn hr => by cases e
theorem es_par {i j : Nat} (hs : Ea K ts fs) : Es K (L2.tPar i j ts) (sPar i j fs) := fun O0 H O σ ρ fl w e Dn hn hr => by
  obtain ⟨⟨x, ρ1⟩, e1, e⟩ := Option.bind_eq_some_iff.mp e
  simp only at e
  split at e
  · rename_i a b
    split at e
    · rename_i hl
      cases e
      refine hs O0 H O σ ρ _ ρ1 w e1 _ fun H1 O1 vs s p => ?_
      cases p with
      | cons p1 p2 =>
        cases p2 with
        | cons p3 p4 =>
          cases p4
          have s1 := s.wd.put hl.1 p1
          have s2 := s1.wd.put (i := j) (by rw [List.length_set]; exact hl.2) p3
          exact ⟨_, _, rfl, hn _ rfl H1 O1 _ ((s.trans s1 w).trans s2 w)⟩
    · cases e
  · cases e
theorem es_aug {i : Nat} {g : Int → Int → Int} (ha : Ev K te fe) : Es K (L2.tAug i te (ipI g)) (sAug i g fe) := fun O0 H O σ ρ fl w e Dn hn hr => by
  unfold sAug at e
  split at e
  · rename_i x hx
    obtain ⟨⟨y, ρ1⟩, e1, e⟩ := Option.bind_eq_some_iff.mp e
    simp only at e
    split at e
    · cases e
      obtain ⟨v, s0, pv⟩ := w.slot i _ hx
      cases pv
      refine ⟨_, s0, ha O0 H O σ ρ _ ρ1 w e1 _ fun H1 O1 v s p => ?_⟩
      cases p
      have hi : i < ρ1.length := by
        rw [← s.wd.len, w.len]
        exact (List.getElem?_eq_some_iff.mp hx).1
      exact ⟨_, _, rfl, rfl, hn _ rfl H1 O1 _ (s.trans (s.wd.put hi (.int _)) w)⟩
    · cases e
  · cases e
theorem flat_ints : ∀ ns : List Int, (ns.map V.int).all flatV = true
  | [] => rfl
  | _ :: ns => by simp [flatV]
theorem in_ints (i : Int) : ∀ ns : List Int, inV (.int i) (ns.map V.int) = ns.any fun k => k == i
  | [] => rfl
  | n :: ns => by
    have h := in_ints i ns
    unfold inV at h ⊢
    simp only [List.map_cons, List.any_cons, h]
    rfl
theorem o_in : Op2 K (rIn K false) gIn := fun H O x y d e z l p q e1 Q k => by
  unfold gIn at e1
  split at e1
  · obtain ⟨ns, e2, rfl⟩ := Option.map_eq_some_iff.mp e1
    cases p
    cases q with
    | lst h t =>
      obtain rfl := t.asInts e2
      refine ⟨_, _, rfl, .inl (.inl (.inl (hide_le _ _ h))), rfl, flat_ints ns, ?_⟩
      simp only [Bool.false_eq_true, if_false, in_ints]
      exact k.same (.bl _)
  · obtain ⟨ns, e2, rfl⟩ := Option.map_eq_some_iff.mp e1
    cases p
    cases q with
    | tup h t =>
      obtain rfl := t.asInts e2
      refine ⟨_, _, rfl, .inr (SqT.le h hide_le), rfl, flat_ints ns, ?_⟩
      simp only [Bool.false_eq_true, if_false, in_ints]
      exact k.same (.bl _)
  · cases e1
end
end Ly

set_option Elab.async false
set_option linter.all false
set_option maxRecDepth 100000
set_option maxHeartbeats 1000000
namespace Ly
open PySem PySem.Spec PyProof.Rows L2
/-! ### a list of our own grows -/
def sExtO (i : Nat) (fe : Den D) : DenS := fun ρ => (owAt ρ i).bind fun _ => (fe ρ).bind fun y => (owAt y.2 i).bind fun o => match y.1 with
  | .list ys => (few (o.2 ++ ys)).map fun xs => .nx (y.2.set i (.ow o.1 xs))
  | _ => none
section
variable {K : PySem.W.Frag} {te : TE} {fe : Den D}
theorem hide_upd {H : Hp} {O : List Addr} {a : Addr} {o : HO} (aO : a ∈ O) : hide (upd H a o) O = hide H O := by
  funext c
  by_cases z : c ∈ O
  · rw [hide_in z, hide_in z]
  · rw [hide_out z, hide_out z, upd_ne fun q : c = a => z (by rw [q]; exact aO)]
theorem es_appO {i : Nat} (ha : Ev K te fe) : Es K (L2.tDrop (tBM K "list" rAppend (tVar i) (tCons te tNil))) (sAppO i fe) := fun O0 H O σ ρ fl w e Dn hn hr => by
  obtain ⟨⟨b0, x0⟩, e0, e⟩ := Option.bind_eq_some_iff.mp e
  obtain ⟨⟨y, ρ1⟩, e1, e⟩ := Option.bind_eq_some_iff.mp e
  obtain ⟨⟨b, xs⟩, e2, e⟩ := Option.bind_eq_some_iff.mp e
  obtain ⟨zs, e3, e4⟩ := Option.map_eq_some_iff.mp e
  obtain ⟨rfl, hz⟩ := few_some e3
  cases e4
  obtain ⟨a, vs0, s0, aO0, h0, _⟩ := w.slot i _ (owAt_some e0)
  refine ⟨_, s0, .inl ⟨rfl, vs0, .inl (.inl h0)⟩, ha O0 H O σ ρ y ρ1 w e1 _ fun H1 O1 v s p => ?_⟩
  obtain ⟨a', vs, s1, aO, hx, pa, _⟩ := s.wd.slot i _ (owAt_some e2)
  rw [s0] at s1
  cases s1
  have hl := pa.len
  refine ⟨a, vs, v, rfl, rfl, hx, ?_, ?_⟩
  · simp at hz
    omega
  · have st := s.wd.upd (ds' := xs ++ [y]) (owAt_some e2) s0 (H' := upd H1 a (.lst (vs ++ [v]))) (fun c o ec n => by rw [upd_ne n]; exact ec) (if_pos rfl) (by rw [hide_upd aO]; exact pa.app (.cons p .nil))
    exact hn _ rfl _ O1 σ (s.trans st w)
theorem es_extO {i : Nat} (ha : Ev K te fe) : Es K (L2.tDrop (tBM K "list" rExtend (tVar i) (tCons te tNil))) (sExtO i fe) := fun O0 H O σ ρ fl w e Dn hn hr => by
  obtain ⟨⟨b0, x0⟩, e0, e⟩ := Option.bind_eq_some_iff.mp e
  obtain ⟨⟨y, ρ1⟩, e1, e⟩ := Option.bind_eq_some_iff.mp e
  obtain ⟨⟨b, xs⟩, e2, e⟩ := Option.bind_eq_some_iff.mp e
  simp only at e e2
  split at e
  · rename_i ys hy
    obtain ⟨zs, e3, e4⟩ := Option.map_eq_some_iff.mp e
    obtain ⟨rfl, hz⟩ := few_some e3
    cases e4
    obtain ⟨a, vs0, s0, aO0, h0, _⟩ := w.slot i _ (owAt_some e0)
    refine ⟨_, s0, .inl ⟨rfl, vs0, .inl (.inl h0)⟩, ha O0 H O σ ρ _ ρ1 w e1 _ fun H1 O1 v s p => ?_⟩
    obtain ⟨a', vs, s1, aO, hx, pa, _⟩ := s.wd.slot i _ (owAt_some e2)
    rw [s0] at s1
    cases s1
    cases p with
    | lst h t =>
      rename_i bb ws
      have hl := pa.len
      have ht := t.len
      refine ⟨a, bb, vs, ws, rfl, rfl, hx, hide_le _ _ h, ?_, ?_⟩
      · simp at hz
        omega
      · have st := s.wd.upd (ds' := xs ++ ys) (owAt_some e2) s0 (H' := upd H1 a (.lst (vs ++ ws))) (fun c o ec n => by rw [upd_ne n]; exact ec) (if_pos rfl) (by rw [hide_upd aO]; exact pa.app t)
        exact hn _ rfl _ O1 σ (s.trans st w)
  · cases e
/-- x = list(y): a new list, our own from then on -/
def sOwnL (i : Nat) (fe : Den D) : DenS := fun ρ => (fe ρ).bind fun x => match x.1 with
  | .list ds => if i < x.2.length then some (.nx (x.2.set i (.ow false ds))) else none
  | _ => none
end
abbrev dOp (g : D → D → Option D) (a b : Den D) : Den D := dThen (dPair a b) fun p => g p.1 p.2
theorem hn_nil : ∀ (ρ : Rho) (ds : List D) (ρ' : Rho), (dNil : Den (List D)) ρ = some (ds, ρ') → ds.length = 0 := fun ρ ds ρ' e => by cases e; rfl
theorem hn_cons {fa : Den D} {fs : Den (List D)} {n : Nat} (h : ∀ (ρ : Rho) (ds : List D) (ρ' : Rho), fs ρ = some (ds, ρ') → ds.length = n) : ∀ (ρ : Rho) (ds : List D) (ρ' : Rho), dCons fa fs ρ = some (ds, ρ') → ds.length = n + 1 := fun ρ ds ρ' e => by
  obtain ⟨⟨x, xs⟩, e1, e2⟩ := dThen_some e
  cases e2
  obtain ⟨ρ1, _, e3⟩ := dPair_some e1
  simp [h _ _ _ e3]
end Ly

set_option Elab.async false
set_option linter.all false
set_option maxRecDepth 100000
set_option maxHeartbeats 1000000
namespace Ly
open PySem PySem.Spec PyProof.Rows L2
section
variable {P : Program} {w : World} {K : PySem.W.Frag} {mg : Str → Option Value} {base : Heap}
theorem gD2 {x qual : Str} {st : Stmt} {fa : Addr} {fd : FuncData} {N ps : List Str} {k n : Nat} {f : DenS} {m : List D → Option D} (F : Fun K x qual st fa fd) (S : FnScope N ps (defScope st)) (hn : ps.length = n) (hN : n ≤ N.length) (hm : m = fnD f (N.length - n))
    (h : ∃ t, Es K t f ∧ ∀ (cdv : Value) (A : Around) (outer : List Env) (s : Shared) (H : Hp) (E : XK), A.guards = some [] → Room k (A.deeper (envOfC qual (defScope st) s.heap.objs.size fa cdv)) →
      PSs (cxOf CX0 P w K mg base N qual (defScope st) fa cdv A outer s H E).nox (defBody st) t) : FnG P w K mg base (k + 1) fa fd ps (spD K n m) := by
  obtain ⟨t, he, hb⟩ := h
  subst hn hm
  exact gD F S he hN hb
theorem gO2 {x qual : Str} {st : Stmt} {fa : Addr} {fd : FuncData} {N ps : List Str} {k n : Nat} {f : DenS} {m : List D → List D → Option (D × List D)} (F : Fun K x qual st fa fd) (S : FnScope N ps (defScope st)) (hn : ps.length = n + 1) (hN : n + 1 ≤ N.length) (hm : m = fnO f (N.length - (n + 1)))
    (h : ∃ t, Es K t f ∧ ∀ (cdv : Value) (A : Around) (outer : List Env) (s : Shared) (H : Hp) (E : XK), A.guards = some [] → Room k (A.deeper (envOfC qual (defScope st) s.heap.objs.size fa cdv)) →
      PSs (cxOf CX0 P w K mg base N qual (defScope st) fa cdv A outer s H E).nox (defBody st) t) : FnG P w K mg base (k + 1) fa fd ps (spO K n m) := by
  obtain ⟨t, he, hb⟩ := h
  subst hm
  exact gO F S he hn hN hb
end
end Ly
namespace Ly
open PySem PySem.Spec PyProof.Rows L2
/-! by name alone -/
section
variable {X : Cx} {k : Nat} {f : Addr} {fd : FuncData} {ps : List Str} {sp : Sp} {x : Str} {p pos : Pos} {kws : List Keyword} {tk : TA} {ks : List Str} {g : List Value → List Value → List Value} {gV : List V → List V → List V}
theorem pe_gk0 (F : FnG X.prog X.w X.K X.mg X.base k f fd ps sp) (hA : X.A.guards = some []) (hr : Room k X.A) (hg : Gl X x) (hm : X.mg x = some (.ref f)) (hk : PySem.W.keepIn X.K (.ref f) = true) (hb : KBinds X.K fd ps ks g gV)
    (hkw : PK X kws tk) (hall : (backToKw pos (keywordEach kws X.env)).all (·.1.isSome) = true := by rfl) (hks : (backToKw pos (keywordEach kws X.env)).filterMap (·.1) = ks := by rfl)
    (hdb : (x == ("__debug__" : Str)) = false := by decide)
    (hpl : ((backTo pos (starEach [] X.env)).any (·.1) || (backToKw pos (keywordEach kws X.env)).any (·.1.isNone)) = false := by rfl) :
    PE X (.Call (.Name x p) [] kws pos) (tCallK sp gV E0 tNil tk) := by
  constructor
  intro pins s σ H Q I h
  refine wpAny_Call_Name_kw (ld_glob I hg hm ?_ hdb)
  refine PySem.W.callWith_KW0 (h₀ := X.base) I.ok.mod.kin hk hall (thn (hkw.run pos pins s σ H _ I h) ?_) hpl
  rintro ws s2 ⟨zs, H2, I2, rz, q2⟩
  refine ⟨I2.kIn, ?_⟩
  rw [hks]
  have r2 := hb.rel (vs := []) (us := []) .nil rz
  have hl : (g [] ws).length = ps.length := by
    rw [← r2.length]
    exact F.lenG _ _ _ _ q2
  refine wpAny_call (codeAny_mono (F.go hA hr (hb.to s2 [] ws I2.kIn hl) I2 r2 q2) fun r s' hq => ?_)
  rcases r with z | z
  · exact hq.elim
  · cases z <;> first | exact hq | exact hq.elim
end
end Ly

set_option Elab.async false
set_option linter.all false
set_option maxRecDepth 100000
set_option maxHeartbeats 1000000
namespace Ly
open PySem PySem.Spec PyProof.Rows L2
/-! ### calls by name alone: in the order of the parameters, or the other way about -/
def kw1 {α : Type} : List α → List α → List α
  | [], [a] => [a]
  | _, _ => []
def kw2 {α : Type} : List α → List α → List α
  | [], [a, b] => [a, b]
  | _, _ => []
def kw2r {α : Type} : List α → List α → List α
  | [], [a, b] => [b, a]
  | _, _ => []
section
variable {K : PySem.W.Frag}
theorem kw1_rel {vs : List V} {us : List Value} {zs : List V} {ws : List Value} (r : Vals vs us) (q : Vals zs ws) : Vals (kw1 vs zs) (kw1 us ws) := by
  cases r with
  | nil =>
    cases q with
    | nil => exact .nil
    | cons a q =>
      cases q with
      | nil => exact .cons a .nil
      | cons b q => exact .nil
  | cons a r => exact .nil
theorem kw2_rel {vs : List V} {us : List Value} {zs : List V} {ws : List Value} (r : Vals vs us) (q : Vals zs ws) : Vals (kw2 vs zs) (kw2 us ws) := by
  cases r with
  | nil =>
    cases q with
    | nil => exact .nil
    | cons a q =>
      cases q with
      | nil => exact .nil
      | cons b q =>
        cases q with
        | nil => exact .cons a (.cons b .nil)
        | cons c q => exact .nil
  | cons a r => exact .nil
theorem kw2r_rel {vs : List V} {us : List Value} {zs : List V} {ws : List Value} (r : Vals vs us) (q : Vals zs ws) : Vals (kw2r vs zs) (kw2r us ws) := by
  cases r with
  | nil =>
    cases q with
    | nil => exact .nil
    | cons a q =>
      cases q with
      | nil => exact .nil
      | cons b q =>
        cases q with
        | nil => exact .cons b (.cons a .nil)
        | cons c q => exact .nil
  | cons a r => exact .nil
theorem kw1_dq {H : Hp} {vs ws : List V} {ds es : List D} (r : DqAll K H vs ds) (q : DqAll K H ws es) : DqAll K H (kw1 vs ws) (kw1 ds es) := by
  cases r with
  | nil =>
    cases q with
    | nil => exact .nil
    | cons a q =>
      cases q with
      | nil => exact .cons a .nil
      | cons b q => exact .nil
  | cons a r => exact .nil
theorem kw2_dq {H : Hp} {vs ws : List V} {ds es : List D} (r : DqAll K H vs ds) (q : DqAll K H ws es) : DqAll K H (kw2 vs ws) (kw2 ds es) := by
  cases r with
  | nil =>
    cases q with
    | nil => exact .nil
    | cons a q =>
      cases q with
      | nil => exact .nil
      | cons b q =>
        cases q with
        | nil => exact .cons a (.cons b .nil)
        | cons c q => exact .nil
  | cons a r => exact .nil
theorem kw2r_dq {H : Hp} {vs ws : List V} {ds es : List D} (r : DqAll K H vs ds) (q : DqAll K H ws es) : DqAll K H (kw2r vs ws) (kw2r ds es) := by
  cases r with
  | nil =>
    cases q with
    | nil => exact .nil
    | cons a q =>
      cases q with
      | nil => exact .nil
      | cons b q =>
        cases q with
        | nil => exact .cons b (.cons a .nil)
        | cons c q => exact .nil
  | cons a r => exact .nil
variable {fk : Den (List D)} {tk : TA} {g : List D → Option D} {E : XK}
/-- f(k = v, ..): the values in the parameters' order -/
theorem ev_kw {n : Nat} {gV : List V → List V → List V} {gD : List D → List D → List D} (hk : Ea K tk fk) (hg : ∀ H vs ds ws es, DqAll K H vs ds → DqAll K H ws es → DqAll K H (gV vs ws) (gD ds es))
    (hn : ∀ ρ es ρ', fk ρ = some (es, ρ') → (gD [] es).length = n) : Ev K (tCallK (spD K n g) gV E tNil tk) (dThen fk fun es => g (gD [] es)) := fun O0 H O σ ρ d ρ' w e Q q => by
  obtain ⟨x, e1, e3⟩ := dThen_some e
  refine ev_callk (n := n) (g := g) (gD := gD) (E := E) ea_nil hk hg (fun ρ ds ρ1 es ρ2 a b => ?_) O0 H O σ ρ d ρ' w ?_ Q q
  · cases a
    exact hn _ _ _ b
  · unfold dThen dPair dNil
    simp only [Option.bind_some, e1, Option.map_some, Option.bind_some]
    rw [e3]
    rfl
theorem ev_kw1 {fa : Den D} (hk : Ea K tk (dCons fa dNil)) : Ev K (tCallK (spD K 1 g) kw1 E tNil tk) (dThen (dCons fa dNil) fun es => g (kw1 [] es)) := ev_kw hk (fun _ _ _ _ _ => kw1_dq) fun ρ es ρ' e => by
  have z := hn_cons hn_nil _ _ _ e
  match es, z with
  | [_], _ => rfl
theorem ev_kw2 {fa fb : Den D} (hk : Ea K tk (dCons fa (dCons fb dNil))) : Ev K (tCallK (spD K 2 g) kw2 E tNil tk) (dThen (dCons fa (dCons fb dNil)) fun es => g (kw2 [] es)) := ev_kw hk (fun _ _ _ _ _ => kw2_dq) fun ρ es ρ' e => by
  have z := hn_cons (hn_cons hn_nil) _ _ _ e
  match es, z with
  | [_, _], _ => rfl
theorem ev_kw2r {fa fb : Den D} (hk : Ea K tk (dCons fa (dCons fb dNil))) : Ev K (tCallK (spD K 2 g) kw2r E tNil tk) (dThen (dCons fa (dCons fb dNil)) fun es => g (kw2r [] es)) := ev_kw hk (fun _ _ _ _ _ => kw2r_dq) fun ρ es ρ' e => by
  have z := hn_cons (hn_cons hn_nil) _ _ _ e
  match es, z with
  | [_, _], _ => rfl
end
end Ly

set_option Elab.async false
set_option linter.all false
set_option maxRecDepth 100000
set_option maxHeartbeats 1000000
namespace Ly
open PySem PySem.Spec PyProof.Rows L2
/-! ### sorted(set(..)) of ints -/
theorem rising_ext : ∀ {xs ys : List Int}, xs.Pairwise (· < ·) → ys.Pairwise (· < ·) → (∀ k, k ∈ xs ↔ k ∈ ys) → xs = ys
  | [], [], _, _, _ => rfl
  | [], y :: ys, _, _, h => absurd ((h y).mpr List.mem_cons_self) (by simp)
  | x :: xs, [], _, _, h => absurd ((h x).mp List.mem_cons_self) (by simp)
  | x :: xs, y :: ys, hx, hy, h => by
    obtain ⟨hx1, hx2⟩ := List.pairwise_cons.mp hx
    obtain ⟨hy1, hy2⟩ := List.pairwise_cons.mp hy
    have e : x = y := by
      rcases List.mem_cons.mp ((h x).mp List.mem_cons_self) with q | q
      · exact q
      · rcases List.mem_cons.mp ((h y).mpr List.mem_cons_self) with r | r
        · exact r.symm
        · have a := hy1 x q
          have b := hx1 y r
          omega
    subst e
    congr 1
    refine rising_ext hx2 hy2 fun k => ⟨fun q => ?_, fun q => ?_⟩
    · rcases List.mem_cons.mp ((h k).mp (List.mem_cons_of_mem _ q)) with r | r
      · have a := hx1 k q
        omega
      · exact r
    · rcases List.mem_cons.mp ((h k).mpr (List.mem_cons_of_mem _ q)) with r | r
      · have a := hy1 k q
        omega
      · exact r
def putIn (k : Int) : List Int → List Int
  | [] => [k]
  | x :: xs => if k < x then k :: x :: xs else if k = x then x :: xs else x :: putIn k xs
/-- rising, each once -/
def rising : List Int → List Int
  | [] => []
  | x :: xs => putIn x (rising xs)
theorem putIn_mem {k j : Int} : ∀ {xs : List Int}, j ∈ putIn k xs ↔ j = k ∨ j ∈ xs
  | [] => by simp [putIn]
  | x :: xs => by
    unfold putIn
    split
    · simp
    · split
      · rename_i h
        subst h
        simp
      · simp only [List.mem_cons, putIn_mem (xs := xs)]
        exact ⟨fun h => by rcases h with h | h | h <;> simp [h], fun h => by rcases h with h | h | h <;> simp [h]⟩
theorem putIn_rising {k : Int} : ∀ {xs : List Int}, xs.Pairwise (· < ·) → (putIn k xs).Pairwise (· < ·)
  | [], _ => by simp [putIn]
  | x :: xs, h => by
    obtain ⟨h1, h2⟩ := List.pairwise_cons.mp h
    unfold putIn
    split
    · rename_i c
      refine List.pairwise_cons.mpr ⟨fun y hy => ?_, h⟩
      rcases List.mem_cons.mp hy with q | q
      · omega
      · have := h1 y q
        omega
    · split
      · exact h
      · refine List.pairwise_cons.mpr ⟨fun y hy => ?_, putIn_rising h2⟩
        rcases putIn_mem.mp hy with q | q
        · omega
        · exact h1 y q
theorem rising_mem {j : Int} : ∀ {xs : List Int}, j ∈ rising xs ↔ j ∈ xs
  | [] => by simp [rising]
  | x :: xs => by
    unfold rising
    rw [putIn_mem, rising_mem (xs := xs)]
    simp
theorem rising_ok : ∀ {xs : List Int}, (rising xs).Pairwise (· < ·)
  | [] => by simp [rising]
  | x :: xs => putIn_rising rising_ok
def gSortSet : List D → Option D
  | [.list xs] => (intsOf xs).bind fun ns => if ns.length < 64 then some (.list ((rising ns).map .int)) else none
  | _ => none
section
variable {K : PySem.W.Frag} {w : World} {ts : TA} {fs : Den (List D)}
theorem ev_sortSet (ha : Ea K ts fs) : Ev K (tCB (rSortedSet w) (tCons (tCB (rSetI K w) ts) tNil)) (dThen fs gSortSet) := fun O0 H O σ ρ d ρ' wd e Q q => by
  obtain ⟨x, e1, e3⟩ := dThen_some e
  refine ha O0 H O σ ρ x ρ' wd e1 _ fun H1 O1 v1 s1 p1 => ?_
  unfold gSortSet at e3
  split at e3
  · obtain ⟨ns, e2, e4⟩ := Option.bind_eq_some_iff.mp e3
    split at e4
    · rename_i hl
      cases e4
      obtain ⟨a, ys, rfl, h, t⟩ := one_list p1
      obtain rfl := t.asInts e2
      refine ⟨a, ns, rfl, .inl (.inl (hide_le _ _ h)), by rw [show scanBound = 4096 by decide]; omega, fun p S n hp hS hn => ?_⟩
      refine ⟨p, S, n, rfl, if_pos rfl, by omega, fun ms p' hs hm hlen hp' => ?_⟩
      have em : ms = rising ns := rising_ext hs rising_ok fun k => by rw [hm, hS, rising_mem]
      subst em
      have l1 : Le H1 (upd H1 p (SetO w p S n)) := .new hp
      have s2 := s1.wd.more l1
      have s3 := s2.wd.more (Le.new (o := .lst ((rising ns).map V.int)) hp')
      refine q _ O1 _ ((s1.trans s2 wd).trans s3 wd) (.lst ?_ (DqAll.ofInts _))
      rw [hide_out (s2.wd.lists.out hp')]
      exact if_pos rfl
    · cases e4
  · cases e3
end
end Ly

set_option Elab.async false
set_option linter.all false
set_option maxRecDepth 100000
set_option maxHeartbeats 1000000
namespace Ly
open PySem PySem.Spec PyProof.Rows L2
section
variable {K : PySem.W.Frag} {te : TE} {fe : Den D}
/-- x = list(y): a new list, our own from then on -/
theorem es_ownL {i : Nat} (hs : Ev K te fe) : Es K (L2.tAsg (tCB (rListOf K) (tCons te tNil)) (gName i)) (sOwnL i fe) := fun O0 H O σ ρ fl w e Dn hn hr => by
  obtain ⟨⟨y, ρ1⟩, e1, e⟩ := Option.bind_eq_some_iff.mp e
  simp only at e
  obtain ⟨ds, rfl⟩ : ∃ ds, y = .list ds := by cases y <;> first | exact ⟨_, rfl⟩ | cases e
  simp only at e
  split at e
  case isFalse => cases e
  rename_i hi
  cases e
  refine hs O0 H O σ ρ _ ρ1 w e1 _ fun H1 O1 v s pv => ?_
  cases pv with
  | lst h0 p =>
  rename_i c vs
  refine ⟨c, vs, rfl, .inl (.inl (.inl (hide_le _ _ h0))), fun a ha => ?_⟩
  have w1 := s.wd
  have nA : a ∉ O1 := w1.lists.out ha
  have le : Le (hide H1 O1) (hide (upd H1 a (.lst vs)) (a :: O1)) := fun b o eb => by
    obtain ⟨n, hb⟩ := hide_some eb
    have bA : b ≠ a := ne_of_none hb ha
    rw [hide_out (by simp [bA, n]), upd_ne bA]
    exact hb
  have hi' : i < σ.length := by rw [w1.len]; exact hi
  have own : ∀ {j : Nat} {c : Bool} {ys : List D} {b : Addr}, (ρ1.set i (.ow false ds))[j]? = some (.ow c ys) → (σ.set i (some (.ref a)))[j]? = some (some (.ref b)) → (i = j ∧ b = a) ∨ (i ≠ j ∧ ρ1[j]? = some (.ow c ys) ∧ σ[j]? = some (some (.ref b))) := fun {j c ys b} h1 h2 => by
    by_cases z : i = j
    · subst z
      rw [List.getElem?_set_self hi'] at h2
      cases h2
      exact .inl ⟨rfl, rfl⟩
    · rw [List.getElem?_set_ne z] at h1 h2
      exact .inr ⟨z, h1, h2⟩
  have inO : ∀ {j : Nat} {c : Bool} {ys : List D} {b : Addr}, ρ1[j]? = some (.ow c ys) → σ[j]? = some (some (.ref b)) → b ∈ O1 := fun {j c ys b} h1 h2 => w1.own ⟨j, c, ys, h1, h2⟩
  refine hn _ rfl _ (a :: O1) _ (s.trans ⟨fun b o eb _ => Le.new ha b o eb, fun b hb => ?_, fun b hb _ => ?_, fun b ⟨j, c, ys, h1, h2⟩ => ?_, ⟨by rw [List.length_set, List.length_set]; exact w1.len, fun b hb => List.mem_cons_of_mem _ (w1.base b hb), fun b hb => ?_, fun j sl e => ?_, fun j k b c1 c2 ys zs h1 h2 h3 h4 => ?_⟩⟩ w)
  · rcases List.mem_cons.mp hb with z | z
    · exact .inr (z ▸ ha)
    · exact .inl z
  · rw [upd_ne fun z : b = a => nA (by rw [← z]; exact hb)]
  · rcases own h1 h2 with ⟨_, rfl⟩ | ⟨_, g1, g2⟩
    · exact .inr ha
    · exact .inl ⟨j, c, ys, g1, g2⟩
  · rcases List.mem_cons.mp hb with z | z
    · exact ⟨vs, by rw [z]; exact if_pos rfl⟩
    · obtain ⟨us, ex⟩ := w1.lists b z
      exact ⟨us, Le.new ha b _ ex⟩
  · by_cases z : i = j
    · subst z
      rw [List.getElem?_set_self hi] at e
      cases e
      exact ⟨a, vs, by rw [List.getElem?_set_self hi'], List.mem_cons_self, if_pos rfl, DqAll.le le p, ⟨fun y => (by cases y), fun y => absurd (w1.base a y) nA⟩⟩
    · rw [List.getElem?_set_ne z] at e ⊢
      have g := w1.slot j sl e
      cases sl with
      | un => trivial
      | sh d =>
        obtain ⟨v, h1, h2⟩ := g
        exact ⟨v, h1, Dq.le le h2⟩
      | ow c ys =>
        obtain ⟨a', us, h1, h2, h3, h4, h5⟩ := g
        exact ⟨a', us, h1, List.mem_cons_of_mem _ h2, Le.new ha a' _ h3, DqAll.le le h4, h5⟩
  · rcases own h1 h3 with ⟨z1, y1⟩ | ⟨z1, g1, g2⟩
    · rcases own h2 h4 with ⟨z2, y2⟩ | ⟨z2, g3, g4⟩
      · exact z1.symm.trans z2
      · exact absurd (y1 ▸ inO g3 g4) nA
    · rcases own h2 h4 with ⟨z2, y2⟩ | ⟨z2, g3, g4⟩
      · exact absurd (y2 ▸ inO g1 g2) nA
      · exact w1.inj j k b _ _ _ _ g1 g3 g2 g4
end
end Ly

set_option Elab.async false
set_option linter.all false
set_option maxRecDepth 100000
set_option maxHeartbeats 1000000
namespace Ly
open PySem PySem.Spec PyProof.Rows L2
/-! ### what is new: trees none of whose lists stood anywhere before -/
def Fr (O0 : List Addr) (σ : L2.St) (ρ : Rho) (H : Hp) (O' : List Addr) (a : Addr) : Prop := a ∉ O' ∧ (H a = none ∨ (Own σ ρ a ∧ a ∉ O0))
section
variable (K : PySem.W.Frag)
def EvF (te : TE) (f : Den D) : Prop := ∀ (O0 : List Addr) (H : Hp) (O : List Addr) (σ : L2.St) (ρ : Rho) (d : D) (ρ' : Rho), Wd K O0 H O σ ρ → f ρ = some (d, ρ') →
  ∀ Q : VK, (∀ H' O' v fp, Step K O0 σ ρ H O σ ρ' H' O' → Dq K (hide H' O') v d → Tr H' v d fp → (∀ a ∈ fp, Fr O0 σ ρ H O' a) → Q v H') → te σ H Q
def EaF (ts : TA) (f : Den (List D)) : Prop := ∀ (O0 : List Addr) (H : Hp) (O : List Addr) (σ : L2.St) (ρ : Rho) (ds : List D) (ρ' : Rho), Wd K O0 H O σ ρ → f ρ = some (ds, ρ') →
  ∀ Q : List V → Hp → Prop, (∀ H' O' vs fp, Step K O0 σ ρ H O σ ρ' H' O' → DqAll K (hide H' O') vs ds → TrAll H' vs ds fp → (∀ a ∈ fp, Fr O0 σ ρ H O' a) → Q vs H') → ts σ H Q
/-- a new list of shallow data -/
def EvL (te : TE) (f : Den D) : Prop := ∀ (O0 : List Addr) (H : Hp) (O : List Addr) (σ : L2.St) (ρ : Rho) (d : D) (ρ' : Rho), Wd K O0 H O σ ρ → f ρ = some (d, ρ') →
  ∀ Q : VK, (∀ H' O' p vs ds, Step K O0 σ ρ H O σ ρ' H' O' → d = .list ds → DqAll K (hide H' O') vs ds → H' p = some (.lst vs) → Fr O0 σ ρ H O' p → Q (.ref p) H') → te σ H Q
def EsF (t : TS) (f : DenS) : Prop := ∀ (O0 : List Addr) (H : Hp) (O : List Addr) (σ : L2.St) (ρ : Rho) (fl : Fl), Wd K O0 H O σ ρ → f ρ = some fl → ∀ D : Ends,
  (∀ ρ', fl = .nx ρ' → ∀ H' O' σ', Step K O0 σ ρ H O σ' ρ' H' O' → D.nx σ' H') →
  (∀ d ρ', fl = .rt d ρ' → ∀ H' O' σ' v fp, Step K O0 σ ρ H O σ' ρ' H' O' → Dq K (hide H' O') v d → Tr H' v d fp → (∀ a ∈ fp, Fr O0 σ ρ H O' a) → D.rt v H') → t D σ H
/-- a def that answers with a new tree -/
def spF (n : Nat) (g : List D → Option D) : Sp := fun vs H Q _ => ∃ O ds z, ListsAt H O ∧ vs.length = n ∧ DqAll K (hide H O) vs ds ∧ g ds = some z ∧
  ∀ H' v fp, Le H H' → Dq K (hide H' O) v z → Tr H' v z fp → (∀ a ∈ fp, H a = none) → Q v H'
end
def scal : D → Bool
  | .none => true
  | .bool _ => true
  | .int _ => true
  | .str _ => true
  | _ => false
def scD (d : D) : Option D := if scal d = true then some d else none
def flatD : D → Option D
  | .list ds => if ds.all scal = true then some (.list ds) else none
  | _ => none
def NoRt (f : DenS) : Prop := ∀ ρ d ρ', f ρ ≠ some (.rt d ρ')
section
variable {K : PySem.W.Frag} {te tb : TE} {ts : TA} {tt : TT} {t u : TS} {fe fb : Den D} {fs : Den (List D)} {ft : Den Bool} {f g : DenS}
section
variable {O0 : List Addr} {σ σ1 σ2 σ' : L2.St} {ρ ρ1 ρ2 ρ' : Rho} {H H1 H2 H' : Hp} {O O1 O2 O' : List Addr} {a : Addr}
theorem Fr.new (s : Step K O0 σ ρ H O σ1 ρ1 H1 O1) (h : H1 a = none) : H a = none ∨ (Own σ ρ a ∧ a ∉ O0) := by
  cases e : H a with
  | none => exact .inl rfl
  | some o =>
    by_cases z : a ∈ O
    · by_cases y : Own σ ρ a
      · refine .inr ⟨y, fun x => ?_⟩
        obtain ⟨xs, q⟩ := s.wd.lists a (s.wd.base a x)
        rw [h] at q
        cases q
      · rw [s.far a z y, e] at h
        cases h
    · rw [s.keep a o e z] at h
      cases h
theorem Fr.back (s : Step K O0 σ ρ H O σ1 ρ1 H1 O1) (h : Fr O0 σ1 ρ1 H1 O' a) : Fr O0 σ ρ H O' a := by
  refine ⟨h.1, ?_⟩
  rcases h.2 with q | ⟨q, n⟩
  · exact Fr.new s q
  · rcases s.same a q with y | y
    · exact .inr ⟨y, n⟩
    · exact .inl y
theorem Tr.step {v : V} {d : D} {fp : List Addr} (t : Tr H v d fp) (s : Step K O0 σ ρ H O σ' ρ' H' O') (w : Wd K O0 H O σ ρ) (n : ∀ a ∈ fp, a ∉ O) : Tr H' v d fp :=
  t.keep (fun a ha => by
    obtain ⟨xs, e⟩ := t.own a ha
    rw [e]
    exact s.keep a _ e (n a ha)) fun a xs e => s.keep a _ e fun z => by
    obtain ⟨ys, q⟩ := w.lists a z
    rw [e] at q
    cases q
theorem Tr.new {v : V} {d : D} {fp : List Addr} {p : Addr} {o : HO} (t : Tr H v d fp) (h : H p = none) : Tr (upd H p o) v d fp :=
  t.but (fq := []) (But.new h) (fun _ _ z => by cases z) (fun _ _ _ z => by cases z)
theorem TrAll.new {vs : List V} {ds : List D} {fp : List Addr} {p : Addr} {o : HO} (t : TrAll H vs ds fp) (h : H p = none) : TrAll (upd H p o) vs ds fp :=
  t.but (fq := []) (But.new h) (fun _ _ z => by cases z) (fun _ _ _ z => by cases z)
end
theorem Dq.scal {H : Hp} {v : V} {d : D} (h : Dq K H v d) (e : scal d = true) (H' : Hp) : Tr H' v d [] := by
  cases h with
  | non => exact .non
  | bl b => exact .bl b
  | int i => exact .int i
  | str x => exact .str x
  | lst _ _ => cases e
  | tup _ _ => cases e
theorem DqAll.scal {H H' : Hp} : ∀ {vs : List V} {ds : List D}, DqAll K H vs ds → ds.all Ly.scal = true → TrAll H' vs ds []
  | _, _, .nil, _ => .nil
  | _, _, .cons h t, e => by
    simp only [List.all_cons, Bool.and_eq_true] at e
    exact TrAll.cons (f1 := []) (f2 := []) (h.scal e.1 H') (DqAll.scal t e.2) (fun _ z => by cases z)
theorem evF_sc (h : Ev K te fe) : EvF K te (dThen fe scD) := fun O0 H O σ ρ d ρ' w e Q q => by
  obtain ⟨x, e1, e2⟩ := dThen_some e
  unfold scD at e2
  split at e2
  · rename_i hs
    cases e2
    exact h O0 H O σ ρ _ ρ' w e1 Q fun H' O' v s p => q H' O' v [] s p (p.scal hs H') fun _ z => by cases z
  · cases e2
theorem evF_list (h : EvL K te fe) : EvF K te (dThen fe flatD) := fun O0 H O σ ρ d ρ' w e Q q => by
  obtain ⟨x, e1, e2⟩ := dThen_some e
  refine h O0 H O σ ρ x ρ' w e1 Q fun H' O' p vs ds s ed pa hp fr => ?_
  subst ed
  unfold flatD at e2
  simp only at e2
  split at e2
  · rename_i hs
    cases e2
    refine q H' O' _ [p] s (.lst (by rw [hide_out fr.1]; exact hp) pa) (.lst hp (pa.scal hs) (fun z => by cases z)) fun a z => ?_
    have : a = p := by simpa using z
    subst this
    exact fr
  · cases e2
theorem evF_ev (h : EvF K te fe) : Ev K te fe := fun O0 H O σ ρ d ρ' w e Q q => h O0 H O σ ρ d ρ' w e Q fun H' O' v fp s p _ _ => q H' O' v s p
theorem evL_ev (h : EvL K te fe) : Ev K te fe := fun O0 H O σ ρ d ρ' w e Q q => h O0 H O σ ρ d ρ' w e Q fun H' O' p vs ds s ed pa hp fr => by
  subst ed
  exact q H' O' _ s (.lst (by rw [hide_out fr.1]; exact hp) pa)
theorem evF_if (ht : Et K tt ft) (ha : EvF K te fe) (hb : EvF K tb fb) : EvF K (tIf tt te tb) (dIf ft fe fb) := fun O0 H O σ ρ d ρ' w e Q q => by
  unfold dIf at e
  obtain ⟨⟨x, ρ1⟩, e1, e⟩ := Option.bind_eq_some_iff.mp e
  refine ht O0 H O σ ρ x ρ1 w e1 _ fun H1 O1 s => ?_
  cases x with
  | true => exact iteT (ha O0 H1 O1 σ ρ1 d ρ' s.wd (by simpa using e) _ fun H2 O2 v fp s2 p tr fr => q H2 O2 v fp (s.trans s2 w) p tr fun a z => (fr a z).back s)
  | false => exact iteF (hb O0 H1 O1 σ ρ1 d ρ' s.wd (by simpa using e) _ fun H2 O2 v fp s2 p tr fr => q H2 O2 v fp (s.trans s2 w) p tr fun a z => (fr a z).back s)
theorem eaF_nil : EaF K tNil dNil := fun O0 H O σ ρ ds ρ' w e Q q => by
  cases e
  exact q H O _ [] (.rfl w) .nil .nil fun _ z => by cases z
theorem eaF_cons (ha : EvF K te fe) (hs : EaF K ts fs) : EaF K (tCons te ts) (dCons fe fs) := fun O0 H O σ ρ ds ρ' w e Q q => by
  obtain ⟨⟨x, xs⟩, e1, e2⟩ := dThen_some e
  cases e2
  obtain ⟨ρ1, e1, e2⟩ := dPair_some e1
  refine ha O0 H O σ ρ x ρ1 w e1 _ fun H1 O1 v1 f1 s1 p1 t1 r1 => ?_
  refine hs O0 H1 O1 σ ρ1 xs ρ' s1.wd e2 _ fun H2 O2 v2 f2 s2 p2 t2 r2 => ?_
  refine q H2 O2 _ (f1 ++ f2) (s1.trans s2 w) (.cons (Dq.le s2.le p1) p2) (.cons (t1.step s2 s1.wd fun a z => (r1 a z).1) t2 fun a z y => ?_) fun a z => ?_
  · obtain ⟨xs, e⟩ := t1.own a z
    rcases (r2 a y).2 with q1 | ⟨q1, _⟩
    · rw [e] at q1
      cases q1
    · exact (r1 a z).1 (s1.wd.own q1)
  · rcases List.mem_append.mp z with z | z
    · refine ⟨fun y => ?_, (r1 a z).2⟩
      rcases s2.grow a y with y | y
      · exact (r1 a z).1 y
      · obtain ⟨xs, e⟩ := t1.own a z
        rw [e] at y
        cases y
    · exact (r2 a z).back s1
theorem evF_tup (hs : EaF K ts fs) : EvF K (tTup ts) (dThen fs fun ds => (few ds).map .tuple) := fun O0 H O σ ρ d ρ' w e Q q => by
  obtain ⟨x, e1, e3⟩ := dThen_some e
  obtain ⟨y, e4, rfl⟩ := Option.map_eq_some_iff.mp e3
  obtain ⟨rfl, hl⟩ := few_some e4
  refine hs O0 H O σ ρ y ρ' w e1 _ fun H1 O1 v1 fp s1 p1 t1 r1 => ?_
  refine ⟨by rw [p1.len]; exact hl, fun p hp => ?_⟩
  refine q _ O1 _ fp (s1.trans (s1.wd.more (.new hp)) w) (.tup (.inl (.inl (by rw [hide_out (s1.wd.lists.out hp)]; exact if_pos rfl))) (DqAll.le (Le.hide (.new hp)) p1)) (.tup (if_pos rfl) (t1.new hp)) r1
theorem evF_lst (hs : EaF K ts fs) : EvF K (tLst ts) (dThen fs fun ds => (few ds).map .list) := fun O0 H O σ ρ d ρ' w e Q q => by
  obtain ⟨x, e1, e3⟩ := dThen_some e
  obtain ⟨y, e4, rfl⟩ := Option.map_eq_some_iff.mp e3
  obtain ⟨rfl, hl⟩ := few_some e4
  refine hs O0 H O σ ρ y ρ' w e1 _ fun H1 O1 v1 fp s1 p1 t1 r1 => ?_
  refine ⟨by rw [p1.len]; exact hl, fun p hp => ?_⟩
  have np : p ∉ fp := fun z => by
    obtain ⟨xs, e⟩ := t1.own p z
    rw [hp] at e
    cases e
  refine q _ O1 _ (p :: fp) (s1.trans (s1.wd.more (.new hp)) w) (.lst (by rw [hide_out (s1.wd.lists.out hp)]; exact if_pos rfl) (DqAll.le (Le.hide (.new hp)) p1)) (.lst (if_pos rfl) (t1.new hp) np) fun a z => ?_
  rcases List.mem_cons.mp z with z | z
  · subst z
    exact ⟨s1.wd.lists.out hp, Fr.new s1 hp⟩
  · exact r1 a z
/-- a list of this frame's own, given away -/
theorem evF_ow {i : Nat} : EvF K (tVar i) (dThen (dFrz i) flatD) := fun O0 H O σ ρ d ρ' w e Q q => by
  obtain ⟨x, e1, e2⟩ := dThen_some e
  have e1' := e1
  obtain ⟨⟨b, xs⟩, e0, e⟩ := Option.bind_eq_some_iff.mp e1
  simp only at e
  split at e
  · cases e
  · rename_i hb
    cases e
    have hρ := owAt_some e0
    obtain ⟨a, vs, s0, aO, ha, pa, fl⟩ := w.slot i _ hρ
    have own : Own σ ρ a := ⟨i, b, xs, hρ, s0⟩
    have hfl : xs.all scal = true ∧ d = .list xs := by
      unfold flatD at e2
      simp only at e2
      split at e2
      · rename_i h
        cases e2
        exact ⟨h, rfl⟩
      · cases e2
    obtain ⟨hs, rfl⟩ := hfl
    refine ⟨_, s0, ?_⟩
    have frz := ev_frz (K := K) (i := i) O0 H O σ ρ _ _ w e1' (fun v H' => v = .ref a → H' = H → Q v H') fun H' O' v s p ev eH => ?_
    · obtain ⟨v, e3, q3⟩ := frz
      rw [s0] at e3
      cases e3
      exact q3 rfl rfl
    · subst ev eH
      have nO : a ∉ O' := by
        cases p with
        | lst h t => exact fun z => by rw [hide_in z] at h; cases h
      refine q _ O' _ [a] s p (.lst ha (pa.scal hs) fun z => by cases z) fun c z => ?_
      have : c = a := by simpa using z
      subst this
      exact ⟨nO, .inr ⟨own, fun z => hb (fl.mpr z)⟩⟩
/-- a def of one's own that answers with a new tree -/
theorem evF_call {n : Nat} {g : List D → Option D} {E : XK} (ha : Ea K ts fs) (hn : ∀ ρ ds ρ', fs ρ = some (ds, ρ') → ds.length = n) : EvF K (tCall (spF K n g) [] E ts) (dThen fs g) := fun O0 H O σ ρ d ρ' w e Q q => by
  obtain ⟨x, e1, e3⟩ := dThen_some e
  refine ha O0 H O σ ρ x ρ' w e1 _ fun H1 O1 v1 s1 p1 => ?_
  refine ⟨O1, x, d, s1.wd.lists, ?_, ?_, e3, fun H3 v fp l hv tv fv => ?_⟩
  · rw [List.append_nil, p1.len]
    exact hn _ _ _ e1
  · rw [List.append_nil]
    exact p1
  · exact q H3 O1 v fp (s1.trans (s1.wd.more l) w) hv tv fun a z => ⟨s1.wd.lists.out (fv a z), Fr.new s1 (fv a z)⟩
theorem evF_kw {tk : TA} {fk : Den (List D)} {n : Nat} {g : List D → Option D} {E : XK} {gV : List V → List V → List V} {gD : List D → List D → List D} (hk : Ea K tk fk) (hg : ∀ H vs ds ws es, DqAll K H vs ds → DqAll K H ws es → DqAll K H (gV vs ws) (gD ds es))
    (hn : ∀ ρ es ρ', fk ρ = some (es, ρ') → (gD [] es).length = n) : EvF K (tCallK (spF K n g) gV E tNil tk) (dThen fk fun es => g (gD [] es)) := fun O0 H O σ ρ d ρ' w e Q q => by
  obtain ⟨x, e1, e3⟩ := dThen_some e
  show tk σ H _
  refine hk O0 H O σ ρ x ρ' w e1 _ fun H1 O1 v1 s1 p1 => ?_
  have p := hg _ _ _ _ _ (DqAll.nil (K := K) (H := hide H1 O1)) p1
  refine ⟨O1, gD [] x, d, s1.wd.lists, ?_, p, e3, fun H3 v fp l hv tv fv => ?_⟩
  · rw [p.len]
    exact hn _ _ _ e1
  · exact q H3 O1 v fp (s1.trans (s1.wd.more l) w) hv tv fun a z => ⟨s1.wd.lists.out (fv a z), Fr.new s1 (fv a z)⟩
theorem evF_kw1 {tk : TA} {fa : Den D} {g : List D → Option D} {E : XK} (hk : Ea K tk (dCons fa dNil)) : EvF K (tCallK (spF K 1 g) kw1 E tNil tk) (dThen (dCons fa dNil) fun es => g (kw1 [] es)) := evF_kw hk (fun _ _ _ _ _ => kw1_dq) fun ρ es ρ' e => by
  have z := hn_cons hn_nil _ _ _ e
  match es, z with
  | [_], _ => rfl
theorem evF_kw2 {tk : TA} {fa fb : Den D} {g : List D → Option D} {E : XK} (hk : Ea K tk (dCons fa (dCons fb dNil))) : EvF K (tCallK (spF K 2 g) kw2 E tNil tk) (dThen (dCons fa (dCons fb dNil)) fun es => g (kw2 [] es)) := evF_kw hk (fun _ _ _ _ _ => kw2_dq) fun ρ es ρ' e => by
  have z := hn_cons (hn_cons hn_nil) _ _ _ e
  match es, z with
  | [_, _], _ => rfl
theorem evF_kw2r {tk : TA} {fa fb : Den D} {g : List D → Option D} {E : XK} (hk : Ea K tk (dCons fa (dCons fb dNil))) : EvF K (tCallK (spF K 2 g) kw2r E tNil tk) (dThen (dCons fa (dCons fb dNil)) fun es => g (kw2r [] es)) := evF_kw hk (fun _ _ _ _ _ => kw2r_dq) fun ρ es ρ' e => by
  have z := hn_cons (hn_cons hn_nil) _ _ _ e
  match es, z with
  | [_, _], _ => rfl
/-! new lists -/
theorem evL_lst (hs : Ea K ts fs) : EvL K (tLst ts) (dThen fs fun ds => (few ds).map .list) := fun O0 H O σ ρ d ρ' w e Q q => by
  obtain ⟨x, e1, e3⟩ := dThen_some e
  obtain ⟨y, e4, rfl⟩ := Option.map_eq_some_iff.mp e3
  obtain ⟨rfl, hl⟩ := few_some e4
  refine hs O0 H O σ ρ y ρ' w e1 _ fun H1 O1 v1 s1 p1 => ?_
  refine ⟨by rw [p1.len]; exact hl, fun p hp => ?_⟩
  exact q _ O1 p v1 y (s1.trans (s1.wd.more (.new hp)) w) rfl (DqAll.le (Le.hide (.new hp)) p1) (if_pos rfl) ⟨s1.wd.lists.out hp, Fr.new s1 hp⟩
theorem evL_sl {tl th : TO} {fl fh : Den (Option Int)} (ha : Ev K te fe) (hl : Eo K tl fl) (hh : Eo K th fh) :
    EvL K (L2.tSl (rSlU K) te tl th) (dThen (dPair fe (dPair fl fh)) fun p => gSl p.1 p.2.1 p.2.2) := fun O0 H O σ ρ d ρ' w e Q q => by
  obtain ⟨⟨x, lo, hi⟩, e1, e3⟩ := dThen_some e
  obtain ⟨ρ1, e1, e2⟩ := dPair_some e1
  obtain ⟨ρ2, e2, e4⟩ := dPair_some e2
  refine ha O0 H O σ ρ x ρ1 w e1 _ fun H1 O1 v1 s1 p1 => ?_
  refine hl O0 H1 O1 σ ρ1 lo ρ2 s1.wd e2 _ fun H2 O2 s2 => ?_
  refine hh O0 H2 O2 σ ρ2 hi ρ' s2.wd e4 _ fun H3 O3 s3 => ?_
  have p3 := Dq.le s3.le (Dq.le s2.le p1)
  have s := (s1.trans s2 w).trans s3 w
  unfold gSl at e3
  simp only at e3
  split at e3
  · cases e3
    cases p3 with
    | lst h1 t1 =>
      rename_i a vs
      refine .inl ⟨_, _, rfl, .inl (.inl (hide_le _ _ h1)), fun p hp => ?_⟩
      refine q _ O3 p _ _ (s.trans (s.wd.more (.new hp)) w) rfl (DqAll.le (Le.hide (.new hp)) ?_) (if_pos rfl) ⟨s.wd.lists.out hp, Fr.new s hp⟩
      unfold cutV cutD
      rw [t1.len]
      exact (t1.drop _).take _
  · cases e3
theorem evL_slO {i : Nat} {tl th : TO} {fl fh : Den (Option Int)} (hl : Eo K tl fl) (hh : Eo K th fh) : EvL K (L2.tSl (rSlU K) (tVar i) tl th) (dSlO i fl fh) := fun O0 H O σ ρ d ρ' w e Q q => by
  obtain ⟨⟨b0, x0⟩, e0, e⟩ := Option.bind_eq_some_iff.mp e
  obtain ⟨⟨⟨lo, hi⟩, ρ2⟩, e1, e⟩ := Option.bind_eq_some_iff.mp e
  obtain ⟨⟨b, xs⟩, e2, e⟩ := Option.map_eq_some_iff.mp e
  cases e
  obtain ⟨ρ1, e3, e4⟩ := dPair_some e1
  obtain ⟨a, vs0, s0, _⟩ := w.slot i _ (owAt_some e0)
  refine ⟨_, s0, hl O0 H O σ ρ lo ρ1 w e3 _ fun H1 O1 s1 => ?_⟩
  refine hh O0 H1 O1 σ ρ1 hi ρ2 s1.wd e4 _ fun H2 O2 s2 => ?_
  obtain ⟨a', vs, g0, aO, ha, pa, _⟩ := s2.wd.slot i _ (owAt_some e2)
  rw [s0] at g0
  cases g0
  have s := s1.trans s2 w
  refine .inl ⟨a, vs, rfl, .inl (.inl ha), fun p hp => ?_⟩
  refine q _ O2 p _ (cutD xs lo hi) (s.trans (s.wd.more (.new hp)) w) rfl (DqAll.le (Le.hide (.new hp)) ?_) (if_pos rfl) ⟨s.wd.lists.out hp, Fr.new s hp⟩
  unfold cutV cutD
  rw [pa.len]
  exact (pa.drop _).take _
theorem evL_listOf (hs : Ea K ts fs) : EvL K (tCB (rListOf K) ts) (dThen fs gListOf) := fun O0 H O σ ρ d ρ' w e Q q => by
  obtain ⟨x, e1, e3⟩ := dThen_some e
  refine hs O0 H O σ ρ x ρ' w e1 _ fun H1 O1 v1 s1 p1 => ?_
  have fin : ∀ {ys : List V} {es : List D}, DqAll K (hide H1 O1) ys es → d = .list es → ∀ l, H1 l = none → Q (.ref l) (upd H1 l (.lst ys)) := fun t ed l hl =>
    q _ O1 l _ _ (s1.trans (s1.wd.more (.new hl)) w) ed (DqAll.le (Le.hide (.new hl)) t) (if_pos rfl) ⟨s1.wd.lists.out hl, Fr.new s1 hl⟩
  unfold gListOf at e3
  split at e3
  · cases e3
    obtain ⟨a, ys, rfl, h, t⟩ := one_list p1
    exact ⟨a, ys, rfl, .inl (.inl (.inl (hide_le _ _ h))), fin t rfl⟩
  · cases e3
    obtain ⟨a, ys, rfl, h, t⟩ := one_tup p1
    exact ⟨a, ys, rfl, .inr (SqT.le h hide_le), fin t rfl⟩
  · cases e3
/-! statements -/
theorem esF_of (h : Es K t f) (n : NoRt f) : EsF K t f := fun O0 H O σ ρ fl w e D hn hr => h O0 H O σ ρ fl w e D hn fun d ρ' ee => absurd (by rw [e, ee]) (n ρ d ρ')
theorem esF_seq (ht : EsF K t f) (hu : EsF K u g) : EsF K (L2.tSeq t u) (sSeq f g) := fun O0 H O σ ρ fl w e D hn hr => by
  unfold sSeq at e
  split at e
  · rename_i ρ1 e1
    refine ht O0 H O σ ρ _ w e1 _ (fun ρ2 q H1 O1 σ1 s => ?_) fun d ρ2 q => by cases q
    cases q
    exact hu O0 H1 O1 σ1 ρ1 fl s.wd e D (fun ρ' q H2 O2 σ2 s2 => hn ρ' q H2 O2 σ2 (s.trans s2 w)) fun d ρ' q H2 O2 σ2 v fp s2 p tr fr => hr d ρ' q H2 O2 σ2 v fp (s.trans s2 w) p tr fun a z => (fr a z).back s
  · rename_i h
    refine ht O0 H O σ ρ fl w e _ (fun ρ2 q => absurd (e.trans (congrArg some q)) (h ρ2)) fun d ρ2 q H1 O1 σ1 v fp s p tr fr => hr d ρ2 q H1 O1 σ1 v fp s p tr fr
theorem esF_ret (ha : EvF K te fe) : EsF K (L2.tRet te) (sRet fe) := fun O0 H O σ ρ fl w e D hn hr => by
  obtain ⟨⟨d, ρ'⟩, e1, e2⟩ := Option.map_eq_some_iff.mp e
  cases e2
  exact ha O0 H O σ ρ d ρ' w e1 _ fun H1 O1 v fp s p tr fr => hr d ρ' rfl H1 O1 σ v fp s p tr fr
theorem esF_if (hc : Et K tt ft) (ht : EsF K t f) (hu : EsF K u g) : EsF K (L2.tIfS tt t u) (sIf ft f g) := fun O0 H O σ ρ fl w e D hn hr => by
  obtain ⟨⟨b, ρ1⟩, e1, e⟩ := Option.bind_eq_some_iff.mp e
  refine hc O0 H O σ ρ b ρ1 w e1 _ fun H1 O1 s => ?_
  cases b with
  | true => exact iteT (ht O0 H1 O1 σ ρ1 fl s.wd (by simpa using e) D (fun ρ' q H2 O2 σ2 s2 => hn ρ' q H2 O2 σ2 (s.trans s2 w)) fun d ρ' q H2 O2 σ2 v fp s2 p tr fr => hr d ρ' q H2 O2 σ2 v fp (s.trans s2 w) p tr fun a z => (fr a z).back s)
  | false => exact iteF (hu O0 H1 O1 σ ρ1 fl s.wd (by simpa using e) D (fun ρ' q H2 O2 σ2 s2 => hn ρ' q H2 O2 σ2 (s.trans s2 w)) fun d ρ' q H2 O2 σ2 v fp s2 p tr fr => hr d ρ' q H2 O2 σ2 v fp (s.trans s2 w) p tr fun a z => (fr a z).back s)
/-! what never returns -/
theorem nr_next : NoRt sNext := fun _ _ _ e => by cases e
theorem nr_never : NoRt sNever := fun _ _ _ e => by cases e
theorem nr_seq (hf : NoRt f) (hg : NoRt g) : NoRt (sSeq f g) := fun ρ d ρ' e => by
  unfold sSeq at e
  split at e
  · exact hg _ _ _ e
  · exact hf _ _ _ e
theorem nr_asg {gf : D → Rho → Option Rho} : NoRt (sAsg fe gf) := fun ρ d ρ' e => by
  obtain ⟨x, _, e⟩ := Option.bind_eq_some_iff.mp e
  obtain ⟨y, _, e⟩ := Option.map_eq_some_iff.mp e
  cases e
theorem nr_drop : NoRt (sDrop fe) := fun ρ d ρ' e => by
  obtain ⟨x, _, e⟩ := Option.map_eq_some_iff.mp e
  cases e
theorem nr_if (hf : NoRt f) (hg : NoRt g) : NoRt (sIf ft f g) := fun ρ d ρ' e => by
  obtain ⟨x, _, e⟩ := Option.bind_eq_some_iff.mp e
  split at e
  · exact hf _ _ _ e
  · exact hg _ _ _ e
theorem nr_wl (hf : NoRt f) : ∀ (n : Nat) (ρ : Rho) (d : D) (ρ' : Rho), wl ft f n ρ ≠ some (.rt d ρ')
  | 0, _, _, _, e => by cases e
  | n + 1, ρ, d, ρ', e => by
    unfold wl at e
    obtain ⟨x, _, e⟩ := Option.bind_eq_some_iff.mp e
    split at e
    · split at e
      · exact nr_wl hf n _ _ _ e
      · exact hf _ _ _ e
    · cases e
theorem nr_while (hf : NoRt f) : NoRt (sWhile ft f) := fun ρ d ρ' e => by
  obtain ⟨n, e⟩ := sWhile_some e
  exact nr_wl hf n _ _ _ e
theorem nr_forL {gf : D → Rho → Option Rho} (hf : NoRt f) : ∀ (xs : List D) (ρ : Rho) (d : D) (ρ' : Rho), forL gf f xs ρ ≠ some (.rt d ρ')
  | [], ρ, d, ρ', e => by cases e
  | x :: xs, ρ, d, ρ', e => by
    unfold forL at e
    obtain ⟨ρ1, _, e⟩ := Option.bind_eq_some_iff.mp e
    split at e
    · exact nr_forL hf xs _ _ _ e
    · exact hf _ _ _ e
theorem nr_for {fi : Den (List D)} {gf : D → Rho → Option Rho} (hf : NoRt f) : NoRt (sFor fi gf f) := fun ρ d ρ' e => by
  obtain ⟨x, _, e⟩ := Option.bind_eq_some_iff.mp e
  exact nr_forL hf _ _ _ _ e
theorem nr_par {i j : Nat} : NoRt (sPar i j fs) := fun ρ d ρ' e => by
  obtain ⟨x, _, e⟩ := Option.bind_eq_some_iff.mp e
  split at e
  · split at e <;> cases e
  · cases e
theorem nr_aug {i : Nat} {o : Int → Int → Int} : NoRt (sAug i o fe) := fun ρ d ρ' e => by
  unfold sAug at e
  split at e
  · obtain ⟨x, _, e⟩ := Option.bind_eq_some_iff.mp e
    split at e <;> cases e
  · cases e
theorem nr_own {i : Nat} : NoRt (sOwn i fs) := fun ρ d ρ' e => by
  obtain ⟨x, _, e⟩ := Option.bind_eq_some_iff.mp e
  obtain ⟨y, _, e⟩ := Option.bind_eq_some_iff.mp e
  split at e <;> cases e
theorem nr_appO {i : Nat} : NoRt (sAppO i fe) := fun ρ d ρ' e => by
  obtain ⟨x, _, e⟩ := Option.bind_eq_some_iff.mp e
  obtain ⟨y, _, e⟩ := Option.bind_eq_some_iff.mp e
  obtain ⟨z, _, e⟩ := Option.bind_eq_some_iff.mp e
  obtain ⟨z, _, e⟩ := Option.map_eq_some_iff.mp e
  cases e
/-! a def by its body -/
theorem bodyF {N : List Str} {n : Nat} (he : EsF K t f) (hN : n ≤ N.length) {vs : List V} {H : Hp} {Q : VK} {E : XK} (h : spF K n (fnD f (N.length - n)) vs H Q E) (hq : ∀ v H', v = .non → Q v H' → True) :
    t { nx := fun _ H' => Q .non H', rt := Q } (start N vs) H := by
  obtain ⟨O, ds, z, l, hn, p, e, k⟩ := h
  have pl := p.len
  have w : Wd K O H O (start N vs) (rho0 ds (N.length - n)) := by
    refine ⟨?_, fun _ y => y, l, fun i s es => ?_, fun i j a b c xs ys h1 => ?_⟩
    · rw [start_length (by omega)]
      unfold rho0
      rw [List.length_append, List.length_map, List.length_replicate]
      omega
    · rcases rho0_get es with ⟨d, h1, rfl⟩ | rfl
      · obtain ⟨v, g1, g2⟩ := p.get h1
        refine ⟨v, ?_, g2⟩
        rw [start_get, if_pos (List.getElem?_eq_some_iff.mp g1).1, g1]
        rfl
      · trivial
    · rcases rho0_get h1 with ⟨d, _, q⟩ | q <;> cases q
  have none_own : ∀ a, ¬ Own (start N vs) (rho0 ds (N.length - n)) a := fun a ⟨i, b, xs, h1, _⟩ => by
    rcases rho0_get h1 with ⟨d, _, q⟩ | q <;> cases q
  have fin : ∀ {σ' ρ' H' O' v d fp}, Step K O (start N vs) (rho0 ds (N.length - n)) H O σ' ρ' H' O' → Dq K (hide H' O') v d → Tr H' v d fp → (∀ a ∈ fp, Fr O (start N vs) (rho0 ds (N.length - n)) H O' a) → d = z → Q v H' := fun {σ' ρ' H' O' v d fp} s q tr fr e => by
    subst e
    refine k H' v fp (fun b o eb => ?_) (Dq.le (out_le s.wd.base) q) tr fun a z => ?_
    · by_cases y : b ∈ O
      · rw [s.far b y (none_own b)]
        exact eb
      · exact s.keep b o eb y
    · rcases (fr a z).2 with y | ⟨y, _⟩
      · exact y
      · exact absurd y (none_own a)
  unfold fnD at e
  cases q : f (rho0 ds (N.length - n)) with
  | none => rw [q] at e; cases e
  | some fl =>
    rw [q] at e
    refine he O H O _ _ fl w q _ (fun ρ' e' H' O' σ' s => ?_) fun d ρ' e' H' O' σ' v fp s pv tr fr => ?_
    · subst e'
      cases e
      exact fin (fp := []) s .non .non (fun _ z => by cases z) rfl
    · subst e'
      cases e
      exact fin s pv tr fr rfl
end
section
variable {P : Program} {w : World} {K : PySem.W.Frag} {mg : Str → Option Value} {base : Heap}
theorem gF2 {x qual : Str} {st : Stmt} {fa : Addr} {fd : FuncData} {N ps : List Str} {k n : Nat} {f : DenS} {m : List D → Option D} (F : Fun K x qual st fa fd) (S : FnScope N ps (defScope st)) (hn : ps.length = n) (hN : n ≤ N.length) (hm : m = fnD f (N.length - n))
    (h : ∃ t, EsF K t f ∧ ∀ (cdv : Value) (A : Around) (outer : List Env) (s : Shared) (H : Hp) (E : XK), A.guards = some [] → Room k (A.deeper (envOfC qual (defScope st) s.heap.objs.size fa cdv)) →
      PSs (cxOf CX0 P w K mg base N qual (defScope st) fa cdv A outer s H E).nox (defBody st) t) : FnG P w K mg base (k + 1) fa fd ps (spF K n m) := by
  obtain ⟨t, he, hb⟩ := h
  subst hn hm
  exact gOf F S (fun vs H Q E ⟨_, _, _, _, hn, _⟩ => hn) fun cdv A outer s H vs Q E hA hr h => ⟨t, hb cdv A outer s H E hA hr, bodyF he hN h (fun _ _ _ _ => trivial)⟩
/-- what is new is data -/
theorem FnG.data {k n : Nat} {fa : Addr} {fd : FuncData} {ps : List Str} {m : List D → Option D} (F : FnG P w K mg base k fa fd ps (spF K n m)) : FnG P w K mg base k fa fd ps (spD K n m) := by
  have up : ∀ {vs H Q E}, spD K n m vs H Q E → spF K n m vs H Q E := fun ⟨O, ds, z, l, hn, p, e, k⟩ => ⟨O, ds, z, l, hn, p, e, fun H' v _ le q _ _ => k H' v le q⟩
  exact ⟨fun vs H Q E h => F.lenG vs H Q E (up h), fun A hA o s H args us vs Q E hr e b r h => F.runG A hA o s H args us vs Q E hr e b r (up h)⟩
end
end Ly

set_option Elab.async false
set_option linter.all false
set_option maxRecDepth 100000
set_option maxHeartbeats 1000000
namespace Ly
open PySem PySem.Spec PyProof.Rows L2
section
variable {K : PySem.W.Frag} {vs : List Nat} {tg : TG} {gf : D → Rho → Option Rho} {te : TE} {tt : TT} {fe : Den D} {ft : Den Bool} {ts : TA} {fs : Den (List D)}
theorem evL_lc {wi : TI} {fi : Den (List D)} (hi : Ei K wi fi) (hg : Egv K vs tg gf) (ht : Et K tt ft) (he : Ev K te fe) : EvL K (tLc wi tg tt te vs) (dComp fi vs gf ft fe) := fun O0 H O σ ρ d ρ' w e Q q => by
  obtain ⟨⟨ds, ρ1⟩, e1, e⟩ := Option.bind_eq_some_iff.mp e
  simp only at e
  split at e
  case isFalse => cases e
  rename_i hno
  obtain ⟨⟨all, ρe⟩, e2, e⟩ := Option.bind_eq_some_iff.mp e
  obtain ⟨all', e3, e⟩ := Option.map_eq_some_iff.mp e
  cases e
  obtain ⟨rfl, hz⟩ := few_some e3
  simp only at hz e3 e2 hno q
  refine hi O0 H O σ ρ ds ρ1 w e1 _ fun H1 O1 J s src => ?_
  intro A hA
  have nA1 : A ∉ O1 := s.wd.lists.out hA
  have w1 := s.wd
  -- the beginning
  have l0 : Le H1 (upd H1 A (.lst [])) := .new hA
  have wA : Wd K (A :: O0) (upd H1 A (.lst [])) (A :: O1) (wipe σ vs) (unset ρ1 vs) := by
    have w2 := ((w1.more l0).wd.forget (vs := vs)).wd
    have hh : Le (hide (upd H1 A (.lst [])) O1) (upd H1 A (.lst [])) := hide_le
    have nd : Le (hide H1 O1) (hide (upd H1 A (.lst [])) (A :: O1)) := fun b o eb => by
      obtain ⟨n, hb⟩ := hide_some eb
      have bA : b ≠ A := ne_of_none hb hA
      rw [hide_out (by simp [bA, n]), upd_ne bA]
      exact hb
    refine ⟨w2.len, fun a ha => ?_, fun a ha => ?_, fun i sl ei => ?_, w2.inj⟩
    · rcases List.mem_cons.mp ha with z | z
      · exact z ▸ List.mem_cons_self
      · exact List.mem_cons_of_mem _ (w1.base a z)
    · rcases List.mem_cons.mp ha with z | z
      · exact ⟨[], by rw [z]; exact if_pos rfl⟩
      · obtain ⟨xs, ex⟩ := w1.lists a z
        exact ⟨xs, l0 a _ ex⟩
    · have q0 := (w1.forget (vs := vs)).wd.slot i sl ei
      cases sl with
      | un => trivial
      | sh d =>
        obtain ⟨v, h1, h2⟩ := q0
        exact ⟨v, h1, Dq.le nd h2⟩
      | ow b es =>
        obtain ⟨a, xs, h1, h2, h3, h4, h5⟩ := q0
        refine ⟨a, xs, h1, List.mem_cons_of_mem _ h2, l0 a _ h3, DqAll.le nd h4, h5.trans ⟨List.mem_cons_of_mem _, fun y => ?_⟩⟩
        rcases List.mem_cons.mp y with y | y
        · exact absurd (by rw [← y]; exact h2) nA1
        · exact y
  have st0 : Stp σ ρ1 H1 O1 (wipe σ vs) (unset ρ1 vs) (upd H1 A (.lst [])) (A :: O1) := by
    refine ⟨fun b o eb _ => l0 b o eb, fun b hb => ?_, fun b hb _ => ?_, (w1.forget (vs := vs)).same⟩
    · rcases List.mem_cons.mp hb with z | z
      · exact .inr (z ▸ hA)
      · exact .inl z
    · rw [upd_ne fun z : b = A => nA1 (by rw [← z]; exact hb)]
  have n0 : ¬ Own (wipe σ vs) (unset ρ1 vs) A := fun z => ((w1.forget (vs := vs)).same A z).elim (fun y => nA1 (w1.own y)) fun y => nA1 ((w1.forget (vs := vs)).wd.own z)
  refine ⟨fun i m H2 => ∃ O2 ρ2 acc es rest, Wd K (A :: O0) H2 O2 (wipe σ vs) (unset ρ2 vs) ∧ Stp σ ρ1 H1 O1 (wipe σ vs) (unset ρ2 vs) H2 O2 ∧ ¬ Own (wipe σ vs) (unset ρ2 vs) A ∧ ρ2.length = ρ1.length ∧
      H2 A = some (.lst acc) ∧ DqAll K (hide H2 O2) acc es ∧ compL vs gf ft fe (ds.drop i) ρ2 = some (rest, ρe) ∧ es ++ rest = all' ∧ i ≤ ds.length ∧ m = ds.length - i,
    ⟨ds.length, A :: O1, ρ1, [], [], all', wA, st0, n0, rfl, if_pos rfl, .nil, by simpa using e2, rfl, Nat.zero_le _, rfl⟩, ?_⟩
  rintro i m H2 ⟨O2, ρ2, acc, es, rest, w2, s2, n2, len2, hA2, pa, ec, ea, hil, rfl⟩
  have sr := src i H2 O2 w2.lists s2.le
  by_cases hl : i < ds.length
  · right
    obtain ⟨d, hd⟩ : ∃ d, ds[i]? = some d := ⟨ds[i], by simp [hl]⟩
    obtain ⟨go, yl⟩ := sr.1 d hd
    have dr : ds.drop i = d :: ds.drop (i + 1) := by
      rw [List.drop_eq_getElem_cons hl]
      simp [List.getElem?_eq_getElem hl] at hd
      rw [hd]
    rw [dr] at ec
    unfold compL at ec
    obtain ⟨ρ3, e3, e4⟩ := Option.bind_eq_some_iff.mp ec
    obtain ⟨⟨b, ρ4⟩, e4, e5⟩ := Option.bind_eq_some_iff.mp e4
    simp only at e5
    refine ⟨go, fun H' => ∃ O2 ρ2 acc es rest, Wd K (A :: O0) H' O2 (wipe σ vs) (unset ρ2 vs) ∧ Stp σ ρ1 H1 O1 (wipe σ vs) (unset ρ2 vs) H' O2 ∧ ¬ Own (wipe σ vs) (unset ρ2 vs) A ∧ ρ2.length = ρ1.length ∧
      H' A = some (.lst acc) ∧ DqAll K (hide H' O2) acc es ∧ compL vs gf ft fe (ds.drop (i + 1)) ρ2 = some (rest, ρe) ∧ es ++ rest = all', ?_, fun x H3 y => ?_⟩
    · rintro H' ⟨O', ρ', acc', es', rest', a1, a2, a3, a4, a5, a6, a7, a8⟩
      exact ⟨ds.length - (i + 1), by omega, O', ρ', acc', es', rest', a1, a2, a3, a4, a5, a6, a7, a8, hl, rfl⟩
    obtain ⟨l3, p3⟩ := yl x H3 y
    have s3 := w2.more l3
    have t3 : Stp σ ρ1 H1 O1 (wipe σ vs) (unset ρ2 vs) H3 O2 := s2.trans s3.stp w1.lists
    have A3 : H3 A = some (.lst acc) := l3 A _ hA2
    refine hg (A :: O0) H3 O2 (wipe σ vs) (unset ρ2 vs) x d ρ3 s3.wd p3 e3 _ fun σ4 u4 s4 => ?_
    rw [wipe_wipe] at u4
    refine ⟨u4, ?_⟩
    refine ht (A :: O0) H3 O2 σ4 ρ3 b ρ4 s4.wd e4 _ fun H5 O5 s5 => ?_
    have s35 := s4.trans s5 s3.wd
    have noA : ∀ {σx ρx Hx Ox}, Step K (A :: O0) (wipe σ vs) (unset ρ2 vs) H3 O2 σx ρx Hx Ox → ¬ Own σx ρx A := fun sx z => (sx.same A z).elim n2 fun y => by rw [A3] at y; cases y
    have atA : ∀ {σx ρx Hx Ox}, Step K (A :: O0) (wipe σ vs) (unset ρ2 vs) H3 O2 σx ρx Hx Ox → Hx A = some (.lst acc) := fun sx => by
      rw [sx.far A (w2.base A List.mem_cons_self) n2]
      exact A3
    have lenx : ∀ {ρx Hx Ox}, Step K (A :: O0) (wipe σ vs) (unset ρ2 vs) H3 O2 σ4 ρx Hx Ox → ρx.length = ρ1.length := fun sx => by
      have a := sx.wd.len
      have b := s4.wd.len
      have c : σ4.length = (wipe σ4 vs).length := (wipe_length _ _).symm
      rw [u4, wipe_length, w1.len] at c
      rw [← a, c]
    cases b with
    | false =>
      refine iteF ?_
      have e5 : compL vs gf ft fe (ds.drop (i + 1)) ρ4 = some (rest, ρe) := by simpa using e5
      have f := s35.wd.forget (vs := vs)
      rw [u4] at f
      have s36 := s35.trans f s3.wd
      refine ⟨O5, ρ4, acc, es, rest, s36.wd, t3.trans s36.stp w1.lists, noA s36, lenx s35, atA s35, DqAll.le s36.le (DqAll.le (Le.hide l3) pa), e5, ea⟩
    | true =>
      refine iteT ?_
      have e5 : ((fe ρ4).bind fun y => (compL vs gf ft fe (ds.drop (i + 1)) y.2).map fun r => (y.1 :: r.1, r.2)) = some (rest, ρe) := by simpa using e5
      obtain ⟨⟨dy, ρ6⟩, e6, e7⟩ := Option.bind_eq_some_iff.mp e5
      obtain ⟨⟨rest', ρe'⟩, e9, e8⟩ := Option.map_eq_some_iff.mp e7
      cases e8
      refine he (A :: O0) H5 O5 σ4 ρ4 dy ρ6 s5.wd e6 _ fun H6 O6 v6 s6 p6 => ?_
      have s36 := s35.trans s6 s3.wd
      have f := s36.wd.forget (vs := vs)
      rw [u4] at f
      have s37 := s36.trans f s3.wd
      have pk := s37.wd.poke (xs := acc ++ [v6]) (s37.wd.base A List.mem_cons_self) (noA s37)
      have hlen : acc.length = es.length := pa.len
      refine ⟨acc, atA s36, ?_, O6, ρ6, acc ++ [v6], es ++ [dy], rest', pk.1, ?_, noA s37, lenx s36, if_pos rfl, ?_, e9, ?_⟩
      · have : (es ++ dy :: rest').length ≤ sizeLine := by rw [ea]; exact hz
        simp at this
        omega
      · have t7 := t3.trans s37.stp w1.lists
        refine ⟨fun b o eb nb => ?_, t7.grow, fun b hb n => ?_, t7.same⟩
        · rw [upd_ne (ne_of_none eb hA)]
          exact t7.keep b o eb nb
        · rw [upd_ne fun z : b = A => nA1 (by rw [← z]; exact hb)]
          exact t7.far b hb n
      · rw [pk.2]
        refine DqAll.app (DqAll.le s37.le (DqAll.le (Le.hide l3) pa)) (.cons ?_ .nil)
        exact p6
      · rw [← ea]
        simp
  · left
    refine ⟨sr.2 (by omega), ?_⟩
    rw [List.drop_eq_nil_of_le (by omega)] at ec
    cases ec
    have hes : es = all' := by rw [← ea]; simp
    subst hes
    let O' := O2.filter fun b => decide (b ≠ A)
    have mem : ∀ b, b ∈ O' ↔ b ∈ O2 ∧ b ≠ A := fun b => by simp [O']
    have up : Le (hide H2 O2) (hide H2 O') := fun b o eb => by
      obtain ⟨n, hb⟩ := hide_some eb
      rw [hide_out fun z => n ((mem b).mp z).1]
      exact hb
    have lenr : ρ1.length = ρe.length := len2.symm
    have ownB : ∀ {j : Nat} {b : Bool} {xs : List D} {a : Addr}, (back ρ1 ρe vs)[j]? = some (.ow b xs) → σ[j]? = some (some (.ref a)) → (unset ρe vs)[j]? = some (.ow b xs) ∧ (wipe σ vs)[j]? = some (some (.ref a)) := fun {j b xs a} h1 h2 => by
      rw [back_get lenr] at h1
      rw [unset_get, wipe_get]
      by_cases z : j ∈ vs
      · rw [if_pos z] at h1
        have z1 := List.all_eq_true.mp hno j z
        rw [h1] at z1
        cases z1
      · rw [if_neg z] at h1 ⊢
        rw [if_neg z]
        exact ⟨h1, h2⟩
    have nA0 : A ∉ O0 := fun z => nA1 (w1.base A z)
    have wB : Wd K O0 H2 O' σ (back ρ1 ρe vs) := by
      refine ⟨by rw [back_length, ← lenr]; exact w1.len, fun a ha => (mem a).mpr ⟨w2.base a (List.mem_cons_of_mem _ ha), fun z => nA0 (z ▸ ha)⟩, fun a ha => w2.lists a ((mem a).mp ha).1, fun j sl ej => ?_,
        fun j k a b c xs ys h1 h2 h3 h4 => w2.inj j k a b c xs ys (ownB h1 h3).1 (ownB h2 h4).1 (ownB h1 h3).2 (ownB h2 h4).2⟩
      rw [back_get lenr] at ej
      by_cases z : j ∈ vs
      · rw [if_pos z] at ej
        have q0 := w1.slot j sl ej
        cases sl with
        | un => trivial
        | sh d =>
          obtain ⟨v, h1, h2⟩ := q0
          exact ⟨v, h1, Dq.le up (Dq.le s2.le h2)⟩
        | ow b xs =>
          have z1 := List.all_eq_true.mp hno j z
          rw [ej] at z1
          cases z1
      · rw [if_neg z] at ej
        have q0 := w2.slot j sl (by rw [unset_get, if_neg z]; exact ej)
        rw [wipe_get, if_neg z] at q0
        cases sl with
        | un => trivial
        | sh d =>
          obtain ⟨v, h1, h2⟩ := q0
          exact ⟨v, h1, Dq.le up h2⟩
        | ow b xs =>
          obtain ⟨a, vs', h1, h2, h3, h4, h5⟩ := q0
          have nA : a ≠ A := fun y => n2 (by
            subst y
            exact ⟨j, b, xs, by rw [unset_get, if_neg z]; exact ej, by rw [wipe_get, if_neg z]; exact h1⟩)
          refine ⟨a, vs', h1, (mem a).mpr ⟨h2, nA⟩, h3, DqAll.le up h4, h5.trans ⟨fun y => ?_, List.mem_cons_of_mem _⟩⟩
          rcases List.mem_cons.mp y with y | y
          · exact absurd y nA
          · exact y
    have sB : Step K O0 σ ρ1 H1 O1 σ (back ρ1 ρe vs) H2 O' := by
      refine ⟨s2.keep, fun b hb => s2.grow b ((mem b).mp hb).1, s2.far, fun a ⟨j, b, xs, h1, h2⟩ => s2.same a ⟨j, b, xs, ownB h1 h2⟩, wB⟩
    exact q H2 O' A acc es (s.trans sB w) rfl (DqAll.le up pa) hA2 ⟨fun z => ((mem A).mp z).2 rfl, Fr.new s hA⟩
/-- (own, data, data) = f(..), f of new trees -/
def sOwn3 (i j k : Nat) (fs : Den (List D)) (g : List D → Option D) : DenS := fun ρ => (fs ρ).bind fun x => (g x.1).bind fun z => match z with
  | .tuple [.list ds, b, c] => if i < x.2.length ∧ j < x.2.length ∧ k < x.2.length ∧ i ≠ j ∧ i ≠ k ∧ j ≠ k then some (.nx (((x.2.set i (.ow false ds)).set j (.sh b)).set k (.sh c))) else none
  | _ => none
theorem nr_own3 {i j k : Nat} {g : List D → Option D} : NoRt (sOwn3 i j k fs g) := fun ρ d ρ' e => by
  obtain ⟨x, _, e⟩ := Option.bind_eq_some_iff.mp e
  obtain ⟨y, _, e⟩ := Option.bind_eq_some_iff.mp e
  split at e
  · split at e <;> cases e
  · cases e
/-- a slot takes a new list as its own -/
theorem Wd.take {O0 : List Addr} {σ : L2.St} {ρ : Rho} {H : Hp} {O : List Addr} {i : Nat} {ds : List D} {a : Addr} {xs : List V} (w : Wd K O0 H O σ ρ) (hi : i < ρ.length) (hO : a ∉ O) (ha : H a = some (.lst xs)) (n : ∀ (j : Nat) (d : D) (v : V), ρ[j]? = some (.sh d) → σ[j]? = some (some v) → Dq K (hide H (a :: O)) v d)
    (no : ∀ (j : Nat) (b : Bool) (es : List D) (vs : List V) (c : Addr), ρ[j]? = some (.ow b es) → σ[j]? = some (some (.ref c)) → H c = some (.lst vs) → DqAll K (hide H (a :: O)) vs es) (p : DqAll K (hide H (a :: O)) xs ds) :
    Wd K O0 H (a :: O) (σ.set i (some (.ref a))) (ρ.set i (.ow false ds)) := by
  have hi' : i < σ.length := by rw [w.len]; exact hi
  have own : ∀ {j : Nat} {c : Bool} {ys : List D} {b : Addr}, (ρ.set i (.ow false ds))[j]? = some (.ow c ys) → (σ.set i (some (.ref a)))[j]? = some (some (.ref b)) → (i = j ∧ b = a) ∨ (i ≠ j ∧ ρ[j]? = some (.ow c ys) ∧ σ[j]? = some (some (.ref b))) := fun {j c ys b} h1 h2 => by
    by_cases z : i = j
    · subst z
      rw [List.getElem?_set_self hi'] at h2
      cases h2
      exact .inl ⟨rfl, rfl⟩
    · rw [List.getElem?_set_ne z] at h1 h2
      exact .inr ⟨z, h1, h2⟩
  have inO : ∀ {j : Nat} {c : Bool} {ys : List D} {b : Addr}, ρ[j]? = some (.ow c ys) → σ[j]? = some (some (.ref b)) → b ∈ O := fun {j c ys b} h1 h2 => w.own ⟨j, c, ys, h1, h2⟩
  refine ⟨by rw [List.length_set, List.length_set]; exact w.len, fun b hb => List.mem_cons_of_mem _ (w.base b hb), fun b hb => ?_, fun j sl e => ?_, fun j k b c1 c2 ys zs h1 h2 h3 h4 => ?_⟩
  · rcases List.mem_cons.mp hb with z | z
    · exact ⟨xs, by rw [z]; exact ha⟩
    · exact w.lists b z
  · by_cases z : i = j
    · subst z
      rw [List.getElem?_set_self hi] at e
      cases e
      exact ⟨a, xs, by rw [List.getElem?_set_self hi'], List.mem_cons_self, ha, p, ⟨fun y => (by cases y), fun y => absurd (w.base a y) hO⟩⟩
    · rw [List.getElem?_set_ne z] at e ⊢
      have g := w.slot j sl e
      cases sl with
      | un => trivial
      | sh d =>
        obtain ⟨v, h1, h2⟩ := g
        exact ⟨v, h1, n j d v e h1⟩
      | ow c ys =>
        obtain ⟨a', us, h1, h2, h3, h4, h5⟩ := g
        exact ⟨a', us, h1, List.mem_cons_of_mem _ h2, h3, no j c ys us a' e h1 h3, h5⟩
  · rcases own h1 h3 with ⟨z1, y1⟩ | ⟨z1, g1, g2⟩
    · rcases own h2 h4 with ⟨z2, y2⟩ | ⟨z2, g3, g4⟩
      · exact z1.symm.trans z2
      · exact absurd (y1 ▸ inO g3 g4) hO
    · rcases own h2 h4 with ⟨z2, y2⟩ | ⟨z2, g3, g4⟩
      · exact absurd (y2 ▸ inO g1 g2) hO
      · exact w.inj j k b _ _ _ _ g1 g3 g2 g4
mutual
theorem Tr.dq {H : Hp} {O : List Addr} (l : ListsAt H O) : ∀ {v : V} {d : D} {fp : List Addr}, Tr H v d fp → (∀ a ∈ fp, a ∉ O) → Dq K (hide H O) v d
  | _, _, _, .non, _ => .non
  | _, _, _, .bl b, _ => .bl b
  | _, _, _, .int i, _ => .int i
  | _, _, _, .str x, _ => .str x
  | _, _, _, .lst h t _, n => .lst (by rw [hide_out (n _ (List.mem_cons_self ..))]; exact h) (TrAll.dq l t fun a z => n a (List.mem_cons_of_mem _ z))
  | _, _, _, .tup h t, n => .tup (.inl (.inl (by rw [hide_out fun z => by obtain ⟨xs, e⟩ := l _ z; rw [h] at e; cases e]; exact h))) (TrAll.dq l t n)
theorem TrAll.dq {H : Hp} {O : List Addr} (l : ListsAt H O) : ∀ {vs : List V} {ds : List D} {fp : List Addr}, TrAll H vs ds fp → (∀ a ∈ fp, a ∉ O) → DqAll K (hide H O) vs ds
  | _, _, _, .nil, _ => .nil
  | _, _, _, .cons h t _, n => .cons (Tr.dq l h fun a z => n a (List.mem_append_left _ z)) (TrAll.dq l t fun a z => n a (List.mem_append_right _ z))
end
theorem es_own3 {i j k n : Nat} {g : List D → Option D} {E : XK} (ha : Ea K ts fs) (hn : ∀ ρ ds ρ', fs ρ = some (ds, ρ') → ds.length = n) :
    Es K (L2.tAsg (tCall (spF K n g) [] E ts) (gTup K 3 (gCons (gName i) (gCons (gName j) (gCons (gName k) gNil))))) (sOwn3 i j k fs g) := fun O0 H O σ ρ fl w e Dn hnx hr => by
  obtain ⟨⟨x, ρ1⟩, e1, e⟩ := Option.bind_eq_some_iff.mp e
  obtain ⟨z, e3, e⟩ := Option.bind_eq_some_iff.mp e
  simp only at e e3
  split at e
  case h_2 => cases e
  rename_i ds b c
  split at e
  case isFalse => cases e
  rename_i hh
  obtain ⟨hi, hj, hk, ij, ik, jk⟩ := hh
  cases e
  refine ha O0 H O σ ρ x ρ1 w e1 _ fun H1 O1 v1 s1 p1 => ?_
  refine ⟨O1, x, _, s1.wd.lists, ?_, ?_, e3, fun H2 v fp l hv tv fv => ?_⟩
  · rw [List.append_nil, p1.len]
    exact hn _ _ _ e1
  · rw [List.append_nil]
    exact p1
  have nO : ∀ a ∈ fp, a ∉ O1 := fun a z => s1.wd.lists.out (fv a z)
  have s12 := s1.trans (s1.wd.more l) w
  have w2 := s12.wd
  cases tv with
  | tup hA tA =>
  rename_i A vs'
  cases tA with
  | cons t1 tr1 d1 =>
  cases tr1 with
  | cons t2 tr2 d2 =>
  cases tr2 with
  | cons t3 tr3 d3 =>
  cases tr3
  cases t1 with
  | lst hx tx nx =>
  rename_i v2 f2 v3 f3 a xs fx
  have ma : a ∈ (a :: fx) ++ (f2 ++ (f3 ++ [])) := List.mem_append_left _ (List.mem_cons_self ..)
  have aO : a ∉ O1 := nO a ma
  have lA : ListsAt H2 (a :: O1) := fun b z => by
    rcases List.mem_cons.mp z with z | z
    · exact ⟨xs, by rw [z]; exact hx⟩
    · exact w2.lists b z
  have le : Le (hide H1 O1) (hide H2 (a :: O1)) := fun b o eb => by
    obtain ⟨n, hb⟩ := hide_some eb
    have bA : b ≠ a := ne_of_none hb (fv a ma)
    rw [hide_out (by simp [bA, n])]
    exact l b o hb
  have q1 : DqAll K (hide H2 (a :: O1)) xs ds := tx.dq lA fun b z y => by
    rcases List.mem_cons.mp y with y | y
    · exact nx (y ▸ z)
    · exact nO b (List.mem_append_left _ (List.mem_cons_of_mem _ z)) y
  have q2 : Dq K (hide H2 (a :: O1)) v2 b := t2.dq lA fun b z y => by
    rcases List.mem_cons.mp y with y | y
    · exact d1 a (List.mem_cons_self ..) (List.mem_append_left _ (y ▸ z))
    · exact nO b (List.mem_append_right _ (List.mem_append_left _ z)) y
  have q3 : Dq K (hide H2 (a :: O1)) v3 c := t3.dq lA fun b z y => by
    rcases List.mem_cons.mp y with y | y
    · exact d1 a (List.mem_cons_self ..) (List.mem_append_right _ (List.mem_append_left _ (y ▸ z)))
    · exact nO b (List.mem_append_right _ (List.mem_append_right _ (List.mem_append_left _ z))) y
  have i' : i < ρ1.length := hi
  have w3 : Wd K O0 H2 (a :: O1) (σ.set i (some (.ref a))) (ρ1.set i (.ow false ds)) := by
    refine w2.take i' aO hx (fun m d v hm hv => ?_) (fun m b es vs cc hm hc hcc => ?_) q1
    · obtain ⟨v', h1, h2⟩ := s1.wd.slot m _ hm
      rw [hv] at h1
      cases h1
      exact Dq.le le h2
    · obtain ⟨a', us, h1, h2, h3, h4, h5⟩ := s1.wd.slot m _ hm
      rw [hc] at h1
      cases h1
      have e5 := l _ _ h3
      rw [hcc] at e5
      cases e5
      exact DqAll.le le h4
  have i2 : i < σ.length := by rw [s1.wd.len]; exact i'
  have st : Step K O0 σ ρ H O (σ.set i (some (.ref a))) (ρ1.set i (.ow false ds)) H2 (a :: O1) := by
    have fa := Fr.new s1 (fv a ma)
    refine ⟨s12.keep, fun b hb => ?_, s12.far, fun b ⟨m, cc, ys, h1, h2⟩ => ?_, w3⟩
    · rcases List.mem_cons.mp hb with z | z
      · subst z
        rcases fa with y | ⟨y, _⟩
        · exact .inr y
        · exact .inl (w.own y)
      · exact s12.grow b z
    · by_cases z : i = m
      · subst z
        rw [List.getElem?_set_self i2] at h2
        cases h2
        rcases fa with y | ⟨y, _⟩
        · exact .inr y
        · exact .inl y
      · rw [List.getElem?_set_ne z] at h1 h2
        exact s12.same b ⟨m, cc, ys, h1, h2⟩
  refine ⟨A, _, rfl, SqT.of hA, rfl, _, _, rfl, _, _, rfl, _, _, rfl, rfl, ?_⟩
  have sj := w3.put (i := j) (by rw [List.length_set]; exact hj) q2
  have sk := sj.wd.put (i := k) (by rw [List.length_set, List.length_set]; exact hk) q3
  exact hnx _ rfl H2 _ _ ((st.trans sj w).trans sk w)
/-! divmod -/
def gDivmod : List D → Option D
  | [.int i, .int j] => if cDiv i j = true then some (.tuple [.int (i / j), .int (i % j)]) else none
  | _ => none
def rDivmod : RC := fun xs H Q => ∃ i j, xs = [.int i, .int j] ∧ CDivP i j ∧ ∀ p, H p = none → Q (.ref p) (upd H p (.tup [.int (i / j), .int (i % j)]))
theorem c_divmod : OpN K rDivmod gDivmod := fun H O vs ds z l p e1 Q k => by
  unfold gDivmod at e1
  split at e1
  · split at e1
    · rename_i hh
      cases e1
      have h2 := of_decide_eq_true (p := 0 < _ ∧ _ < 9000) hh
      exact ⟨_, _, two_ints p, ⟨h2.1, PyProof.noPylong_of_log2 h2.2⟩, k.tup l (.cons (.int _) (.cons (.int _) .nil))⟩
    · cases e1
  · cases e1
theorem call_dm {X : Cx} : CallR X (.builtin "divmod") rDivmod := call_divmodW
end
end Ly

set_option Elab.async false
set_option linter.all false
set_option maxRecDepth 100000
set_option maxHeartbeats 1000000
namespace Ly
open PySem PySem.Spec PyProof.Rows L2
/-! ### copies, and what is the same -/
section
variable {K : PySem.W.Frag}
theorem SqT.tyx {H : Hp} {a : Addr} {xs : List V} (h : SqT K H a xs) : TyX K H (.ref a) (.type "tuple") := by
  rcases h with (h | ⟨o, h⟩) | ⟨o, its, n, h, c, _⟩
  · exact .base (.tup h)
  · exact .fTuple h
  · exact .kTuple h c
theorem Dq.ty {H : Hp} {v : V} {d : D} (t : Dq K H v d) : TyX K H v (.type (tyN d)) := by
  cases t with
  | non => exact .base .non
  | bl b => exact .base (.bl b)
  | int i => exact .base (.int i)
  | str x => exact .base (.str x)
  | lst h _ => exact .base (.lst h)
  | tup h _ => exact SqT.tyx h
theorem TyX.le {H H' : Hp} {v : V} {d : D} (t : Dq K H v d) (l : Le H H') : TyX K H' v (.type (tyN d)) := (Dq.le l t).ty
def isT : D → Bool
  | .tuple _ => true
  | _ => false
theorem Dq.kitL {H : Hp} {v : V} {d : D} (t : Dq K H v d) : PySem.W.kitOne K (.type (tyN d)) (.type "list") = some (isL d) := by
  cases t with
  | non => exact kit_ty kb1
  | bl b => exact kit_ty kb2
  | int i => exact kit_ty kb3
  | str x => exact kit_ty kb4
  | lst h _ => exact kit_ty kb5
  | tup h _ => exact kit_ty kb6
theorem Dq.kitT {H : Hp} {v : V} {d : D} (t : Dq K H v d) : PySem.W.kitOne K (.type (tyN d)) (.type "tuple") = some (isT d) := by
  cases t with
  | non => exact kit_ty kc1
  | bl b => exact kit_ty kc2
  | int i => exact kit_ty kc3
  | str x => exact kit_ty kc4
  | lst h _ => exact kit_ty kc5
  | tup h _ => exact kit_ty kc6
end
mutual
/-- no list, no tuple is too long -/
def slimC : D → Bool
  | .list ds => decide (ds.length ≤ 100000) && slimCAll ds
  | .tuple ds => decide (ds.length ≤ 100000) && slimCAll ds
  | _ => true
def slimCAll : List D → Bool
  | [] => true
  | d :: ds => slimC d && slimCAll ds
end
theorem slimCAll_at : ∀ {ds : List D} {i : Nat} {d : D}, slimCAll ds = true → ds[i]? = some d → slimC d = true
  | [], _, _, _, e => by simp at e
  | c :: ds, 0, d, h, e => by
    have e1 : c = d := by simpa using e
    subst e1
    simp only [slimCAll, Bool.and_eq_true] at h
    exact h.1
  | c :: ds, i + 1, d, h, e => by
    simp only [slimCAll, Bool.and_eq_true] at h
    exact slimCAll_at h.2 (by simpa using e)
section
variable (K : PySem.W.Frag)
def spCopy (dep : Nat) : Sp := fun vs H Q _ => ∃ (O : List Addr) (v : V) (d : D), vs = [v] ∧ ListsAt H O ∧ Dq K (hide H O) v d ∧ d.depth < dep ∧ slimC d = true ∧
  ∀ H' v' fp, Le H H' → Tr H' v' d fp → (∀ a ∈ fp, H a = none) → Q v' H'
def rTupOf : RC := fun xs H Q => ∃ p ys, xs = [.ref p] ∧ ((SqL K H p ys ∧ ∀ l, H l = none → Q (.ref l) (upd H l (.tup ys))) ∨ (SqT K H p ys ∧ Q (.ref p) H))
end
section
variable {X : Cx} {K : PySem.W.Frag}
theorem tof_K (hK : X.K = K) : CallR X (.type "tuple") (rTupOf K) := by subst hK; exact call_tuple_of
end
section
variable {K : PySem.W.Frag} {dep : Nat}
theorem Le.from_step {O : List Addr} {σ σ' : L2.St} {ρ ρ' : Rho} {H H' : Hp} {O' : List Addr} (s : Step K O σ ρ H O σ' ρ' H' O') (n : ∀ a, ¬ Own σ ρ a) : Le H H' := fun b o e => by
  by_cases y : b ∈ O
  · rw [s.far b y (n b)]
    exact e
  · exact s.keep b o e y
theorem none_le {H H' : Hp} (l : Le H H') {a : Addr} (h : H' a = none) : H a = none := by
  cases e : H a with
  | none => rfl
  | some o =>
    rw [l a o e] at h
    cases h
/-- [copy(part) for part in ..] -/
theorem lc_copy {wi : TI} {fi : Den (List D)} {E : XK} (hi : Ei K wi fi) {O : List Addr} {H : Hp} {σ : L2.St} {ρ ρ' : Rho} {ds : List D} (w : Wd K O H O σ ρ) (hno : ∀ a, ¬ Own σ ρ a) (hf : fi ρ = some (ds, ρ')) (h2 : 1 < σ.length)
    (hd : ∀ d ∈ ds, d.depth < dep) (hs : slimCAll ds = true) (hn : ds.length ≤ 100000) {Q : VK}
    (q : ∀ H' A acc fp, Le H H' → H' A = some (.lst acc) → TrAll H' acc ds fp → A ∉ fp → H A = none → (∀ a ∈ fp, H a = none) → Q (.ref A) H') :
    tLc wi (gName 1) tYes (tCall (spCopy K dep) [] E (tCons (tVar 1) tNil)) [1] σ H Q := by
  refine hi O H O σ ρ ds ρ' w hf _ fun H1 O1 J s src => ?_
  have l1 := Le.from_step s hno
  intro A hA
  have hA0 : H A = none := none_le l1 hA
  have nA1 : A ∉ O1 := s.wd.lists.out hA
  refine ⟨fun i m H2 => ∃ acc fp, Le H1 H2 ∧ H2 A = some (.lst acc) ∧ TrAll H2 acc (ds.take i) fp ∧ A ∉ fp ∧ (∀ a ∈ fp, H1 a = none) ∧ i ≤ ds.length ∧ m = ds.length - i, ⟨ds.length, [], [], .new hA, if_pos rfl, .nil, (fun z => by cases z), (fun _ z => by cases z), Nat.zero_le _, rfl⟩, ?_⟩
  rintro i m H2 ⟨acc, fp, l2, hA2, ta, nA, fn, hil, rfl⟩
  have li2 : ListsAt H2 O1 := s.wd.lists.le l2
  have sr := src i H2 O1 li2 (Le.hide l2)
  by_cases hl : i < ds.length
  · right
    obtain ⟨d, hd'⟩ : ∃ d, ds[i]? = some d := ⟨ds[i], by simp [hl]⟩
    obtain ⟨go, yl⟩ := sr.1 d hd'
    refine ⟨go, fun H' => ∃ acc fp, Le H1 H' ∧ H' A = some (.lst acc) ∧ TrAll H' acc (ds.take (i + 1)) fp ∧ A ∉ fp ∧ (∀ a ∈ fp, H1 a = none), ?_, fun x H3 y => ?_⟩
    · rintro H' ⟨acc', fp', a1, a2, a3, a4, a5⟩
      exact ⟨ds.length - (i + 1), by omega, acc', fp', a1, a2, a3, a4, a5, hl, rfl⟩
    obtain ⟨l3, p3⟩ := yl x H3 y
    refine ⟨?_, ?_⟩
    · exact (wipe_set (List.mem_singleton.mpr rfl)).trans wipe_wipe
    · unfold tYes
      simp only [if_true]
      have g1 : (((wipe σ [1]).set 1 (some x)))[1]? = some (some x) := by
        rw [List.getElem?_set_self (by rw [wipe_length]; exact h2)]
      refine ⟨x, g1, ?_⟩
      have lb3 : ListsAt H3 O1 := li2.le l3
      refine ⟨O1, x, d, rfl, lb3, p3, hd d (List.mem_of_getElem? hd'), slimCAll_at hs hd', fun H4 v4 f4 l4 t4 n4 => ?_⟩
      have A3 := l3 _ _ hA2
      have A4 := l4 _ _ A3
      have e1 : ds.take (i + 1) = ds.take i ++ [d] := by rw [List.take_add_one, hd']; rfl
      have l24 := l3.trans l4
      have hlen : acc.length = i := by
        rw [ta.len, List.length_take]
        omega
      have nA4 : A ∉ f4 := fun z => by
        have := n4 A z
        rw [A3] at this
        cases this
      have up : ∀ (b : Addr) (o : HO), H4 b = some o → b ≠ A → upd H4 A (.lst (acc ++ [v4])) b = some o := fun b o e n => by
        rw [upd_ne n]
        exact e
      have ta' : TrAll (upd H4 A (.lst (acc ++ [v4]))) acc (ds.take i) fp := ta.keep (fun a ha => by
        obtain ⟨xs, e⟩ := ta.own a ha
        rw [e]
        exact up a _ (l24 a _ e) fun z => nA (z ▸ ha)) fun a xs e => up a _ (l24 a _ e) fun z => by rw [z, hA2] at e; cases e
      have t4' : Tr (upd H4 A (.lst (acc ++ [v4]))) v4 d f4 := t4.keep (fun a ha => by
        rw [upd_ne fun z : a = A => nA4 (z ▸ ha)]) fun a xs e => up a _ e fun z => by rw [z, A4] at e; cases e
      refine ⟨acc, A4, ?_, acc ++ [v4], fp ++ f4, fun b o e => ?_, if_pos rfl, ?_, ?_, ?_⟩
      · have : (100000 : Nat) < sizeLine := by decide
        omega
      · have e4 := l4 b o (l3 b o (l2 b o e))
        exact up b o e4 (ne_of_none e hA)
      · rw [e1]
        have app : ∀ {H0 : Hp} {vs : List V} {es : List D} {f : List Addr} {v : V} {d : D} {g : List Addr}, TrAll H0 vs es f → Tr H0 v d g → (∀ a ∈ f, a ∉ g) → TrAll H0 (vs ++ [v]) (es ++ [d]) (f ++ g) := by
          intro H0 vs
          induction vs with
          | nil =>
            intro es f v d g z y _
            cases z
            have := TrAll.cons y (.nil (H := H0)) (fun _ _ z => by cases z)
            simpa using this
          | cons x vs ih =>
            intro es f v d g z y n
            cases z with
            | cons z1 z2 z3 =>
              rename_i f1 f2
              have r := TrAll.cons z1 (ih z2 y fun a ha => n a (List.mem_append_right _ ha)) (fun a ha hb => (List.mem_append.mp hb).elim (z3 a ha) (n a (List.mem_append_left _ ha)))
              rw [List.append_assoc]
              exact r
        refine app ta' t4' fun a ha hb => ?_
        obtain ⟨xs, e⟩ := ta.own a ha
        have e3 := l3 a _ e
        rw [n4 a hb] at e3
        cases e3
      · intro z
        exact (List.mem_append.mp z).elim nA nA4
      · intro a z
        rcases List.mem_append.mp z with z | z
        · exact fn a z
        · exact none_le (l2.trans l3) (n4 a z)
  · left
    refine ⟨sr.2 (by omega), ?_⟩
    rw [List.take_of_length_le (by omega)] at ta
    exact q H2 A acc fp (l1.trans l2) hA2 ta nA hA0 fun a z => none_le l1 (fn a z)
/-- the whole def, over its parts -/
def t_copy (K : PySem.W.Frag) (sp : Sp) : TS :=
  tSeq (tIfS (tTr K (tCB (rIsiU K) (tCons (tVar 0) (tCons (tC (.ty "list")) tNil)))) (tRet (tLc (iList K (tVar 0)) (gName 1) tYes (tCall sp [] E0 (tCons (tVar 1) tNil)) [1])) tNext)
  (tSeq (tIfS (tTr K (tCB (rIsiU K) (tCons (tVar 0) (tCons (tC (.ty "tuple")) tNil)))) (tRet (tCB (rTupOf K) (tCons (tLc (iTup K (tVar 0)) (gName 1) tYes (tCall sp [] E0 (tCons (tVar 1) tNil)) [1]) tNil))) tNext)
  (tRet (tVar 0)))
theorem depth_mem : ∀ {ds : List PyData} {d : PyData}, d ∈ ds → d.depth ≤ PyData.depthAll ds
  | c :: ds, d, h => by
    simp only [PyData.depthAll]
    rcases List.mem_cons.mp h with rfl | h
    · omega
    · have := depth_mem h
      omega
theorem copy_read {O : List Addr} {v : V} {d : D} {H : Hp} {Q : VK} (l : ListsAt H O) (p : Dq K (hide H O) v d) (hd : d.depth < dep + 1) (hs : slimC d = true) (q : ∀ H' v' fp, Le H H' → Tr H' v' d fp → (∀ a ∈ fp, H a = none) → Q v' H') {N : List Str} (hN : N.length = 2) :
    t_copy K (spCopy K dep) { nx := fun _ H' => Q .non H', rt := Q } (L2.start N [v]) H := by
  have hst : L2.start N [v] = [some v, none] := by
    unfold L2.start
    rw [hN]
    rfl
  rw [hst]
  have w : Wd K O H O [some v, none] [.sh d, .un] := by
    refine ⟨rfl, fun _ y => y, l, fun i s es => ?_, fun i j a b c xs ys h1 => ?_⟩
    · rcases i with _ | _ | i
      · simp at es
        subst es
        exact ⟨v, rfl, p⟩
      · simp at es
        subst es
        trivial
      · simp at es
    · rcases i with _ | _ | i
      · simp at h1
      · simp at h1
      · simp at h1
  have hno : ∀ a, ¬ Own [some v, none] [.sh d, .un] a := fun a ⟨i, b, xs, h1, _⟩ => by
    rcases i with _ | _ | i <;> simp at h1
  have var : (dV 0) [.sh d, .un] = some (d, [.sh d, .un]) := rfl
  refine ⟨v, rfl, Or.inr (Or.inl ⟨v, .ty "list", _, _, isL d, rfl, .ty _, (Dq.le hide_le p).ty, p.kitL, _, rfl, ?_⟩)⟩
  cases hL : isL d with
  | true =>
    refine iteT ?_
    obtain ⟨ds, rfl⟩ : ∃ ds, d = .list ds := by cases d <;> first | exact ⟨_, rfl⟩ | cases hL
    simp only [slimC, Bool.and_eq_true, decide_eq_true_eq] at hs
    simp only [PyData.depth] at hd
    have hdd : ∀ e ∈ ds, PyData.depth e < dep := fun e he => Nat.lt_of_le_of_lt (depth_mem he) (by omega)
    refine lc_copy (fi := dThen (dV 0) asList) (ds := ds) (ei_list ev_var) w hno rfl (by simp) hdd hs.2 hs.1 fun H' A acc fp le hA ta nA hn fn => ?_
    refine q H' _ (A :: fp) le (.lst hA ta nA) fun a z => ?_
    rcases List.mem_cons.mp z with z | z
    · exact z ▸ hn
    · exact fn a z
  | false =>
    refine iteF ?_
    refine ⟨v, rfl, Or.inr (Or.inl ⟨v, .ty "tuple", _, _, isT d, rfl, .ty _, (Dq.le hide_le p).ty, p.kitT, _, rfl, ?_⟩)⟩
    cases hT : isT d with
    | true =>
      refine iteT ?_
      obtain ⟨ds, rfl⟩ : ∃ ds, d = .tuple ds := by cases d <;> first | exact ⟨_, rfl⟩ | cases hT
      simp only [slimC, Bool.and_eq_true, decide_eq_true_eq] at hs
      simp only [PyData.depth] at hd
      have hdd : ∀ e ∈ ds, PyData.depth e < dep := fun e he => Nat.lt_of_le_of_lt (depth_mem he) (by omega)
      show tLc (iTup K (tVar 0)) (gName 1) tYes (tCall (spCopy K dep) [] E0 (tCons (tVar 1) tNil)) [1] [some v, none] H (fun x H1 => rTupOf K [x] H1 Q)
      refine lc_copy (fi := dThen (dV 0) asTup) (ds := ds) (ei_tup ev_var) w hno rfl (by simp) hdd hs.2 hs.1 fun H' A acc fp le hA ta nA hn fn => ?_
      refine ⟨A, acc, rfl, .inl ⟨SqL.of hA, fun p hp => ?_⟩⟩
      have pn : H p = none := none_le le hp
      exact q _ _ fp (le.trans (.new hp)) (.tup (if_pos rfl) (ta.new hp)) fn
    | false =>
      refine iteF ?_
      refine ⟨v, rfl, ?_⟩
      have sc : scal d = true := by
        cases p with
        | non => rfl
        | bl _ => rfl
        | int _ => rfl
        | str _ => rfl
        | lst _ _ => cases hL
        | tup _ _ => cases hT
      exact q H v [] .rfl (p.scal sc H) fun _ z => by cases z
structure OkS (d : D) : Prop where
  fine : Fine d
  s1 : slim d = true
  s2 : slimC d = true
  dp : d.depth < 7
  ln : cst d + 1940 * nl d ≤ 10000000
theorem OkS.rk {d : D} (o : OkS d) : Fine (Ly.rk d 7).1 := by
  have := o.ln
  refine o.fine.rk (by omega) ?_ o.ln
  have h : nl d ≤ 10000000 := by omega
  have e : (7 : Int) + (10000000 : Nat) < 2 ^ 200 := by decide
  omega
def spSame (K : PySem.W.Frag) : Sp := fun vs H Q _ => ∃ (v w : V) (d : D) (fp O : List Addr), vs = [v, w] ∧ ListsAt H O ∧ Tr H v d fp ∧ Dq K (hide H O) w d ∧ OkS d ∧
  ∀ H' d', (∀ b o, H b = some o → b ∉ fp → H' b = some o) → Tr H' v d' fp → Q (.bl true) H'
def t_same (K : PySem.W.Frag) (sc sr : Sp) : TS :=
  tSeq (tAsg (tCall sc [] E0 (tCons (tVar 1) tNil)) (gName 2))
  (tSeq (tIfS (tTest (tOp (rNeU K) (tCB (rRepr K) (tCons (tVar 0) tNil)) (tCB (rRepr K) (tCons (tVar 2) tNil)))) (tRet (tC (.bl false))) tNext)
  (tSeq (tDrop (tCall sr [] E0 (tCons (tVar 0) (tCons (tLst (tCons (tC (.int 7)) tNil)) tNil))))
  (tSeq (tDrop (tCall sr [] E0 (tCons (tVar 2) (tCons (tLst (tCons (tC (.int 7)) tNil)) tNil))))
  (tRet (tOp (rEqU K) (tCB (rRepr K) (tCons (tVar 0) tNil)) (tCB (rRepr K) (tCons (tVar 2) tNil)))))))
theorem same_read {O : List Addr} {v u : V} {d : D} {fp : List Addr} {H : Hp} {Q : VK} (l : ListsAt H O) (t : Tr H v d fp) (p : Dq K (hide H O) u d) (ok : OkS d)
    (q : ∀ H' d', (∀ b o, H b = some o → b ∉ fp → H' b = some o) → Tr H' v d' fp → Q (.bl true) H') {N : List Str} (hN : N.length = 3) :
    t_same K (spCopy K 7) (spRanks 7) { nx := fun _ H' => Q .non H', rt := Q } (L2.start N [v, u]) H := by
  have hst : L2.start N [v, u] = [some v, some u, none] := by
    unfold L2.start
    rw [hN]
    rfl
  rw [hst]
  refine ⟨u, rfl, O, u, d, rfl, l, p, ok.dp, ok.s2, fun H1 v2 f2 l1 t2 n2 => ?_⟩
  have t1 : Tr H1 v d fp := t.keep (fun a ha => by
    obtain ⟨xs, e⟩ := t.own a ha
    rw [e]
    exact l1 a _ e) fun a xs e => l1 a _ e
  have dj : ∀ a ∈ fp, a ∉ f2 := fun a ha hb => by
    obtain ⟨xs, e⟩ := t.own a ha
    rw [n2 a hb] at e
    cases e
  have F := ok.fine
  have dl : d.depth ≤ 100 := Nat.le_trans F.dp (by decide)
  refine ⟨v, rfl, v, d, rfl, t1.dp, F.sh, dl, F.len, v2, rfl, v2, d, rfl, t2.dp, F.sh, dl, F.len, ?_⟩
  refine .inl ⟨rfl, _, rfl, ?_⟩
  have e0 : (!decide (V.str d.shown = V.str d.shown)) = false := by simp
  rw [e0]
  refine iteF ?_
  refine ⟨v, rfl, ⟨by show 1 ≤ sizeLine; decide, fun r1 h1 => ?_⟩⟩
  have nr1 : r1 ∉ fp := fun z => by
    obtain ⟨xs, e⟩ := t1.own r1 z
    rw [h1] at e
    cases e
  have nr1' : r1 ∉ f2 := fun z => by
    obtain ⟨xs, e⟩ := t2.own r1 z
    rw [h1] at e
    cases e
  refine ⟨v, r1, d, fp, 7, rfl, t1.new h1, upd_same, nr1, ok.dp, ok.s1, fun H3 b3 t3 hr3 => ?_⟩
  have tu : ∀ {H4 H5 : Hp} {x : V} {e : D} {f g : List Addr} {r : Addr}, Tr H4 x e f → But (r :: g) H4 H5 → (∀ a ∈ f, a ∉ g) → (∃ xs, H4 r = some (.lst xs)) → r ∉ f → (∀ a ∈ g, ∃ xs, H4 a = some (.lst xs)) → Tr H5 x e f := by
    intro H4 H5 x e f g r tt b n hr hf hg
    refine tt.but b (fun a ha z => ?_) fun a xs ea z => ?_
    · rcases List.mem_cons.mp z with z | z
      · exact hf (z ▸ ha)
      · exact n a ha z
    · rcases List.mem_cons.mp z with z | z
      · obtain ⟨ys, er⟩ := hr
        rw [z, er] at ea
        cases ea
      · obtain ⟨ys, er⟩ := hg a z
        rw [er] at ea
        cases ea
  have t2' : Tr (upd H1 r1 (.lst [.int 7])) v2 d f2 := t2.new h1
  have t23 : Tr H3 v2 d f2 := tu t2' b3 (fun a ha z => dj a z ha) ⟨_, upd_same⟩ nr1' fun a z => (t1.new h1).own a z
  refine ⟨v2, rfl, ⟨by show 1 ≤ sizeLine; decide, fun r2 h2 => ?_⟩⟩
  have nr2 : r2 ∉ fp := fun z => by
    obtain ⟨xs, e⟩ := t3.own r2 z
    rw [h2] at e
    cases e
  have nr2' : r2 ∉ f2 := fun z => by
    obtain ⟨xs, e⟩ := t23.own r2 z
    rw [h2] at e
    cases e
  refine ⟨v2, r2, d, f2, 7, rfl, t23.new h2, upd_same, nr2', ok.dp, ok.s1, fun H5 b5 t5 hr5 => ?_⟩
  have t35 : Tr H5 v (rk d 7).1 fp := tu (t3.new h2) b5 dj ⟨_, upd_same⟩ nr2 fun a z => (t23.new h2).own a z
  have G := ok.rk
  have dg : (rk d 7).1.depth ≤ 100 := Nat.le_trans G.dp (by decide)
  refine ⟨v, rfl, v, _, rfl, t35.dp, G.sh, dg, G.len, v2, rfl, v2, _, rfl, t5.dp, G.sh, dg, G.len, .inl ⟨rfl, ?_⟩⟩
  have e1 : decide (V.str (rk d 7).1.shown = V.str (rk d 7).1.shown) = true := by simp
  rw [e1]
  refine q H5 _ (fun b o e n => ?_) t35
  have a1 := l1 b o e
  have a2 : (upd H1 r1 (.lst [.int 7])) b = some o := by
    rw [upd_ne (ne_of_none a1 h1)]
    exact a1
  have nb1 : b ≠ r1 := ne_of_none a1 h1
  have a3 := b3 b o a2 fun z => (List.mem_cons.mp z).elim nb1 n
  have nb2 : b ≠ r2 := ne_of_none a3 h2
  have a4 : (upd H3 r2 (.lst [.int 7])) b = some o := by
    rw [upd_ne nb2]
    exact a3
  exact b5 b o a4 fun z => (List.mem_cons.mp z).elim nb2 fun y => by rw [n2 b y] at e; cases e
end
end Ly

set_option Elab.async false
set_option linter.all false
set_option maxRecDepth 100000
set_option maxHeartbeats 1000000
namespace Ly
open PySem PySem.Spec PyProof.Rows L2
/-! ### new trees that no slot sees -/
def Fg (O0 : List Addr) (σ : L2.St) (ρ ρ' : Rho) (H : Hp) (O' : List Addr) (a : Addr) : Prop := a ∉ O' ∧ (H a = none ∨ (Own σ ρ a ∧ a ∉ O0)) ∧ ¬ Own σ ρ' a
section
variable (K : PySem.W.Frag)
def EvG (te : TE) (f : Den D) : Prop := ∀ (O0 : List Addr) (H : Hp) (O : List Addr) (σ : L2.St) (ρ : Rho) (d : D) (ρ' : Rho), Wd K O0 H O σ ρ → f ρ = some (d, ρ') →
  ∀ Q : VK, (∀ H' O' v fp, Stp σ ρ H O σ ρ' H' O' → Wd K (fp ++ O0) H' (fp ++ O') σ ρ' → Tr H' v d fp → (∀ a ∈ fp, Fg O0 σ ρ ρ' H O' a) → Q v H') → te σ H Q
def EaG (ts : TA) (f : Den (List D)) : Prop := ∀ (O0 : List Addr) (H : Hp) (O : List Addr) (σ : L2.St) (ρ : Rho) (ds : List D) (ρ' : Rho), Wd K O0 H O σ ρ → f ρ = some (ds, ρ') →
  ∀ Q : List V → Hp → Prop, (∀ H' O' vs fp, Stp σ ρ H O σ ρ' H' O' → Wd K (fp ++ O0) H' (fp ++ O') σ ρ' → TrAll H' vs ds fp → (∀ a ∈ fp, Fg O0 σ ρ ρ' H O' a) → Q vs H') → ts σ H Q
end
section
variable {K : PySem.W.Frag} {te tb : TE} {ts : TA} {tt : TT} {fe fb : Den D} {fs : Den (List D)} {ft : Den Bool}
section
variable {O0 P0 : List Addr} {σ σ' : L2.St} {ρ ρ' ρ1 : Rho} {H H' H1 : Hp} {O O' O1 P fp : List Addr} {a : Addr}
theorem hide_same (h : ∀ a, a ∈ O ↔ a ∈ P) : hide H O = hide H P := by
  funext b
  by_cases z : b ∈ O
  · rw [hide_in z, hide_in ((h b).mp z)]
  · rw [hide_out z, hide_out fun y => z ((h b).mpr y)]
theorem Wd.perm (w : Wd K O0 H O σ ρ) (h : ∀ a, a ∈ O ↔ a ∈ P) (h0 : ∀ a, a ∈ O0 ↔ a ∈ P0) : Wd K P0 H P σ ρ := by
  refine ⟨w.len, fun a z => (h a).mp (w.base a ((h0 a).mpr z)), fun a z => w.lists a ((h a).mpr z), fun i s e => ?_, w.inj⟩
  have q := w.slot i s e
  cases s with
  | un => trivial
  | sh d =>
    obtain ⟨v, h1, h2⟩ := q
    exact ⟨v, h1, by rw [← hide_same h]; exact h2⟩
  | ow b ds =>
    obtain ⟨a, vs, h1, h2, h3, h4, h5⟩ := q
    exact ⟨a, vs, h1, (h a).mp h2, h3, by rw [← hide_same h]; exact h4, h5.trans (h0 a)⟩
/-- the heap grows by lists that nobody sees -/
theorem Wd.veil (w : Wd K O0 H O σ ρ) (l : Le H H') (n : ∀ a ∈ fp, H a = none) (x : ListsAt H' fp) : Wd K (fp ++ O0) H' (fp ++ O) σ ρ := by
  have le : Le (hide H O) (hide H' (fp ++ O)) := fun b o eb => by
    obtain ⟨m, hb⟩ := hide_some eb
    rw [hide_out fun z => (List.mem_append.mp z).elim (fun y => by rw [n b y] at hb; cases hb) m]
    exact l b o hb
  refine ⟨w.len, fun a z => List.mem_append.mpr ((List.mem_append.mp z).imp id (w.base a)), fun a z => (List.mem_append.mp z).elim (x a) fun y => by obtain ⟨xs, e⟩ := w.lists a y; exact ⟨xs, l a _ e⟩, fun i s e => ?_, w.inj⟩
  have q := w.slot i s e
  cases s with
  | un => trivial
  | sh d =>
    obtain ⟨v, h1, h2⟩ := q
    exact ⟨v, h1, Dq.le le h2⟩
  | ow b ds =>
    obtain ⟨a, vs, h1, h2, h3, h4, h5⟩ := q
    refine ⟨a, vs, h1, List.mem_append_right _ h2, l a _ h3, DqAll.le le h4, h5.trans ⟨List.mem_append_right _, fun z => (List.mem_append.mp z).elim (fun y => by rw [n a y] at h3; cases h3) id⟩⟩
theorem Fg.new (s : Stp σ ρ H O σ ρ1 H1 O1) (w : ∀ a ∈ O0, ∃ xs, H1 a = some (.lst xs)) (h : H1 a = none) : H a = none ∨ (Own σ ρ a ∧ a ∉ O0) := by
  cases e : H a with
  | none => exact .inl rfl
  | some o =>
    by_cases z : a ∈ O
    · by_cases y : Own σ ρ a
      · refine .inr ⟨y, fun x => ?_⟩
        obtain ⟨xs, q⟩ := w a x
        rw [h] at q
        cases q
      · rw [s.far a z y, e] at h
        cases h
    · rw [s.keep a o e z] at h
      cases h
theorem Stp.veil (s : Stp σ ρ H O σ ρ1 H1 O1) (w : Wd K O0 H O σ ρ) (f : ∀ a ∈ fp, Fg O0 σ ρ ρ1 H O1 a) : Stp σ ρ H O σ ρ1 H1 (fp ++ O1) :=
  ⟨s.keep, fun b z => (List.mem_append.mp z).elim (fun y => (f b y).2.1.elim .inr fun q => .inl (w.own q.1)) (s.grow b), s.far, s.same⟩
end
theorem evG_call {n : Nat} {g : List D → Option D} {E : XK} (ha : Ea K ts fs) (hn : ∀ ρ ds ρ', fs ρ = some (ds, ρ') → ds.length = n) : EvG K (tCall (spF K n g) [] E ts) (dThen fs g) := fun O0 H O σ ρ d ρ' w e Q q => by
  obtain ⟨x, e1, e3⟩ := dThen_some e
  refine ha O0 H O σ ρ x ρ' w e1 _ fun H1 O1 v1 s1 p1 => ?_
  refine ⟨O1, x, d, s1.wd.lists, ?_, ?_, e3, fun H3 v fp l hv tv fv => ?_⟩
  · rw [List.append_nil, p1.len]
    exact hn _ _ _ e1
  · rw [List.append_nil]
    exact p1
  · exact q H3 O1 v fp (s1.trans (s1.wd.more l) w).stp (s1.wd.veil l fv tv.own) tv fun a z => ⟨s1.wd.lists.out (fv a z), Fr.new s1 (fv a z), fun y => s1.wd.lists.out (fv a z) (s1.wd.own y)⟩
theorem evG_kw {tk : TA} {fk : Den (List D)} {n : Nat} {g : List D → Option D} {E : XK} {gV : List V → List V → List V} {gD : List D → List D → List D} (hk : Ea K tk fk) (hg : ∀ H vs ds ws es, DqAll K H vs ds → DqAll K H ws es → DqAll K H (gV vs ws) (gD ds es))
    (hn : ∀ ρ es ρ', fk ρ = some (es, ρ') → (gD [] es).length = n) : EvG K (tCallK (spF K n g) gV E tNil tk) (dThen fk fun es => g (gD [] es)) := fun O0 H O σ ρ d ρ' w e Q q => by
  obtain ⟨x, e1, e3⟩ := dThen_some e
  show tk σ H _
  refine hk O0 H O σ ρ x ρ' w e1 _ fun H1 O1 v1 s1 p1 => ?_
  have p := hg _ _ _ _ _ (DqAll.nil (K := K) (H := hide H1 O1)) p1
  refine ⟨O1, gD [] x, d, s1.wd.lists, ?_, p, e3, fun H3 v fp l hv tv fv => ?_⟩
  · rw [p.len]
    exact hn _ _ _ e1
  · exact q H3 O1 v fp (s1.trans (s1.wd.more l) w).stp (s1.wd.veil l fv tv.own) tv fun a z => ⟨s1.wd.lists.out (fv a z), Fr.new s1 (fv a z), fun y => s1.wd.lists.out (fv a z) (s1.wd.own y)⟩
theorem evG_kw1 {tk : TA} {fa : Den D} {g : List D → Option D} {E : XK} (hk : Ea K tk (dCons fa dNil)) : EvG K (tCallK (spF K 1 g) kw1 E tNil tk) (dThen (dCons fa dNil) fun es => g (kw1 [] es)) := evG_kw hk (fun _ _ _ _ _ => kw1_dq) fun ρ es ρ' e => by
  have z := hn_cons hn_nil _ _ _ e
  match es, z with
  | [_], _ => rfl
theorem evG_kw2 {tk : TA} {fa fb : Den D} {g : List D → Option D} {E : XK} (hk : Ea K tk (dCons fa (dCons fb dNil))) : EvG K (tCallK (spF K 2 g) kw2 E tNil tk) (dThen (dCons fa (dCons fb dNil)) fun es => g (kw2 [] es)) := evG_kw hk (fun _ _ _ _ _ => kw2_dq) fun ρ es ρ' e => by
  have z := hn_cons (hn_cons hn_nil) _ _ _ e
  match es, z with
  | [_, _], _ => rfl
theorem evG_kw2r {tk : TA} {fa fb : Den D} {g : List D → Option D} {E : XK} (hk : Ea K tk (dCons fa (dCons fb dNil))) : EvG K (tCallK (spF K 2 g) kw2r E tNil tk) (dThen (dCons fa (dCons fb dNil)) fun es => g (kw2r [] es)) := evG_kw hk (fun _ _ _ _ _ => kw2r_dq) fun ρ es ρ' e => by
  have z := hn_cons (hn_cons hn_nil) _ _ _ e
  match es, z with
  | [_, _], _ => rfl
theorem evG_if (ht : Et K tt ft) (ha : EvG K te fe) (hb : EvG K tb fb) : EvG K (tIf tt te tb) (dIf ft fe fb) := fun O0 H O σ ρ d ρ' w e Q q => by
  unfold dIf at e
  obtain ⟨⟨x, ρ1⟩, e1, e⟩ := Option.bind_eq_some_iff.mp e
  refine ht O0 H O σ ρ x ρ1 w e1 _ fun H1 O1 s => ?_
  have fin : ∀ {H2 O2 v fp}, Stp σ ρ1 H1 O1 σ ρ' H2 O2 → Wd K (fp ++ O0) H2 (fp ++ O2) σ ρ' → Tr H2 v d fp → (∀ a ∈ fp, Fg O0 σ ρ1 ρ' H1 O2 a) → Q v H2 := fun {H2 O2 v fp} t w2 tr f =>
    q H2 O2 v fp (s.stp.trans t w.lists) w2 tr fun a z => ⟨(f a z).1, (f a z).2.1.elim (fun y => Fr.new s y) fun y => (s.same a y.1).elim (fun x => .inr ⟨x, y.2⟩) .inl, (f a z).2.2⟩
  cases x with
  | true => exact iteT (ha O0 H1 O1 σ ρ1 d ρ' s.wd (by simpa using e) _ fun H2 O2 v fp t w2 tr f => fin t w2 tr f)
  | false => exact iteF (hb O0 H1 O1 σ ρ1 d ρ' s.wd (by simpa using e) _ fun H2 O2 v fp t w2 tr f => fin t w2 tr f)
theorem eaG_nil : EaG K tNil dNil := fun O0 H O σ ρ ds ρ' w e Q q => by
  cases e
  exact q H O _ [] (Step.rfl w).stp w .nil fun _ z => by cases z
theorem eaG_cons (ha : EvG K te fe) (hs : EaG K ts fs) : EaG K (tCons te ts) (dCons fe fs) := fun O0 H O σ ρ ds ρ' w e Q q => by
  obtain ⟨⟨x, xs⟩, e1, e2⟩ := dThen_some e
  cases e2
  obtain ⟨ρ1, e1, e2⟩ := dPair_some e1
  refine ha O0 H O σ ρ x ρ1 w e1 _ fun H1 O1 v1 f1 s1 w1 t1 r1 => ?_
  refine hs (f1 ++ O0) H1 (f1 ++ O1) σ ρ1 xs ρ' w1 e2 _ fun H2 O2 v2 f2 s2 w2 t2 r2 => ?_
  have sv := s1.veil w r1
  have s12 := sv.trans s2 w.lists
  have o1 : ∀ a ∈ f1, ∃ xs, H1 a = some (.lst xs) := t1.own
  have dj : ∀ a ∈ f1, a ∉ f2 := fun a z y => by
    obtain ⟨xs, e⟩ := o1 a z
    rcases (r2 a y).2.1 with q1 | ⟨q1, _⟩
    · rw [e] at q1
      cases q1
    · exact (r1 a z).2.2 q1
  let O' := O2.filter fun b => decide (b ∉ f1)
  have mem : ∀ b, b ∈ O' ↔ b ∈ O2 ∧ b ∉ f1 := fun b => by simp [O']
  have in2 : ∀ a ∈ f1, a ∈ O2 := fun a z => (List.mem_append.mp (w2.base a (List.mem_append_right _ (List.mem_append_left _ z)))).elim (fun y => absurd y (dj a z)) id
  refine q H2 O' _ (f1 ++ f2) ⟨s12.keep, fun b z => s12.grow b ((mem b).mp z).1, s12.far, s12.same⟩ (w2.perm (fun a => ?_) fun a => ?_) (.cons (t1.keep (fun a z => s2.far a (List.mem_append_left _ z) (r1 a z).2.2) fun a xs e => s2.keep a _ e fun z => ?_) t2 dj) fun a z => ?_
  · simp only [List.mem_append, mem]
    constructor
    · rintro (z | z)
      · exact .inl (.inr z)
      · by_cases y : a ∈ f1
        · exact .inl (.inl y)
        · exact .inr ⟨z, y⟩
    · rintro ((z | z) | z)
      · exact .inr (in2 a z)
      · exact .inl z
      · exact .inr z.1
  · simp only [List.mem_append]
    constructor
    · rintro (z | z | z)
      · exact .inl (.inr z)
      · exact .inl (.inl z)
      · exact .inr z
    · rintro ((z | z) | z)
      · exact .inr (.inl z)
      · exact .inl z
      · exact .inr (.inr z)
  · obtain ⟨ys, e'⟩ := w1.lists a z
    rw [e] at e'
    cases e'
  · rcases List.mem_append.mp z with z | z
    · refine ⟨fun y => ((mem a).mp y).2 z, (r1 a z).2.1, fun y => ?_⟩
      rcases s2.same a y with y | y
      · exact (r1 a z).2.2 y
      · obtain ⟨xs, e⟩ := o1 a z
        rw [e] at y
        cases y
    · refine ⟨fun y => (r2 a z).1 ((mem a).mp y).1, ?_, (r2 a z).2.2⟩
      rcases (r2 a z).2.1 with y | ⟨y, n⟩
      · exact Fg.new s1 (fun b hb => w1.lists b (w1.base b (List.mem_append_right _ hb))) y
      · rcases s1.same a y with x | x
        · exact .inr ⟨x, fun m => n (List.mem_append_right _ m)⟩
        · exact .inl x
theorem evG_tup (hs : EaG K ts fs) : EvG K (tTup ts) (dThen fs fun ds => (few ds).map .tuple) := fun O0 H O σ ρ d ρ' w e Q q => by
  obtain ⟨x, e1, e3⟩ := dThen_some e
  obtain ⟨y, e4, rfl⟩ := Option.map_eq_some_iff.mp e3
  obtain ⟨rfl, hl⟩ := few_some e4
  refine hs O0 H O σ ρ y ρ' w e1 _ fun H1 O1 v1 fp s1 w1 t1 r1 => ?_
  refine ⟨by rw [t1.len]; exact hl, fun p hp => ?_⟩
  have l : Le H1 (upd H1 p (.tup v1)) := .new hp
  refine q _ O1 _ fp ⟨fun b o e n => l b o (s1.keep b o e n), s1.grow, fun b hb n => ?_, s1.same⟩ (w1.more l).wd (.tup (if_pos rfl) (t1.new hp)) r1
  obtain ⟨xs, e⟩ := w.lists b hb
  have := s1.far b hb n
  rw [e] at this ⊢
  exact l b _ this
theorem evG_lst (hs : EaG K ts fs) : EvG K (tLst ts) (dThen fs fun ds => (few ds).map .list) := fun O0 H O σ ρ d ρ' w e Q q => by
  obtain ⟨x, e1, e3⟩ := dThen_some e
  obtain ⟨y, e4, rfl⟩ := Option.map_eq_some_iff.mp e3
  obtain ⟨rfl, hl⟩ := few_some e4
  refine hs O0 H O σ ρ y ρ' w e1 _ fun H1 O1 v1 fp s1 w1 t1 r1 => ?_
  refine ⟨by rw [t1.len]; exact hl, fun p hp => ?_⟩
  have l : Le H1 (upd H1 p (.lst v1)) := .new hp
  have np : p ∉ fp := fun z => by
    obtain ⟨xs, e⟩ := t1.own p z
    rw [hp] at e
    cases e
  have nO : p ∉ fp ++ O1 := w1.lists.out hp
  have wv := w1.veil (fp := [p]) l (fun a z => by rw [List.mem_singleton.mp z]; exact hp) (fun a z => ⟨v1, by rw [List.mem_singleton.mp z]; exact if_pos rfl⟩)
  refine q _ O1 _ (p :: fp) ⟨fun b o e n => l b o (s1.keep b o e n), s1.grow, fun b hb n => ?_, s1.same⟩ wv (.lst (if_pos rfl) (t1.new hp) np) fun a z => ?_
  · obtain ⟨xs, e⟩ := w.lists b hb
    have := s1.far b hb n
    rw [e] at this ⊢
    exact l b _ this
  · rcases List.mem_cons.mp z with z | z
    · subst z
      exact ⟨fun y => nO (List.mem_append_right _ y), Fg.new s1 (fun b hb => w1.lists b (w1.base b (List.mem_append_right _ hb))) hp, fun y => nO (w1.own y)⟩
    · exact r1 a z
open Classical in
/-- the same data, and none too great to be shown -/
noncomputable def gSame : List D → Option D
  | [d, e] => if d = e ∧ OkS d then some (.bool true) else none
  | _ => none
theorem gSame_some {d e z : D} (h : gSame [d, e] = some z) : d = e ∧ OkS d ∧ z = .bool true := by
  unfold gSame at h
  simp only at h
  split at h
  · rename_i k
    cases h
    exact ⟨k.1, k.2, rfl⟩
  · cases h
/-- the end of such a call -/
theorem same_end {O0 : List Addr} {σ : L2.St} {ρ ρ1 ρ' : Rho} {H H1 H2 H3 : Hp} {O O1 O2 fp : List Addr} {v : V} {d d' : D} (w : Wd K O0 H O σ ρ) (s1 : Stp σ ρ H O σ ρ1 H1 O1) (w1 : Wd K (fp ++ O0) H1 (fp ++ O1) σ ρ1) (t1 : Tr H1 v d fp) (r1 : ∀ a ∈ fp, Fg O0 σ ρ ρ1 H O1 a)
    (s2 : Step K (fp ++ O0) σ ρ1 H1 (fp ++ O1) σ ρ' H2 O2) (k : ∀ b o, H2 b = some o → b ∉ fp → H3 b = some o) (t3 : Tr H3 v d' fp) : Step K O0 σ ρ H O σ ρ' H3 O2 := by
  have s12 := (s1.veil w r1).trans s2.stp w.lists
  have nf : ∀ b o, H b = some o → b ∉ O ∨ ¬ Own σ ρ b → b ∉ fp := fun b o e h z => by
    rcases (r1 b z).2.1 with y | ⟨y, _⟩
    · rw [y] at e
      cases e
    · exact h.elim (fun h => h (w.own y)) fun h => h y
  have no' : ∀ a ∈ fp, ¬ Own σ ρ' a := fun a z y => by
    rcases s2.same a y with y | y
    · exact (r1 a z).2.2 y
    · obtain ⟨xs, e⟩ := t1.own a z
      rw [e] at y
      cases y
  have in2 : ∀ a ∈ fp, a ∈ O2 := fun a z => s2.wd.base a (List.mem_append_left _ z)
  have le : Le (hide H2 O2) (hide H3 O2) := fun b o eb => by
    obtain ⟨m, hb⟩ := hide_some eb
    rw [hide_out m]
    exact k b o hb fun z => m (in2 b z)
  refine ⟨fun b o e n => k b o (s12.keep b o e n) (nf b o e (.inl n)), s12.grow, fun b hb n => ?_, s12.same, ⟨s2.wd.len, fun a z => s2.wd.base a (List.mem_append_right _ z), fun a z => ?_, fun i s e => ?_, s2.wd.inj⟩⟩
  · obtain ⟨xs, e⟩ := w.lists b hb
    have := s12.far b hb n
    rw [e] at this ⊢
    exact k b _ this (nf b _ e (.inr n))
  · by_cases y : a ∈ fp
    · exact t3.own a y
    · obtain ⟨xs, e⟩ := s2.wd.lists a z
      exact ⟨xs, k a _ e y⟩
  · have q := s2.wd.slot i s e
    cases s with
    | un => trivial
    | sh d =>
      obtain ⟨v, h1, h2⟩ := q
      exact ⟨v, h1, Dq.le le h2⟩
    | ow b ds =>
      obtain ⟨a, vs, h1, h2, h3, h4, h5⟩ := q
      have na : a ∉ fp := fun z => no' a z ⟨i, b, ds, e, h1⟩
      exact ⟨a, vs, h1, h2, k a _ h3 na, DqAll.le le h4, h5.trans ⟨fun z => (List.mem_append.mp z).elim (fun y => absurd y na) id, List.mem_append_right _⟩⟩
theorem same_tree {O0 : List Addr} {σ : L2.St} {ρ ρ1 ρ' : Rho} {H H1 H2 : Hp} {O1 O2 fp : List Addr} {v : V} {d : D} (w1 : Wd K (fp ++ O0) H1 (fp ++ O1) σ ρ1) (t1 : Tr H1 v d fp) (r1 : ∀ a ∈ fp, Fg O0 σ ρ ρ1 H O1 a) (s2 : Step K (fp ++ O0) σ ρ1 H1 (fp ++ O1) σ ρ' H2 O2) : Tr H2 v d fp :=
  t1.keep (fun a z => s2.far a (List.mem_append_left _ z) (r1 a z).2.2) fun a xs e => s2.keep a _ e fun z => by
    obtain ⟨ys, e'⟩ := w1.lists a z
    rw [e] at e'
    cases e'
theorem ev_same {E : XK} (ha : EvG K te fe) (hb : Ev K tb fb) : Ev K (tCall (spSame K) [] E (tCons te (tCons tb tNil))) (dThen (dCons fe (dCons fb dNil)) gSame) := fun O0 H O σ ρ d ρ' w e Q q => by
  obtain ⟨x, e1, e3⟩ := dThen_some e
  obtain ⟨⟨y, ys⟩, e4, e5⟩ := dThen_some e1
  cases e5
  obtain ⟨ρ1, e6, e7⟩ := dPair_some e4
  obtain ⟨⟨z, zs⟩, e8, e9⟩ := dThen_some e7
  cases e9
  obtain ⟨ρ2, e10, e11⟩ := dPair_some e8
  cases e11
  simp only at e3 e6 e10
  obtain ⟨rfl, ok, rfl⟩ := gSame_some e3
  refine ha O0 H O σ ρ y ρ1 w e6 _ fun H1 O1 v fp s1 w1 t1 r1 => ?_
  refine hb (fp ++ O0) H1 (fp ++ O1) σ ρ1 y ρ' w1 e10 _ fun H2 O2 u s2 p2 => ?_
  refine ⟨v, u, y, fp, O2, rfl, s2.wd.lists, same_tree w1 t1 r1 s2, p2, ok, fun H3 d' k t3 => ?_⟩
  exact q H3 O2 _ (same_end w s1 w1 t1 r1 s2 k t3) (.bl true)
/-- x = ..; if not same(x, ..): .. : the test holds, or nothing is said -/
noncomputable def sSame (i : Nat) (f1 f2 : Den D) : DenS := fun ρ => (f1 ρ).bind fun x => if i < x.2.length then (f2 (x.2.set i .un)).bind fun y => (gSame [x.1, y.1]).map fun _ => .nx y.2 else none
theorem es_same {t0 : TS} {i : Nat} {E : XK} (ha : EvG K te fe) (hb : Ev K tb fb) :
    Es K (L2.tSeq (L2.tAsg te (gName i)) (L2.tIfS (L2.tNot (tTr K (tCall (spSame K) [] E (tCons (tVar i) (tCons tb tNil))))) t0 L2.tNext)) (sSame i fe fb) := fun O0 H O σ ρ fl w e D hn hr => by
  obtain ⟨⟨x, ρ1⟩, e1, e⟩ := Option.bind_eq_some_iff.mp e
  simp only at e
  split at e
  case isFalse => cases e
  rename_i hi
  obtain ⟨⟨y, ρ2⟩, e2, e⟩ := Option.bind_eq_some_iff.mp e
  obtain ⟨z, e3, e⟩ := Option.map_eq_some_iff.mp e
  cases e
  simp only at e1 e2 e3
  obtain ⟨rfl, ok, rfl⟩ := gSame_some e3
  refine ha O0 H O σ ρ x ρ1 w e1 _ fun H1 O1 v fp s1 w1 t1 r1 => ?_
  have hi' : i < σ.length := by rw [w1.len]; exact hi
  have own : ∀ {j : Nat} {b : Bool} {ds : List Ly.D} {a : Addr}, (ρ1.set i .un)[j]? = some (.ow b ds) → (σ.set i (some v))[j]? = some (some (.ref a)) → ρ1[j]? = some (.ow b ds) ∧ σ[j]? = some (some (.ref a)) := fun {j b ds a} h1 h2 => by
    by_cases z : i = j
    · subst z
      rw [List.getElem?_set_self hi] at h1
      cases h1
    · rw [List.getElem?_set_ne z] at h1 h2
      exact ⟨h1, h2⟩
  have ow' : ∀ a, Own (σ.set i (some v)) (ρ1.set i .un) a → Own σ ρ1 a := fun a ⟨j, b, ds, h1, h2⟩ => ⟨j, b, ds, own h1 h2⟩
  have w1' : Wd K (fp ++ O0) H1 (fp ++ O1) (σ.set i (some v)) (ρ1.set i .un) := by
    refine ⟨by rw [List.length_set, List.length_set]; exact w1.len, w1.base, w1.lists, fun j s e => ?_, fun j k a b c ds es h1 h2 h3 h4 => w1.inj j k a b c ds es (own h1 h3).1 (own h2 h4).1 (own h1 h3).2 (own h2 h4).2⟩
    by_cases z : i = j
    · subst z
      rw [List.getElem?_set_self hi] at e
      cases e
      trivial
    · rw [List.getElem?_set_ne z] at e ⊢
      exact w1.slot j s e
  have s1' : Stp σ ρ H O (σ.set i (some v)) (ρ1.set i .un) H1 O1 := ⟨s1.keep, s1.grow, s1.far, fun a z => s1.same a (ow' a z)⟩
  have g0 : (σ.set i (some v))[i]? = some (some v) := by rw [List.getElem?_set_self hi']
  refine ⟨v, g0, ?_⟩
  refine hb (fp ++ O0) H1 (fp ++ O1) (σ.set i (some v)) (ρ1.set i .un) x ρ2 w1' e2 _ fun H2 O2 u s2 p2 => ?_
  have far1 : ∀ a ∈ fp, ¬ Own (σ.set i (some v)) (ρ1.set i .un) a := fun a z y => (r1 a z).2.2 (ow' a y)
  have t2 : Tr H2 v x fp := t1.keep (fun a z => s2.far a (List.mem_append_left _ z) (far1 a z)) fun a xs e => s2.keep a _ e fun z => by
    obtain ⟨ys, e'⟩ := w1.lists a z
    rw [e] at e'
    cases e'
  refine ⟨v, u, x, fp, O2, rfl, s2.wd.lists, t2, p2, ok, fun H3 d' k t3 => ?_⟩
  refine ⟨true, rfl, ?_⟩
  -- the state behind it
  have sv : Stp σ ρ H O (σ.set i (some v)) (ρ1.set i .un) H1 (fp ++ O1) :=
    ⟨s1.keep, fun b z => (List.mem_append.mp z).elim (fun y => (r1 b y).2.1.elim .inr fun q => .inl (w.own q.1)) (s1.grow b), s1.far, fun a z => s1.same a (ow' a z)⟩
  have s12 := sv.trans s2.stp w.lists
  have nf : ∀ b o, H b = some o → b ∉ O ∨ ¬ Own σ ρ b → b ∉ fp := fun b o e h z => by
    rcases (r1 b z).2.1 with y | ⟨y, _⟩
    · rw [y] at e
      cases e
    · exact h.elim (fun h => h (w.own y)) fun h => h y
  have no' : ∀ a ∈ fp, ¬ Own (σ.set i (some v)) ρ2 a := fun a z y => by
    rcases s2.same a y with y | y
    · exact far1 a z y
    · obtain ⟨xs, e⟩ := t1.own a z
      rw [e] at y
      cases y
  have in2 : ∀ a ∈ fp, a ∈ O2 := fun a z => s2.wd.base a (List.mem_append_left _ z)
  have le : Le (hide H2 O2) (hide H3 O2) := fun b o eb => by
    obtain ⟨m, hb⟩ := hide_some eb
    rw [hide_out m]
    exact k b o hb fun z => m (in2 b z)
  refine iteF (hn ρ2 rfl H3 O2 _ ⟨fun b o e n => k b o (s12.keep b o e n) (nf b o e (.inl n)), s12.grow, fun b hb n => ?_, s12.same, ⟨s2.wd.len, fun a z => s2.wd.base a (List.mem_append_right _ z), fun a z => ?_, fun j s e => ?_, s2.wd.inj⟩⟩)
  · obtain ⟨xs, e⟩ := w.lists b hb
    have := s12.far b hb n
    rw [e] at this ⊢
    exact k b _ this (nf b _ e (.inr n))
  · by_cases y : a ∈ fp
    · exact t3.own a y
    · obtain ⟨xs, e⟩ := s2.wd.lists a z
      exact ⟨xs, k a _ e y⟩
  · have q := s2.wd.slot j s e
    cases s with
    | un => trivial
    | sh d =>
      obtain ⟨v, h1, h2⟩ := q
      exact ⟨v, h1, Dq.le le h2⟩
    | ow b ds =>
      obtain ⟨a, vs, h1, h2, h3, h4, h5⟩ := q
      have na : a ∉ fp := fun z => no' a z ⟨j, b, ds, e, h1⟩
      exact ⟨a, vs, h1, h2, k a _ h3 na, DqAll.le le h4, h5.trans ⟨fun z => (List.mem_append.mp z).elim (fun y => absurd y na) id, List.mem_append_right _⟩⟩
end
end Ly
namespace Ly
open PySem PySem.Spec PyProof.Rows L2
def gCopy : List D → Option D
  | [d] => if d.depth < 7 ∧ slimC d = true then some d else none
  | _ => none
theorem FnG.copyD {P : Program} {w : World} {K : PySem.W.Frag} {mg : Str → Option Value} {base : Heap} {k : Nat} {fa : Addr} {fd : FuncData} {ps : List Str} (F : FnG P w K mg base k fa fd ps (spCopy K 7)) : FnG P w K mg base k fa fd ps (spD K 1 gCopy) := by
  have up : ∀ {vs H Q E}, spD K 1 gCopy vs H Q E → spCopy K 7 vs H Q E := fun ⟨O, ds, z, l, hn, p, e, k⟩ => by
    cases p with
    | nil => cases e
    | cons p1 p2 =>
      cases p2 with
      | cons _ _ => cases e
      | nil =>
        unfold gCopy at e
        simp only at e
        split at e
        · rename_i h
          cases e
          exact ⟨O, _, _, rfl, l, p1, h.1, h.2, fun H' v' fp le t n => k H' v' le (t.dq (l.le le) fun a z y => by
            obtain ⟨xs, e⟩ := l a y
            rw [n a z] at e
            cases e)⟩
        · cases e
  exact ⟨fun vs H Q E h => F.lenG vs H Q E (up h), fun A hA o s H args us vs Q E hr e b r h => F.runG A hA o s H args us vs Q E hr e b r (up h)⟩
end Ly

set_option Elab.async false
set_option linter.all false
set_option maxRecDepth 100000
set_option maxHeartbeats 1000000
namespace Ly
open PySem PySem.Spec PyProof.Rows L2
local macro_rules | `(tactic| walk_at "side") => `(tactic| first | assumption | rfl | decide | omega | (constructor <;> first | decide | omega) | (left; constructor <;> first | decide | omega) | (right; constructor <;> first | decide | omega))
local macro_rules | `(tactic| walk_at "val") => `(tactic| first
  | exact val_c
  | exact val_var rfl
  | exact va_nil
  | (refine' va_cons ?m1 ?m2; (case m1 => walk_at "val"); (case m2 => walk_at "val"))
  | (refine' v_add ?m1 ?m2; (case m1 => walk_at "val"); (case m2 => walk_at "val"))
  | (refine' v_sub ?m1 ?m2; (case m1 => walk_at "val"); (case m2 => walk_at "val"))
  | (refine' v_mul ?m1 ?m2 ?m3; (case m1 => walk_at "val"); (case m2 => walk_at "val"); (case m3 => walk_at "side"))
  | (refine' v_mod ?m1 ?m2 ?m3; (case m1 => walk_at "val"); (case m2 => walk_at "val"); (case m3 => walk_at "side"))
  | (refine' v_fdiv ?m1 ?m2 ?m3; (case m1 => walk_at "val"); (case m2 => walk_at "val"); (case m3 => walk_at "side"))
  | (refine' v_pow ?m1 ?m2 ?m3; (case m1 => walk_at "val"); (case m2 => walk_at "val"); (case m3 => walk_at "side"))
  | (refine' v_neg ?m1; (case m1 => walk_at "val"))
  | (refine' v_int1 ?m1; (case m1 => walk_at "val"))
  | (refine' v_abs ?m1; (case m1 => walk_at "val"))
  | (refine' v_max2 ?m1; (case m1 => walk_at "val"))
  | (refine' v_min2 ?m1; (case m1 => walk_at "val"))
  | (refine' v_lenL ?m1 ?m2; (case m1 => walk_at "val"); (case m2 => first | assumption | exact SqL.of (by assumption)))
  | (refine' v_ixL ?m1 ?m2 ?m3 ?m4; (case m1 => walk_at "val"); (case m2 => walk_at "val"); (case m3 => first | assumption | exact SqL.of (by assumption)); (case m4 => first | assumption | rfl)))
local macro_rules | `(tactic| walk_at "ans") => `(tactic| first
  | (refine' a_lt ?m1 ?m2; (case m1 => walk_at "val"); (case m2 => walk_at "val"))
  | (refine' a_gt ?m1 ?m2; (case m1 => walk_at "val"); (case m2 => walk_at "val"))
  | (refine' a_le ?m1 ?m2; (case m1 => walk_at "val"); (case m2 => walk_at "val"))
  | (refine' a_ge ?m1 ?m2; (case m1 => walk_at "val"); (case m2 => walk_at "val"))
  | (refine' a_eqI ?m1 ?m2; (case m1 => walk_at "val"); (case m2 => walk_at "val"))
  | (refine' a_neI ?m1 ?m2; (case m1 => walk_at "val"); (case m2 => walk_at "val")))
/-! ### the end of a law whose `_law_right` is a function of data -/
/-- a sack, told as data -/
def SackD (b : Nat) (ds : List D) : Prop := ∃ s0 s1 s2 : Int, ds = [.int s0, .int s1, .int s2] ∧ 0 ≤ s0 ∧ 0 ≤ s1 ∧ s1 < 2 ^ 120 ∧ 0 ≤ s2 ∧ s2 ≤ b
def t_sack (K : PySem.W.Frag) : TS := tSeq (tAsg (tIf (tTest (tOp (rI0 fun i j => .bl (decide (i < j))) (tVar 1) (tCB (rLenU K) (tCons (tVar 0) tNil)))) (tOp (rIxU K) (tVar 0) (tVar 1)) (tC (.int 0))) (gName 2))
  (tRet (tLst (tCons (tCB (fun xs H Q => ∃ i j, xs = [.int i, .int j] ∧ Q (.int (if j > i then j else i)) H) (tCons (tC (.int 0)) (tCons (tOp (rI0 fun i j => .int (i - j)) (tCB (fun xs H Q => ∃ i, xs = [.int i] ∧ Q (.int (if i < 0 then -i else i)) H) (tCons (tVar 2) tNil)) (tOp (rI PowC fun i j => .int (i ^ j.toNat)) (tC (.int 10)) (tC (.int 18)))) tNil)))
    (tCons (tOp (rI (fun _ j => 0 < j) fun i j => .int (i % j)) (tCB (fun xs H Q => (∃ i, xs = [.int i] ∧ Q (.int i) H) ∨ ∃ k, xs = [.bl k] ∧ Q (.int (if k then 1 else 0)) H) (tCons (tOp rAddU (tOp rAddU (tOp rMulU (tVar 2) (tC (.int 39119))) (tOp rMulU (tVar 1) (tC (.int 8675309)))) (tC (.int 7919))) tNil)) (tOp rAddU (tOp (rI PowC fun i j => .int (i ^ j.toNat)) (tC (.int 10)) (tC (.int 36))) (tC (.int 67))))
    (tCons (tC (.int 0)) tNil)))))
section
variable {K : PySem.W.Frag}
theorem sack_read {vs : List V} {H : Hp} {Q : VK} {E : XK} (h : spSack K vs H Q E) : t_sack K { nx := fun _ H' => Q .non H', rt := Q } (start ["_law_script", "_law_rank", "_law_cell"] vs) H := by
    obtain ⟨a, ns, r, rfl, hS, h0, h1, q⟩ := h
    have hc : ∃ c : Int, Val (tIf (tTest (tOp (rI0 fun i j => .bl (decide (i < j))) (tVar 1) (tCB (rLenU K) (tCons (tVar 0) tNil)))) (tOp (rIxU K) (tVar 0) (tVar 1)) (tC (.int 0))) (start ["_law_script", "_law_rank", "_law_cell"] [.ref a, .int r]) H (.int c) := by
      by_cases hlt : r < (ns.map V.int).length
      · obtain ⟨n, rfl⟩ : ∃ n : Nat, r = n := ⟨r.toNat, by omega⟩
        have hn : n < ns.length := by
          rw [List.length_map] at hlt
          omega
        have hat : atI (ns.map V.int) (n : Int) = some (.int ns[n]) := by
          refine atI_nat (j := n) ?_
          rw [List.getElem?_map, List.getElem?_eq_getElem hn]
          rfl
        refine ⟨ns[n], v_ifT ?_ ?_⟩
        · rw [← decide_eq_true hlt]
          walk_at "ans"
        · walk_at "val"
      · refine ⟨0, v_ifF ?_ ?_⟩
        · rw [← decide_eq_false hlt]
          walk_at "ans"
        · walk_at "val"
    obtain ⟨c, hc⟩ := hc
    refine s_asg hc ?_
    refine l_lst (vs := ?q1) ?q2 ?q3 ?q4
    case q2 => walk_at "val"
    case q3 =>
      show 3 ≤ sizeLine
      decide
    case q4 =>
      refine fun p hp => q p _ hp ⟨_, _, _, rfl, ?_, ?_, ?_, ?_, ?_⟩
      · split <;> omega
      · exact Int.emod_nonneg _ (by decide)
      · exact Int.lt_trans (Int.emod_lt_of_pos _ (by decide)) (by decide)
      · decide
      · decide
def spRight (K : PySem.W.Frag) : Sp := fun vs H Q _ => ∃ (p : Addr) (xs : List V), vs = [.ref p] ∧ H p = some (.lst xs) ∧ SackOk 0 xs ∧ ∀ H', But [p] H H' → Q (.bl true) H'
def spLaw (K : PySem.W.Frag) : Sp := fun vs H Q _ => ∃ (a : Addr) (ns : List Int), vs = [.ref a] ∧ SqL K H a (ns.map V.int) ∧ ns.length ≤ 63 ∧ ∀ H', Q (.bl true) H'
def t_law (K : PySem.W.Frag) (m : Int) : TS :=
  tSeq (tFor (iRng1 (tCons (tCB (fun xs H Q => ∃ i j, xs = [.int i, .int j] ∧ Q (.int (if j > i then j else i)) H) (tCons (tC (.int 1)) (tCons (tCB (fun xs H Q => ∃ i j, xs = [.int i, .int j] ∧ Q (.int (if j < i then j else i)) H) (tCons (tC (.int m)) (tCons (tCB (rLenU K) (tCons (tVar 0) tNil)) tNil))) tNil))) tNil)) (gName 1)
    (tIfS (L2.tNot (tTr K (tCall (spRight K) [] E0 (tCons (tCall (spSack K) [] E0 (tCons (tVar 0) (tCons (tVar 1) tNil))) tNil)))) (tRet (tC (.bl false))) tNext))
  (tRet (tC (.bl true)))
theorem law_read {vs : List V} {H : Hp} {Q : VK} {E : XK} {N : Int} (hN0 : 0 ≤ N) (hN : N ≤ 60) (h : spLaw K vs H Q E) : t_law K N { nx := fun _ H' => Q .non H', rt := Q } (start ["_law_script", "_law_rank"] vs) H := by
    obtain ⟨a, ns, rfl, hS, hl, q⟩ := h
    have hm : ∃ m : Int, 0 ≤ m ∧ m ≤ 60 ∧ VA (tCons (tCB (fun xs H Q => ∃ i j, xs = [.int i, .int j] ∧ Q (.int (if j > i then j else i)) H) (tCons (tC (.int 1)) (tCons (tCB (fun xs H Q => ∃ i j, xs = [.int i, .int j] ∧ Q (.int (if j < i then j else i)) H) (tCons (tC (.int N)) (tCons (tCB (rLenU K) (tCons (tVar 0) tNil)) tNil))) tNil))) tNil)
        (L2.start ["_law_script", "_law_rank"] [.ref a]) H [.int m] := by
      refine ⟨_, ?_, ?_, by walk_at "val"⟩
      · split <;> omega
      · split
        · split <;> omega
        · omega
    obtain ⟨m, m0, m1, hm⟩ := hm
    refine s_forR hm (by omega) (by omega) ?_
    refine for_range (lo := 0) (n := m.toNat) (fun i σ H' => σ.length = 2 ∧ σ[0]? = some (some (.ref a)) ∧ SqL K H' a (ns.map V.int)) ⟨rfl, rfl, hS⟩ (fun i σ H' hi z => ?_) (fun σ H' _ => q H')
    obtain ⟨sl, s0, hS'⟩ := z
    have g0 : (σ.set 1 (some (.int (0 + i))))[0]? = some (some (.ref a)) := by
      rw [List.getElem?_set_ne (by decide)]
      exact s0
    have g1 : (σ.set 1 (some (.int (0 + i))))[1]? = some (some (.int (0 + i))) := by
      rw [List.getElem?_set_self (by omega)]
    have gl : (σ.set 1 (some (.int (0 + i)))).length = 2 := by
      rw [List.length_set]
      exact sl
    show (tIfS _ _ _ _ (σ.set 1 (some (.int (0 + i)))) H')
    generalize σ.set 1 (some (.int (0 + i))) = σ2 at g0 g1 gl ⊢
    refine ⟨.ref a, g0, .int (0 + i), g1, a, ns, 0 + i, rfl, hS', by omega, by omega, fun p xs hp ok => ?_⟩
    have Bp := But.new (fp := []) (o := .lst xs) hp
    have Fp : (upd H' p (.lst xs)) p = some (.lst xs) := upd_same
    have keepS : ∀ H1 H2 : Hp, But [] H' H1 → But [p] H1 H2 → SqL K H2 a (ns.map V.int) := by
      intro H1 H2 b1 b2
      rcases hS' with y | y
      · have npa : a ∉ [p] := by
          intro z
          have e1 : a = p := by simpa using z
          subst e1
          rcases y with y | ⟨o, y⟩ <;> rw [hp] at y <;> cases y
        exact SqL.but (SqL.but (.inl y) b1 (by simp)) b2 npa
      · exact .inr y
    generalize upd H' p (.lst xs) = H1 at Bp Fp ⊢
    refine ⟨p, xs, rfl, Fp, ok, fun H2 B2 => ⟨true, rfl, ?_⟩⟩
    exact iteF ⟨gl, g0, keepS _ _ Bp B2⟩
end
section
variable {P : Program} {w : World} {K : PySem.W.Frag} {mg : Str → Option Value} {base : Heap} {k : Nat} {fa : Addr} {fd : FuncData} {ps : List Str} {m : List D → List D → Option (D × List D)}
theorem FnG.right (hm : ∀ ds : List D, SackD 0 ds → ∃ es, m ds [] = some (.bool true, es)) (F : FnG P w K mg base k fa fd ps (spO K 0 m)) : FnG P w K mg base k fa fd ps (spRight K) := by
  have up : ∀ {vs H Q E}, spRight K vs H Q E → spO K 0 m vs H Q E := fun {vs H Q E} ⟨p, xs, ev, hp, ok, q⟩ => by
    obtain ⟨s0, s1, s2, ex, h0, h1, h2, h3, h4⟩ := ok
    obtain ⟨es, he⟩ := hm [.int s0, .int s1, .int s2] ⟨s0, s1, s2, rfl, h0, h1, h2, h3, h4⟩
    subst ex
    refine ⟨[p], p, [], _, _, [], .bool true, es, ev, fun a z => ⟨[.int s0, .int s1, .int s2], by rw [List.mem_singleton.mp z]; exact hp⟩, List.mem_singleton.mpr rfl, hp, .cons (.int s0) (.cons (.int s1) (.cons (.int s2) .nil)), rfl, .nil, he, fun H' v us ke hx px pv => ?_⟩
    cases pv
    exact q H' fun b o e n => ke b o e fun z => n (List.mem_singleton.mpr z)
  exact ⟨fun vs H Q E h => F.lenG vs H Q E (up h), fun A hA o s H args us vs Q E hr e b r h => F.runG A hA o s H args us vs Q E hr e b r (up h)⟩
end
end Ly

set_option Elab.async false
set_option linter.all false
set_option maxRecDepth 100000
namespace Pg
open PySem PySem.Spec PyProof.Rows L2 Ly
noncomputable def b_ascends : DenS := (sRet (dThen (dCons (dComp (dThen (dCons (dV 0) (dCons (dThen (dPair (dV 0) (dPair (dThen (dC (.int 1)) asPart) (dC none))) fun p => gSl p.1 p.2.1 p.2.2) dNil)) zipD) [1, 2] (gtTup 2 (gtCons (gtName 1) (gtCons (gtName 2) gtNil))) (dC true) (dOp (gI fun i j => .bool (decide (i < j))) (dV 1) (dV 2))) dNil) gAll))
noncomputable def m_ascends : List D → Option D := fnD b_ascends 2
noncomputable def b_is_set : DenS := (sSeq (sAsg (dV 0) (gtTup 4 (gtCons (gtName 1) (gtCons (gtName 2) (gtCons (gtName 3) (gtCons (gtName 4) gtNil))))))
      (sRet (dIf (dB (dOp (gI fun i j => .bool (decide (j ≤ i))) (dV 3) (dC (.int 1)))) (dIf (dB (dThen (dCons (dOp gAdd (dOp gAdd (dThen (dCons (dThen (dC (.int 1)) (gU fun i => .int (-i))) dNil) fun ds => (few ds).map .list) (dV 1)) (dThen (dCons (dV 2) dNil) fun ds => (few ds).map .list)) dNil) m_ascends)) (dThen (dCons (dOp gAdd (dOp gAdd (dThen (dCons (dThen (dC (.int 1)) (gU fun i => .int (-i))) dNil) fun ds => (few ds).map .list) (dV 4)) (dThen (dCons (dV 3) dNil) fun ds => (few ds).map .list)) dNil) m_ascends) (dC (.bool false))) (dC (.bool false)))))
noncomputable def m_is_set : List D → Option D := fnD b_is_set 4
noncomputable def b_check_sets : DenS := (sFor (dThen (dV 0) asList) (gtName 1)
      (sIf (dNot (dThen (dThen (dCons (dV 1) dNil) m_is_set) truth)) sNever sNext))
noncomputable def m_check_sets : List D → Option D := fnD b_check_sets 1
noncomputable def b_check_numbers : DenS := (sFor (dThen (dV 0) asList) (gtName 1)
      (sIf (dThen (dOp (gI fun i j => .bool (decide (i < j))) (dV 1) (dC (.int 0))) isB) sNever sNext))
noncomputable def m_check_numbers : List D → Option D := fnD b_check_numbers 1
noncomputable def b_repeats : DenS := (sSeq (sIf (dIf (dThen (dOp (fun x y => (gEq x y).map fun b => .bool (!b)) (dOp (gIc (fun _ j => decide (0 < j)) fun i j => .int (i % j)) (dThen (dCons (dV 0) dNil) gLen) (dV 2)) (dC (.int 0))) isB) (dC true) (dThen (dOp (fun x y => (gEq x y).map fun b => .bool (!b)) (dOp (gIc (fun _ j => decide (0 < j)) fun i j => .int (i % j)) (dV 1) (dV 2)) (dC (.int 0))) isB)) (sRet (dC (.bool false))) sNext)
      (sSeq (sAsg (dThen (dCons (dOp (gIc cDiv fun i j => .int (i / j)) (dThen (dCons (dV 0) dNil) gLen) (dV 2)) (dCons (dOp (gIc cDiv fun i j => .int (i / j)) (dV 1) (dV 2)) dNil)) fun ds => (few ds).map .tuple) (gtTup 2 (gtCons (gtName 3) (gtCons (gtName 4) gtNil))))
      (sRet (dOp (fun x y => (gEq x y).map .bool) (dComp (dThen (dThen (dPair (dV 0) (dPair (dC none) (dThen (dThen (dV 3) (gU fun i => .int (-i))) asPart))) fun p => gSl p.1 p.2.1 p.2.2) asList) [5] (gtName 5) (dC true) (dOp gAdd (dV 5) (dV 4))) (dThen (dPair (dV 0) (dPair (dThen (dV 3) asPart) (dC none))) fun p => gSl p.1 p.2.1 p.2.2)))))
noncomputable def m_repeats : List D → Option D := fnD b_repeats 3
noncomputable def b_shortest_turn : DenS := (sSeq (sAsg (dC (.int 2)) (gtName 2))
      (sSeq (sWhile (dThen (dOp (gI fun i j => .bool (decide (i ≤ j))) (dV 2) (dThen (dCons (dV 0) dNil) gLen)) isB)
      (sIf (dThen (dThen (dCons (dV 0) (dCons (dV 1) (dCons (dV 2) dNil))) m_repeats) truth) (sPar 0 1 (dCons (dThen (dPair (dV 0) (dPair (dC none) (dThen (dOp (gIc cDiv fun i j => .int (i / j)) (dThen (dCons (dV 0) dNil) gLen) (dV 2)) asPart))) fun p => gSl p.1 p.2.1 p.2.2) (dCons (dOp (gIc cDiv fun i j => .int (i / j)) (dV 1) (dV 2)) dNil))) (sAug 2 (fun i j => i + j) (dC (.int 1)))))
      (sRet (dThen (dCons (dV 0) (dCons (dV 1) dNil)) fun ds => (few ds).map .tuple))))
noncomputable def m_shortest_turn : List D → Option D := fnD b_shortest_turn 1
noncomputable def b_shortened : DenS := (sSeq (sAsg (dV 0) (gtTup 3 (gtCons (gtName 1) (gtCons (gtName 2) (gtCons (gtName 3) gtNil)))))
      (sSeq (sAsg (dThen (dCons (dV 2) (dCons (dV 3) dNil)) m_shortest_turn) (gtTup 2 (gtCons (gtName 2) (gtCons (gtName 3) gtNil))))
      (sSeq (sPar 4 5 (dCons (dThen (dCons (dV 2) dNil) gLen) (dCons (dThen (dCons (dV 1) dNil) gLen) dNil)))
      (sSeq (sAsg (dOp gAdd (dV 1) (dV 2)) (gtName 6))
      (sSeq (sWhile (dIf (dThen (dOp (gI fun i j => .bool (decide (j < i))) (dV 5) (dC (.int 0))) isB) (dThen (dOp (fun x y => (gEq x y).map .bool) (dOp gAdd (dOp gIx (dV 6) (dOp (gI fun i j => .int (i - j)) (dV 5) (dC (.int 1)))) (dV 3)) (dOp gIx (dV 6) (dOp gAdd (dOp (gI fun i j => .int (i - j)) (dV 5) (dC (.int 1))) (dV 4)))) isB) (dC false))
      (sAug 5 (fun i j => i - j) (dC (.int 1))))
      (sRet (dThen (dCons (dThen (dThen (dPair (dV 6) (dPair (dC none) (dThen (dV 5) asPart))) fun p => gSl p.1 p.2.1 p.2.2) flatD) (dCons (dThen (dThen (dPair (dV 6) (dPair (dThen (dV 5) asPart) (dThen (dOp gAdd (dV 5) (dV 4)) asPart))) fun p => gSl p.1 p.2.1 p.2.2) flatD) (dCons (dThen (dV 3) scD) dNil))) fun ds => (few ds).map .tuple)))))))
noncomputable def m_shortened : List D → Option D := fnD b_shortened 6
noncomputable def b_ended : DenS := (sSeq (sAsg (dIf (dThen (dV 0) truth) (dOp gAdd (dOp gIx (dV 0) (dThen (dC (.int 1)) (gU fun i => .int (-i)))) (dC (.int 1))) (dC (.int 0))) (gtName 1))
      (sRet (dThen (dCons (dThen (dThen (dCons (dV 0) dNil) gListOf) flatD) (dCons (dThen (dV 1) scD) (dCons (dThen (dC (.int 1)) scD) (dCons (dThen (dThen dNil fun ds => (few ds).map .list) flatD) dNil)))) fun ds => (few ds).map .tuple)))
noncomputable def m_ended : List D → Option D := fnD b_ended 1
noncomputable def b_narrowed : DenS := (sSeq (sAsg (dV 0) (gtTup 4 (gtCons (gtName 1) (gtCons (gtName 2) (gtCons (gtName 3) (gtCons (gtName 4) gtNil))))))
      (sSeq (sIf (dNot (dThen (dV 4) truth)) (sRet (dThen (dCons (dV 1) dNil) m_ended)) sNext)
      (sSeq (sOwn3 1 5 3 (dCons (dThen (dCons (dV 1) (dCons (dComp (dThen (dV 4) asList) [6] (gtName 6) (dC true) (dOp gAdd (dV 2) (dV 6))) (dCons (dV 3) dNil))) fun ds => (few ds).map .tuple) dNil) m_shortened)
      (sSeq (sAsg (dOp gAdd (dThen (dCons (dOp gAdd (dThen (dCons (dThen (dC (.int 1)) (gU fun i => .int (-i))) (dCons (dOp (gI fun i j => .int (i - j)) (dOp gIx (dV 5) (dThen (dC (.int 1)) (gU fun i => .int (-i)))) (dV 3)) dNil)) fun ds => (few ds).map .list) (dSlO 1 (dThen (dThen (dC (.int 1)) (gU fun i => .int (-i))) asPart) (dC none))) dNil) gMax) (dC (.int 1))) (gtName 2))
      (sRet (dThen (dCons (dThen (dFrz 1) flatD) (dCons (dThen (dV 2) scD) (dCons (dThen (dV 3) scD) (dCons (dThen (dComp (dThen (dV 5) asList) [7] (gtName 7) (dC true) (dOp (gI fun i j => .int (i - j)) (dV 7) (dV 2))) flatD) dNil)))) fun ds => (few ds).map .tuple))))))
noncomputable def m_narrowed : List D → Option D := fnD b_narrowed 7
noncomputable def b_place_of : DenS := (sSeq (sPar 2 3 (dCons (dC (.int 0)) (dCons (dThen (dCons (dV 0) dNil) gLen) dNil)))
      (sSeq (sWhile (dThen (dOp (gI fun i j => .bool (decide (i < j))) (dV 2) (dV 3)) isB)
      (sSeq (sAsg (dOp (gIc cDiv fun i j => .int (i / j)) (dOp gAdd (dV 2) (dV 3)) (dC (.int 2))) (gtName 4))
      (sIf (dThen (dOp (gI fun i j => .bool (decide (i < j))) (dOp gIx (dV 0) (dV 4)) (dV 1)) isB) (sAsg (dOp gAdd (dV 4) (dC (.int 1))) (gtName 2)) (sAsg (dV 4) (gtName 3)))))
      (sRet (dV 2))))
noncomputable def m_place_of : List D → Option D := fnD b_place_of 3
noncomputable def b_many_before : DenS := (sSeq (sAsg (dV 0) (gtTup 4 (gtCons (gtName 2) (gtCons (gtName 3) (gtCons (gtName 4) (gtCons (gtName 5) gtNil))))))
      (sSeq (sIf (dThen (dOp (gI fun i j => .bool (decide (i ≤ j))) (dV 1) (dV 3)) isB) (sRet (dThen (dCons (dV 2) (dCons (dV 1) dNil)) m_place_of)) sNext)
      (sSeq (sAsg (dThen (dCons (dOp (gI fun i j => .int (i - j)) (dV 1) (dV 3)) (dCons (dV 4) dNil)) gDivmod) (gtTup 2 (gtCons (gtName 6) (gtCons (gtName 7) gtNil))))
      (sRet (dOp gAdd (dOp gAdd (dThen (dCons (dV 2) dNil) gLen) (dOp gMul (dThen (dCons (dV 5) dNil) gLen) (dV 6))) (dThen (dCons (dV 5) (dCons (dV 7) dNil)) m_place_of))))))
noncomputable def m_many_before : List D → Option D := fnD b_many_before 6
noncomputable def b_nth_day : DenS := (sSeq (sAsg (dV 0) (gtTup 4 (gtCons (gtName 2) (gtCons (gtName 3) (gtCons (gtName 4) (gtCons (gtName 5) gtNil))))))
      (sSeq (sIf (dThen (dOp (gI fun i j => .bool (decide (i < j))) (dV 1) (dThen (dCons (dV 2) dNil) gLen)) isB) (sRet (dOp gIx (dV 2) (dV 1))) sNext)
      (sSeq (sIf (dNot (dThen (dV 5) truth)) (sRet (dC .none)) sNext)
      (sSeq (sAsg (dThen (dCons (dOp (gI fun i j => .int (i - j)) (dV 1) (dThen (dCons (dV 2) dNil) gLen)) (dCons (dThen (dCons (dV 5) dNil) gLen) dNil)) gDivmod) (gtTup 2 (gtCons (gtName 6) (gtCons (gtName 7) gtNil))))
      (sRet (dOp gAdd (dOp gAdd (dV 3) (dOp gMul (dV 4) (dV 6))) (dOp gIx (dV 5) (dV 7))))))))
noncomputable def m_nth_day : List D → Option D := fnD b_nth_day 6
noncomputable def b_day_from : DenS := (sRet (dThen (dCons (dV 0) (dCons (dThen (dCons (dV 0) (dCons (dV 1) dNil)) m_many_before) dNil)) m_nth_day))
noncomputable def m_day_from : List D → Option D := fnD b_day_from 0
noncomputable def b_holds : DenS := (sRet (dOp (fun x y => (gEq x y).map .bool) (dThen (dCons (dV 0) (dCons (dV 1) dNil)) m_day_from) (dV 1)))
noncomputable def m_holds : List D → Option D := fnD b_holds 0
noncomputable def b_has : DenS := (sSeq (sDrop (dThen (dCons (dThen (dCons (dV 0) dNil) fun ds => (few ds).map .list) dNil) m_check_sets))
      (sSeq (sDrop (dThen (dCons (dThen (dCons (dV 1) dNil) fun ds => (few ds).map .list) dNil) m_check_numbers))
      (sRet (dThen (dCons (dV 0) (dCons (dV 1) dNil)) m_holds))))
noncomputable def m_has : List D → Option D := fnD b_has 0
noncomputable def b_least_set : DenS := (sSeq (sDrop (dThen (dCons (dThen (dCons (dV 0) dNil) fun ds => (few ds).map .list) dNil) m_check_sets))
      (sRet (dThen (dCons (dV 0) dNil) m_narrowed)))
noncomputable def m_least_set : List D → Option D := fnD b_least_set 0
noncomputable def b_set_of : DenS := (sSeq (sDrop (dThen (dCons (dV 0) dNil) m_check_numbers))
      (sRet (dThen (dCons (dThen (dCons (dV 0) dNil) gSortSet) dNil) m_ended)))
noncomputable def m_set_of : List D → Option D := fnD b_set_of 0
noncomputable def b_every : DenS := (sSeq (sIf (dThen (dOp (gI fun i j => .bool (decide (i < j))) (dV 0) (dC (.int 1))) isB) sNever sNext)
      (sSeq (sDrop (dThen (dCons (dThen (dCons (dV 1) dNil) fun ds => (few ds).map .list) dNil) m_check_numbers))
      (sRet (dThen (dCons (dThen (dCons (dThen dNil fun ds => (few ds).map .list) (dCons (dV 1) (dCons (dV 0) (dCons (dThen (dCons (dC (.int 0)) dNil) fun ds => (few ds).map .list) dNil)))) fun ds => (few ds).map .tuple) dNil) m_narrowed))))
noncomputable def m_every : List D → Option D := fnD b_every 0
noncomputable def b_next_day : DenS := (sSeq (sDrop (dThen (dCons (dThen (dCons (dV 0) dNil) fun ds => (few ds).map .list) dNil) m_check_sets))
      (sSeq (sDrop (dThen (dCons (dThen (dCons (dV 1) dNil) fun ds => (few ds).map .list) dNil) m_check_numbers))
      (sRet (dThen (dCons (dV 0) (dCons (dV 1) dNil)) m_day_from))))
noncomputable def m_next_day : List D → Option D := fnD b_next_day 0
noncomputable def b_gaps : DenS := (sSeq (sDrop (dThen (dCons (dThen (dCons (dV 0) dNil) fun ds => (few ds).map .list) dNil) m_check_sets))
      (sSeq (sAsg (dV 0) (gtTup 4 (gtCons (gtName 1) (gtCons (gtName 2) (gtCons (gtName 3) (gtCons (gtName 4) gtNil))))))
      (sSeq (sIf (dIf (dNot (dThen (dV 4) truth)) (dThen (dOp (gI fun i j => .bool (decide (i < j))) (dThen (dCons (dV 1) dNil) gLen) (dC (.int 2))) isB) (dC false)) sNever sNext)
      (sSeq (sAsg (dOp gAdd (dOp gAdd (dV 1) (dComp (dThen (dV 4) asList) [7] (gtName 7) (dC true) (dOp gAdd (dV 2) (dV 7)))) (dComp (dThen (dThen (dPair (dV 4) (dPair (dC none) (dThen (dC (.int 1)) asPart))) fun p => gSl p.1 p.2.1 p.2.2) asList) [7] (gtName 7) (dC true) (dOp gAdd (dOp gAdd (dV 2) (dV 3)) (dV 7)))) (gtName 5))
      (sSeq (sAsg (dComp (dThen (dCons (dV 5) (dCons (dThen (dPair (dV 5) (dPair (dThen (dC (.int 1)) asPart) (dC none))) fun p => gSl p.1 p.2.1 p.2.2) dNil)) zipD) [8, 9] (gtTup 2 (gtCons (gtName 8) (gtCons (gtName 9) gtNil))) (dC true) (dOp (gI fun i j => .int (i - j)) (dV 9) (dV 8))) (gtName 6))
      (sRet (dThen (dCons (dThen (dCons (dV 6) dNil) gMin) (dCons (dThen (dCons (dV 6) dNil) gMax) dNil)) fun ds => (few ds).map .tuple)))))))
noncomputable def m_gaps : List D → Option D := fnD b_gaps 9
noncomputable def b__law_dl_pick : DenS := (sSeq (sIf (dThen (dOp (gI fun i j => .bool (decide (j < i))) (dIxO 0 (dC (.int 0))) (dC (.int 1))) isB) (sSeq (sAsg (dOp (gIc (fun _ j => decide (0 < j)) fun i j => .int (i % j)) (dThen (dCons (dIxO 0 (dC (.int 0))) dNil) gInt) (dV 1)) (gtName 2))
      (sSeq (sPutO 0 (dOp (gIc cDiv fun i j => .int (i / j)) (dIxO 0 (dC (.int 0))) (dV 1)) (dC (.int 0)))
      (sRet (dV 2)))) sNext)
      (sSeq (sPutO 0 (dOp gAdd (dIxO 0 (dC (.int 2))) (dC (.int 1))) (dC (.int 2)))
      (sSeq (sAsg (dOp (gIc (fun _ j => decide (0 < j)) fun i j => .int (i % j)) (dOp (gIc cPow fun i j => .int (i ^ j.toNat)) (dThen (dCons (dOp gAdd (dIxO 0 (dC (.int 1))) (dOp gMul (dC (.int 1500450271)) (dIxO 0 (dC (.int 2))))) dNil) gInt) (dC (.int 3))) (dOp gAdd (dOp (gIc cPow fun i j => .int (i ^ j.toNat)) (dC (.int 10)) (dC (.int 40))) (dC (.int 121)))) (gtName 3))
      (sSeq (sAsg (dOp (gIc (fun _ j => decide (0 < j)) fun i j => .int (i % j)) (dOp (gIc cPow fun i j => .int (i ^ j.toNat)) (dThen (dCons (dOp gAdd (dV 3) (dOp gMul (dC (.int 32416190071)) (dIxO 0 (dC (.int 2))))) dNil) gInt) (dC (.int 2))) (dOp gAdd (dOp (gIc cPow fun i j => .int (i ^ j.toNat)) (dC (.int 10)) (dC (.int 36))) (dC (.int 67)))) (gtName 3))
      (sRet (dOp (gIc (fun _ j => decide (0 < j)) fun i j => .int (i % j)) (dThen (dCons (dOp (gIc cDiv fun i j => .int (i / j)) (dV 3) (dC (.int 4096))) dNil) gInt) (dV 1)))))))
noncomputable def m__law_dl_pick : List D → List D → Option (D × List D) := fnO b__law_dl_pick 2
noncomputable def b__law_dl_length : DenS := (sSeq (sAsg (dThen (dCons (dC (.int 6)) (dCons (dC (.int 4)) (dCons (dC (.int 3)) (dCons (dC (.int 2)) (dCons (dC (.int 1)) (dCons (dC (.int 5)) (dCons (dC (.int 12)) (dCons (dC (.int 8)) (dCons (dC (.int 9)) (dCons (dC (.int 7)) (dCons (dC (.int 10)) (dCons (dC (.int 11)) (dCons (dC (.int 13)) (dCons (dC (.int 17)) (dCons (dC (.int 25)) (dCons (dC (.int 31)) (dCons (dC (.int 34)) (dCons (dC (.int 49)) (dCons (dC (.int 53)) (dCons (dC (.int 59)) (dCons (dC (.int 60)) dNil))))))))))))))))))))) fun ds => (few ds).map .list) (gtName 2))
      (sSeq (sAsg (dComp (dThen (dV 2) asList) [3] (gtName 3) (dThen (dOp (gI fun i j => .bool (decide (i ≤ j))) (dV 3) (dV 1)) isB) (dV 3)) (gtName 2))
      (sRet (dOp gIx (dV 2) (dCallO 0 (dCons (dThen (dCons (dV 2) dNil) gLen) dNil) m__law_dl_pick)))))
noncomputable def m__law_dl_length : List D → List D → Option (D × List D) := fnO b__law_dl_length 2
noncomputable def b__law_dl_set : DenS := (sSeq (sPar 2 3 (dCons (dCallO 0 (dCons (dOp gIx (dThen (dCons (dC (.int 1)) (dCons (dC (.int 4)) (dCons (dC (.int 9)) dNil))) fun ds => (few ds).map .list) (dCallO 0 (dCons (dC (.int 3)) dNil) m__law_dl_pick)) dNil) m__law_dl_pick) (dCons (dCallO 0 (dCons (dV 1) dNil) m__law_dl_length) dNil)))
      (sSeq (sAsg (dOp gAdd (dC (.int 1)) (dCallO 0 (dCons (dC (.int 4)) dNil) m__law_dl_pick)) (gtName 4))
      (sSeq (sAsg (dComp (dThen (dCons (dV 2) dNil) rng1) [7] (gtName 7) (dThen (dOp (fun x y => (gEq x y).map .bool) (dCallO 0 (dCons (dOp gAdd (dV 4) (dC (.int 1))) dNil) m__law_dl_pick) (dC (.int 0))) isB) (dV 7)) (gtName 5))
      (sSeq (sAsg (dComp (dThen (dCons (dV 3) dNil) rng1) [8] (gtName 8) (dThen (dOp (fun x y => (gEq x y).map .bool) (dCallO 0 (dCons (dOp gAdd (dV 4) (dC (.int 1))) dNil) m__law_dl_pick) (dC (.int 0))) isB) (dV 8)) (gtName 6))
      (sSeq (sIf (dThen (dOp (fun x y => (gEq x y).map .bool) (dCallO 0 (dCons (dC (.int 8)) dNil) m__law_dl_pick) (dC (.int 0))) isB) (sAsg (dThen dNil fun ds => (few ds).map .list) (gtName 6)) sNext)
      (sRet (dThen (dCons (dV 5) (dCons (dV 2) (dCons (dV 3) (dCons (dV 6) dNil)))) fun ds => (few ds).map .tuple)))))))
noncomputable def m__law_dl_set : List D → List D → Option (D × List D) := fnO b__law_dl_set 7
noncomputable def b__law_dl_has : DenS := (sSeq (sAsg (dV 0) (gtTup 4 (gtCons (gtName 2) (gtCons (gtName 3) (gtCons (gtName 4) (gtCons (gtName 5) gtNil))))))
      (sRet (dIf (dThen (dOp (gI fun i j => .bool (decide (i < j))) (dV 1) (dV 3)) isB) (dOp gIn (dV 1) (dV 2)) (dOp gIn (dOp (gIc (fun _ j => decide (0 < j)) fun i j => .int (i % j)) (dThen (dCons (dOp (gI fun i j => .int (i - j)) (dV 1) (dV 3)) dNil) gInt) (dV 4)) (dV 5)))))
noncomputable def m__law_dl_has : List D → Option D := fnD b__law_dl_has 4
noncomputable def b__law_dl_set_wide : DenS := (sSeq (sAsg (dV 1) (gtTup 4 (gtCons (gtName 3) (gtCons (gtName 4) (gtCons (gtName 5) (gtCons (gtName 6) gtNil))))))
      (sSeq (sAsg (dThen (dCons (dC (.int 1)) (dCons (dOp (gIc cDiv fun i j => .int (i / j)) (dV 2) (dV 5)) dNil)) gMax2) (gtName 7))
      (sSeq (sAsg (dOp gAdd (dOp gMul (dThen (dCons (dC (.int 3)) dNil) fun ds => (few ds).map .list) (dC (.int 7))) (dThen (dCons (dV 7) dNil) fun ds => (few ds).map .list)) (gtName 8))
      (sSeq (sAsg (dThen (dCons (dV 7) (dCons (dOp gAdd (dC (.int 1)) (dCallO 0 (dCons (dOp gIx (dV 8) (dCallO 0 (dCons (dC (.int 8)) dNil) m__law_dl_pick)) dNil) m__law_dl_pick)) dNil)) gMin2) (gtName 9))
      (sSeq (sAsg (dThen (dCons (dOp gAdd (dV 4) (dCallO 0 (dCons (dC (.int 8)) dNil) m__law_dl_pick)) (dCons (dOp gMul (dV 5) (dV 9)) dNil)) fun ds => (few ds).map .tuple) (gtTup 2 (gtCons (gtName 10) (gtCons (gtName 11) gtNil))))
      (sSeq (sAsg (dComp (dThen (dCons (dV 10) dNil) rng1) [13] (gtName 13) (dThen (dThen (dCons (dV 1) (dCons (dV 13) dNil)) m__law_dl_has) truth) (dV 13)) (gtName 12))
      (sRet (dThen (dCons (dV 12) (dCons (dV 10) (dCons (dV 11) (dCons (dComp (dThen (dCons (dV 11) dNil) rng1) [14] (gtName 14) (dThen (dThen (dCons (dV 1) (dCons (dOp gAdd (dV 10) (dV 14)) dNil)) m__law_dl_has) truth) (dV 14)) dNil)))) fun ds => (few ds).map .tuple))))))))
noncomputable def m__law_dl_set_wide : List D → List D → Option (D × List D) := fnO b__law_dl_set_wide 12
noncomputable def b__law_dl_comes : DenS := (sSeq (sAsg (dOp (gIc cDiv fun i j => .int (i / j)) (dThen (dCons (dOp gMul (dV 1) (dV 2)) dNil) gInt) (dThen (dCons (dV 0) dNil) gLen)) (gtName 3))
      (sSeq (sIf (dThen (dOp (fun x y => (gEq x y).map fun b => .bool (!b)) (dOp gMul (dV 3) (dThen (dCons (dV 0) dNil) gLen)) (dOp gMul (dV 1) (dV 2))) isB) (sRet (dC (.bool false))) sNext)
      (sSeq (sFor (dThen (dCons (dOp (gI fun i j => .int (i - j)) (dThen (dCons (dV 0) dNil) gLen) (dV 2)) dNil) rng1) (gtName 4)
      (sIf (dThen (dOp (fun x y => (gEq x y).map fun b => .bool (!b)) (dOp gIx (dV 0) (dOp gAdd (dV 4) (dV 2))) (dOp gAdd (dOp gIx (dV 0) (dV 4)) (dV 3))) isB) (sRet (dC (.bool false))) sNext))
      (sRet (dC (.bool true))))))
noncomputable def m__law_dl_comes : List D → Option D := fnD b__law_dl_comes 2
noncomputable def b__law_dl_least : DenS := (sSeq (sAsg (dV 0) (gtTup 3 (gtCons (gtName 1) (gtCons (gtName 2) (gtCons (gtName 3) gtNil)))))
      (sSeq (sPar 4 5 (dCons (dThen (dCons (dV 2) dNil) gLen) (dCons (dThen (dCons (dV 1) dNil) gLen) dNil)))
      (sSeq (sFor (dThen (dCons (dOp (gI fun i j => .int (i - j)) (dThen (dCons (dV 2) dNil) gLen) (dC (.int 1))) (dCons (dC (.int 0)) (dCons (dThen (dC (.int 1)) (gU fun i => .int (-i))) dNil))) rngDown) (gtName 6)
      (sIf (dIf (dThen (dOp (fun x y => (gEq x y).map .bool) (dOp (gIc (fun _ j => decide (0 < j)) fun i j => .int (i % j)) (dThen (dCons (dThen (dCons (dV 2) dNil) gLen) dNil) gInt) (dV 6)) (dC (.int 0))) isB) (dThen (dThen (dCons (dV 2) (dCons (dV 3) (dCons (dV 6) dNil))) m__law_dl_comes) truth) (dC false)) (sAsg (dV 6) (gtName 4)) sNext))
      (sSeq (sPar 7 8 (dCons (dOp (gIc cDiv fun i j => .int (i / j)) (dThen (dCons (dOp gMul (dV 3) (dV 4)) dNil) gInt) (dThen (dCons (dV 2) dNil) gLen)) (dCons (dOp gAdd (dV 1) (dV 2)) dNil)))
      (sSeq (sWhile (dIf (dThen (dOp (gI fun i j => .bool (decide (j < i))) (dV 5) (dC (.int 0))) isB) (dThen (dOp (fun x y => (gEq x y).map .bool) (dOp gAdd (dOp gIx (dV 8) (dOp (gI fun i j => .int (i - j)) (dV 5) (dC (.int 1)))) (dV 7)) (dOp gIx (dV 8) (dOp gAdd (dOp (gI fun i j => .int (i - j)) (dV 5) (dC (.int 1))) (dV 4)))) isB) (dC false))
      (sAsg (dOp (gI fun i j => .int (i - j)) (dV 5) (dC (.int 1))) (gtName 5)))
      (sRet (dThen (dCons (dThen (dPair (dV 8) (dPair (dC none) (dThen (dV 5) asPart))) fun p => gSl p.1 p.2.1 p.2.2) (dCons (dThen (dPair (dV 8) (dPair (dThen (dV 5) asPart) (dThen (dOp gAdd (dV 5) (dV 4)) asPart))) fun p => gSl p.1 p.2.1 p.2.2) (dCons (dV 7) dNil))) fun ds => (few ds).map .tuple)))))))
noncomputable def m__law_dl_least : List D → Option D := fnD b__law_dl_least 8
noncomputable def b__law_dl_set_of : DenS := (sSeq (sAsg (dThen (dCons (dThen (dCons (dThen (dPair (dV 0) (dPair (dC none) (dThen (dV 1) asPart))) fun p => gSl p.1 p.2.1 p.2.2) (dCons (dThen (dPair (dV 0) (dPair (dThen (dV 1) asPart) (dC none))) fun p => gSl p.1 p.2.1 p.2.2) (dCons (dC (.int 0)) dNil))) fun ds => (few ds).map .tuple) dNil) m__law_dl_least) (gtTup 3 (gtCons (gtName 2) (gtCons (gtName 3) (gtCons (gtName 4) gtNil)))))
      (sSeq (sAsg (dComp (dThen (dCons (dV 2) dNil) enumD) [6, 7] (gtTup 2 (gtCons (gtName 6) (gtCons (gtName 7) gtNil))) (dThen (dOp (fun x y => (gEq x y).map .bool) (dV 7) (dC (.int 1))) isB) (dV 6)) (gtName 5))
      (sRet (dThen (dCons (dV 5) (dCons (dThen (dCons (dV 2) dNil) gLen) (dCons (dThen (dCons (dV 3) dNil) gLen) (dCons (dComp (dThen (dCons (dV 3) dNil) enumD) [8, 7] (gtTup 2 (gtCons (gtName 8) (gtCons (gtName 7) gtNil))) (dThen (dOp (fun x y => (gEq x y).map .bool) (dV 7) (dC (.int 1))) isB) (dV 8)) dNil)))) fun ds => (few ds).map .tuple))))
noncomputable def m__law_dl_set_of : List D → Option D := fnD b__law_dl_set_of 7
noncomputable def b__law_dl_set_least : DenS := (sSeq (sAsg (dComp (dThen (dCons (dOp gAdd (dOp gIx (dV 0) (dC (.int 1))) (dOp gIx (dV 0) (dC (.int 2)))) dNil) rng1) [2] (gtName 2) (dC true) (dThen (dCons (dThen (dCons (dV 0) (dCons (dV 2) dNil)) m__law_dl_has) dNil) gInt)) (gtName 1))
      (sRet (dThen (dCons (dV 1) (dCons (dOp gIx (dV 0) (dC (.int 1))) dNil)) m__law_dl_set_of)))
noncomputable def m__law_dl_set_least : List D → Option D := fnD b__law_dl_set_least 2
noncomputable def b__law_dl_days_to : DenS := (sRet (dComp (dThen (dCons (dV 1) dNil) rng1) [2] (gtName 2) (dThen (dThen (dCons (dV 0) (dCons (dV 2) dNil)) m__law_dl_has) truth) (dV 2)))
noncomputable def m__law_dl_days_to : List D → Option D := fnD b__law_dl_days_to 1
noncomputable def b__law_dl_ahead : DenS := (sSeq (sFor (dThen (dCons (dOp gAdd (dOp gAdd (dOp gIx (dV 0) (dC (.int 1))) (dOp gMul (dC (.int 2)) (dOp gIx (dV 0) (dC (.int 2))))) (dC (.int 1))) dNil) rng1) (gtName 2)
      (sIf (dThen (dThen (dCons (dV 0) (dCons (dOp gAdd (dV 1) (dV 2)) dNil)) m__law_dl_has) truth) (sRet (dOp gAdd (dV 1) (dV 2))) sNext))
      (sRet (dC .none)))
noncomputable def m__law_dl_ahead : List D → Option D := fnD b__law_dl_ahead 1
noncomputable def b__law_dl_asked_right : DenS := (sSeq (sAsg (dCallO 0 (dCons (dOp (gIc cPow fun i j => .int (i ^ j.toNat)) (dC (.int 10)) (dC (.int 30))) dNil) m__law_dl_pick) (gtName 3))
      (sSeq (sAsg (dOp gAdd (dOp (gI fun i j => .int (i - j)) (dOp gAdd (dOp gIx (dV 1) (dC (.int 1))) (dOp gIx (dV 1) (dC (.int 2)))) (dC (.int 1))) (dOp gMul (dOp gIx (dV 1) (dC (.int 2))) (dOp (gIc cDiv fun i j => .int (i / j)) (dV 3) (dOp (gIc cPow fun i j => .int (i ^ j.toNat)) (dC (.int 10)) (dC (.int 6)))))) (gtName 4))
      (sSeq (sFor (dThen (dThen (dCons (dC (.int 0)) (dCons (dV 3) (dCons (dOp gIx (dV 1) (dC (.int 1))) (dCons (dCallO 0 (dCons (dC (.int 60)) dNil) m__law_dl_pick) (dCons (dV 4) dNil))))) fun ds => (few ds).map .list) asList) (gtName 5)
      (sSeq (sAsg (dThen (dCons (dV 1) (dCons (dV 5) dNil)) m__law_dl_has) (gtName 6))
      (sSeq (sIf (dIf (dThen (dOp (fun x y => (gEq x y).map fun b => .bool (!b)) (dThen (dCons (dThen (dCons (dV 1) (dCons (dV 5) dNil)) m_has) dNil) gRepr) (dThen (dCons (dV 6) dNil) gRepr)) isB) (dC true) (dThen (dOp (fun x y => (gEq x y).map fun b => .bool (!b)) (dThen (dCons (dThen (dCons (dV 5) (dCons (dV 2) dNil)) fun es => m_has (kw2r [] es)) dNil) gRepr) (dThen (dCons (dV 6) dNil) gRepr)) isB)) (sRet (dC (.bool false))) sNext)
      (sSeq (sAsg (dThen (dCons (dV 1) (dCons (dV 5) dNil)) m__law_dl_ahead) (gtName 6))
      (sIf (dIf (dThen (dOp (fun x y => (gEq x y).map fun b => .bool (!b)) (dThen (dCons (dThen (dCons (dV 2) (dCons (dV 5) dNil)) m_next_day) dNil) gRepr) (dThen (dCons (dV 6) dNil) gRepr)) isB) (dC true) (dThen (dOp (fun x y => (gEq x y).map fun b => .bool (!b)) (dThen (dCons (dThen (dCons (dV 5) (dCons (dV 1) dNil)) fun es => m_next_day (kw2r [] es)) dNil) gRepr) (dThen (dCons (dV 6) dNil) gRepr)) isB)) (sRet (dC (.bool false))) sNext)))))
      (sRet (dC (.bool true))))))
noncomputable def m__law_dl_asked_right : List D → List D → Option (D × List D) := fnO b__law_dl_asked_right 4
noncomputable def b__law_dl_gaps_right : DenS := (sSeq (sAsg (dThen (dCons (dV 0) (dCons (dOp gAdd (dOp gIx (dV 0) (dC (.int 1))) (dOp gMul (dC (.int 2)) (dOp gIx (dV 0) (dC (.int 2))))) dNil)) m__law_dl_days_to) (gtName 2))
      (sSeq (sIf (dThen (dOp (gI fun i j => .bool (decide (i < j))) (dThen (dCons (dV 2) dNil) gLen) (dC (.int 2))) isB) (sRet (dC (.bool true))) sNext)
      (sSeq (sAsg (dComp (dThen (dCons (dOp (gI fun i j => .int (i - j)) (dThen (dCons (dV 2) dNil) gLen) (dC (.int 1))) dNil) rng1) [5] (gtName 5) (dC true) (dOp (gI fun i j => .int (i - j)) (dOp gIx (dV 2) (dOp gAdd (dV 5) (dC (.int 1)))) (dOp gIx (dV 2) (dV 5)))) (gtName 3))
      (sSeq (sAsg (dThen (dCons (dThen (dCons (dThen (dCons (dV 3) dNil) gMin) (dCons (dThen (dCons (dV 3) dNil) gMax) dNil)) fun ds => (few ds).map .tuple) dNil) gRepr) (gtName 4))
      (sRet (dIf (dB (dOp (fun x y => (gEq x y).map .bool) (dThen (dCons (dThen (dCons (dV 0) dNil) m_gaps) dNil) gRepr) (dV 4))) (dOp (fun x y => (gEq x y).map .bool) (dThen (dCons (dThen (dCons (dV 1) dNil) fun es => m_gaps (kw1 [] es)) dNil) gRepr) (dV 4)) (dC (.bool false))))))))
noncomputable def m__law_dl_gaps_right : List D → Option D := fnD b__law_dl_gaps_right 4
noncomputable def b__law_dl_made_right : DenS := (sSeq (sAsg (dOp gIx (dThen (dCons (dC (.int 9)) (dCons (dC (.int 60)) (dCons (dC (.int 600)) dNil))) fun ds => (few ds).map .list) (dCallO 0 (dCons (dC (.int 3)) dNil) m__law_dl_pick)) (gtName 1))
      (sSeq (sAsg (dComp (dThen (dCons (dCallO 0 (dCons (dC (.int 9)) dNil) m__law_dl_pick) dNil) rng1) [8] (gtName 8) (dC true) (dCallO 0 (dCons (dV 1) dNil) m__law_dl_pick)) (gtName 2))
      (sSeq (sAsg (dThen (dCons (dV 2) dNil) gListOf) (gtName 3))
      (sSeq (sAsg (dThen (dCons (dOp gAdd (dComp (dThen (dCons (dV 1) dNil) rng1) [9] (gtName 9) (dC true) (dThen (dCons (dOp gIn (dV 9) (dV 2)) dNil) gInt)) (dThen (dCons (dC (.int 0)) dNil) fun ds => (few ds).map .list)) (dCons (dV 1) dNil)) m__law_dl_set_of) (gtName 4))
      (sSeq (sIf (dIf (dNot (dThen (dThen (dCons (dThen (dCons (dV 3) dNil) m_set_of) (dCons (dV 4) dNil)) gSame) truth)) (dC true) (dIf (dThen (dOp (fun x y => (gEq x y).map fun b => .bool (!b)) (dV 3) (dV 2)) isB) (dC true) (dNot (dThen (dThen (dCons (dThen (dCons (dV 3) dNil) fun es => m_set_of (kw1 [] es)) (dCons (dV 4) dNil)) gSame) truth)))) (sRet (dC (.bool false))) sNext)
      (sSeq (sAsg (dOp gAdd (dC (.int 1)) (dCallO 0 (dCons (dOp gIx (dThen (dCons (dC (.int 6)) (dCons (dC (.int 60)) dNil)) fun ds => (few ds).map .list) (dCallO 0 (dCons (dC (.int 2)) dNil) m__law_dl_pick)) dNil) m__law_dl_pick)) (gtName 5))
      (sSeq (sAsg (dCallO 0 (dCons (dOp gIx (dThen (dCons (dC (.int 9)) (dCons (dC (.int 61)) (dCons (dC (.int 601)) dNil))) fun ds => (few ds).map .list) (dCallO 0 (dCons (dC (.int 3)) dNil) m__law_dl_pick)) dNil) m__law_dl_pick) (gtName 6))
      (sSeq (sAsg (dOp gAdd (dV 6) (dV 5)) (gtName 1))
      (sSeq (sAsg (dComp (dThen (dCons (dV 1) dNil) rng1) [10] (gtName 10) (dC true) (dThen (dCons (dIf (dB (dOp (gI fun i j => .bool (decide (j ≤ i))) (dV 10) (dV 6))) (dOp (fun x y => (gEq x y).map .bool) (dOp (gIc (fun _ j => decide (0 < j)) fun i j => .int (i % j)) (dThen (dCons (dOp (gI fun i j => .int (i - j)) (dV 10) (dV 6)) dNil) gInt) (dV 5)) (dC (.int 0))) (dC (.bool false))) dNil) gInt)) (gtName 7))
      (sSeq (sAsg (dThen (dCons (dV 7) (dCons (dV 6) dNil)) m__law_dl_set_of) (gtName 4))
      (sRet (dIf (dB (dThen (dCons (dThen (dCons (dV 5) (dCons (dV 6) dNil)) m_every) (dCons (dV 4) dNil)) gSame)) (dThen (dCons (dThen (dCons (dV 6) (dCons (dV 5) dNil)) fun es => m_every (kw2r [] es)) (dCons (dV 4) dNil)) gSame) (dC (.bool false))))))))))))))
noncomputable def m__law_dl_made_right : List D → List D → Option (D × List D) := fnO b__law_dl_made_right 10
noncomputable def b__law_right : DenS := (sSeq (sAsg (dCallO 0 (dCons (dC (.int 12)) dNil) m__law_dl_set) (gtName 1))
      (sSeq (sPar 2 3 (dCons (dCallO 0 (dCons (dV 1) (dCons (dC (.int 580)) dNil)) m__law_dl_set_wide) (dCons (dThen (dCons (dV 1) dNil) m__law_dl_set_least) dNil)))
      (sSeq (sAsg (dThen (dCons (dThen (dCons (dV 1) dNil) gCopy) (dCons (dThen (dCons (dV 2) dNil) gCopy) dNil)) fun ds => (few ds).map .list) (gtName 4))
      (sSeq (sIf (dNot (dThen (dCallO 0 (dCons (dOp gIx (dV 4) (dC (.int 0))) (dCons (dOp gIx (dV 4) (dC (.int 1))) dNil)) m__law_dl_asked_right) truth)) (sRet (dC (.bool false))) sNext)
      (sSeq (sIf (dNot (dThen (dThen (dCons (dOp gIx (dV 4) (dC (.int 0))) (dCons (dCallO 0 (dCons (dV 1) (dCons (dC (.int 40)) dNil)) m__law_dl_set_wide) dNil)) m__law_dl_gaps_right) truth)) (sRet (dC (.bool false))) sNext)
      (sSeq (sFor (dThen (dCons (dC (.int 2)) dNil) rng1) (gtName 5)
      (sSame 6 (dIf (dThen (dOp (fun x y => (gEq x y).map .bool) (dV 5) (dC (.int 0))) isB) (dThen (dCons (dOp gIx (dV 4) (dV 5)) dNil) m_least_set) (dThen (dCons (dOp gIx (dV 4) (dV 5)) dNil) fun es => m_least_set (kw1 [] es))) (dV 3)))
      (sSeq (sIf (dIf (dThen (dOp (fun x y => (gEq x y).map fun b => .bool (!b)) (dThen (dCons (dV 4) dNil) gRepr) (dThen (dCons (dThen (dCons (dV 1) (dCons (dV 2) dNil)) fun ds => (few ds).map .list) dNil) gRepr)) isB) (dC true) (dNot (dThen (dThen (dCons (dThen (dCons (dV 3) dNil) m_least_set) (dCons (dV 3) dNil)) gSame) truth))) (sRet (dC (.bool false))) sNext)
      (sRet (dCallO 0 dNil m__law_dl_made_right)))))))))
noncomputable def m__law_right : List D → List D → Option (D × List D) := fnO b__law_right 6
noncomputable def b_days_before : DenS := (sSeq (sAsg (dV 0) (gtTup 4 (gtCons (gtName 2) (gtCons (gtName 3) (gtCons (gtName 4) (gtCons (gtName 5) gtNil))))))
      (sSeq (sOwnL 6 (dV 2))
      (sSeq (sIf (dThen (dV 5) truth) (sFor (dThen (dCons (dV 3) (dCons (dV 1) (dCons (dV 4) dNil))) rngDown) (gtName 7)
      (sExtO 6 (dComp (dThen (dV 5) asList) [8] (gtName 8) (dThen (dOp (gI fun i j => .bool (decide (i < j))) (dOp gAdd (dV 7) (dV 8)) (dV 1)) isB) (dOp gAdd (dV 7) (dV 8))))) sNext)
      (sRet (dFrz 6)))))
noncomputable def m_days_before : List D → Option D := fnD b_days_before 7
noncomputable def b_parted : DenS := (sSeq (sAsg (dComp (dThen (dV 0) asList) [4] (gtName 4) (dThen (dOp (gI fun i j => .bool (decide (i < j))) (dV 4) (dV 1)) isB) (dV 4)) (gtName 3))
      (sRet (dThen (dCons (dThen (dCons (dV 3) (dCons (dV 1) (dCons (dV 2) (dCons (dComp (dThen (dThen (dPair (dV 0) (dPair (dThen (dThen (dCons (dV 3) dNil) gLen) asPart) (dC none))) fun p => gSl p.1 p.2.1 p.2.2) asList) [4] (gtName 4) (dC true) (dOp (gI fun i j => .int (i - j)) (dV 4) (dV 1))) dNil)))) fun ds => (few ds).map .tuple) dNil) m_narrowed)))
noncomputable def m_parted : List D → Option D := fnD b_parted 2
noncomputable def b_shared_day : DenS := (sSeq (sPar 4 5 (dCons (dThen (dCons (dV 0) (dCons (dV 2) dNil)) m_day_from) (dCons (dThen (dCons (dV 1) (dCons (dV 2) dNil)) m_day_from) dNil)))
      (sSeq (sWhile (dIf (dThen (dOp gIsnt (dV 4) (dC .none)) isB) (dIf (dThen (dOp gIsnt (dV 5) (dC .none)) isB) (dThen (dOp (gI fun i j => .bool (decide (i < j))) (dThen (dCons (dV 4) (dCons (dV 5) dNil)) gMax2) (dV 3)) isB) (dC false)) (dC false))
      (sSeq (sIf (dThen (dOp (fun x y => (gEq x y).map .bool) (dV 4) (dV 5)) isB) (sRet (dV 4)) sNext)
      (sPar 4 5 (dCons (dThen (dCons (dV 0) (dCons (dV 5) dNil)) m_day_from) (dCons (dThen (dCons (dV 1) (dCons (dV 4) dNil)) m_day_from) dNil)))))
      (sRet (dC .none))))
noncomputable def m_shared_day : List D → Option D := fnD b_shared_day 2
noncomputable def b_first_apart : DenS := (sSeq (sDrop (dThen (dCons (dThen (dCons (dV 0) (dCons (dV 1) dNil)) fun ds => (few ds).map .list) dNil) m_check_sets))
      (sSeq (sAsg (dOp gAdd (dOp gAdd (dThen (dCons (dOp gIx (dV 0) (dC (.int 1))) (dCons (dOp gIx (dV 1) (dC (.int 1))) dNil)) gMax2) (dOp gIx (dV 0) (dC (.int 2)))) (dOp gIx (dV 1) (dC (.int 2)))) (gtName 2))
      (sSeq (sPar 3 4 (dCons (dThen (dCons (dV 0) (dCons (dC (.int 0)) dNil)) m_day_from) (dCons (dThen (dCons (dV 1) (dCons (dC (.int 0)) dNil)) m_day_from) dNil)))
      (sSeq (sWhile (dThen (dOp (fun x y => (gEq x y).map .bool) (dV 3) (dV 4)) isB)
      (sSeq (sIf (dIf (dThen (dOp gIs (dV 3) (dC .none)) isB) (dC true) (dThen (dOp (gI fun i j => .bool (decide (j ≤ i))) (dV 3) (dV 2)) isB)) (sRet (dC .none)) sNext)
      (sPar 3 4 (dCons (dThen (dCons (dV 0) (dCons (dOp gAdd (dV 3) (dC (.int 1))) dNil)) m_day_from) (dCons (dThen (dCons (dV 1) (dCons (dOp gAdd (dV 3) (dC (.int 1))) dNil)) m_day_from) dNil)))))
      (sRet (dThen (dCons (dComp (dThen (dThen (dCons (dV 3) (dCons (dV 4) dNil)) fun ds => (few ds).map .tuple) asTup) [5] (gtName 5) (dThen (dOp gIsnt (dV 5) (dC .none)) isB) (dV 5)) dNil) gMin))))))
noncomputable def m_first_apart : List D → Option D := fnD b_first_apart 4
noncomputable def b__law_dl_divisor : DenS := (sSeq (sPar 2 3 (dCons (dThen (dCons (dV 0) (dCons (dV 1) dNil)) gMax2) (dCons (dThen (dCons (dV 0) (dCons (dV 1) dNil)) gMin2) dNil)))
      (sSeq (sFor (dThen (dCons (dC (.int 400)) dNil) rng1) (gtName 4)
      (sIf (dThen (dOp (gI fun i j => .bool (decide (j < i))) (dV 3) (dC (.int 0))) isB) (sPar 2 3 (dCons (dV 3) (dCons (dOp (gIc (fun _ j => decide (0 < j)) fun i j => .int (i % j)) (dThen (dCons (dV 2) dNil) gInt) (dThen (dCons (dV 3) dNil) gInt)) dNil))) sNext))
      (sRet (dV 2))))
noncomputable def m__law_dl_divisor : List D → Option D := fnD b__law_dl_divisor 3
noncomputable def b__law_dl_near : DenS := (sSeq (sAsg (dThen (dCons (dCallO 0 (dCons (dC (.int 6)) dNil) m__law_dl_pick) (dCons (dCallO 0 (dCons (dV 1) (dCons (dC (.int 36)) dNil)) m__law_dl_set_wide) dNil)) fun ds => (few ds).map .tuple) (gtTup 2 (gtCons (gtName 2) (gtCons (gtName 3) gtNil))))
      (sSeq (sIf (dThen (dOp (fun x y => (gEq x y).map .bool) (dV 2) (dC (.int 0))) isB) (sRet (dV 3)) sNext)
      (sSeq (sIf (dThen (dOp (fun x y => (gEq x y).map .bool) (dV 2) (dC (.int 1))) isB) (sSeq (sAsg (dV 3) (gtTup 4 (gtCons (gtName 4) (gtCons (gtName 5) (gtCons (gtName 6) (gtCons (gtName 7) gtNil))))))
      (sSeq (sAsg (dCallO 0 (dCons (dV 6) dNil) m__law_dl_pick) (gtName 8))
      (sSeq (sAsg (dComp (dThen (dCons (dV 6) dNil) rng1) [13] (gtName 13) (dThen (dOp (fun x y => (gEq x y).map fun b => .bool (!b)) (dOp gIn (dV 13) (dV 7)) (dOp (fun x y => (gEq x y).map .bool) (dV 13) (dV 8))) isB) (dV 13)) (gtName 9))
      (sRet (dThen (dCons (dV 4) (dCons (dV 5) (dCons (dV 6) (dCons (dV 9) dNil)))) fun ds => (few ds).map .tuple))))) sNext)
      (sSeq (sIf (dIf (dThen (dOp (fun x y => (gEq x y).map .bool) (dV 2) (dC (.int 2))) isB) (dThen (dOp (gI fun i j => .bool (decide (j < i))) (dOp gIx (dV 3) (dC (.int 1))) (dC (.int 0))) isB) (dC false)) (sSeq (sAsg (dCallO 0 (dCons (dOp gIx (dV 3) (dC (.int 1))) dNil) m__law_dl_pick) (gtName 8))
      (sSeq (sAsg (dComp (dThen (dCons (dOp gIx (dV 3) (dC (.int 1))) dNil) rng1) [14] (gtName 14) (dThen (dOp (fun x y => (gEq x y).map fun b => .bool (!b)) (dOp gIn (dV 14) (dOp gIx (dV 3) (dC (.int 0)))) (dOp (fun x y => (gEq x y).map .bool) (dV 14) (dV 8))) isB) (dV 14)) (gtName 10))
      (sRet (dThen (dCons (dV 10) (dCons (dOp gIx (dV 3) (dC (.int 1))) (dCons (dOp gIx (dV 3) (dC (.int 2))) (dCons (dOp gIx (dV 3) (dC (.int 3))) dNil)))) fun ds => (few ds).map .tuple)))) sNext)
      (sSeq (sIf (dThen (dOp gIn (dV 2) (dThen (dCons (dC (.int 3)) (dCons (dC (.int 4)) dNil)) fun ds => (few ds).map .tuple)) isB) (sSeq (sAsg (dCallO 0 (dCons (dC (.int 12)) dNil) m__law_dl_length) (gtName 6))
      (sSeq (sAsg (dComp (dThen (dCons (dV 6) dNil) rng1) [8] (gtName 8) (dThen (dThen (dCons (dV 1) (dCons (dOp gAdd (dOp gIx (dV 1) (dC (.int 1))) (dV 8)) dNil)) m__law_dl_has) truth) (dV 8)) (gtName 7))
      (sRet (dThen (dCons (dThen (dCons (dOp gIx (dV 1) (dC (.int 0))) dNil) gListOf) (dCons (dOp gIx (dV 1) (dC (.int 1))) (dCons (dV 6) (dCons (dV 7) dNil)))) fun ds => (few ds).map .tuple)))) sNext)
      (sSeq (sAsg (dCallO 0 (dCons (dOp gIx (dThen (dCons (dC (.int 12)) (dCons (dC (.int 60)) dNil)) fun ds => (few ds).map .list) (dCallO 0 (dCons (dC (.int 2)) dNil) m__law_dl_pick)) dNil) m__law_dl_set) (gtName 11))
      (sSeq (sAsg (dOp (gIc cDiv fun i j => .int (i / j)) (dOp gMul (dOp gIx (dV 1) (dC (.int 2))) (dOp gIx (dV 11) (dC (.int 2)))) (dThen (dCons (dOp gIx (dV 1) (dC (.int 2))) (dCons (dOp gIx (dV 11) (dC (.int 2))) dNil)) m__law_dl_divisor)) (gtName 12))
      (sRet (dIf (dThen (dOp (gI fun i j => .bool (decide (i < j))) (dV 12) (dC (.int 1900))) isB) (dV 11) (dCallO 0 (dCons (dC (.int 12)) dNil) m__law_dl_set))))))))))
noncomputable def m__law_dl_near : List D → List D → Option (D × List D) := fnO b__law_dl_near 13
noncomputable def b__law_dl_pairs : DenS := (sSeq (sPar 2 3 (dCons (dThen (dCons (dOp gIx (dV 0) (dC (.int 1))) (dCons (dOp gIx (dV 1) (dC (.int 1))) dNil)) gMax2) (dCons (dOp (gIc cDiv fun i j => .int (i / j)) (dOp gMul (dOp gIx (dV 0) (dC (.int 2))) (dOp gIx (dV 1) (dC (.int 2)))) (dThen (dCons (dOp gIx (dV 0) (dC (.int 2))) (dCons (dOp gIx (dV 1) (dC (.int 2))) dNil)) m__law_dl_divisor)) dNil)))
      (sSeq (sOwn 4 dNil)
      (sSeq (sFor (dThen (dCons (dOp gAdd (dV 2) (dV 3)) dNil) rng1) (gtName 5)
      (sAppO 4 (dThen (dCons (dThen (dCons (dThen (dCons (dV 0) (dCons (dV 5) dNil)) m__law_dl_has) dNil) gInt) (dCons (dThen (dCons (dThen (dCons (dV 1) (dCons (dV 5) dNil)) m__law_dl_has) dNil) gInt) dNil)) fun ds => (few ds).map .tuple)))
      (sRet (dThen (dCons (dV 2) (dCons (dFrz 4) dNil)) fun ds => (few ds).map .list)))))
noncomputable def m__law_dl_pairs : List D → Option D := fnD b__law_dl_pairs 4
noncomputable def b_never_falls : DenS := (sRet (dThen (dCons (dComp (dThen (dCons (dV 0) (dCons (dThen (dPair (dV 0) (dPair (dThen (dC (.int 1)) asPart) (dC none))) fun p => gSl p.1 p.2.1 p.2.2) dNil)) zipD) [1, 2] (gtTup 2 (gtCons (gtName 1) (gtCons (gtName 2) gtNil))) (dC true) (dOp (gI fun i j => .bool (decide (i ≤ j))) (dV 1) (dV 2))) dNil) gAll))
noncomputable def m_never_falls : List D → Option D := fnD b_never_falls 2
noncomputable def b_is_ladder : DenS := (sSeq (sAsg (dV 0) (gtTup 3 (gtCons (gtName 1) (gtCons (gtName 2) (gtCons (gtName 3) gtNil)))))
      (sSeq (sIf (dNot (dThen (dV 2) truth)) (sRet (dC (.bool false))) sNext)
      (sSeq (sAsg (dOp gAdd (dOp gAdd (dV 1) (dV 2)) (dThen (dCons (dOp gAdd (dOp gIx (dV 2) (dC (.int 0))) (dV 3)) dNil) fun ds => (few ds).map .list)) (gtName 4))
      (sRet (dIf (dB (dOp (gI fun i j => .bool (decide (j ≤ i))) (dOp gIx (dV 4) (dC (.int 0))) (dC (.int 0)))) (dThen (dCons (dV 4) dNil) m_never_falls) (dC (.bool false)))))))
noncomputable def m_is_ladder : List D → Option D := fnD b_is_ladder 4
noncomputable def b_check_ladders : DenS := (sFor (dThen (dV 0) asList) (gtName 1)
      (sIf (dNot (dThen (dThen (dCons (dV 1) dNil) m_is_ladder) truth)) sNever sNext))
noncomputable def m_check_ladders : List D → Option D := fnD b_check_ladders 1
noncomputable def b_told_at : DenS := (sSeq (sAsg (dV 0) (gtTup 3 (gtCons (gtName 2) (gtCons (gtName 3) (gtCons (gtName 4) gtNil)))))
      (sSeq (sIf (dThen (dOp (gI fun i j => .bool (decide (i < j))) (dV 1) (dThen (dCons (dV 2) dNil) gLen)) isB) (sRet (dOp gIx (dV 2) (dV 1))) sNext)
      (sSeq (sAsg (dOp (gI fun i j => .int (i - j)) (dV 1) (dThen (dCons (dV 2) dNil) gLen)) (gtName 5))
      (sRet (dOp gAdd (dOp gIx (dV 3) (dOp (gIc (fun _ j => decide (0 < j)) fun i j => .int (i % j)) (dV 5) (dThen (dCons (dV 3) dNil) gLen))) (dOp gMul (dV 4) (dOp (gIc cDiv fun i j => .int (i / j)) (dV 5) (dThen (dCons (dV 3) dNil) gLen))))))))
noncomputable def m_told_at : List D → Option D := fnD b_told_at 4
noncomputable def b_first_numbers : DenS := (sSeq (sAsg (dV 0) (gtTup 3 (gtCons (gtName 2) (gtCons (gtName 3) (gtCons (gtName 4) gtNil)))))
      (sSeq (sOwnL 5 (dV 2))
      (sSeq (sAsg (dC (.int 0)) (gtName 6))
      (sSeq (sWhile (dThen (dOp (gI fun i j => .bool (decide (i < j))) (dLenO 5) (dV 1)) isB)
      (sSeq (sExtO 5 (dComp (dThen (dV 3) asList) [7] (gtName 7) (dC true) (dOp gAdd (dV 7) (dV 6))))
      (sAug 6 (fun i j => i + j) (dV 4))))
      (sRet (dSlO 5 (dC none) (dThen (dV 1) asPart)))))))
noncomputable def m_first_numbers : List D → Option D := fnD b_first_numbers 6
noncomputable def b_value : DenS := (sSeq (sDrop (dThen (dCons (dThen (dCons (dV 0) dNil) fun ds => (few ds).map .list) dNil) m_check_ladders))
      (sSeq (sDrop (dThen (dCons (dThen (dCons (dV 1) dNil) fun ds => (few ds).map .list) dNil) m_check_numbers))
      (sRet (dThen (dCons (dV 0) (dCons (dV 1) dNil)) m_told_at))))
noncomputable def m_value : List D → Option D := fnD b_value 0
noncomputable def b_least_ladder : DenS := (sSeq (sDrop (dThen (dCons (dThen (dCons (dV 0) dNil) fun ds => (few ds).map .list) dNil) m_check_ladders))
      (sRet (dThen (dCons (dV 0) dNil) m_shortened)))
noncomputable def m_least_ladder : List D → Option D := fnD b_least_ladder 0
noncomputable def b__law_dl_at : DenS := (sSeq (sAsg (dV 0) (gtTup 3 (gtCons (gtName 2) (gtCons (gtName 3) (gtCons (gtName 4) gtNil)))))
      (sSeq (sIf (dThen (dOp (gI fun i j => .bool (decide (i < j))) (dV 1) (dThen (dCons (dV 2) dNil) gLen)) isB) (sRet (dOp gIx (dV 2) (dV 1))) sNext)
      (sSeq (sAsg (dOp (gIc cDiv fun i j => .int (i / j)) (dOp (gI fun i j => .int (i - j)) (dV 1) (dThen (dCons (dV 2) dNil) gLen)) (dThen (dCons (dV 3) dNil) gLen)) (gtName 5))
      (sRet (dOp gAdd (dOp gIx (dV 3) (dOp (gIc (fun _ j => decide (0 < j)) fun i j => .int (i % j)) (dThen (dCons (dOp (gI fun i j => .int (i - j)) (dV 1) (dThen (dCons (dV 2) dNil) gLen)) dNil) gInt) (dThen (dCons (dV 3) dNil) gLen))) (dOp gMul (dV 4) (dV 5)))))))
noncomputable def m__law_dl_at : List D → Option D := fnD b__law_dl_at 4
noncomputable def b__law_dl_numbers : DenS := (sRet (dComp (dThen (dCons (dV 1) dNil) rng1) [2] (gtName 2) (dC true) (dThen (dCons (dV 0) (dCons (dV 2) dNil)) m__law_dl_at)))
noncomputable def m__law_dl_numbers : List D → Option D := fnD b__law_dl_numbers 1
noncomputable def b__law_dl_wide : DenS := (sSeq (sAsg (dV 1) (gtTup 3 (gtCons (gtName 3) (gtCons (gtName 4) (gtCons (gtName 5) gtNil)))))
      (sSeq (sAsg (dThen (dCons (dC (.int 1)) (dCons (dThen (dCons (dOp (gIc cDiv fun i j => .int (i / j)) (dOp (gI fun i j => .int (i - j)) (dOp (gI fun i j => .int (i - j)) (dV 2) (dC (.int 8))) (dThen (dCons (dV 3) dNil) gLen)) (dThen (dCons (dV 4) dNil) gLen)) (dCons (dOp (gIc cDiv fun i j => .int (i / j)) (dC (.int 600)) (dThen (dCons (dC (.int 1)) (dCons (dV 5) dNil)) gMax2)) dNil)) gMin2) dNil)) gMax2) (gtName 6))
      (sSeq (sAsg (dOp gAdd (dOp gMul (dThen (dCons (dC (.int 3)) dNil) fun ds => (few ds).map .list) (dC (.int 7))) (dThen (dCons (dV 6) dNil) fun ds => (few ds).map .list)) (gtName 7))
      (sSeq (sAsg (dThen (dCons (dV 6) (dCons (dOp gAdd (dC (.int 1)) (dCallO 0 (dCons (dOp gIx (dV 7) (dCallO 0 (dCons (dC (.int 8)) dNil) m__law_dl_pick)) dNil) m__law_dl_pick)) dNil)) gMin2) (gtName 8))
      (sSeq (sAsg (dOp gAdd (dThen (dCons (dV 3) dNil) gLen) (dCallO 0 (dCons (dC (.int 8)) dNil) m__law_dl_pick)) (gtName 9))
      (sSeq (sAsg (dThen (dCons (dV 1) (dCons (dOp gAdd (dV 9) (dOp gMul (dThen (dCons (dV 4) dNil) gLen) (dV 8))) dNil)) m__law_dl_numbers) (gtName 10))
      (sRet (dThen (dCons (dThen (dPair (dV 10) (dPair (dC none) (dThen (dV 9) asPart))) fun p => gSl p.1 p.2.1 p.2.2) (dCons (dThen (dPair (dV 10) (dPair (dThen (dV 9) asPart) (dC none))) fun p => gSl p.1 p.2.1 p.2.2) (dCons (dOp gMul (dV 5) (dV 8)) dNil))) fun ds => (few ds).map .tuple))))))))
noncomputable def m__law_dl_wide : List D → List D → Option (D × List D) := fnO b__law_dl_wide 8
noncomputable def b__law_dl_common : DenS := (sSeq (sAsg (dOp (gIc cDiv fun i j => .int (i / j)) (dOp gMul (dThen (dCons (dOp gIx (dV 0) (dC (.int 1))) dNil) gLen) (dThen (dCons (dOp gIx (dV 1) (dC (.int 1))) dNil) gLen)) (dThen (dCons (dThen (dCons (dOp gIx (dV 0) (dC (.int 1))) dNil) gLen) (dCons (dThen (dCons (dOp gIx (dV 1) (dC (.int 1))) dNil) gLen) dNil)) m__law_dl_divisor)) (gtName 2))
      (sSeq (sAsg (dOp gMul (dOp gIx (dV 0) (dC (.int 2))) (dOp (gIc cDiv fun i j => .int (i / j)) (dV 2) (dThen (dCons (dOp gIx (dV 0) (dC (.int 1))) dNil) gLen))) (gtName 3))
      (sSeq (sAsg (dOp gMul (dOp gIx (dV 1) (dC (.int 2))) (dOp (gIc cDiv fun i j => .int (i / j)) (dV 2) (dThen (dCons (dOp gIx (dV 1) (dC (.int 1))) dNil) gLen))) (gtName 4))
      (sRet (dThen (dCons (dThen (dCons (dThen (dCons (dOp gIx (dV 0) (dC (.int 0))) dNil) gLen) (dCons (dThen (dCons (dOp gIx (dV 1) (dC (.int 0))) dNil) gLen) dNil)) gMax2) (dCons (dV 2) (dCons (dV 3) (dCons (dV 4) dNil)))) fun ds => (few ds).map .list)))))
noncomputable def m__law_dl_common : List D → Option D := fnD b__law_dl_common 3
noncomputable def b__law_dl_is_ladder_told : DenS := (sSeq (sAsg (dV 0) (gtTup 3 (gtCons (gtName 1) (gtCons (gtName 2) (gtCons (gtName 3) gtNil)))))
      (sSeq (sIf (dIf (dThen (dOp (fun x y => (gEq x y).map .bool) (dV 2) (dThen dNil fun ds => (few ds).map .list)) isB) (dC true) (dThen (dOp (gI fun i j => .bool (decide (i < j))) (dV 3) (dC (.int 0))) isB)) (sRet (dC (.bool false))) sNext)
      (sSeq (sAsg (dOp gAdd (dOp gAdd (dOp gAdd (dThen (dCons (dC (.int 0)) dNil) fun ds => (few ds).map .list) (dV 1)) (dV 2)) (dThen (dCons (dOp gAdd (dOp gIx (dV 2) (dC (.int 0))) (dV 3)) dNil) fun ds => (few ds).map .list)) (gtName 4))
      (sRet (dOp (fun x y => (gEq x y).map .bool) (dComp (dThen (dCons (dOp (gI fun i j => .int (i - j)) (dThen (dCons (dV 4) dNil) gLen) (dC (.int 1))) dNil) rng1) [5] (gtName 5) (dThen (dOp (gI fun i j => .bool (decide (j < i))) (dOp gIx (dV 4) (dV 5)) (dOp gIx (dV 4) (dOp gAdd (dV 5) (dC (.int 1))))) isB) (dV 5)) (dThen dNil fun ds => (few ds).map .list))))))
noncomputable def m__law_dl_is_ladder_told : List D → Option D := fnD b__law_dl_is_ladder_told 5
noncomputable def b__law_dl_great : DenS := (sSeq (sAsg (dV 1) (gtTup 3 (gtCons (gtName 2) (gtCons (gtName 3) (gtCons (gtName 4) gtNil)))))
      (sSeq (sAsg (dOp gIx (dThen (dCons (dC (.int 0)) (dCons (dC (.int 0)) (dCons (dCallO 0 (dCons (dOp (gI fun i j => .int (i - j)) (dOp (gIc cPow fun i j => .int (i ^ j.toNat)) (dC (.int 10)) (dC (.int 9))) (dC (.int 1000))) dNil) m__law_dl_pick) dNil))) fun ds => (few ds).map .list) (dCallO 0 (dCons (dC (.int 3)) dNil) m__law_dl_pick)) (gtName 5))
      (sRet (dThen (dCons (dComp (dThen (dV 2) asList) [6] (gtName 6) (dC true) (dOp gAdd (dV 6) (dV 5))) (dCons (dComp (dThen (dV 3) asList) [6] (gtName 6) (dC true) (dOp gAdd (dV 6) (dV 5))) (dCons (dV 4) dNil))) fun ds => (few ds).map .tuple))))
noncomputable def m__law_dl_great : List D → List D → Option (D × List D) := fnO b__law_dl_great 5
noncomputable def b__law_dl_first_unlike : DenS := (sSeq (sAsg (dThen (dCons (dV 0) (dCons (dV 1) dNil)) m__law_dl_common) (gtTup 4 (gtCons (gtName 2) (gtCons (gtName 3) (gtCons (gtName 4) (gtCons (gtName 5) gtNil))))))
      (sSeq (sFor (dThen (dCons (dOp gAdd (dOp gAdd (dV 2) (dV 3)) (dC (.int 1))) dNil) rng1) (gtName 6)
      (sIf (dThen (dOp (fun x y => (gEq x y).map fun b => .bool (!b)) (dThen (dCons (dV 0) (dCons (dV 6) dNil)) m__law_dl_at) (dThen (dCons (dV 1) (dCons (dV 6) dNil)) m__law_dl_at)) isB) (sRet (dV 6)) sNext))
      (sRet (dC .none))))
noncomputable def m__law_dl_first_unlike : List D → Option D := fnD b__law_dl_first_unlike 5
noncomputable def b__law_dl_asked_right_v2 : DenS := (sSeq (sAsg (dCallO 0 (dCons (dOp (gIc cPow fun i j => .int (i ^ j.toNat)) (dC (.int 10)) (dC (.int 30))) dNil) m__law_dl_pick) (gtName 3))
      (sSeq (sAsg (dThen (dCons (dC (.int 0)) (dCons (dOp (gI fun i j => .int (i - j)) (dOp gAdd (dThen (dCons (dOp gIx (dV 1) (dC (.int 0))) dNil) gLen) (dOp gMul (dThen (dCons (dOp gIx (dV 1) (dC (.int 1))) dNil) gLen) (dOp (gIc cDiv fun i j => .int (i / j)) (dV 3) (dOp (gIc cPow fun i j => .int (i ^ j.toNat)) (dC (.int 10)) (dC (.int 4)))))) (dC (.int 1))) dNil)) gMax2) (gtName 4))
      (sSeq (sFor (dThen (dThen (dCons (dC (.int 0)) (dCons (dThen (dCons (dOp gIx (dV 1) (dC (.int 0))) dNil) gLen) (dCons (dV 3) (dCons (dCallO 0 (dCons (dC (.int 40)) dNil) m__law_dl_pick) (dCons (dV 4) dNil))))) fun ds => (few ds).map .list) asList) (gtName 5)
      (sSeq (sAsg (dThen (dCons (dV 1) (dCons (dV 5) dNil)) m__law_dl_at) (gtName 6))
      (sIf (dIf (dThen (dOp (fun x y => (gEq x y).map fun b => .bool (!b)) (dThen (dCons (dThen (dCons (dV 1) (dCons (dV 5) dNil)) m_value) dNil) gRepr) (dThen (dCons (dV 6) dNil) gRepr)) isB) (dC true) (dThen (dOp (fun x y => (gEq x y).map fun b => .bool (!b)) (dThen (dCons (dThen (dCons (dV 5) (dCons (dV 2) dNil)) fun es => m_value (kw2r [] es)) dNil) gRepr) (dThen (dCons (dV 6) dNil) gRepr)) isB)) (sRet (dC (.bool false))) sNext)))
      (sRet (dC (.bool true))))))
noncomputable def m__law_dl_asked_right_v2 : List D → List D → Option (D × List D) := fnO b__law_dl_asked_right_v2 4
noncomputable def b_risen : DenS := (sRet (dOp gMul (dOp (gIc cDiv fun i j => .int (i / j)) (dV 1) (dThen (dCons (dOp gIx (dV 0) (dC (.int 1))) dNil) gLen)) (dOp gIx (dV 0) (dC (.int 2)))))
noncomputable def m_risen : List D → Option D := fnD b_risen 0
noncomputable def b_cut : DenS := (sSeq (sAsg (dOp (gI fun i j => .int (i - j)) (dThen (dCons (dV 0) dNil) gLen) (dV 1)) (gtName 3))
      (sRet (dThen (dCons (dThen (dCons (dThen (dPair (dV 0) (dPair (dC none) (dThen (dV 3) asPart))) fun p => gSl p.1 p.2.1 p.2.2) (dCons (dThen (dPair (dV 0) (dPair (dThen (dV 3) asPart) (dC none))) fun p => gSl p.1 p.2.1 p.2.2) (dCons (dV 2) dNil))) fun ds => (few ds).map .tuple) dNil) m_shortened)))
noncomputable def m_cut : List D → Option D := fnD b_cut 1
noncomputable def b_by_speed : DenS := (sSeq (sIf (dThen (dOp (gI fun i j => .bool (decide (i ≤ j))) (dOp gMul (dOp gIx (dV 0) (dC (.int 2))) (dThen (dCons (dOp gIx (dV 1) (dC (.int 1))) dNil) gLen)) (dOp gMul (dOp gIx (dV 1) (dC (.int 2))) (dThen (dCons (dOp gIx (dV 0) (dC (.int 1))) dNil) gLen))) isB) (sRet (dThen (dCons (dV 0) (dCons (dV 1) dNil)) fun ds => (few ds).map .tuple)) sNext)
      (sRet (dThen (dCons (dV 1) (dCons (dV 0) dNil)) fun ds => (few ds).map .tuple)))
noncomputable def m_by_speed : List D → Option D := fnD b_by_speed 0
noncomputable def b_turned : DenS := (sSeq (sDrop (dThen (dCons (dThen (dCons (dV 0) dNil) fun ds => (few ds).map .list) dNil) m_check_ladders))
      (sSeq (sAsg (dThen (dCons (dV 0) dNil) m_shortened) (gtTup 3 (gtCons (gtName 1) (gtCons (gtName 2) (gtCons (gtName 3) gtNil)))))
      (sSeq (sIf (dThen (dOp (fun x y => (gEq x y).map .bool) (dV 3) (dC (.int 0))) isB) sNever sNext)
      (sSeq (sPar 4 5 (dCons (dThen dNil fun ds => (few ds).map .list) (dCons (dC (.int 0)) dNil)))
      (sSeq (sFor (dThen (dCons (dOp gAdd (dOp gAdd (dOp gIx (dV 2) (dC (.int 0))) (dC (.int 1))) (dV 3)) dNil) rng1) (gtName 6)
      (sSeq (sWhile (dThen (dOp (gI fun i j => .bool (decide (i < j))) (dThen (dCons (dThen (dCons (dV 1) (dCons (dV 2) (dCons (dV 3) dNil))) fun ds => (few ds).map .tuple) (dCons (dV 5) dNil)) m_told_at) (dV 6)) isB)
      (sAug 5 (fun i j => i + j) (dC (.int 1))))
      (sAppO 4 (dV 5))))
      (sRet (dThen (dCons (dFrz 4) (dCons (dV 3) (dCons (dThen (dCons (dV 2) dNil) gLen) dNil))) fun ds => (few ds).map .tuple)))))))
noncomputable def m_turned : List D → Option D := fnD b_turned 6
noncomputable def b_first_from : DenS := (sSeq (sAsg (dThen (dCons (dV 0) dNil) m_turned) (gtTup 3 (gtCons (gtName 1) (gtCons (gtName 2) (gtCons (gtName 3) gtNil)))))
      (sRet (dThen (dCons (dV 1) (dCons (dV 2) (dCons (dV 3) dNil))) m_cut)))
noncomputable def m_first_from : List D → Option D := fnD b_first_from 3
noncomputable def b_until : DenS := (sSeq (sAsg (dThen (dCons (dV 0) dNil) m_turned) (gtTup 3 (gtCons (gtName 1) (gtCons (gtName 2) (gtCons (gtName 3) gtNil)))))
      (sRet (dThen (dCons (dThen (dPair (dV 1) (dPair (dThen (dC (.int 1)) asPart) (dC none))) fun p => gSl p.1 p.2.1 p.2.2) (dCons (dV 2) (dCons (dV 3) dNil))) m_cut)))
noncomputable def m_until : List D → Option D := fnD b_until 3
noncomputable def b__law_dl_joined : DenS := (sSeq (sAsg (dV 0) (gtTup 3 (gtCons (gtName 2) (gtCons (gtName 3) (gtCons (gtName 4) gtNil)))))
      (sSeq (sPar 5 6 (dCons (dThen (dCons (dV 2) dNil) gLen) (dCons (dC (.int 1)) dNil)))
      (sSeq (sIf (dThen (dOp (gI fun i j => .bool (decide (j < i))) (dV 4) (dC (.int 0))) isB) (sSeq (sAsg (dOp (gIc cDiv fun i j => .int (i / j)) (dThen (dCons (dOp gIx (dV 1) (dC (.int 1))) dNil) gLen) (dThen (dCons (dV 4) (dCons (dThen (dCons (dOp gIx (dV 1) (dC (.int 1))) dNil) gLen) dNil)) m__law_dl_divisor)) (gtName 6))
      (sFor (dThen (dCons (dOp gAdd (dOp gAdd (dOp gMul (dThen (dCons (dOp gIx (dV 1) (dC (.int 0))) dNil) gLen) (dThen (dCons (dV 3) dNil) gLen)) (dThen (dCons (dV 2) dNil) gLen)) (dC (.int 1))) dNil) rng1) (gtName 7)
      (sIf (dThen (dOp (gI fun i j => .bool (decide (i < j))) (dThen (dCons (dV 0) (dCons (dV 5) dNil)) m__law_dl_at) (dThen (dCons (dOp gIx (dV 1) (dC (.int 0))) dNil) gLen)) isB) (sAsg (dOp gAdd (dV 5) (dC (.int 1))) (gtName 5)) sNext))) sNext)
      (sSeq (sAsg (dComp (dThen (dCons (dOp gAdd (dV 5) (dOp gMul (dThen (dCons (dV 3) dNil) gLen) (dV 6))) dNil) rng1) [7] (gtName 7) (dC true) (dThen (dCons (dV 1) (dCons (dThen (dCons (dV 0) (dCons (dV 7) dNil)) m__law_dl_at) dNil)) m__law_dl_at)) (gtName 8))
      (sRet (dThen (dCons (dThen (dPair (dV 8) (dPair (dC none) (dThen (dV 5) asPart))) fun p => gSl p.1 p.2.1 p.2.2) (dCons (dThen (dPair (dV 8) (dPair (dThen (dV 5) asPart) (dC none))) fun p => gSl p.1 p.2.1 p.2.2) (dCons (dOp gMul (dOp gIx (dV 1) (dC (.int 2))) (dOp (gIc cDiv fun i j => .int (i / j)) (dOp gMul (dV 4) (dV 6)) (dThen (dCons (dOp gIx (dV 1) (dC (.int 1))) dNil) gLen))) dNil))) fun ds => (few ds).map .tuple))))))
noncomputable def m__law_dl_joined : List D → Option D := fnD b__law_dl_joined 7
noncomputable def b__law_dl_cross : DenS := (sSeq (sAsg (dThen (dCons (dV 0) (dCons (dV 1) dNil)) m__law_dl_common) (gtTup 4 (gtCons (gtName 2) (gtCons (gtName 3) (gtCons (gtName 4) (gtCons (gtName 5) gtNil))))))
      (sSeq (sAsg (dIf (dThen (dOp (gI fun i j => .bool (decide (i < j))) (dV 4) (dV 5)) isB) (dThen (dCons (dV 0) (dCons (dV 1) dNil)) fun ds => (few ds).map .tuple) (dThen (dCons (dV 1) (dCons (dV 0) dNil)) fun ds => (few ds).map .tuple)) (gtTup 2 (gtCons (gtName 6) (gtCons (gtName 7) gtNil))))
      (sSeq (sPar 8 9 (dCons (dC (.int 0)) (dCons (dThen (dCons (dOp (gI fun i j => .int (i - j)) (dV 4) (dV 5)) dNil) gAbs) dNil)))
      (sSeq (sFor (dThen (dCons (dIf (dThen (dOp (gI fun i j => .bool (decide (j < i))) (dV 9) (dC (.int 0))) isB) (dOp gAdd (dV 2) (dV 3)) (dC (.int 0))) dNil) rng1) (gtName 10)
      (sSeq (sAsg (dOp (gI fun i j => .int (i - j)) (dThen (dCons (dV 6) (dCons (dV 10) dNil)) m__law_dl_at) (dThen (dCons (dV 7) (dCons (dV 10) dNil)) m__law_dl_at)) (gtName 11))
      (sIf (dThen (dOp (gI fun i j => .bool (decide (j < i))) (dV 11) (dC (.int 0))) isB) (sSeq (sAsg (dIf (dThen (dOp (gI fun i j => .bool (decide (j ≤ i))) (dV 10) (dV 2)) isB) (dOp (gIc cDiv fun i j => .int (i / j)) (dOp (gI fun i j => .int (i - j)) (dV 11) (dC (.int 1))) (dV 9)) (dC (.int 0))) (gtName 12))
      (sAsg (dThen (dCons (dV 8) (dCons (dOp gAdd (dOp gAdd (dV 10) (dC (.int 1))) (dOp gMul (dV 3) (dV 12))) dNil)) gMax2) (gtName 8))) sNext)))
      (sRet (dV 8))))))
noncomputable def m__law_dl_cross : List D → Option D := fnD b__law_dl_cross 11
noncomputable def b__law_dl_chosen : DenS := (sSeq (sAsg (dThen (dCons (dV 0) (dCons (dV 1) dNil)) m__law_dl_common) (gtTup 4 (gtCons (gtName 3) (gtCons (gtName 4) (gtCons (gtName 5) (gtCons (gtName 6) gtNil))))))
      (sSeq (sAsg (dThen (dCons (dV 3) (dCons (dThen (dCons (dV 0) (dCons (dV 1) dNil)) m__law_dl_cross) dNil)) gMax2) (gtName 3))
      (sSeq (sAsg (dComp (dThen (dCons (dOp gAdd (dV 3) (dV 4)) dNil) rng1) [9] (gtName 9) (dC true) (dThen (dCons (dThen (dCons (dV 0) (dCons (dV 9) dNil)) m__law_dl_at) (dCons (dThen (dCons (dV 1) (dCons (dV 9) dNil)) m__law_dl_at) dNil)) fun ds => (few ds).map .list)) (gtName 7))
      (sSeq (sAsg (dComp (dThen (dV 7) asList) [10] (gtName 10) (dC true) (dIf (dThen (dV 2) truth) (dThen (dCons (dV 10) dNil) gMin) (dThen (dCons (dV 10) dNil) gMax))) (gtName 8))
      (sRet (dThen (dCons (dThen (dPair (dV 8) (dPair (dC none) (dThen (dV 3) asPart))) fun p => gSl p.1 p.2.1 p.2.2) (dCons (dThen (dPair (dV 8) (dPair (dThen (dV 3) asPart) (dC none))) fun p => gSl p.1 p.2.1 p.2.2) (dCons (dIf (dThen (dV 2) truth) (dThen (dCons (dV 5) (dCons (dV 6) dNil)) gMin2) (dThen (dCons (dV 5) (dCons (dV 6) dNil)) gMax2)) dNil))) fun ds => (few ds).map .tuple))))))
noncomputable def m__law_dl_chosen : List D → Option D := fnD b__law_dl_chosen 8
noncomputable def b__law_dl_added : DenS := (sSeq (sAsg (dThen (dCons (dV 0) (dCons (dV 1) dNil)) m__law_dl_common) (gtTup 4 (gtCons (gtName 2) (gtCons (gtName 3) (gtCons (gtName 4) (gtCons (gtName 5) gtNil))))))
      (sSeq (sAsg (dComp (dThen (dCons (dOp gAdd (dV 2) (dV 3)) dNil) rng1) [7] (gtName 7) (dC true) (dOp gAdd (dThen (dCons (dV 0) (dCons (dV 7) dNil)) m__law_dl_at) (dThen (dCons (dV 1) (dCons (dV 7) dNil)) m__law_dl_at))) (gtName 6))
      (sRet (dThen (dCons (dThen (dPair (dV 6) (dPair (dC none) (dThen (dV 2) asPart))) fun p => gSl p.1 p.2.1 p.2.2) (dCons (dThen (dPair (dV 6) (dPair (dThen (dV 2) asPart) (dC none))) fun p => gSl p.1 p.2.1 p.2.2) (dCons (dOp gAdd (dV 4) (dV 5)) dNil))) fun ds => (few ds).map .tuple))))
noncomputable def m__law_dl_added : List D → Option D := fnD b__law_dl_added 6
noncomputable def b__law_dl_turned : DenS := (sSeq (sAsg (dV 0) (gtTup 3 (gtCons (gtName 2) (gtCons (gtName 3) (gtCons (gtName 4) gtNil)))))
      (sSeq (sPar 5 6 (dCons (dThen dNil fun ds => (few ds).map .list) (dCons (dC (.int 0)) dNil)))
      (sSeq (sFor (dThen (dCons (dOp gAdd (dOp gAdd (dOp gIx (dV 3) (dC (.int 0))) (dC (.int 1))) (dV 4)) dNil) rng1) (gtName 7)
      (sSeq (sWhile (dThen (dOp (gI fun i j => .bool (decide (i < j))) (dThen (dCons (dV 0) (dCons (dV 6) dNil)) m__law_dl_at) (dV 7)) isB)
      (sAsg (dOp gAdd (dV 6) (dC (.int 1))) (gtName 6)))
      (sAppO 5 (dV 6))))
      (sSeq (sAsg (dOp (gI fun i j => .int (i - j)) (dOp gAdd (dOp gIx (dV 3) (dC (.int 0))) (dC (.int 1))) (dV 1)) (gtName 8))
      (sRet (dThen (dCons (dSlO 5 (dThen (dV 1) asPart) (dThen (dOp gAdd (dV 1) (dV 8)) asPart)) (dCons (dSlO 5 (dThen (dOp gAdd (dV 1) (dV 8)) asPart) (dC none)) (dCons (dThen (dCons (dV 3) dNil) gLen) dNil))) fun ds => (few ds).map .tuple))))))
noncomputable def m__law_dl_turned : List D → Option D := fnD b__law_dl_turned 7
noncomputable def b__law_dl_turns_right : DenS := (sSeq (sAsg (dThen (dCons (dThen (dCons (dThen (dCons (dV 1) (dCons (dC (.int 0)) dNil)) m__law_dl_turned) dNil) m__law_dl_least) (dCons (dThen (dCons (dThen (dCons (dV 1) (dCons (dC (.int 1)) dNil)) m__law_dl_turned) dNil) m__law_dl_least) dNil)) fun ds => (few ds).map .list) (gtName 2))
      (sSeq (sIf (dNot (dThen (dThen (dCons (dThen (dCons (dThen (dCons (dV 0) dNil) m_first_from) (dCons (dThen (dCons (dV 0) dNil) m_until) dNil)) fun ds => (few ds).map .list) (dCons (dV 2) dNil)) gSame) truth)) (sRet (dC (.bool false))) sNext)
      (sRet (dThen (dCons (dThen (dCons (dThen (dCons (dV 0) dNil) fun es => m_first_from (kw1 [] es)) (dCons (dThen (dCons (dV 0) dNil) fun es => m_until (kw1 [] es)) dNil)) fun ds => (few ds).map .list) (dCons (dV 2) dNil)) gSame))))
noncomputable def m__law_dl_turns_right : List D → Option D := fnD b__law_dl_turns_right 1
noncomputable def b__law_dl_places : DenS := (sSeq (sAsg (dIf (dThen (dOp (gI fun i j => .bool (decide (j < i))) (dOp gIx (dV 0) (dC (.int 2))) (dC (.int 0))) isB) (dOp (gIc cDiv fun i j => .int (i / j)) (dThen (dCons (dOp gIx (dV 1) (dC (.int 1))) dNil) gLen) (dThen (dCons (dOp gIx (dV 0) (dC (.int 2))) (dCons (dThen (dCons (dOp gIx (dV 1) (dC (.int 1))) dNil) gLen) dNil)) m__law_dl_divisor)) (dC (.int 1))) (gtName 2))
      (sSeq (sAsg (dOp gAdd (dThen (dCons (dOp gIx (dV 0) (dC (.int 0))) dNil) gLen) (dOp gMul (dThen (dCons (dOp gIx (dV 0) (dC (.int 1))) dNil) gLen) (dThen (dCons (dOp gIx (dV 1) (dC (.int 0))) dNil) gLen))) (gtName 3))
      (sSeq (sAsg (dOp (gIc cDiv fun i j => .int (i / j)) (dOp gMul (dThen (dCons (dOp gIx (dV 0) (dC (.int 1))) dNil) gLen) (dThen (dCons (dOp gIx (dV 1) (dC (.int 1))) dNil) gLen)) (dThen (dCons (dThen (dCons (dOp gIx (dV 0) (dC (.int 1))) dNil) gLen) (dCons (dThen (dCons (dOp gIx (dV 1) (dC (.int 1))) dNil) gLen) dNil)) m__law_dl_divisor)) (gtName 4))
      (sRet (dThen (dCons (dOp gAdd (dV 3) (dOp gMul (dThen (dCons (dOp gIx (dV 0) (dC (.int 1))) dNil) gLen) (dV 2))) (dCons (dV 4) dNil)) gMax2)))))
noncomputable def m__law_dl_places : List D → Option D := fnD b__law_dl_places 3
noncomputable def b_as_fast_as_days : DenS := (sRet (dOp (fun x y => (gEq x y).map .bool) (dOp gIx (dV 0) (dC (.int 2))) (dThen (dCons (dOp gIx (dV 0) (dC (.int 1))) dNil) gLen)))
noncomputable def m_as_fast_as_days : List D → Option D := fnD b_as_fast_as_days 0
noncomputable def b__law_dl_lifted : DenS := (sSeq (sAsg (dV 1) (gtTup 3 (gtCons (gtName 2) (gtCons (gtName 3) (gtCons (gtName 4) gtNil)))))
      (sSeq (sAsg (dOp gIx (dThen (dCons (dC (.int 0)) (dCons (dCallO 0 (dCons (dC (.int 9)) dNil) m__law_dl_pick) (dCons (dCallO 0 (dCons (dOp (gI fun i j => .int (i - j)) (dOp (gIc cPow fun i j => .int (i ^ j.toNat)) (dC (.int 10)) (dC (.int 9))) (dC (.int 1000))) dNil) m__law_dl_pick) dNil))) fun ds => (few ds).map .list) (dCallO 0 (dCons (dC (.int 3)) dNil) m__law_dl_pick)) (gtName 5))
      (sRet (dThen (dCons (dComp (dThen (dV 2) asList) [6] (gtName 6) (dC true) (dOp gAdd (dV 6) (dV 5))) (dCons (dComp (dThen (dV 3) asList) [6] (gtName 6) (dC true) (dOp gAdd (dV 6) (dV 5))) (dCons (dV 4) dNil))) fun ds => (few ds).map .tuple))))
noncomputable def m__law_dl_lifted : List D → List D → Option (D × List D) := fnO b__law_dl_lifted 5
noncomputable def b__law_dl_less : DenS := (sSeq (sAsg (dThen (dCons (dV 0) (dCons (dV 1) dNil)) m__law_dl_common) (gtTup 4 (gtCons (gtName 2) (gtCons (gtName 3) (gtCons (gtName 4) (gtCons (gtName 5) gtNil))))))
      (sSeq (sOwn 6 dNil)
      (sSeq (sFor (dThen (dCons (dOp gAdd (dV 2) (dV 3)) dNil) rng1) (gtName 7)
      (sSeq (sAsg (dOp (gI fun i j => .int (i - j)) (dThen (dCons (dV 0) (dCons (dV 7) dNil)) m__law_dl_at) (dThen (dCons (dV 1) (dCons (dV 7) dNil)) m__law_dl_at)) (gtName 8))
      (sSeq (sIf (dThen (dOp (gI fun i j => .bool (decide (i < j))) (dV 8) (dC (.int 0))) isB) (sRet (dV 7)) sNext)
      (sIf (dIf (dThen (dOp (gI fun i j => .bool (decide (j ≤ i))) (dV 7) (dV 2)) isB) (dThen (dOp (gI fun i j => .bool (decide (j < i))) (dV 5) (dV 4)) isB) (dC false)) (sAppO 6 (dOp gAdd (dV 7) (dOp gMul (dV 3) (dOp gAdd (dOp (gIc cDiv fun i j => .int (i / j)) (dV 8) (dOp (gI fun i j => .int (i - j)) (dV 5) (dV 4))) (dC (.int 1)))))) sNext))))
      (sRet (dIf (dThen (dOp (fun x y => (gEq x y).map fun b => .bool (!b)) (dFrz 6) (dThen dNil fun ds => (few ds).map .list)) isB) (dThen (dCons (dFrz 6) dNil) gMin) (dC .none))))))
noncomputable def m__law_dl_less : List D → Option D := fnD b__law_dl_less 7
noncomputable def b__law_dl_apart : DenS := (sSeq (sAsg (dThen (dCons (dV 0) (dCons (dV 1) dNil)) m__law_dl_common) (gtTup 4 (gtCons (gtName 2) (gtCons (gtName 3) (gtCons (gtName 4) (gtCons (gtName 5) gtNil))))))
      (sSeq (sAsg (dComp (dThen (dCons (dOp gAdd (dV 2) (dV 3)) dNil) rng1) [7] (gtName 7) (dC true) (dOp (gI fun i j => .int (i - j)) (dThen (dCons (dV 0) (dCons (dV 7) dNil)) m__law_dl_at) (dThen (dCons (dV 1) (dCons (dV 7) dNil)) m__law_dl_at))) (gtName 6))
      (sRet (dThen (dCons (dIf (dThen (dOp (gI fun i j => .bool (decide (j ≤ i))) (dV 4) (dV 5)) isB) (dThen (dCons (dV 6) dNil) gMin) (dC .none)) (dCons (dIf (dThen (dOp (gI fun i j => .bool (decide (i ≤ j))) (dV 4) (dV 5)) isB) (dThen (dCons (dV 6) dNil) gMax) (dC .none)) dNil)) fun ds => (few ds).map .tuple))))
noncomputable def m__law_dl_apart : List D → Option D := fnD b__law_dl_apart 6
noncomputable def b_counts : DenS := (sSeq (sDrop (dThen (dCons (dThen (dCons (dV 0) dNil) fun ds => (few ds).map .list) dNil) m_check_sets))
      (sSeq (sAsg (dThen (dCons (dV 0) dNil) m_narrowed) (gtTup 4 (gtCons (gtName 1) (gtCons (gtName 2) (gtCons (gtName 3) (gtCons (gtName 4) gtNil))))))
      (sSeq (sAsg (dOp gAdd (dV 1) (dComp (dThen (dV 4) asList) [9] (gtName 9) (dC true) (dOp gAdd (dV 2) (dV 9)))) (gtName 5))
      (sSeq (sPar 6 7 (dCons (dThen dNil fun ds => (few ds).map .list) (dCons (dC (.int 0)) dNil)))
      (sSeq (sFor (dThen (dCons (dOp gAdd (dV 2) (dV 3)) dNil) rng1) (gtName 8)
      (sSeq (sAppO 6 (dV 7))
      (sIf (dIf (dThen (dOp (gI fun i j => .bool (decide (i < j))) (dV 7) (dThen (dCons (dV 5) dNil) gLen)) isB) (dThen (dOp (fun x y => (gEq x y).map .bool) (dOp gIx (dV 5) (dV 7)) (dV 8)) isB) (dC false)) (sAug 7 (fun i j => i + j) (dC (.int 1))) sNext)))
      (sRet (dThen (dCons (dThen (dCons (dSlO 6 (dC none) (dThen (dV 2) asPart)) (dCons (dSlO 6 (dThen (dV 2) asPart) (dC none)) (dCons (dThen (dCons (dV 4) dNil) gLen) dNil))) fun ds => (few ds).map .tuple) dNil) m_shortened)))))))
noncomputable def m_counts : List D → Option D := fnD b_counts 9
noncomputable def b_nth_days : DenS := (sSeq (sDrop (dThen (dCons (dThen (dCons (dV 0) dNil) fun ds => (few ds).map .list) dNil) m_check_sets))
      (sSeq (sAsg (dV 0) (gtTup 4 (gtCons (gtName 1) (gtCons (gtName 2) (gtCons (gtName 3) (gtCons (gtName 4) gtNil))))))
      (sSeq (sIf (dNot (dThen (dV 4) truth)) sNever sNext)
      (sRet (dThen (dCons (dThen (dCons (dV 1) (dCons (dComp (dThen (dV 4) asList) [5] (gtName 5) (dC true) (dOp gAdd (dV 2) (dV 5))) (dCons (dV 3) dNil))) fun ds => (few ds).map .tuple) dNil) m_shortened)))))
noncomputable def m_nth_days : List D → Option D := fnD b_nth_days 5
noncomputable def b__law_dl_counted : DenS := (sSeq (sAsg (dComp (dThen (dCons (dOp gAdd (dOp gIx (dV 0) (dC (.int 1))) (dOp gIx (dV 0) (dC (.int 2)))) dNil) rng1) [3] (gtName 3) (dC true) (dThen (dCons (dThen (dCons (dV 0) (dCons (dV 3) dNil)) m__law_dl_has) dNil) gInt)) (gtName 1))
      (sSeq (sAsg (dComp (dThen (dCons (dThen (dCons (dV 1) dNil) gLen) dNil) rng1) [3] (gtName 3) (dC true) (dThen (dCons (dThen (dPair (dV 1) (dPair (dC none) (dThen (dV 3) asPart))) fun p => gSl p.1 p.2.1 p.2.2) dNil) gSum)) (gtName 2))
      (sRet (dThen (dCons (dThen (dCons (dThen (dPair (dV 2) (dPair (dC none) (dThen (dOp gIx (dV 0) (dC (.int 1))) asPart))) fun p => gSl p.1 p.2.1 p.2.2) (dCons (dThen (dPair (dV 2) (dPair (dThen (dOp gIx (dV 0) (dC (.int 1))) asPart) (dC none))) fun p => gSl p.1 p.2.1 p.2.2) (dCons (dThen (dCons (dOp gIx (dV 0) (dC (.int 3))) dNil) gLen) dNil))) fun ds => (few ds).map .tuple) dNil) m__law_dl_least))))
noncomputable def m__law_dl_counted : List D → Option D := fnD b__law_dl_counted 3
noncomputable def b__law_dl_nth : DenS := (sRet (dThen (dCons (dThen (dCons (dThen (dCons (dOp gIx (dV 0) (dC (.int 0))) dNil) gListOf) (dCons (dComp (dThen (dOp gIx (dV 0) (dC (.int 3))) asList) [1] (gtName 1) (dC true) (dOp gAdd (dOp gIx (dV 0) (dC (.int 1))) (dV 1))) (dCons (dOp gIx (dV 0) (dC (.int 2))) dNil))) fun ds => (few ds).map .tuple) dNil) m__law_dl_least))
noncomputable def m__law_dl_nth : List D → Option D := fnD b__law_dl_nth 1
noncomputable def b__law_dl_day_right : DenS := (sSeq (sIf (dThen (dOp (fun x y => (gEq x y).map fun b => .bool (!b)) (dOp (gI fun i j => .int (i - j)) (dThen (dCons (dV 0) (dCons (dOp gAdd (dV 3) (dC (.int 1))) dNil)) m_value) (dThen (dCons (dV 0) (dCons (dV 3) dNil)) m_value)) (dThen (dCons (dThen (dCons (dV 2) (dCons (dV 3) dNil)) m_has) dNil) gInt)) isB) (sRet (dC (.bool false))) sNext)
      (sSeq (sIf (dThen (dOp gIs (dV 1) (dC .none)) isB) (sRet (dC (.bool true))) sNext)
      (sRet (dOp (fun x y => (gEq x y).map .bool) (dThen (dCons (dThen (dCons (dV 2) (dCons (dV 3) dNil)) m_next_day) dNil) gRepr) (dThen (dCons (dThen (dCons (dV 1) (dCons (dThen (dCons (dV 0) (dCons (dV 3) dNil)) m_value) dNil)) m_value) dNil) gRepr)))))
noncomputable def m__law_dl_day_right : List D → Option D := fnD b__law_dl_day_right 0
noncomputable def b__law_dl_readings_right : DenS := (sSeq (sAsg (dCallO 0 (dCons (dOp (gIc cPow fun i j => .int (i ^ j.toNat)) (dC (.int 10)) (dC (.int 28))) dNil) m__law_dl_pick) (gtName 4))
      (sSeq (sAsg (dThen (dCons (dCallO 0 (dCons (dC (.int 30)) dNil) m__law_dl_pick) (dCons (dV 4) (dCons (dCallO 0 (dCons (dC (.int 8)) dNil) m__law_dl_pick) dNil))) fun ds => (few ds).map .list) (gtName 5))
      (sSeq (sFor (dThen (dV 5) asList) (gtName 6)
      (sSeq (sAsg (dThen (dCons (dV 1) (dCons (dV 6) dNil)) m_value) (gtName 7))
      (sFor (dThen (dThen (dCons (dV 7) (dCons (dThen (dCons (dC (.int 0)) (dCons (dOp (gI fun i j => .int (i - j)) (dV 7) (dC (.int 1))) dNil)) gMax2) (dCons (dOp gAdd (dV 7) (dC (.int 1))) (dCons (dCallO 0 (dCons (dC (.int 60)) dNil) m__law_dl_pick) (dCons (dV 4) dNil))))) fun ds => (few ds).map .list) asList) (gtName 8)
      (sSeq (sIf (dThen (dOp (fun x y => (gEq x y).map fun b => .bool (!b)) (dOp (gI fun i j => .bool (decide (j ≤ i))) (dV 7) (dV 8)) (dOp (gI fun i j => .bool (decide (j ≤ i))) (dV 6) (dThen (dCons (dV 2) (dCons (dV 8) dNil)) m_value))) isB) (sRet (dC (.bool false))) sNext)
      (sIf (dThen (dOp (fun x y => (gEq x y).map fun b => .bool (!b)) (dOp (gI fun i j => .bool (decide (i ≤ j))) (dV 7) (dV 8)) (dOp (gI fun i j => .bool (decide (i < j))) (dV 6) (dThen (dCons (dV 3) (dCons (dV 8) dNil)) m_value))) isB) (sRet (dC (.bool false))) sNext)))))
      (sRet (dC (.bool true))))))
noncomputable def m__law_dl_readings_right : List D → List D → Option (D × List D) := fnO b__law_dl_readings_right 5
noncomputable def b_laps_down : DenS := (sRet (dOp (gIc cDiv fun i j => .int (i / j)) (dOp (gI fun i j => .int (i - j)) (dV 1) (dThen (dCons (dOp gIx (dV 0) (dC (.int 0))) dNil) gLen)) (dThen (dV 2) (gU fun i => .int (-i)))))
noncomputable def m_laps_down : List D → Option D := fnD b_laps_down 0
noncomputable def b_stepped : DenS := (sSeq (sAsg (dC (.int 0)) (gtName 3))
      (sSeq (sWhile (dThen (dOp (gI fun i j => .bool (decide (i < j))) (dV 3) (dV 2)) isB)
      (sSeq (sAsg (dThen (dCons (dV 0) (dCons (dV 1) dNil)) m_told_at) (gtName 4))
      (sSeq (sIf (dThen (dOp (fun x y => (gEq x y).map .bool) (dV 4) (dV 1)) isB) (sRet (dV 1)) sNext)
      (sSeq (sAsg (dV 4) (gtName 1))
      (sAug 3 (fun i j => i + j) (dC (.int 1)))))))
      (sRet (dV 1))))
noncomputable def m_stepped : List D → Option D := fnD b_stepped 2
noncomputable def b_times_to_stay : DenS := (sSeq (sAsg (dC (.int 0)) (gtName 2))
      (sSeq (sAsg (dThen (dCons (dV 0) (dCons (dV 1) dNil)) m_told_at) (gtName 3))
      (sSeq (sWhile (dThen (dOp (fun x y => (gEq x y).map fun b => .bool (!b)) (dV 3) (dV 1)) isB)
      (sSeq (sPar 1 3 (dCons (dV 3) (dCons (dThen (dCons (dV 0) (dCons (dV 3) dNil)) m_told_at) dNil)))
      (sAug 2 (fun i j => i + j) (dC (.int 1)))))
      (sRet (dV 2)))))
noncomputable def m_times_to_stay : List D → Option D := fnD b_times_to_stay 2
noncomputable def b__law_dl_walked : DenS := (sSeq (sFor (dThen (dCons (dV 2) dNil) rng1) (gtName 3)
      (sAsg (dThen (dCons (dV 0) (dCons (dV 1) dNil)) m__law_dl_at) (gtName 1)))
      (sRet (dV 1)))
noncomputable def m__law_dl_walked : List D → Option D := fnD b__law_dl_walked 1
noncomputable def b__law_dl_is_least : DenS := (sSeq (sOwn 3 dNil)
      (sSeq (sFor (dThen (dCons (dV 2) dNil) rng1) (gtName 4)
      (sSeq (sAppO 3 (dOp (gI fun i j => .int (i - j)) (dThen (dCons (dV 0) (dCons (dV 1) dNil)) m__law_dl_at) (dV 1)))
      (sAsg (dThen (dCons (dV 0) (dCons (dV 1) dNil)) m__law_dl_at) (gtName 1))))
      (sSeq (sFor (dThen (dCons (dC (.int 1)) (dCons (dV 2) dNil)) rng2) (gtName 5)
      (sIf (dThen (dOp (fun x y => (gEq x y).map .bool) (dFrz 3) (dOp gAdd (dSlO 3 (dThen (dV 5) asPart) (dC none)) (dSlO 3 (dC none) (dThen (dV 5) asPart)))) isB) (sRet (dC (.bool false))) sNext))
      (sRet (dC (.bool true))))))
noncomputable def m__law_dl_is_least : List D → Option D := fnD b__law_dl_is_least 3
noncomputable def b__law_dl_far_right : DenS := (sSeq (sAsg (dCallO 0 (dCons (dOp (gIc cPow fun i j => .int (i ^ j.toNat)) (dC (.int 10)) (dC (.int 26))) dNil) m__law_dl_pick) (gtName 4))
      (sSeq (sAsg (dOp gAdd (dOp gIx (dV 1) (dC (.int 1))) (dCallO 0 (dCons (dC (.int 20)) dNil) m__law_dl_pick)) (gtName 5))
      (sSeq (sAsg (dOp gAdd (dV 5) (dOp gMul (dOp gIx (dV 1) (dC (.int 2))) (dV 4))) (gtName 6))
      (sSeq (sIf (dThen (dOp (fun x y => (gEq x y).map fun b => .bool (!b)) (dThen (dCons (dThen (dCons (dV 1) (dCons (dV 6) dNil)) m_has) dNil) gRepr) (dThen (dCons (dThen (dCons (dV 1) (dCons (dV 5) dNil)) m__law_dl_has) dNil) gRepr)) isB) (sRet (dC (.bool false))) sNext)
      (sSeq (sAsg (dThen (dCons (dV 1) (dCons (dV 5) dNil)) m_next_day) (gtName 7))
      (sSeq (sIf (dThen (dOp (fun x y => (gEq x y).map fun b => .bool (!b)) (dThen (dCons (dThen (dCons (dV 1) (dCons (dV 6) dNil)) m_next_day) dNil) gRepr) (dThen (dCons (dIf (dThen (dOp gIs (dV 7) (dC .none)) isB) (dC .none) (dOp gAdd (dV 7) (dOp gMul (dOp gIx (dV 1) (dC (.int 2))) (dV 4)))) dNil) gRepr)) isB) (sRet (dC (.bool false))) sNext)
      (sSeq (sAsg (dOp gAdd (dThen (dCons (dOp gIx (dV 2) (dC (.int 0))) dNil) gLen) (dCallO 0 (dCons (dC (.int 20)) dNil) m__law_dl_pick)) (gtName 5))
      (sSeq (sAsg (dOp gAdd (dThen (dCons (dV 2) (dCons (dV 5) dNil)) m__law_dl_at) (dOp gMul (dOp gIx (dV 2) (dC (.int 2))) (dV 4))) (gtName 8))
      (sRet (dOp (fun x y => (gEq x y).map .bool) (dThen (dCons (dThen (dCons (dV 3) (dCons (dOp gAdd (dV 5) (dOp gMul (dThen (dCons (dOp gIx (dV 2) (dC (.int 1))) dNil) gLen) (dV 4))) dNil)) m_value) dNil) gRepr) (dThen (dCons (dV 8) dNil) gRepr)))))))))))
noncomputable def m__law_dl_far_right : List D → List D → Option (D × List D) := fnO b__law_dl_far_right 5
noncomputable def b__law_dl_more : DenS := (sRet (dIf (dThen (dOp gIs (dV 0) (dC .none)) isB) (dC .none) (dOp gAdd (dV 0) (dV 1))))
noncomputable def m__law_dl_more : List D → Option D := fnD b__law_dl_more 0
noncomputable def b__law_dl_fraction : DenS := (sSeq (sAsg (dThen (dCons (dV 0) (dCons (dV 1) dNil)) m__law_dl_divisor) (gtName 2))
      (sRet (dThen (dCons (dOp (gIc cDiv fun i j => .int (i / j)) (dV 0) (dV 2)) (dCons (dOp (gIc cDiv fun i j => .int (i / j)) (dV 1) (dV 2)) dNil)) fun ds => (few ds).map .tuple)))
noncomputable def m__law_dl_fraction : List D → Option D := fnD b__law_dl_fraction 1
noncomputable def b__law_dl_ladders_of_sets : DenS := (sSeq (sAsg (dThen (dCons (dThen (dCons (dV 0) dNil) m_counts) (dCons (dThen (dCons (dV 1) dNil) m_counts) dNil)) fun ds => (few ds).map .list) (gtName 2))
      (sRet (dOp gAdd (dV 2) (dComp (dThen (dThen (dCons (dV 0) (dCons (dV 1) dNil)) fun ds => (few ds).map .list) asList) [3] (gtName 3) (dThen (dOp (fun x y => (gEq x y).map fun b => .bool (!b)) (dOp gIx (dV 3) (dC (.int 3))) (dThen dNil fun ds => (few ds).map .list)) isB) (dThen (dCons (dV 3) dNil) m_nth_days)))))
noncomputable def m__law_dl_ladders_of_sets : List D → Option D := fnD b__law_dl_ladders_of_sets 2
end Pg

set_option Elab.async false
set_option linter.all false
namespace Md
/-! ### sequences that come over and over, each time s more -/
structure Tell (x : Nat → Int) (e p : Nat) (s : Int) : Prop where
  pos : 0 < p
  step : ∀ n, e ≤ n → x (n + p) = x n + s
theorem Tell.up {x : Nat → Int} {e e' p : Nat} {s : Int} (h : Tell x e p s) (l : e ≤ e') : Tell x e' p s := ⟨h.pos, fun n hn => h.step n (Nat.le_trans l hn)⟩
theorem Tell.steps {x : Nat → Int} {e p : Nat} {s : Int} (h : Tell x e p s) : ∀ (k n : Nat), e ≤ n → x (n + p * k) = x n + s * k
  | 0, n, _ => by simp
  | k + 1, n, hn => by
    have e1 : n + p * (k + 1) = (n + p * k) + p := by rw [Nat.mul_succ, Nat.add_assoc]
    rw [e1, h.step _ (by omega), h.steps k n hn, Int.natCast_add, Int.mul_add]
    simp
    omega
theorem Tell.mul {x : Nat → Int} {e p : Nat} {s : Int} (h : Tell x e p s) {k : Nat} (hk : 0 < k) : Tell x e (p * k) (s * k) := ⟨Nat.mul_pos h.pos hk, h.steps k⟩
/-- the beginning of the one goes with the round of the other one -/
theorem Tell.mix {x : Nat → Int} {e1 p1 e2 p2 : Nat} {s1 s2 : Int} (h : Tell x e1 p1 s1) (g : Tell x e2 p2 s2) : Tell x e1 p2 s2 := ⟨g.pos, fun n hn => by
  have a := h.steps e2 n hn
  have b := h.steps e2 (n + p2) (by omega)
  have l : e2 ≤ n + p1 * e2 := by
    have := Nat.le_mul_of_pos_left e2 h.pos
    omega
  have c := g.step (n + p1 * e2) l
  have e : n + p2 + p1 * e2 = n + p1 * e2 + p2 := by omega
  rw [e] at b
  omega⟩
theorem Tell.same {x : Nat → Int} {e1 e2 p : Nat} {s1 s2 : Int} (h : Tell x e1 p s1) (g : Tell x e2 p s2) : s1 = s2 := by
  have a := h.step (e1 + e2) (by omega)
  have b := g.step (e1 + e2) (by omega)
  omega
theorem Tell.prop {x : Nat → Int} {e1 e2 p q : Nat} {s t : Int} (h : Tell x e1 p s) (g : Tell x e2 q t) : s * q = t * p := by
  have a := h.mul (k := q) g.pos
  have b := g.mul (k := p) h.pos
  rw [Nat.mul_comm q p] at b
  exact a.same b
theorem Tell.sub {x : Nat → Int} {e p q : Nat} {s t : Int} (h : Tell x e p s) (g : Tell x e q t) (l : q < p) : Tell x e (p - q) (s - t) := ⟨by omega, fun n hn => by
  have a := h.step n hn
  have b := g.step (n + (p - q)) (by omega)
  have e1 : n + (p - q) + q = n + p := by omega
  rw [e1] at b
  omega⟩
theorem Tell.rest {x : Nat → Int} {e q : Nat} {t : Int} (g : Tell x e q t) : ∀ (k p : Nat) (s : Int), Tell x e p s → q * k < p → Tell x e (p - q * k) (s - t * k)
  | 0, p, s, h, _ => by simpa using h
  | k + 1, p, s, h, l => by
    have l' : q * k + q < p := by rw [Nat.mul_succ] at l; exact l
    have h1 := Tell.rest g k p s h (by omega)
    have h2 := h1.sub g (by omega)
    have e1 : p - q * k - q = p - q * (k + 1) := by rw [Nat.mul_succ]; omega
    have e2 : s - t * k - t = s - t * ((k + 1 : Nat) : Int) := by rw [Int.natCast_add, Int.mul_add]; simp; omega
    rw [e1, e2] at h2
    exact h2
/-- p is the least length of a round -/
def Round (x : Nat → Int) (p : Nat) : Prop := (∃ e s, Tell x e p s) ∧ ∀ e q t, Tell x e q t → p ≤ q
theorem Round.dvd {x : Nat → Int} {p e q : Nat} {t : Int} (r : Round x p) (h : Tell x e q t) : p ∣ q := by
  obtain ⟨⟨e0, s0, h0⟩, least⟩ := r
  have hp := h0.pos
  by_cases z : q % p = 0
  · exact Nat.dvd_of_mod_eq_zero z
  · exfalso
    have hd := Nat.div_add_mod q p
    have hm := Nat.mod_lt q hp
    have h1 : Tell x e p s0 := h.mix h0
    have h2 := h1.rest (q / p) q t h (by omega)
    have e1 : q - p * (q / p) = q % p := by omega
    rw [e1] at h2
    have := least _ _ _ h2
    omega
theorem Round.eq {x : Nat → Int} {p q : Nat} (a : Round x p) (b : Round x q) : p = q := by
  obtain ⟨⟨e, s, h⟩, la⟩ := a
  obtain ⟨⟨e', s', h'⟩, lb⟩ := b
  have := la _ _ _ h'
  have := lb _ _ _ h
  omega
/-- e is the least beginning -/
def Begin (x : Nat → Int) (e : Nat) : Prop := (∃ p s, Tell x e p s) ∧ ∀ e' q t, Tell x e' q t → e ≤ e'
theorem Begin.eq {x : Nat → Int} {p q : Nat} (a : Begin x p) (b : Begin x q) : p = q := by
  obtain ⟨⟨e, s, h⟩, la⟩ := a
  obtain ⟨⟨e', s', h'⟩, lb⟩ := b
  have := la _ _ _ h'
  have := lb _ _ _ h
  omega
/-- a beginning is the least one if the day ahead of it does not go with the round -/
theorem Begin.of {x : Nat → Int} {e p : Nat} {s : Int} (h : Tell x e p s) (n : e = 0 ∨ x (e - 1 + p) ≠ x (e - 1) + s) : Begin x e := by
  refine ⟨⟨p, s, h⟩, fun e' q t g => ?_⟩
  rcases Nat.lt_or_ge e' e with l | l
  · exfalso
    have g2 : Tell x e' p s := g.mix h
    rcases n with n | n
    · omega
    · exact n (g2.step (e - 1) (by omega))
  · exact l
/-! ### a ladder's numbers -/
structure Lad where
  E : List Int
  T : List Int
  r : Int
  deriving DecidableEq
/-- what a ladder tells -/
def Lad.at (L : Lad) (n : Nat) : Int := if h : n < L.E.length then L.E[n] else (L.T[(n - L.E.length) % L.T.length]?).getD 0 + L.r * ((n - L.E.length) / L.T.length : Nat)
theorem Lad.at_lt {L : Lad} {n : Nat} (h : n < L.E.length) : L.at n = L.E[n] := by unfold Lad.at; rw [dif_pos h]
theorem Lad.at_ge {L : Lad} {n : Nat} (h : L.E.length ≤ n) : L.at n = (L.T[(n - L.E.length) % L.T.length]?).getD 0 + L.r * ((n - L.E.length) / L.T.length : Nat) := by unfold Lad.at; rw [dif_neg (by omega)]
theorem Lad.tell (L : Lad) (h : L.T ≠ []) : Tell L.at L.E.length L.T.length L.r := by
  have hp : 0 < L.T.length := List.length_pos_iff.mpr h
  refine ⟨hp, fun n hn => ?_⟩
  rw [Lad.at_ge hn, Lad.at_ge (by omega)]
  have e : n + L.T.length - L.E.length = (n - L.E.length) + L.T.length := by omega
  rw [e, Nat.add_mod_right, Nat.add_div_right _ hp]
  simp only [Nat.succ_eq_add_one, Int.natCast_add, Int.mul_add]
  simp
  omega
theorem Lad.at_turn {L : Lad} {i : Nat} (h : i < L.T.length) : L.at (L.E.length + i) = L.T[i] := by
  rw [Lad.at_ge (by omega)]
  have e : L.E.length + i - L.E.length = i := by omega
  rw [e, Nat.mod_eq_of_lt h, Nat.div_eq_of_lt h]
  simp [h]
/-- in its least way -/
def Lad.Least (L : Lad) : Prop := L.T ≠ [] ∧ Round L.at L.T.length ∧ Begin L.at L.E.length
/-- numbers of a sequence, from a on, so many -/
def nums (x : Nat → Int) (a m : Nat) : List Int := (List.range m).map fun i => x (a + i)
theorem nums_length {x : Nat → Int} {a m : Nat} : (nums x a m).length = m := by simp [nums]
theorem nums_get {x : Nat → Int} {a m i : Nat} (h : i < m) : (nums x a m)[i]? = some (x (a + i)) := by simp [nums, h]
theorem nums_append {x : Nat → Int} {a m k : Nat} : nums x a m ++ nums x (a + m) k = nums x a (m + k) := by
  apply List.ext_getElem?
  intro i
  rw [List.getElem?_append, nums_length]
  by_cases h : i < m
  · rw [if_pos h, nums_get h, nums_get (by omega)]
  · rw [if_neg h]
    by_cases g : i < m + k
    · rw [nums_get g, nums_get (by omega)]
      congr 2
      omega
    · rw [List.getElem?_eq_none (by rw [nums_length]; omega), List.getElem?_eq_none (by rw [nums_length]; omega)]
theorem nums_take {x : Nat → Int} {a m k : Nat} (h : k ≤ m) : (nums x a m).take k = nums x a k := by
  apply List.ext_getElem?
  intro i
  rw [List.getElem?_take]
  by_cases g : i < k
  · rw [if_pos g, nums_get g, nums_get (by omega)]
  · rw [if_neg g, List.getElem?_eq_none (by rw [nums_length]; omega)]
theorem nums_drop {x : Nat → Int} {a m k : Nat} : (nums x a m).drop k = nums x (a + k) (m - k) := by
  apply List.ext_getElem?
  intro i
  rw [List.getElem?_drop]
  by_cases g : i < m - k
  · rw [nums_get g, nums_get (by omega)]
    congr 2
    omega
  · rw [List.getElem?_eq_none (by rw [nums_length]; omega), List.getElem?_eq_none (by rw [nums_length]; omega)]
theorem nums_inj {x y : Nat → Int} {a m : Nat} : nums x a m = nums y a m ↔ ∀ i, a ≤ i → i < a + m → x i = y i := by
  constructor
  · intro h i h1 h2
    have e1 := nums_get (x := x) (a := a) (m := m) (i := i - a) (by omega)
    have e2 := nums_get (x := y) (a := a) (m := m) (i := i - a) (by omega)
    rw [h, e2] at e1
    have e : a + (i - a) = i := by omega
    rw [e] at e1
    exact (Option.some.inj e1).symm
  · intro h
    apply List.ext_getElem?
    intro i
    by_cases g : i < m
    · rw [nums_get g, nums_get g, h (a + i) (by omega) (by omega)]
    · rw [List.getElem?_eq_none (by rw [nums_length]; omega), List.getElem?_eq_none (by rw [nums_length]; omega)]
theorem Lad.early {L : Lad} : L.E = nums L.at 0 L.E.length := by
  apply List.ext_getElem?
  intro i
  by_cases g : i < L.E.length
  · rw [nums_get g, Nat.zero_add, Lad.at_lt g]
    simp [g]
  · rw [List.getElem?_eq_none (by omega), List.getElem?_eq_none (by rw [nums_length]; omega)]
theorem Lad.turn {L : Lad} : L.T = nums L.at L.E.length L.T.length := by
  apply List.ext_getElem?
  intro i
  by_cases g : i < L.T.length
  · rw [nums_get g, Lad.at_turn g]
    simp [g]
  · rw [List.getElem?_eq_none (by omega), List.getElem?_eq_none (by rw [nums_length]; omega)]
/-- the ladder of a sequence, told from e on by a round of p -/
def ladOf (x : Nat → Int) (e p : Nat) (s : Int) : Lad := ⟨nums x 0 e, nums x e p, s⟩
theorem Lad.eq_of (L : Lad) : L = ladOf L.at L.E.length L.T.length L.r := by
  cases L with
  | mk E T r =>
    unfold ladOf
    congr 1
    · exact Lad.early (L := ⟨E, T, r⟩)
    · exact Lad.turn (L := ⟨E, T, r⟩)
theorem ladOf_at {x : Nat → Int} {e p : Nat} {s : Int} (h : Tell x e p s) : (ladOf x e p s).at = x := by
  funext n
  by_cases g : n < e
  · have g' : n < (ladOf x e p s).E.length := by simpa [ladOf, nums_length] using g
    rw [Lad.at_lt g']
    have := nums_get (x := x) (a := 0) g
    simp only [ladOf]
    rw [Nat.zero_add] at this
    rw [List.getElem?_eq_getElem (by rw [nums_length]; exact g)] at this
    exact Option.some.inj this
  · have hE : (ladOf x e p s).E.length = e := by simp [ladOf, nums_length]
    have hT : (ladOf x e p s).T.length = p := by simp [ladOf, nums_length]
    rw [Lad.at_ge (by omega), hE, hT]
    have hm := Nat.mod_lt (n - e) h.pos
    have e1 : (ladOf x e p s).T[(n - e) % p]? = some (x (e + (n - e) % p)) := nums_get hm
    rw [e1]
    have e2 := h.steps ((n - e) / p) (e + (n - e) % p) (by omega)
    have e3 : e + (n - e) % p + p * ((n - e) / p) = n := by
      have := Nat.mod_add_div (n - e) p
      omega
    rw [e3] at e2
    rw [e2]
    rfl
/-- the least way is one only -/
theorem Lad.Least.eq {L M : Lad} (a : L.Least) (b : M.Least) (h : L.at = M.at) : L = M := by
  have hT := a.2.1.eq (by rw [h]; exact b.2.1)
  have hE := a.2.2.eq (by rw [h]; exact b.2.2)
  have tl := L.tell a.1
  have tm := M.tell b.1
  rw [← h, ← hT] at tm
  have hr := tl.same tm
  rw [L.eq_of, M.eq_of, hT, hE, hr, h]
theorem least_of {x : Nat → Int} {e p : Nat} {s : Int} (h : Tell x e p s) (hp : Round x p) (he : Begin x e) : (ladOf x e p s).Least := by
  have hE : (ladOf x e p s).E.length = e := by simp [ladOf, nums_length]
  have hT : (ladOf x e p s).T.length = p := by simp [ladOf, nums_length]
  refine ⟨fun z => ?_, ?_, ?_⟩
  · rw [z] at hT
    have := h.pos
    simp at hT
    omega
  · rw [ladOf_at h, hT]; exact hp
  · rw [ladOf_at h, hE]; exact he
end Md

set_option Elab.async false
set_option linter.all false
namespace Md
/-- a round that is so many equal parts -/
theorem Tell.ofParts {x : Nat → Int} {e len size q : Nat} {r step : Int} (h : Tell x e len r) (hq : len = size * q) (hr : r = step * q) (hs : 0 < size)
    (sp : ∀ i, i + size < len → x (e + i + size) = x (e + i) + step) : Tell x e size step := by
  have line : ∀ m j, j + size * m < len → x (e + j + size * m) = x (e + j) + step * m := by
    intro m
    induction m with
    | zero => intro j _; simp
    | succ m ih =>
      intro j hj
      have e0 : size * (m + 1) = size * m + size := Nat.mul_succ _ _
      have h1 := ih j (by omega)
      have h2 := sp (j + size * m) (by omega)
      have e1 : e + (j + size * m) + size = e + j + size * (m + 1) := by omega
      have e2 : e + (j + size * m) = e + j + size * m := by omega
      rw [e1, e2] at h2
      rw [h2, h1]
      have e3 : step * ((m + 1 : Nat) : Int) = step * m + step := by rw [Int.natCast_add, Int.mul_add]; simp
      omega
  have near : ∀ j, j < len → x (e + j + size) = x (e + j) + step := by
    intro j hj
    by_cases g : j + size < len
    · exact sp j g
    · have hq0 : 0 < q := by
        rcases Nat.eq_zero_or_pos q with z | z
        · subst z
          simp at hq
          omega
        · exact z
      obtain ⟨m, rfl⟩ : ∃ m, q = m + 1 := ⟨q - 1, by omega⟩
      have e0 : size * (m + 1) = size * m + size := Nat.mul_succ _ _
      have h1 := line m (j + size - len) (by omega)
      have e1 : e + (j + size - len) + size * m = e + j := by omega
      rw [e1] at h1
      have h2 := h.step (e + (j + size - len)) (by omega)
      have e2 : e + (j + size - len) + len = e + j + size := by omega
      rw [e2] at h2
      have e3 : r = step * m + step := by
        rw [hr, Int.natCast_add, Int.mul_add]
        simp
      omega
  refine ⟨hs, fun n hn => ?_⟩
  have hp := h.pos
  have hm := Nat.mod_lt (n - e) hp
  have hd := Nat.mod_add_div (n - e) len
  have h1 := h.steps ((n - e) / len) (e + (n - e) % len) (by omega)
  have h2 := h.steps ((n - e) / len) (e + (n - e) % len + size) (by omega)
  have h3 := near _ hm
  have e1 : e + (n - e) % len + len * ((n - e) / len) = n := by omega
  have e2 : e + (n - e) % len + size + len * ((n - e) / len) = n + size := by omega
  rw [e1] at h1
  rw [e2] at h2
  omega
theorem Tell.parts {x : Nat → Int} {e e' len q p : Nat} {r s : Int} (h : Tell x e len r) (g : Tell x e' p s) (hq : len = p * q) : r = s * q ∧ Tell x e p s := by
  refine ⟨?_, h.mix g⟩
  have a := h.prop g
  have hp := g.pos
  have e1 : r * (p : Int) = (s * q) * p := by
    rw [a, hq, Int.natCast_mul]
    ac_rfl
  exact Int.eq_of_mul_eq_mul_right (by omega) e1
/-- there is a least length -/
theorem exists_round {x : Nat → Int} : ∀ (n e p : Nat) (s : Int), Tell x e p s → p ≤ n → ∃ q, Round x q
  | 0, e, p, s, h, l => absurd h.pos (by omega)
  | n + 1, e, p, s, h, l => by
    by_cases g : ∃ e' q t, Tell x e' q t ∧ q < p
    · obtain ⟨e', q, t, h', l'⟩ := g
      exact exists_round n e' q t h' (by omega)
    · refine ⟨p, ⟨e, s, h⟩, fun e' q t h' => ?_⟩
      rcases Nat.lt_or_ge q p with z | z
      · exact absurd ⟨e', q, t, h', z⟩ g
      · exact z
/-- if a round parts in no way, it is the least one -/
theorem Round.ofNone {x : Nat → Int} {e len : Nat} {r : Int} (h : Tell x e len r) (no : ∀ q size (step : Int), 2 ≤ q → q ≤ len → len = size * q → r = step * q → ¬ Tell x e size step) : Round x len := by
  obtain ⟨p, R⟩ := exists_round len e len r h (Nat.le_refl _)
  have d := R.dvd h
  obtain ⟨⟨e0, s0, h0⟩, least⟩ := id R
  obtain ⟨q, hq⟩ := d
  have hp := h0.pos
  have hl := h.pos
  obtain ⟨hr, t⟩ := h.parts h0 hq
  by_cases z : 2 ≤ q
  · exfalso
    refine no q p s0 z ?_ hq hr t
    rw [hq]
    exact Nat.le_mul_of_pos_left q hp
  · have : q = 1 := by
      rcases q with _ | q
      · simp at hq
        omega
      · omega
    subst this
    rw [Nat.mul_one] at hq
    rw [hq]
    exact R
end Md

set_option Elab.async false
set_option linter.all false
namespace Md
/-! ### sets of days -/
structure SetV (E : List Int) (f l : Nat) (F : List Int) : Prop where
  l0 : 0 < l
  eU : E.Pairwise (· < ·)
  eR : ∀ x ∈ E, 0 ≤ x ∧ x < f
  fU : F.Pairwise (· < ·)
  fR : ∀ x ∈ F, 0 ≤ x ∧ x < l
/-- 1 on the days of a set, 0 on all others -/
def bits (E : List Int) (f l : Nat) (F : List Int) (n : Nat) : Int := if n < f then (if (n : Int) ∈ E then 1 else 0) else if (((n - f) % l : Nat) : Int) ∈ F then 1 else 0
theorem bits_01 {E F : List Int} {f l n : Nat} : bits E f l F n = 0 ∨ bits E f l F n = 1 := by
  unfold bits
  split <;> split <;> simp
theorem bits_tell {E F : List Int} {f l : Nat} (h : 0 < l) : Tell (bits E f l F) f l 0 := ⟨h, fun n hn => by
  have g1 : ¬ n + l < f := by omega
  have g2 : ¬ n < f := by omega
  unfold bits
  rw [if_neg g1, if_neg g2]
  have : n + l - f = (n - f) + l := by omega
  rw [this, Nat.add_mod_right]
  simp⟩
theorem up_get {xs : List Int} (h : xs.Pairwise (· < ·)) {i j : Nat} (hij : i < j) (hj : j < xs.length) : xs[i] < xs[j] := List.pairwise_iff_getElem.mp h i j (by omega) hj hij
/-- the ladder of the n-th days -/
def nthL (E : List Int) (f l : Nat) (F : List Int) : Lad := ⟨E, F.map fun x => (f : Int) + x, l⟩
section
variable {E F : List Int} {f l : Nat}
theorem nth_lt {k : Nat} (h : k < E.length) : (nthL E f l F).at k = E[k] := Lad.at_lt (L := nthL E f l F) h
theorem nth_ge {k : Nat} (h : E.length ≤ k) (hF : F ≠ []) : ∃ (hi : (k - E.length) % F.length < F.length), (nthL E f l F).at k = f + F[(k - E.length) % F.length] + l * ((k - E.length) / F.length : Nat) := by
  have hp : 0 < F.length := List.length_pos_iff.mpr hF
  have hm := Nat.mod_lt (k - E.length) hp
  refine ⟨hm, ?_⟩
  rw [Lad.at_ge (L := nthL E f l F) h]
  simp [nthL, hm]
theorem nth_up (v : SetV E f l F) (hF : F ≠ []) (k : Nat) : (nthL E f l F).at k < (nthL E f l F).at (k + 1) := by
  have hp : 0 < F.length := List.length_pos_iff.mpr hF
  by_cases h1 : k + 1 < E.length
  · rw [nth_lt h1, nth_lt (by omega)]
    exact up_get v.eU (by omega) h1
  · obtain ⟨i2, e2⟩ := nth_ge (E := E) (F := F) (f := f) (l := l) (k := k + 1) (by omega) hF
    have f2 := v.fR _ (List.getElem_mem i2)
    by_cases h2 : k < E.length
    · rw [nth_lt h2, e2]
      have e1 := v.eR _ (List.getElem_mem h2)
      have : (0 : Int) ≤ l * ((k + 1 - E.length) / F.length : Nat) := Int.mul_nonneg (Int.natCast_nonneg _) (Int.natCast_nonneg _)
      omega
    · obtain ⟨i1, e1⟩ := nth_ge (E := E) (F := F) (f := f) (l := l) (k := k) (by omega) hF
      rw [e1, e2]
      have f1 := v.fR _ (List.getElem_mem i1)
      have ek : k + 1 - E.length = (k - E.length) + 1 := by omega
      have dm1 := Nat.div_add_mod (k - E.length) F.length
      by_cases c : (k - E.length) % F.length + 1 < F.length
      · have em : (k + 1 - E.length) % F.length = (k - E.length) % F.length + 1 := by
          rw [ek, Nat.add_mod, Nat.mod_eq_of_lt (by omega : 1 < F.length), Nat.mod_eq_of_lt c]
        have ed : (k + 1 - E.length) / F.length = (k - E.length) / F.length := by
          rw [ek, Nat.add_div hp, Nat.div_eq_of_lt (by omega : 1 < F.length), Nat.mod_eq_of_lt (by omega : 1 < F.length), if_neg (by omega)]
          simp
        have lt := up_get v.fU (i := (k - E.length) % F.length) (j := (k - E.length) % F.length + 1) (by omega) c
        simp only [em, ed]
        omega
      · have em : (k + 1 - E.length) / F.length = (k - E.length) / F.length + 1 := by
          rw [ek]
          have : k - E.length + 1 = F.length * ((k - E.length) / F.length + 1) := by
            rw [Nat.mul_add]
            omega
          rw [this, Nat.mul_div_cancel_left _ hp]
        rw [em, Int.natCast_add, Int.mul_add]
        simp
        omega
theorem nth_day (v : SetV E f l F) (hF : F ≠ []) (n : Nat) : bits E f l F n = 1 ↔ ∃ k, (nthL E f l F).at k = n := by
  have hp : 0 < F.length := List.length_pos_iff.mpr hF
  unfold bits
  constructor
  · intro h
    split at h
    · split at h
      · rename_i hm
        obtain ⟨k, hk, e⟩ := List.getElem_of_mem hm
        exact ⟨k, by rw [nth_lt hk, e]⟩
      · cases h
    · split at h
      · rename_i hn hm
        obtain ⟨i, hi, e⟩ := List.getElem_of_mem hm
        refine ⟨E.length + (i + F.length * ((n - f) / l)), ?_⟩
        obtain ⟨hi2, e2⟩ := nth_ge (E := E) (F := F) (f := f) (l := l) (k := E.length + (i + F.length * ((n - f) / l))) (by omega) hF
        have e3 : E.length + (i + F.length * ((n - f) / l)) - E.length = i + F.length * ((n - f) / l) := by omega
        have e4 : (i + F.length * ((n - f) / l)) % F.length = i := by rw [Nat.add_mul_mod_self_left, Nat.mod_eq_of_lt hi]
        have e5 : (i + F.length * ((n - f) / l)) / F.length = (n - f) / l := by rw [Nat.add_mul_div_left _ _ hp, Nat.div_eq_of_lt hi, Nat.zero_add]
        rw [e2]
        simp only [e3, e4, e5, e]
        have := Nat.mod_add_div (n - f) l
        rw [← Int.natCast_mul]
        omega
      · cases h
  · rintro ⟨k, hk⟩
    by_cases h2 : k < E.length
    · rw [nth_lt h2] at hk
      have := v.eR _ (List.getElem_mem h2)
      rw [if_pos (by omega), if_pos]
      rw [← hk]
      exact List.getElem_mem h2
    · obtain ⟨i1, e1⟩ := nth_ge (E := E) (F := F) (f := f) (l := l) (k := k) (by omega) hF
      have f1 := v.fR _ (List.getElem_mem i1)
      rw [e1] at hk
      rw [← Int.natCast_mul] at hk
      have hl := v.l0
      rw [if_neg (by omega), if_pos]
      have : (n - f) = (F[(k - E.length) % F.length]).toNat + l * ((k - E.length) / F.length) := by omega
      rw [this, Nat.add_mul_mod_self_left, Nat.mod_eq_of_lt (by omega)]
      have e : (((F[(k - E.length) % F.length]).toNat : Nat) : Int) = F[(k - E.length) % F.length] := by omega
      rw [e]
      exact List.getElem_mem i1
theorem nth_zero (v : SetV E f l F) (hF : F ≠ []) (k : Nat) : 0 ≤ (nthL E f l F).at k := by
  by_cases h2 : k < E.length
  · rw [nth_lt h2]
    exact (v.eR _ (List.getElem_mem h2)).1
  · obtain ⟨i1, e1⟩ := nth_ge (E := E) (F := F) (f := f) (l := l) (k := k) (by omega) hF
    have f1 := v.fR _ (List.getElem_mem i1)
    rw [e1, ← Int.natCast_mul]
    omega
end
/-! ### days one by one, and the set of them -/
structure Days (b y : Nat → Int) : Prop where
  b01 : ∀ n, b n = 0 ∨ b n = 1
  up : ∀ k, y k < y (k + 1)
  zero : ∀ k, 0 ≤ y k
  day : ∀ n : Nat, b n = 1 ↔ ∃ k, y k = n
section
variable {b y : Nat → Int}
theorem Days.mono (d : Days b y) : ∀ {i j : Nat}, i < j → y i < y j := by
  intro i j h
  induction j with
  | zero => omega
  | succ j ih =>
    by_cases c : i = j
    · rw [c]; exact d.up j
    · exact Int.lt_trans (ih (by omega)) (d.up j)
theorem Days.mono_le (d : Days b y) {i j : Nat} (h : i ≤ j) : y i ≤ y j := by
  by_cases c : i = j
  · rw [c]; exact Int.le_refl _
  · exact Int.le_of_lt (d.mono (by omega))
theorem Days.lt_of (d : Days b y) {i j : Nat} (h : y i < y j) : i < j := by
  rcases Nat.lt_or_ge i j with c | c
  · exact c
  · have := d.mono_le c
    omega
theorem Days.inj (d : Days b y) {i j : Nat} (h : y i = y j) : i = j := by
  rcases Nat.lt_trichotomy i j with c | c | c
  · have := d.mono c; omega
  · exact c
  · have := d.mono c; omega
theorem Days.is (d : Days b y) (k : Nat) : b (y k).toNat = 1 := (d.day _).mpr ⟨k, by have := d.zero k; omega⟩
theorem Days.ge (d : Days b y) : ∀ k : Nat, (k : Int) ≤ y k
  | 0 => d.zero 0
  | k + 1 => by
    have := Days.ge d k
    have := d.up k
    omega
theorem Days.rise (d : Days b y) {e p : Nat} {s : Int} (t : Tell y e p s) : 0 < s := by
  have := t.step e (Nat.le_refl _)
  have := d.mono (show e < e + p by have := t.pos; omega)
  omega
/-- a round of the bits is one of the days -/
theorem Days.back (d : Days b y) {f2 l2 : Nat} (t : Tell b f2 l2 0) : ∃ k0 p2, Tell y k0 p2 l2 := by
  have step : ∀ n, f2 ≤ n → b (n + l2) = b n := fun n hn => by have := t.step n hn; omega
  have hl := t.pos
  -- some day behind f2
  have ex : ∃ k, (f2 : Int) ≤ y k := ⟨f2, d.ge f2⟩
  obtain ⟨k0, hk0⟩ := ex
  have h1 : ∀ k, k0 ≤ k → ∃ j, y j = y k + l2 := fun k hk => by
    have hz := d.zero k
    have := d.mono_le hk
    have : b ((y k).toNat + l2) = 1 := by rw [step _ (by omega)]; exact d.is k
    obtain ⟨j, hj⟩ := (d.day _).mp this
    exact ⟨j, by omega⟩
  obtain ⟨j0, hj0⟩ := h1 k0 (Nat.le_refl _)
  have hlt : k0 < j0 := d.lt_of (by omega)
  refine ⟨k0, j0 - k0, by omega, fun n hn => ?_⟩
  have main : ∀ m, y (k0 + m + (j0 - k0)) = y (k0 + m) + l2 := by
    intro m
    induction m with
    | zero =>
      have e : k0 + 0 + (j0 - k0) = j0 := by omega
      rw [e]
      exact hj0
    | succ m ih =>
      obtain ⟨j, hj⟩ := h1 (k0 + m + 1) (by omega)
      have g1 := d.up (k0 + m)
      have g2 : k0 + m + (j0 - k0) < j := d.lt_of (by omega)
      by_cases c : j = k0 + m + (j0 - k0) + 1
      · have e : k0 + (m + 1) + (j0 - k0) = j := by omega
        rw [e, hj]
        rfl
      · exfalso
        -- a day between
        have g3 := d.up (k0 + m + (j0 - k0))
        have g4 : y (k0 + m + (j0 - k0) + 1) < y j := d.mono (by omega)
        have z := d.mono_le (show k0 ≤ k0 + m by omega)
        have bd : b ((y (k0 + m + (j0 - k0) + 1)).toNat - l2) = 1 := by
          rw [← step _ (by omega)]
          have e : (y (k0 + m + (j0 - k0) + 1)).toNat - l2 + l2 = (y (k0 + m + (j0 - k0) + 1)).toNat := by omega
          rw [e]
          exact d.is _
        obtain ⟨i, hi⟩ := (d.day _).mp bd
        have a1 : k0 + m < i := d.lt_of (by omega)
        have a2 : i < k0 + m + 1 := d.lt_of (by omega)
        omega
  have e : n = k0 + (n - k0) := by omega
  rw [e]
  exact main _
theorem bits_flat {e p : Nat} {s : Int} (h : ∀ n, b n = 0 ∨ b n = 1) (t : Tell b e p s) : s = 0 := by
  have a1 := t.steps 2 e (Nat.le_refl _)
  have a2 := t.step e (Nat.le_refl _)
  have := h (e + p * 2)
  have := h e
  simp at a1
  omega
/-- the first day from which the set comes over and over -/
def firstOf (y : Nat → Int) (e p : Nat) (s : Int) : Int := max (max (-1) (y (e + p - 1) - s)) (if e = 0 then -1 else y (e - 1)) + 1
theorem first_facts (d : Days b y) {e p : Nat} {s : Int} (t : Tell y e p s) : 0 ≤ firstOf y e p s ∧ (∀ k, k < e → y k < firstOf y e p s) ∧ y (e + p - 1) < firstOf y e p s + s ∧ firstOf y e p s ≤ y e := by
  have hp := t.pos
  have hs := d.rise t
  have h0 := d.zero e
  have h1 := t.step e (Nat.le_refl _)
  have h2 : y (e + p - 1) < y (e + p) := by
    have := d.up (e + p - 1)
    have e1 : e + p - 1 + 1 = e + p := by omega
    rwa [e1] at this
  unfold firstOf
  refine ⟨by omega, fun k hk => ?_, by omega, ?_⟩
  · rw [if_neg (by omega)]
    have := d.mono_le (show k ≤ e - 1 by omega)
    omega
  · by_cases c : e = 0
    · rw [if_pos c]
      omega
    · rw [if_neg c]
      have := d.mono (show e - 1 < e by omega)
      omega
theorem first_tell (d : Days b y) {e p : Nat} {s : Int} (t : Tell y e p s) : Tell b (firstOf y e p s).toNat s.toNat 0 := by
  obtain ⟨h0, h1, h2, h3⟩ := first_facts d t
  have hs := d.rise t
  have hp := t.pos
  refine ⟨by omega, fun n hn => ?_⟩
  have key : b n = 1 ↔ b (n + s.toNat) = 1 := by
    constructor
    · intro h
      obtain ⟨k, hk⟩ := (d.day n).mp h
      have ke : e ≤ k := by
        rcases Nat.lt_or_ge k e with c | c
        · have := h1 k c
          omega
        · exact c
      exact (d.day _).mpr ⟨k + p, by rw [t.step k ke]; omega⟩
    · intro h
      obtain ⟨j, hj⟩ := (d.day _).mp h
      have je : e + p - 1 < j := d.lt_of (by omega)
      have := t.step (j - p) (by omega)
      have e1 : j - p + p = j := by omega
      rw [e1] at this
      exact (d.day n).mpr ⟨j - p, by omega⟩
  rcases d.b01 n with c | c <;> rcases d.b01 (n + s.toNat) with c2 | c2
  · omega
  · have := key.mpr c2; omega
  · have := key.mp c; omega
  · omega
/-- the least way of a set, by its n-th days -/
theorem set_least (d : Days b y) {e p : Nat} {s : Int} (t : Tell y e p s) (hp : Round y p) (he : Begin y e) : Round b s.toNat ∧ Begin b (firstOf y e p s).toNat := by
  have tb := first_tell d t
  have hs := d.rise t
  obtain ⟨h0, h1, h2, h3⟩ := first_facts d t
  refine ⟨⟨⟨_, _, tb⟩, fun e' q z t' => ?_⟩, Begin.of tb ?_⟩
  · have z0 := bits_flat d.b01 t'
    subst z0
    obtain ⟨k0, p2, t2⟩ := d.back t'
    have pr := t.prop t2
    have dv := hp.dvd t2
    obtain ⟨m, rfl⟩ := dv
    have hpp := t.pos
    have hm : 0 < m := by
      rcases Nat.eq_zero_or_pos m with c | c
      · subst c
        have := t2.pos
        simp at this
      · exact c
    rw [Int.natCast_mul] at pr
    have e1 : (s * (m : Int)) * (p : Int) = (q : Int) * (p : Int) := by
      rw [← pr]
      ac_rfl
    have e2 : s * (m : Int) = (q : Int) := Int.eq_of_mul_eq_mul_right (by omega) e1
    have e3 : s * 1 ≤ s * (m : Int) := Int.mul_le_mul_of_nonneg_left (by omega) (by omega)
    omega
  · by_cases c : (firstOf y e p s).toNat = 0
    · exact .inl c
    right
    intro eq
    have hn : 0 < firstOf y e p s := by omega
    have hpp := t.pos
    have no : e = 0 ∨ y (e - 1 + p) ≠ y (e - 1) + s := by
      by_cases z : e = 0
      · exact .inl z
      right
      intro w
      have t' : Tell y (e - 1) p s := ⟨t.pos, fun n hn => by
        by_cases z2 : n = e - 1
        · rw [z2]; exact w
        · exact t.step n (by omega)⟩
      have := he.2 _ _ _ t'
      omega
    have cases2 : firstOf y e p s - 1 = y (e + p - 1) - s ∨ (e ≠ 0 ∧ firstOf y e p s - 1 = y (e - 1)) := by
      unfold firstOf at hn ⊢
      by_cases z : e = 0
      · rw [if_pos z] at hn ⊢
        left
        omega
      · rw [if_neg z] at hn ⊢
        rcases Int.le_total (y (e + p - 1) - s) (y (e - 1)) with w | w
        · right
          have := d.zero (e - 1)
          exact ⟨z, by omega⟩
        · left
          have := d.zero (e - 1)
          omega
    rcases cases2 with w | ⟨z, w⟩
    · -- the day s later is one
      have b1 : b ((firstOf y e p s).toNat - 1 + s.toNat) = 1 := (d.day _).mpr ⟨e + p - 1, by omega⟩
      have b2 : b ((firstOf y e p s).toNat - 1) = 1 := by omega
      obtain ⟨i, hi⟩ := (d.day _).mp b2
      rcases Nat.lt_or_ge i e with g | g
      · have h4 := d.mono_le (show i ≤ e - 1 by omega)
        have hz : e ≠ 0 := by omega
        -- i = e - 1 is the only way
        have g2 : y (e - 1) < firstOf y e p s := h1 (e - 1) (by omega)
        have g3 : i = e - 1 := by
          rcases Nat.lt_or_ge i (e - 1) with q | q
          · have := d.mono q
            omega
          · omega
        subst g3
        rcases no with no | no
        · exact hz no
        · apply no
          have e1 : e - 1 + p = e + p - 1 := by omega
          rw [e1]
          omega
      · have := t.step i g
        have e1 : i + p = e + p - 1 := d.inj (by omega)
        omega
    · have b2 : b ((firstOf y e p s).toNat - 1) = 1 := (d.day _).mpr ⟨e - 1, by omega⟩
      have b1 : b ((firstOf y e p s).toNat - 1 + s.toNat) = 1 := by omega
      obtain ⟨j, hj⟩ := (d.day _).mp b1
      rcases no with no | no
      · exact z no
      · apply no
        -- the day s later than y (e - 1)
        rcases Nat.lt_or_ge j (e + p) with g | g
        · have e2 : j ≤ e + p - 1 := by omega
          have g3 : j = e + p - 1 := by
            rcases Nat.lt_or_ge j (e + p - 1) with q | q
            · exfalso
              -- y j = y (e-1) + s > y (e + p - 1) - ... 
              have h4 := d.mono q
              -- y (e + p - 1) < first + s = y (e-1) + 1 + s
              omega
            · omega
          have e1 : e - 1 + p = e + p - 1 := by omega
          rw [e1, ← g3]
          omega
        · have := t.step (j - p) (by omega)
          have e1 : j - p + p = j := by omega
          rw [e1] at this
          have := d.mono_le (show e ≤ j - p by omega)
          have := d.mono (show e - 1 < e by omega)
          omega
end
end Md

set_option Elab.async false
set_option linter.all false
set_option maxRecDepth 100000
namespace Pg
open PySem PySem.Spec PyProof.Rows L2 Ly
/-! ### running functions of data, rule by rule -/
abbrev dI (xs : List Int) : D := .list (xs.map .int)
section
variable {α β : Type} {ρ ρ1 ρ2 ρ3 : Rho} {fa fb fe : Den D} {fs : Den (List D)} {ft : Den Bool} {f g : DenS} {d x y z : D} {xs ds : List D} {b : Bool} {fl : Fl}
theorem fin {f : DenS} {m : Nat} {ds : List D} {z : D} {ρ : Rho} (h : f (rho0 ds m) = some (.rt z ρ)) : fnD f m ds = some z := by unfold fnD; rw [h]; rfl
theorem finN {f : DenS} {m : Nat} {ds : List D} {ρ : Rho} (h : f (rho0 ds m) = some (.nx ρ)) : fnD f m ds = some .none := by unfold fnD; rw [h]; rfl
theorem finO {f : DenS} {m : Nat} {xs ys ds : List D} {z : D} {ρ : Rho} (h : f (.ow true xs :: rho0 ds m) = some (.rt z ρ)) (h0 : ρ[0]? = some (.ow true ys)) : fnO f m xs ds = some (z, ys) := by
  unfold fnO
  rw [h]
  show (match (ρ : List Sl)[0]? with | some (Sl.ow true xs) => some (z, xs) | _ => none) = _
  rw [h0]
theorem rV {i : Nat} (h : ρ[i]? = some (.sh d)) : dV i ρ = some (d, ρ) := by unfold dV; rw [h]
theorem rC {a : α} : dC a ρ = some (a, ρ) := rfl
theorem rNil : (dNil : Den (List D)) ρ = some ([], ρ) := rfl
theorem rThen {fa : Den α} {g : α → Option β} {x : α} {z : β} (h : fa ρ = some (x, ρ1)) (k : g x = some z) : dThen fa g ρ = some (z, ρ1) := by
  unfold dThen; rw [h]; simp [k]
theorem rPair {fa : Den α} {fb : Den β} {x : α} {y : β} (h : fa ρ = some (x, ρ1)) (k : fb ρ1 = some (y, ρ2)) : dPair fa fb ρ = some ((x, y), ρ2) := by
  unfold dPair; rw [h]; simp [k]
theorem rCons {fa : Den α} {fs : Den (List α)} {x : α} {xs : List α} (h : fa ρ = some (x, ρ1)) (k : fs ρ1 = some (xs, ρ2)) : dCons fa fs ρ = some (x :: xs, ρ2) := rThen (rPair h k) rfl
theorem rOp {o : D → D → Option D} {fa fb : Den D} (h : fa ρ = some (x, ρ1)) (k : fb ρ1 = some (y, ρ2)) (e : o x y = some z) : dOp o fa fb ρ = some (z, ρ2) := rThen (rPair h k) e
theorem rIf {fa fb : Den α} {r : Option (α × Rho)} (h : ft ρ = some (b, ρ1)) (h1 : b = true → fa ρ1 = r) (h2 : b = false → fb ρ1 = r) : dIf ft fa fb ρ = r := by
  unfold dIf; rw [h]; simp only [Option.bind_some]
  cases b with
  | true => simpa using h1 rfl
  | false => simpa using h2 rfl
theorem rIfT {fa fb : Den α} {r : Option (α × Rho)} (h : ft ρ = some (b, ρ1)) (hb : b = true) (h1 : fa ρ1 = r) : dIf ft fa fb ρ = r := rIf h (fun _ => h1) fun z => by rw [hb] at z; cases z
theorem rIfF {fa fb : Den α} {r : Option (α × Rho)} (h : ft ρ = some (b, ρ1)) (hb : b = false) (h1 : fb ρ1 = r) : dIf ft fa fb ρ = r := rIf h (fun z => by rw [hb] at z; cases z) fun _ => h1
theorem rAnd {fu : Den Bool} {c : Bool} (h : ft ρ = some (b, ρ)) (k : b = true → fu ρ = some (c, ρ)) : dIf ft fu (dC false) ρ = some (b && c, ρ) := by
  cases b with
  | true => exact rIfT h rfl (by rw [k rfl]; rfl)
  | false => exact rIfF h rfl rfl
theorem rOr {fu : Den Bool} {c : Bool} (h : ft ρ = some (b, ρ)) (k : b = false → fu ρ = some (c, ρ)) : dIf ft (dC true) fu ρ = some (b || c, ρ) := by
  cases b with
  | true => exact rIfT h rfl rfl
  | false => exact rIfF h rfl (by rw [k rfl]; rfl)
theorem rNot (h : ft ρ = some (b, ρ1)) : dNot ft ρ = some (!b, ρ1) := rThen h rfl
theorem rB (h : fe ρ = some (.bool b, ρ1)) : dB fe ρ = some (b, ρ1) := rThen h rfl
/-! statements -/
theorem rSeq (h : f ρ = some (.nx ρ1)) (k : g ρ1 = some fl) : sSeq f g ρ = some fl := by unfold sSeq; rw [h]; exact k
theorem rSeqR (h : f ρ = some (.rt d ρ1)) : sSeq f g ρ = some (.rt d ρ1) := by unfold sSeq; rw [h]
theorem rRet (h : fe ρ = some (d, ρ1)) : sRet fe ρ = some (.rt d ρ1) := by unfold sRet; rw [h]; rfl
theorem rAsg {t : D → Rho → Option Rho} (h : fe ρ = some (d, ρ1)) (k : t d ρ1 = some ρ2) : sAsg fe t ρ = some (.nx ρ2) := by unfold sAsg; rw [h]; simp [k]
theorem rDrop (h : fe ρ = some (d, ρ1)) : sDrop fe ρ = some (.nx ρ1) := by unfold sDrop; rw [h]; rfl
theorem rIfS {r : Option Fl} (h : ft ρ = some (b, ρ1)) (h1 : b = true → f ρ1 = r) (h2 : b = false → g ρ1 = r) : sIf ft f g ρ = r := by
  unfold sIf; rw [h]; simp only [Option.bind_some]
  cases b with
  | true => simpa using h1 rfl
  | false => simpa using h2 rfl
theorem rIfST {r : Option Fl} (h : ft ρ = some (b, ρ1)) (hb : b = true) (h1 : f ρ1 = r) : sIf ft f g ρ = r := rIfS h (fun _ => h1) fun z => by rw [hb] at z; cases z
theorem rIfSF {r : Option Fl} (h : ft ρ = some (b, ρ1)) (hb : b = false) (h1 : g ρ1 = r) : sIf ft f g ρ = r := rIfS h (fun z => by rw [hb] at z; cases z) fun _ => h1
theorem rPar {i j : Nat} {a b : D} (h : fs ρ = some ([a, b], ρ1)) (hi : i < ρ1.length) (hj : j < ρ1.length) : sPar i j fs ρ = some (.nx ((ρ1.set i (.sh a)).set j (.sh b))) := by
  unfold sPar; rw [h]; simp [hi, hj]
theorem rAug {i : Nat} {o : Int → Int → Int} {a k : Int} (hi : ρ[i]? = some (.sh (.int a))) (h : fe ρ = some (.int k, ρ1)) : sAug i o fe ρ = some (.nx (ρ1.set i (.sh (.int (o a k))))) := by
  unfold sAug; rw [hi]; simp [h]
theorem rName {i : Nat} (h : i < ρ.length) : gtName i d ρ = some (ρ.set i (.sh d)) := if_pos h
theorem rTup {n : Nat} {t : List D → Rho → Option Rho} (hn : ds.length = n) (h : t ds ρ = some ρ1) : gtTup n t (.tuple ds) ρ = some ρ1 := by unfold gtTup; simp [hn, h]
theorem rGC {t : D → Rho → Option Rho} {u : List D → Rho → Option Rho} (h : t d ρ = some ρ1) (k : u ds ρ1 = some ρ2) : gtCons t u (d :: ds) ρ = some ρ2 := by unfold gtCons; simp [h, k]
theorem rGN : gtNil [] ρ = some ρ := rfl
theorem rNext : sNext ρ = some (.nx ρ) := rfl
/-! own lists -/
theorem owAt_of {i : Nat} (h : ρ[i]? = some (.ow b xs)) : owAt ρ i = some (b, xs) := by unfold owAt; rw [h]
theorem rIxO {i : Nat} {k : Int} {ys : List D} {c : Bool} (h0 : ρ[i]? = some (.ow c ys)) (h : fb ρ = some (.int k, ρ1)) (h1 : ρ1[i]? = some (.ow b xs)) (e : atI xs k = some d) : dIxO i fb ρ = some (d, ρ1) := by
  unfold dIxO; rw [owAt_of h0]; simp [h, owAt_of h1, e]
theorem rPutO {i j : Nat} {k : Int} {ys : List D} {c : Bool} (h : fe ρ = some (x, ρ1)) (h0 : ρ1[i]? = some (.ow c ys)) (hb : fb ρ1 = some (.int k, ρ2)) (h1 : ρ2[i]? = some (.ow b xs)) (e : ixN xs.length k = some j) :
    sPutO i fe fb ρ = some (.nx (ρ2.set i (.ow b (xs.set j x)))) := by
  unfold sPutO; simp [h, owAt_of h0, hb, owAt_of h1, e]
theorem rCallO {i : Nat} {o : List D → List D → Option (D × List D)} {ys zs : List D} {c : Bool} (h0 : ρ[i]? = some (.ow c ys)) (h : fs ρ = some (ds, ρ1)) (h1 : ρ1[i]? = some (.ow b xs)) (e : o xs ds = some (d, zs)) : dCallO i fs o ρ = some (d, ρ1.set i (.ow b zs)) := by
  unfold dCallO; rw [owAt_of h0]; simp [h, owAt_of h1, e]
theorem rFrz {i : Nat} (h : ρ[i]? = some (.ow false xs)) : dFrz i ρ = some (.list xs, ρ.set i (.sh (.list xs))) := by unfold dFrz; rw [owAt_of h]; rfl
theorem rSlO {i : Nat} {fl fh : Den (Option Int)} {lo hi : Option Int} {ys : List D} {c : Bool} (h0 : ρ[i]? = some (.ow c ys)) (h : dPair fl fh ρ = some ((lo, hi), ρ1)) (h1 : ρ1[i]? = some (.ow b xs)) : dSlO i fl fh ρ = some (.list (cutD xs lo hi), ρ1) := by
  unfold dSlO; rw [owAt_of h0]; simp [h, owAt_of h1]
theorem rOwn {i : Nat} (h : fs ρ = some (ds, ρ1)) (hl : ds.length ≤ 1000000) (hi : i < ρ1.length) : sOwn i fs ρ = some (.nx (ρ1.set i (.ow false ds))) := by
  unfold sOwn few; simp [h, hl, hi]
theorem rAppO {i : Nat} {ys : List D} {c : Bool} (h0 : ρ[i]? = some (.ow c ys)) (h : fe ρ = some (x, ρ1)) (h1 : ρ1[i]? = some (.ow b xs)) (hl : xs.length < 1000000) : sAppO i fe ρ = some (.nx (ρ1.set i (.ow b (xs ++ [x])))) := by
  unfold sAppO few; rw [owAt_of h0]; simp [h, owAt_of h1]; omega
theorem rOwn3 {i j k : Nat} {o : List D → Option D} {us : List D} (h : fs ρ = some (us, ρ1)) (e : o us = some (.tuple [.list ds, x, y])) (hi : i < ρ1.length) (hj : j < ρ1.length) (hk : k < ρ1.length) (ij : i ≠ j) (ik : i ≠ k) (jk : j ≠ k) :
    sOwn3 i j k fs o ρ = some (.nx (((ρ1.set i (.ow false ds)).set j (.sh x)).set k (.sh y))) := by
  unfold sOwn3; simp [h, e, hi, hj, hk, ij, ik, jk]
theorem rSame {i : Nat} {f1 f2 : Den D} (h : f1 ρ = some (x, ρ1)) (hi : i < ρ1.length) (k : f2 (ρ1.set i .un) = some (x, ρ2)) (o : OkS x) : sSame i f1 f2 ρ = some (.nx ρ2) := by
  unfold sSame gSame; simp [h, hi, k, o]
/-! operators -/
theorem few_ok (h : ds.length ≤ 1000000) : few ds = some ds := if_pos h
theorem few_map {t : List D → D} (h : ds.length ≤ 1000000) : (few ds).map t = some (t ds) := by rw [few_ok h]; rfl
theorem gIc_ok {c : Int → Int → Bool} {o : Int → Int → D} {i j : Int} (h : c i j = true) : gIc c o (.int i) (.int j) = some (o i j) := if_pos h
theorem mod_ok {i j : Int} (h : 0 < j) : gIc (fun _ j => decide (0 < j)) (fun i j => .int (i % j)) (.int i) (.int j) = some (.int (i % j)) := gIc_ok (decide_eq_true h)
theorem log2_small {j : Int} (h1 : j < 2 ^ 200) (h0 : 0 < j) : j.natAbs.log2 < 9000 := by
  have : j.natAbs < 2 ^ 200 := by
    have e : (2 : Int) ^ 200 = ((2 ^ 200 : Nat) : Int) := by norm_cast
    rw [e] at h1
    generalize (2 ^ 200 : Nat) = M at h1 ⊢
    omega
  have := (Nat.log2_lt (by omega)).mpr this
  omega
theorem rPart {fe : Den D} {ρ ρ1 : Rho} {i : Int} (h : fe ρ = some (.int i, ρ1)) : dThen fe asPart ρ = some (some i, ρ1) := rThen h rfl
theorem div_ok {i j : Int} (h : 0 < j) (h1 : j < 2 ^ 200) : gIc cDiv (fun i j => .int (i / j)) (.int i) (.int j) = some (.int (i / j)) := gIc_ok (decide_eq_true ⟨h, log2_small h1 h⟩)
theorem mul_ok {i j : Int} (h : (-(2 ^ 64) < i ∧ i < 2 ^ 64) ∨ (-(2 ^ 64) < j ∧ j < 2 ^ 64)) : gMul (.int i) (.int j) = some (.int (i * j)) := by unfold gMul cMul; simp only; rw [if_pos (decide_eq_true h)]
theorem dm_ok {i j : Int} (h : 0 < j) (h1 : j < 2 ^ 200) : gDivmod [.int i, .int j] = some (.tuple [.int (i / j), .int (i % j)]) := by unfold gDivmod; exact if_pos (decide_eq_true ⟨h, log2_small h1 h⟩)
theorem cat_ok {xs ys : List D} (h : (xs ++ ys).length ≤ 1000000) : gAdd (.list xs) (.list ys) = some (.list (xs ++ ys)) := by unfold gAdd; exact few_map h
/-! the same, the state behind it told -/
theorem eRen {r r' : Rho} {o : Option Fl} (h : o = some (.nx r)) (e : r = r') : o = some (.nx r') := by rw [h, e]
theorem rParE {i j : Nat} {a b : D} (h : fs ρ = some ([a, b], ρ1)) (e : ((ρ1.set i (.sh a)).set j (.sh b)) = ρ2) (hi : i < ρ1.length) (hj : j < ρ1.length) : sPar i j fs ρ = some (.nx ρ2) := e ▸ rPar h hi hj
theorem rAugE {i : Nat} {o : Int → Int → Int} {a k : Int} (hi : ρ[i]? = some (.sh (.int a))) (h : fe ρ = some (.int k, ρ1)) (e : ρ1.set i (.sh (.int (o a k))) = ρ2) : sAug i o fe ρ = some (.nx ρ2) := e ▸ rAug hi h
theorem rAsgE {i : Nat} (h : fe ρ = some (d, ρ1)) (e : ρ1.set i (.sh d) = ρ2) (hi : i < ρ1.length) : sAsg fe (gtName i) ρ = some (.nx ρ2) := e ▸ rAsg h (rName hi)
theorem rCallOE {i : Nat} {o : List D → List D → Option (D × List D)} {ys zs : List D} {c : Bool} (h0 : ρ[i]? = some (.ow c ys)) (h : fs ρ = some (ds, ρ1)) (h1 : ρ1[i]? = some (.ow b xs)) (k : o xs ds = some (d, zs)) (e : ρ1.set i (.ow b zs) = ρ2) : dCallO i fs o ρ = some (d, ρ2) := e ▸ rCallO h0 h h1 k
theorem rNameE {i : Nat} (e : ρ.set i (.sh d) = ρ1) (h : i < ρ.length) : gtName i d ρ = some ρ1 := e ▸ rName h
end
end Pg

set_option Elab.async false
set_option linter.all false
set_option maxRecDepth 100000
namespace Pg
open PySem PySem.Spec PyProof.Rows L2 Ly
section
variable {ρ ρ1 : Rho}
theorem len_dI {xs : List Int} : gLen [dI xs] = some (.int xs.length) := by simp [gLen]
theorem disp1 {a : Int} : (few [.int a]).map .list = some (dI [a]) := rfl
theorem truth_dI {xs : List Int} : truth (dI xs) = some (!xs.isEmpty) := by simp [truth]
theorem flat_dI {xs : List Int} : flatD (dI xs) = some (dI xs) := by
  unfold flatD
  simp only
  rw [if_pos]
  simp [List.all_eq_true, Ly.scal]
theorem cat_dI {xs ys : List Int} (h : xs.length + ys.length ≤ 1000000) : gAdd (dI xs) (dI ys) = some (dI (xs ++ ys)) := by
  rw [dI, dI, cat_ok (by simpa using h)]
  simp
theorem intsOf_map : ∀ (xs : List Int), intsOf (xs.map PyData.int) = some xs
  | [] => rfl
  | x :: xs => by simp [intsOf, intsOf_map xs]
theorem boolsOf_map : ∀ (xs : List Bool), boolsOf (xs.map PyData.bool) = some xs
  | [] => rfl
  | x :: xs => by simp [boolsOf, boolsOf_map xs]
theorem all_ok {bs : List Bool} : gAll [.list (bs.map .bool)] = some (.bool (bs.all id)) := by simp [gAll, boolsOf_map]
theorem any_ok {bs : List Bool} : gAny [.list (bs.map .bool)] = some (.bool (bs.any id)) := by simp [gAny, boolsOf_map]
theorem zip_dI {xs ys : List Int} : zipD [dI xs, dI ys] = some ((xs.zip ys).map fun q => .tuple [.int q.1, .int q.2]) := by
  simp [zipD, List.zip_map, List.map_map, Function.comp_def, Prod.map]
theorem rng_ok {n : Int} (h : -(2 ^ 62) ≤ n ∧ n < 2 ^ 62) : rng1 [.int n] = some ((List.range n.toNat).map fun k => .int (k : Nat)) := by
  unfold rng1 rngD
  simp only
  rw [if_pos h]
  simp
theorem enumFrom_map : ∀ (xs : List Int) (k : Nat), enumFrom k (xs.map PyData.int) = (xs.zipIdx k).map fun q => .tuple [.int (q.2 : Nat), .int q.1]
  | [], _ => rfl
  | x :: xs, k => by simp [enumFrom, enumFrom_map xs]
theorem enum_dI {xs : List Int} : enumD [dI xs] = some ((xs.zipIdx).map fun q => .tuple [.int (q.2 : Nat), .int q.1]) := by simp [enumD, enumFrom_map]
/-! comprehensions -/
theorem back_same {vs : List Nat} {ρ0 ρe : Rho} (h : unset ρe vs = unset ρ0 vs) : back ρ0 ρe vs = ρ0 := by
  have hl : ρ0.length = ρe.length := by rw [← unset_length (vs := vs) (ρ := ρ0), ← h, unset_length]
  apply List.ext_getElem?
  intro i
  rw [back_get hl]
  by_cases z : i ∈ vs
  · rw [if_pos z]
  · rw [if_neg z]
    have := congrArg (fun l => l[i]?) h
    simp only [unset_get, if_neg z] at this
    exact this
theorem compL_ok {ι : Type} {vs : List Nat} {g : D → Rho → Option Rho} {ft : Den Bool} {fe : Den D} (c : ι → D) (p : ι → Bool) (h : ι → D) :
    ∀ (ns : List ι) (ρ' : Rho), unset ρ' vs = unset ρ1 vs → (∀ n ∈ ns, ∃ ρ2, g (c n) (unset ρ1 vs) = some ρ2 ∧ unset ρ2 vs = unset ρ1 vs ∧ ft ρ2 = some (p n, ρ2) ∧ (p n = true → fe ρ2 = some (h n, ρ2))) →
      ∃ ρe, compL vs g ft fe (ns.map c) ρ' = some ((ns.filter p).map h, ρe) ∧ unset ρe vs = unset ρ1 vs
  | [], ρ', e, _ => ⟨ρ', rfl, e⟩
  | n :: ns, ρ', e, k => by
    obtain ⟨ρ2, a1, a2, a3, a4⟩ := k n List.mem_cons_self
    obtain ⟨ρe, b1, b2⟩ := compL_ok c p h ns ρ2 a2 fun m hm => k m (List.mem_cons_of_mem _ hm)
    refine ⟨ρe, ?_, b2⟩
    rw [List.map_cons, compL, e, a1]
    simp only [Option.bind_some, a3]
    cases hp : p n with
    | true =>
      rw [List.filter_cons_of_pos hp]
      simp [a4 hp, b1]
    | false =>
      rw [List.filter_cons_of_neg (by simp [hp])]
      simpa using b1
theorem rComp {ι : Type} {fi : Den (List D)} {vs : List Nat} {g : D → Rho → Option Rho} {ft : Den Bool} {fe : Den D} (c : ι → D) (p : ι → Bool) (h : ι → D) {ns : List ι} (hi : fi ρ = some (ns.map c, ρ1)) (hno : noOw ρ1 vs = true)
    (hx : ∀ n ∈ ns, ∃ ρ2, g (c n) (unset ρ1 vs) = some ρ2 ∧ unset ρ2 vs = unset ρ1 vs ∧ ft ρ2 = some (p n, ρ2) ∧ (p n = true → fe ρ2 = some (h n, ρ2))) (hl : ns.length ≤ 1000000) : dComp fi vs g ft fe ρ = some (.list ((ns.filter p).map h), ρ1) := by
  obtain ⟨ρe, b1, b2⟩ := compL_ok (vs := vs) (g := g) (ft := ft) (fe := fe) c p h ns ρ1 rfl hx
  unfold dComp
  rw [hi]
  simp only [Option.bind_some]
  rw [if_pos hno, b1]
  simp only [Option.bind_some]
  have hl2 : ((ns.filter p).map h).length ≤ 1000000 := by
    rw [List.length_map]
    exact Nat.le_trans (List.length_filter_le _ _) hl
  rw [few_ok hl2]
  simp [back_same b2]
/-- no test -/
theorem rCompT {ι : Type} {fi : Den (List D)} {vs : List Nat} {g : D → Rho → Option Rho} {fe : Den D} (c : ι → D) (h : ι → D) {ns : List ι} (hi : fi ρ = some (ns.map c, ρ1)) (hno : noOw ρ1 vs = true)
    (hx : ∀ n ∈ ns, ∃ ρ2, g (c n) (unset ρ1 vs) = some ρ2 ∧ unset ρ2 vs = unset ρ1 vs ∧ fe ρ2 = some (h n, ρ2)) (hl : ns.length ≤ 1000000) : dComp fi vs g (dC true) fe ρ = some (.list (ns.map h), ρ1) := by
  have := rComp (ft := dC true) (fe := fe) c (fun _ => true) h hi hno (fun n hn => by obtain ⟨ρ2, a, b, d⟩ := hx n hn; exact ⟨ρ2, a, b, rfl, fun _ => d⟩) hl
  rw [List.filter_eq_self.mpr (fun _ _ => rfl)] at this
  exact this
/-- one name as the target -/
theorem rComp1 {ι : Type} {fi : Den (List D)} {vs : List Nat} {i : Nat} {ft : Den Bool} {fe : Den D} (c : ι → D) (p : ι → Bool) (h : ι → D) {ns : List ι} (hi : fi ρ = some (ns.map c, ρ1)) (hno : noOw ρ1 vs = true) (hu : ∀ n, unset ((unset ρ1 vs).set i (.sh (c n))) vs = unset ρ1 vs) (hl : i < ρ1.length)
    (ht : ∀ n ∈ ns, ft ((unset ρ1 vs).set i (.sh (c n))) = some (p n, (unset ρ1 vs).set i (.sh (c n)))) (hx : ∀ n ∈ ns, p n = true → fe ((unset ρ1 vs).set i (.sh (c n))) = some (h n, (unset ρ1 vs).set i (.sh (c n)))) (hn : ns.length ≤ 1000000) :
    dComp fi vs (gtName i) ft fe ρ = some (.list ((ns.filter p).map h), ρ1) :=
  rComp c p h hi hno (fun n k => ⟨_, rName (by rw [unset_length]; exact hl), hu n, ht n k, hx n k⟩) hn
theorem rComp1T {ι : Type} {fi : Den (List D)} {vs : List Nat} {i : Nat} {fe : Den D} (c : ι → D) (h : ι → D) {ns : List ι} (hi : fi ρ = some (ns.map c, ρ1)) (hno : noOw ρ1 vs = true) (hu : ∀ n, unset ((unset ρ1 vs).set i (.sh (c n))) vs = unset ρ1 vs) (hl : i < ρ1.length)
    (hx : ∀ n ∈ ns, fe ((unset ρ1 vs).set i (.sh (c n))) = some (h n, (unset ρ1 vs).set i (.sh (c n)))) (hn : ns.length ≤ 1000000) : dComp fi vs (gtName i) (dC true) fe ρ = some (.list (ns.map h), ρ1) :=
  rCompT c h hi hno (fun n k => ⟨_, rName (by rw [unset_length]; exact hl), hu n, hx n k⟩) hn
/-- ints of ints -/
theorem rCompII {fi : Den (List D)} {vs : List Nat} {i : Nat} {fe : Den D} (h : Int → Int) {ns : List Int} (hi : fi ρ = some (ns.map .int, ρ1)) (hno : noOw ρ1 vs = true) (hu : ∀ n, unset ((unset ρ1 vs).set i (.sh (.int n))) vs = unset ρ1 vs) (hl : i < ρ1.length)
    (hx : ∀ n ∈ ns, fe ((unset ρ1 vs).set i (.sh (.int n))) = some (.int (h n), (unset ρ1 vs).set i (.sh (.int n)))) (hn : ns.length ≤ 1000000) : dComp fi vs (gtName i) (dC true) fe ρ = some (dI (ns.map h), ρ1) := by
  rw [rComp1T PyData.int (fun n => .int (h n)) hi hno hu hl hx hn]
  simp [dI, List.map_map, Function.comp_def]
/-! loops -/
theorem wl_step {ft : Den Bool} {fb : DenS} {n : Nat} {ρ2 ρ3 : Rho} {fl : Fl} (h : ft ρ = some (true, ρ2)) (k : fb ρ2 = some (.nx ρ3)) (e : wl ft fb n ρ3 = some fl) : wl ft fb (n + 1) ρ = some fl := by
  rw [wl, h]
  simp [k, e]
theorem wl_stop {ft : Den Bool} {fb : DenS} {n : Nat} {ρ2 : Rho} (h : ft ρ = some (false, ρ2)) : wl ft fb (n + 1) ρ = some (.nx ρ2) := by
  rw [wl, h]
  simp
/-- a while by its invariant -/
theorem rWhile {ι : Type} {ft : Den Bool} {fb : DenS} (R : ι → Rho) (I : ι → Prop) (m : ι → Nat) (b : ι → Bool) (next : ι → ι) (h : ∀ i, I i → ft (R i) = some (b i, R i)) (k : ∀ i, I i → b i = true → fb (R i) = some (.nx (R (next i))) ∧ I (next i) ∧ m (next i) < m i) :
    ∀ (n : Nat) (i : ι), I i → m i ≤ n → ∃ j, sWhile ft fb (R i) = some (.nx (R j)) ∧ I j ∧ b j = false := by
  have main : ∀ (n : Nat) (i : ι), I i → m i ≤ n → ∃ j, wl ft fb (n + 1) (R i) = some (.nx (R j)) ∧ I j ∧ b j = false := by
    intro n
    induction n with
    | zero =>
      intro i hi hm
      cases hb : b i with
      | false => exact ⟨i, wl_stop (by rw [h i hi, hb]), hi, hb⟩
      | true =>
        have := (k i hi hb).2.2
        omega
    | succ n ih =>
      intro i hi hm
      cases hb : b i with
      | false => exact ⟨i, wl_stop (by rw [h i hi, hb]), hi, hb⟩
      | true =>
        obtain ⟨k1, k2, k3⟩ := k i hi hb
        obtain ⟨j, e1, e2, e3⟩ := ih (next i) k2 (by omega)
        exact ⟨j, wl_step (by rw [h i hi, hb]) k1 e1, e2, e3⟩
  intro n i hi hm
  obtain ⟨j, e1, e2⟩ := main n i hi hm
  exact ⟨j, sWhile_of e1, e2⟩
/-- a for that ends by itself -/
theorem rFor {ι : Type} {fi : Den (List D)} {g : D → Rho → Option Rho} {fb : DenS} (c : ι → D) (I : List ι → Rho → Prop) {ns : List ι} (hi : fi ρ = some (ns.map c, ρ1)) (h0 : I [] ρ1)
    (hs : ∀ (as : List ι) (n : ι) (bs : List ι) (ρ2 : Rho), ns = as ++ n :: bs → I as ρ2 → ∃ ρ3 ρ4, g (c n) ρ2 = some ρ3 ∧ fb ρ3 = some (.nx ρ4) ∧ I (as ++ [n]) ρ4) : ∃ ρ', sFor fi g fb ρ = some (.nx ρ') ∧ I ns ρ' := by
  have main : ∀ (bs as : List ι) (ρ2 : Rho), ns = as ++ bs → I as ρ2 → ∃ ρ', forL g fb (bs.map c) ρ2 = some (.nx ρ') ∧ I ns ρ' := by
    intro bs
    induction bs with
    | nil =>
      intro as ρ2 e i
      refine ⟨ρ2, rfl, ?_⟩
      rw [e, List.append_nil]
      exact i
    | cons n bs ih =>
      intro as ρ2 e i
      obtain ⟨ρ3, ρ4, a1, a2, a3⟩ := hs as n bs ρ2 e i
      obtain ⟨ρ', b1, b2⟩ := ih (as ++ [n]) ρ4 (by simp [e]) a3
      refine ⟨ρ', ?_, b2⟩
      rw [List.map_cons, forL, a1]
      simp [a2, b1]
  obtain ⟨ρ', e1, e2⟩ := main ns [] ρ1 rfl h0
  refine ⟨ρ', ?_, e2⟩
  unfold sFor
  rw [hi]
  simpa using e1
end
abbrev dSet (E : List Int) (f l : Int) (F : List Int) : D := .tuple [dI E, .int f, .int l, dI F]
abbrev dLad (L : Md.Lad) : D := .tuple [dI L.E, dI L.T, .int L.r]
theorem cat_lit1 {xs : List Int} {a : Int} (h : xs.length ≤ 999999) : gAdd (dI [a]) (dI xs) = some (dI (a :: xs)) := cat_dI (by simp; omega)
theorem cat_lit2 {xs : List Int} {a : Int} (h : xs.length ≤ 999999) : gAdd (dI xs) (dI [a]) = some (dI (xs ++ [a])) := cat_dI (by simp; omega)
end Pg

set_option Elab.async false
set_option linter.all false
set_option maxRecDepth 100000
set_option maxHeartbeats 1000000
namespace Pg
open PySem PySem.Spec PyProof.Rows L2 Ly
local macro_rules | `(tactic| walk_at "run") => `(tactic| first
  | with_reducible exact rC
  | with_reducible exact rNil
  | with_reducible exact rNext
  | with_reducible exact rGN
  | ((with_reducible refine' rV ?m1); (case' m1 => rfl))
  | with_reducible assumption
  | ((with_reducible refine' rCons ?m1 ?m2); (case' m1 => walk_at "run"); (case' m2 => walk_at "run"))
  | ((with_reducible refine' rOp ?m1 ?m2 ?m3); (case' m1 => walk_at "run"); (case' m2 => walk_at "run"); (case' m3 => walk_at "run"))
  | ((with_reducible refine' rNot ?m1); (case' m1 => walk_at "run"))
  | ((with_reducible refine' rB ?m1); (case' m1 => walk_at "run"))
  | ((with_reducible refine' rPart ?m1); (case' m1 => walk_at "run"))
  | ((with_reducible refine' rThen ?m1 ?m2); (case' m1 => walk_at "run"); (case' m2 => walk_at "run"))
  | ((with_reducible refine' rPair ?m1 ?m2); (case' m1 => walk_at "run"); (case' m2 => walk_at "run"))
  | ((with_reducible refine' rSeq ?m1 ?m2); (case' m1 => walk_at "run"); (case' m2 => walk_at "run"))
  | ((with_reducible refine' rRet ?m1); (case' m1 => walk_at "run"))
  | ((with_reducible refine' rAsgE ?m1 ?m2 ?m3); (case' m1 => walk_at "run"); (case' m2 => rfl); (case' m3 => (simp [rho0])))
  | ((with_reducible refine' rAsg ?m1 ?m2); (case' m1 => walk_at "run"); (case' m2 => walk_at "run"))
  | ((with_reducible refine' rDrop ?m1); (case' m1 => walk_at "run"))
  | ((with_reducible refine' rNameE ?m1 ?m2); (case' m1 => rfl); (case' m2 => (simp [rho0, unset])))
  | ((with_reducible refine' rTup ?m1 ?m2); (case' m1 => rfl); (case' m2 => walk_at "run"))
  | ((with_reducible refine' rGC ?m1 ?m2); (case' m1 => walk_at "run"); (case' m2 => walk_at "run"))
  | ((with_reducible refine' rParE ?m1 ?m2 ?m3 ?m4); (case' m1 => walk_at "run"); (case' m2 => rfl); (case' m3 => (simp [rho0])); (case' m4 => (simp [rho0])))
  | ((with_reducible refine' rAugE ?m1 ?m2 ?m3); (case' m1 => rfl); (case' m2 => walk_at "run"); (case' m3 => rfl))
  | ((with_reducible refine' rIxO ?m1 ?m2 ?m3 ?m4); (case' m1 => rfl); (case' m2 => walk_at "run"); (case' m3 => rfl); (case' m4 => walk_at "run"))
  | ((with_reducible refine' rSlO ?m1 ?m2 ?m3); (case' m1 => rfl); (case' m2 => walk_at "run"); (case' m3 => rfl))
  | ((with_reducible refine' rFrz ?m1); (case' m1 => rfl))
  | ((with_reducible refine' rCallOE ?m1 ?m2 ?m3 ?m4 ?m5); (case' m1 => rfl); (case' m2 => walk_at "run"); (case' m3 => rfl); (case' m4 => walk_at "run"); (case' m5 => rfl))
  | with_reducible exact len_dI
  | with_reducible exact disp1
  | with_reducible exact truth_dI
  | with_reducible exact flat_dI
  | ((with_reducible refine' cat_lit1 ?m1); (case' m1 => ((try simp only [List.length_append, List.length_cons, List.length_nil]) <;> omega)))
  | ((with_reducible refine' cat_lit2 ?m1); (case' m1 => ((try simp only [List.length_append, List.length_cons, List.length_nil]) <;> omega)))
  | ((with_reducible refine' cat_dI ?m1); (case' m1 => ((try simp only [List.length_append, List.length_cons, List.length_nil]) <;> omega)))
  | rfl
  | skip)
/-! ### slices, places, equal lists -/
theorem sl_from {xs : List Int} {i : Int} {k : Nat} (e : i = (k : Int)) : gSl (dI xs) (some i) none = some (dI (xs.drop k)) := by
  subst e
  simp only [gSl, Ly.cutD, HT.sIx_nat, HT.sIx_none, List.length_map]
  congr 2
  rw [← List.map_drop, ← List.map_take]
  congr 1
  by_cases h : k ≤ xs.length
  · rw [Nat.min_eq_left h, List.take_of_length_le (by simp)]
  · rw [Nat.min_eq_right (by omega), List.drop_eq_nil_of_le (Nat.le_refl _), List.drop_eq_nil_of_le (by omega)]
    simp
theorem sl_to {xs : List Int} {i : Int} {k : Nat} (e : i = (k : Int)) : gSl (dI xs) none (some i) = some (dI (xs.take k)) := by
  subst e
  simp only [gSl, Ly.cutD, HT.sIx_nat, HT.sIx_none, List.length_map, List.drop_zero, Nat.sub_zero]
  congr 2
  rw [← List.map_take]
  congr 1
  by_cases h : k ≤ xs.length
  · rw [Nat.min_eq_left h]
  · rw [Nat.min_eq_right (by omega), List.take_of_length_le (Nat.le_refl _), List.take_of_length_le (by omega)]
theorem sl_mid {xs : List Int} {i j : Int} {a b : Nat} (e : i = (a : Int)) (e2 : j = ((a + b : Nat) : Int)) (h : a + b ≤ xs.length) : gSl (dI xs) (some i) (some j) = some (dI ((xs.drop a).take b)) := by
  subst e e2
  simp only [gSl, Ly.cutD, HT.sIx_nat, List.length_map]
  congr 2
  rw [← List.map_drop, ← List.map_take]
  rw [Nat.min_eq_left (by omega), Nat.min_eq_left (by omega)]
  congr 2
  omega
theorem sl_neg {xs : List Int} {i : Int} {k : Nat} (e : i = -(k : Int)) (h0 : 0 < k) (h : k ≤ xs.length) : gSl (dI xs) none (some i) = some (dI (xs.take (xs.length - k))) := by
  subst e
  simp only [gSl, Ly.cutD, HT.sIx_none, List.length_map, List.drop_zero, Nat.sub_zero, HT.sIx]
  rw [if_pos (by omega)]
  have : (-(k : Int) + (xs.length : Int)).toNat = xs.length - k := by omega
  rw [this, ← List.map_take]
theorem ix_dI {xs : List Int} {i : Int} {k : Nat} {v : Int} (e : i = (k : Int)) (h : xs[k]? = some v) : gIx (dI xs) (.int i) = some (.int v) := by
  subst e
  have hk : k < xs.length := (List.getElem?_eq_some_iff.mp h).1
  simp only [gIx, atI, List.length_map, ixN]
  rw [if_pos (by omega), if_pos (by omega)]
  simp [h]
theorem ix_last {xs : List Int} {v : Int} (h : xs.getLast? = some v) : gIx (dI xs) (.int (-1)) = some (.int v) := by
  rw [List.getLast?_eq_getElem?] at h
  have hk : xs.length - 1 < xs.length := (List.getElem?_eq_some_iff.mp h).1
  simp only [gIx, atI, List.length_map, ixN]
  rw [if_neg (by omega), if_pos (by omega)]
  have : ((-1 : Int) + (xs.length : Int)).toNat = xs.length - 1 := by omega
  simp [this, h]
theorem shaped_dI {xs : List Int} : SeqAt.shaped (dI xs) = true := by
  have a : ∀ xs : List Int, PyData.canLayAll0 (xs.map PyData.int) = true := by
    intro xs
    induction xs with
    | nil => rfl
    | cons x xs ih => simp [PyData.canLayAll0, PyData.canLay0, ih]
  have b : ∀ xs : List Int, PyData.depthAll (xs.map PyData.int) = 0 := by
    intro xs
    induction xs with
    | nil => rfl
    | cons x xs ih => simp [PyData.depthAll, PyData.depth, ih]
  simp [SeqAt.shaped, PyData.canLay0, PyData.depth, a, b]
theorem eqv_dI : ∀ {xs ys : List Int}, PyData.eqvAll (xs.map PyData.int) (ys.map PyData.int) = decide (xs = ys)
  | [], [] => rfl
  | [], _ :: _ => rfl
  | _ :: _, [] => rfl
  | x :: xs, y :: ys => by
    simp only [List.map_cons, PyData.eqvAll, PyData.eqv, eqv_dI (xs := xs) (ys := ys), List.cons.injEq]
    by_cases h : x = y <;> simp [h]
theorem eq_dI {xs ys : List Int} : gEq (dI xs) (dI ys) = some (decide (xs = ys)) := by
  unfold gEq
  simp only
  rw [if_pos ⟨shaped_dI, shaped_dI⟩]
  simp only [PyData.eqv, eqv_dI]
/-! ### ascends, is_set, the checks -/
def asc (xs : List Int) : Bool := ((xs.zip (xs.drop 1)).map fun q => decide (q.1 < q.2)).all id
theorem asc_of : ∀ {xs : List Int}, xs.Pairwise (· < ·) → asc xs = true
  | [], _ => rfl
  | [_], _ => rfl
  | x :: y :: xs, h => by
    obtain ⟨h1, h2⟩ := List.pairwise_cons.mp h
    have := asc_of h2
    unfold asc at this ⊢
    have e := h1 y List.mem_cons_self
    simp [e] at this ⊢
    simpa using this
theorem all_map {ι : Type} {xs : List ι} {p : ι → Bool} : gAll [.list (xs.map fun q => .bool (p q))] = some (.bool ((xs.map p).all id)) := by
  have : xs.map (fun q => PyData.bool (p q)) = (xs.map p).map PyData.bool := by simp
  rw [this]
  exact all_ok
theorem any_map {ι : Type} {xs : List ι} {p : ι → Bool} : gAny [.list (xs.map fun q => .bool (p q))] = some (.bool ((xs.map p).any id)) := by
  have : xs.map (fun q => PyData.bool (p q)) = (xs.map p).map PyData.bool := by simp
  rw [this]
  exact any_ok
theorem m_ascends_ok {xs : List Int} (hl : xs.length ≤ 1000000) : m_ascends [dI xs] = some (.bool (asc xs)) := by
  apply fin (f := b_ascends)
  unfold b_ascends
  refine' rRet (rThen (rCons (rCompT (fun q : Int × Int => .tuple [.int q.1, .int q.2]) (fun q => .bool (decide (q.1 < q.2))) (ns := xs.zip (xs.drop 1)) ?a ?n ?b ?c) rNil) ?d)
  case a =>
    refine' rThen (rCons (rV (by rfl)) (rCons (rThen (rPair (rV (by rfl)) (rPair (rThen rC (by rfl)) rC)) (sl_from (k := 1) (by rfl))) rNil)) zip_dI
  case n => rfl
  case b =>
    intro q hq
    refine ⟨_, rTup (by rfl) (rGC (rName (by simp [unset, rho0])) (rGC (rName (by simp [unset, rho0])) rGN)), by rfl, ?_⟩
    refine rOp (rV (by rfl)) (rV (by rfl)) (by rfl)
  case c =>
    rw [List.length_zip]
    omega
  case d =>
    exact all_map

structure SetOk (E : List Int) (f l : Int) (F : List Int) : Prop where
  l1 : 1 ≤ l
  e : (-1 :: E ++ [f]).Pairwise (· < ·)
  f : (-1 :: F ++ [l]).Pairwise (· < ·)
theorem m_is_set_ok {E F : List Int} {f l : Int} (h : SetOk E f l F) (hE : E.length ≤ 900000) (hF : F.length ≤ 900000) : m_is_set [dSet E f l F] = some (.bool true) := by
  have k1 : m_ascends [dI (-1 :: E ++ [f])] = some (.bool true) := by
    rw [m_ascends_ok (by simp; omega), asc_of h.e]
  have k2 : m_ascends [dI (-1 :: F ++ [l])] = some (.bool true) := by
    rw [m_ascends_ok (by simp; omega), asc_of h.f]
  apply fin (f := b_is_set)
  unfold b_is_set
  refine' rSeq (ρ1 := [.sh (dSet E f l F), .sh (dI E), .sh (.int f), .sh (.int l), .sh (dI F)]) (by walk_at "run") (rRet ?a)
  case a =>
    refine' rIfT (b := decide (1 ≤ l)) (by walk_at "run") (decide_eq_true h.l1) (rIfT (b := true) ?b rfl ?c)
    case b => walk_at "run"
    case c => walk_at "run"
theorem m_check_sets_ok {E F : List Int} {f l : Int} (h : SetOk E f l F) (hE : E.length ≤ 900000) (hF : F.length ≤ 900000) : m_check_sets [.list [dSet E f l F]] = some .none := by
  have k := m_is_set_ok h hE hF
  apply finN (f := b_check_sets)
  unfold b_check_sets
  unfold sFor
  rw [show (dThen (dV 0) asList) (rho0 [.list [dSet E f l F]] 1) = some ([dSet E f l F], rho0 [.list [dSet E f l F]] 1) from rfl]
  simp only [Option.bind_some, forL]
  rw [show gtName 1 (dSet E f l F) (rho0 [.list [dSet E f l F]] 1) = some [.sh (.list [dSet E f l F]), .sh (dSet E f l F)] from rfl]
  simp only [Option.bind_some]
  rw [show sIf (dNot (dThen (dThen (dCons (dV 1) dNil) m_is_set) truth)) sNever sNext [.sh (.list [dSet E f l F]), .sh (dSet E f l F)] = some (.nx [.sh (.list [dSet E f l F]), .sh (dSet E f l F)]) from
    rIfSF (b := !true) (rNot (rThen (rThen (rCons (rV rfl) rNil) k) rfl)) rfl rfl]
theorem m_check_numbers_ok {xs : List Int} (h : ∀ x ∈ xs, 0 ≤ x) : m_check_numbers [dI xs] = some .none := by
  obtain ⟨ρ', e, _⟩ := rFor (fi := dThen (dV 0) asList) (g := gtName 1) (fb := sIf (dThen (dOp (gI fun i j => .bool (decide (i < j))) (dV 1) (dC (.int 0))) isB) sNever sNext) (ρ := rho0 [dI xs] 1) (ρ1 := rho0 [dI xs] 1)
    PyData.int (fun _ ρ => ∃ s, ρ = [.sh (dI xs), s]) (ns := xs) rfl ⟨_, rfl⟩ (fun as n bs ρ2 hn hI => by
      obtain ⟨s, rfl⟩ := hI
      have hm : 0 ≤ n := h n (by rw [hn]; simp)
      refine ⟨[.sh (dI xs), .sh (.int n)], [.sh (dI xs), .sh (.int n)], rfl, ?_, _, rfl⟩
      exact rIfSF (b := decide (n < 0)) (rThen (rOp (rV rfl) rC rfl) rfl) (by simpa using hm) rfl)
  exact finN (f := b_check_numbers) e

end Pg

set_option Elab.async false
set_option linter.all false
set_option maxRecDepth 100000
set_option maxHeartbeats 1000000
namespace Pg
open PySem PySem.Spec PyProof.Rows L2 Ly
local macro_rules | `(tactic| walk_at "run") => `(tactic| first
  | with_reducible exact rC
  | with_reducible exact rNil
  | with_reducible exact rNext
  | with_reducible exact rGN
  | ((with_reducible refine' rV ?m1); (case' m1 => rfl))
  | with_reducible assumption
  | ((with_reducible refine' rCons ?m1 ?m2); (case' m1 => walk_at "run"); (case' m2 => walk_at "run"))
  | ((with_reducible refine' rOp ?m1 ?m2 ?m3); (case' m1 => walk_at "run"); (case' m2 => walk_at "run"); (case' m3 => walk_at "run"))
  | ((with_reducible refine' rNot ?m1); (case' m1 => walk_at "run"))
  | ((with_reducible refine' rB ?m1); (case' m1 => walk_at "run"))
  | ((with_reducible refine' rPart ?m1); (case' m1 => walk_at "run"))
  | ((with_reducible refine' rThen ?m1 ?m2); (case' m1 => walk_at "run"); (case' m2 => walk_at "run"))
  | ((with_reducible refine' rPair ?m1 ?m2); (case' m1 => walk_at "run"); (case' m2 => walk_at "run"))
  | ((with_reducible refine' rSeq ?m1 ?m2); (case' m1 => walk_at "run"); (case' m2 => walk_at "run"))
  | ((with_reducible refine' rRet ?m1); (case' m1 => walk_at "run"))
  | ((with_reducible refine' rAsgE ?m1 ?m2 ?m3); (case' m1 => walk_at "run"); (case' m2 => rfl); (case' m3 => (simp [rho0])))
  | ((with_reducible refine' rAsg ?m1 ?m2); (case' m1 => walk_at "run"); (case' m2 => walk_at "run"))
  | ((with_reducible refine' rDrop ?m1); (case' m1 => walk_at "run"))
  | ((with_reducible refine' rNameE ?m1 ?m2); (case' m1 => rfl); (case' m2 => (simp [rho0, unset])))
  | ((with_reducible refine' rTup ?m1 ?m2); (case' m1 => rfl); (case' m2 => walk_at "run"))
  | ((with_reducible refine' rGC ?m1 ?m2); (case' m1 => walk_at "run"); (case' m2 => walk_at "run"))
  | ((with_reducible refine' rParE ?m1 ?m2 ?m3 ?m4); (case' m1 => walk_at "run"); (case' m2 => rfl); (case' m3 => (simp [rho0])); (case' m4 => (simp [rho0])))
  | ((with_reducible refine' rAugE ?m1 ?m2 ?m3); (case' m1 => rfl); (case' m2 => walk_at "run"); (case' m3 => rfl))
  | ((with_reducible refine' rIxO ?m1 ?m2 ?m3 ?m4); (case' m1 => rfl); (case' m2 => walk_at "run"); (case' m3 => rfl); (case' m4 => walk_at "run"))
  | ((with_reducible refine' rSlO ?m1 ?m2 ?m3); (case' m1 => rfl); (case' m2 => walk_at "run"); (case' m3 => rfl))
  | ((with_reducible refine' rFrz ?m1); (case' m1 => rfl))
  | ((with_reducible refine' rCallOE ?m1 ?m2 ?m3 ?m4 ?m5); (case' m1 => rfl); (case' m2 => walk_at "run"); (case' m3 => rfl); (case' m4 => walk_at "run"); (case' m5 => rfl))
  | with_reducible exact len_dI
  | with_reducible exact disp1
  | with_reducible exact truth_dI
  | with_reducible exact flat_dI
  | ((with_reducible refine' cat_lit1 ?m1); (case' m1 => ((try simp only [List.length_append, List.length_cons, List.length_nil]) <;> omega)))
  | ((with_reducible refine' cat_lit2 ?m1); (case' m1 => ((try simp only [List.length_append, List.length_cons, List.length_nil]) <;> omega)))
  | ((with_reducible refine' cat_dI ?m1); (case' m1 => ((try simp only [List.length_append, List.length_cons, List.length_nil]) <;> omega)))
  | rfl
  | skip)
/-! ### shortest turn -/
def rep (T : List Int) (r : Int) (q : Nat) : Bool := decide (T.length % q = 0) && decide (r % q = 0) && decide ((T.take (T.length - T.length / q)).map (fun x => x + r / q) = T.drop (T.length / q))
theorem m_repeats_ok {T : List Int} {r : Int} {q : Nat} (h0 : T ≠ []) (hq : 0 < q) (hq2 : q ≤ 1000000) (hl : T.length ≤ 1000000) : m_repeats [dI T, .int r, .int (q : Nat)] = some (.bool (rep T r q)) := by
  have hT : 0 < T.length := List.length_pos_iff.mpr h0
  have hQ : (0 : Int) < (q : Nat) := by omega
  have hQ2 : ((q : Nat) : Int) < 2 ^ 200 := Int.lt_of_le_of_lt (show ((q : Nat) : Int) ≤ 1000000 by omega) (by decide)
  have t1 : (dIf (dThen (dOp (fun x y => (gEq x y).map fun b => .bool (!b)) (dOp (gIc (fun _ j => decide (0 < j)) fun i j => .int (i % j)) (dThen (dCons (dV 0) dNil) gLen) (dV 2)) (dC (.int 0))) isB) (dC true) (dThen (dOp (fun x y => (gEq x y).map fun b => .bool (!b)) (dOp (gIc (fun _ j => decide (0 < j)) fun i j => .int (i % j)) (dV 1) (dV 2)) (dC (.int 0))) isB))
      (rho0 [dI T, .int r, .int (q : Nat)] 3) = some ((!decide (((T.length : Nat) : Int) % (q : Nat) = 0)) || (!decide (r % (q : Nat) = 0)), rho0 [dI T, .int r, .int (q : Nat)] 3) :=
    rOr (rThen (rOp (rOp (rThen (rCons (rV rfl) rNil) len_dI) (rV rfl) (mod_ok hQ)) rC rfl) rfl) fun _ => rThen (rOp (rOp (rV rfl) (rV rfl) (mod_ok hQ)) rC rfl) rfl
  have eL : (((T.length : Nat) : Int) % (q : Nat) = 0) ↔ (T.length % q = 0) := by omega
  by_cases c : T.length % q = 0 ∧ r % (q : Nat) = 0
  · obtain ⟨c1, c2⟩ := c
    have c1' := eL.mpr c1
    apply fin (f := b_repeats)
    unfold b_repeats
    refine' rSeq (rIfSF t1 ?a rNext) ?b
    case a => simp [c1', c2]
    case b =>
      have hs : 0 < T.length / q := Nat.div_pos (Nat.le_of_dvd hT (Nat.dvd_of_mod_eq_zero c1)) hq
      have es : ((T.length : Nat) : Int) / ((q : Nat) : Int) = ((T.length / q : Nat) : Int) := by omega
      refine' rSeq (ρ1 := [.sh (dI T), .sh (.int r), .sh (.int (q : Nat)), .sh (.int ((T.length / q : Nat) : Int)), .sh (.int (r / (q : Nat))), .un]) ?c (rRet ?d)
      case c =>
        rw [← es]
        refine' rAsg (rThen (rCons (rOp (rThen (rCons (rV rfl) rNil) len_dI) (rV rfl) (div_ok hQ hQ2)) (rCons (rOp (rV rfl) (rV rfl) (div_ok hQ hQ2)) rNil)) (few_map (by simp))) (rTup rfl (rGC (rName (by simp [rho0])) (rGC (rName (by simp [rho0])) rGN)))
      case d =>
        refine' rOp (ρ1 := [.sh (dI T), .sh (.int r), .sh (.int (q : Nat)), .sh (.int ((T.length / q : Nat) : Int)), .sh (.int (r / (q : Nat))), .un]) (x := dI ((T.take (T.length - T.length / q)).map fun x => x + r / (q : Nat))) ?e (rThen (rPair (rV rfl) (rPair (rPart (rV rfl)) rC)) (sl_from rfl)) ?f
        case e =>
          have := rCompT (fi := dThen (dThen (dPair (dV 0) (dPair (dC none) (dThen (dThen (dV 3) (gU fun i => .int (-i))) asPart))) fun p => gSl p.1 p.2.1 p.2.2) asList) (vs := [5]) (g := gtName 5) (fe := dOp gAdd (dV 5) (dV 4))
            (ρ := [.sh (dI T), .sh (.int r), .sh (.int (q : Nat)), .sh (.int ((T.length / q : Nat) : Int)), .sh (.int (r / (q : Nat))), .un])
            (ρ1 := [.sh (dI T), .sh (.int r), .sh (.int (q : Nat)), .sh (.int ((T.length / q : Nat) : Int)), .sh (.int (r / (q : Nat))), .un]) PyData.int (fun x => .int (x + r / (q : Nat))) (ns := T.take (T.length - T.length / q))
            (rThen (rThen (rPair (rV rfl) (rPair rC (rPart (rThen (rV rfl) rfl)))) (sl_neg rfl hs (Nat.div_le_self _ _))) rfl) rfl (fun n _ => ⟨_, rfl, rfl, rOp (rV rfl) (rV rfl) rfl⟩) (by rw [List.length_take]; omega)
          rw [this]
          simp [dI, List.map_map, Function.comp_def]
        case f =>
          rw [eq_dI]
          simp [rep, c1, c2]
  · apply fin (f := b_repeats)
    unfold b_repeats
    refine' rSeqR (rIfST t1 ?a (rRet ?b))
    case a =>
      rw [← eL] at c
      by_cases z : ((T.length : Nat) : Int) % (q : Nat) = 0
      · simp [z, show ¬ r % (q : Nat) = 0 from fun y => c ⟨z, y⟩]
      · simp [z]
    case b =>
      have : rep T r q = false := by
        unfold rep
        by_cases z : T.length % q = 0
        · have y : ¬ r % (q : Nat) = 0 := fun y => c ⟨z, y⟩
          simp [y]
        · simp [z]
      rw [this]
      exact rC

end Pg

set_option Elab.async false
set_option linter.all false
set_option maxRecDepth 100000
set_option maxHeartbeats 1000000
namespace Pg
open PySem PySem.Spec PyProof.Rows L2 Ly
local macro_rules | `(tactic| walk_at "run") => `(tactic| first
  | with_reducible exact rC
  | with_reducible exact rNil
  | with_reducible exact rNext
  | with_reducible exact rGN
  | ((with_reducible refine' rV ?m1); (case' m1 => rfl))
  | with_reducible assumption
  | ((with_reducible refine' rCons ?m1 ?m2); (case' m1 => walk_at "run"); (case' m2 => walk_at "run"))
  | ((with_reducible refine' rOp ?m1 ?m2 ?m3); (case' m1 => walk_at "run"); (case' m2 => walk_at "run"); (case' m3 => walk_at "run"))
  | ((with_reducible refine' rNot ?m1); (case' m1 => walk_at "run"))
  | ((with_reducible refine' rB ?m1); (case' m1 => walk_at "run"))
  | ((with_reducible refine' rPart ?m1); (case' m1 => walk_at "run"))
  | ((with_reducible refine' rThen ?m1 ?m2); (case' m1 => walk_at "run"); (case' m2 => walk_at "run"))
  | ((with_reducible refine' rPair ?m1 ?m2); (case' m1 => walk_at "run"); (case' m2 => walk_at "run"))
  | ((with_reducible refine' rSeq ?m1 ?m2); (case' m1 => walk_at "run"); (case' m2 => walk_at "run"))
  | ((with_reducible refine' rRet ?m1); (case' m1 => walk_at "run"))
  | ((with_reducible refine' rAsgE ?m1 ?m2 ?m3); (case' m1 => walk_at "run"); (case' m2 => rfl); (case' m3 => (simp [rho0])))
  | ((with_reducible refine' rAsg ?m1 ?m2); (case' m1 => walk_at "run"); (case' m2 => walk_at "run"))
  | ((with_reducible refine' rDrop ?m1); (case' m1 => walk_at "run"))
  | ((with_reducible refine' rNameE ?m1 ?m2); (case' m1 => rfl); (case' m2 => (simp [rho0, unset])))
  | ((with_reducible refine' rTup ?m1 ?m2); (case' m1 => rfl); (case' m2 => walk_at "run"))
  | ((with_reducible refine' rGC ?m1 ?m2); (case' m1 => walk_at "run"); (case' m2 => walk_at "run"))
  | ((with_reducible refine' rParE ?m1 ?m2 ?m3 ?m4); (case' m1 => walk_at "run"); (case' m2 => rfl); (case' m3 => (simp [rho0])); (case' m4 => (simp [rho0])))
  | ((with_reducible refine' rAugE ?m1 ?m2 ?m3); (case' m1 => rfl); (case' m2 => walk_at "run"); (case' m3 => rfl))
  | ((with_reducible refine' rIxO ?m1 ?m2 ?m3 ?m4); (case' m1 => rfl); (case' m2 => walk_at "run"); (case' m3 => rfl); (case' m4 => walk_at "run"))
  | ((with_reducible refine' rSlO ?m1 ?m2 ?m3); (case' m1 => rfl); (case' m2 => walk_at "run"); (case' m3 => rfl))
  | ((with_reducible refine' rFrz ?m1); (case' m1 => rfl))
  | ((with_reducible refine' rCallOE ?m1 ?m2 ?m3 ?m4 ?m5); (case' m1 => rfl); (case' m2 => walk_at "run"); (case' m3 => rfl); (case' m4 => walk_at "run"); (case' m5 => rfl))
  | with_reducible exact len_dI
  | with_reducible exact disp1
  | with_reducible exact truth_dI
  | with_reducible exact flat_dI
  | ((with_reducible refine' cat_lit1 ?m1); (case' m1 => ((try simp only [List.length_append, List.length_cons, List.length_nil]) <;> omega)))
  | ((with_reducible refine' cat_lit2 ?m1); (case' m1 => ((try simp only [List.length_append, List.length_cons, List.length_nil]) <;> omega)))
  | ((with_reducible refine' cat_dI ?m1); (case' m1 => ((try simp only [List.length_append, List.length_cons, List.length_nil]) <;> omega)))
  | rfl
  | skip)
open Md (Tell Round Begin nums Lad ladOf)
theorem rep_iff {x : Nat → Int} {e : Nat} {T : List Int} {r : Int} {q : Nat} (ht : Tell x e T.length r) (hn : T = nums x e T.length) (hq : 0 < q) :
    rep T r q = true ↔ ∃ (size : Nat) (step : Int), T.length = size * q ∧ r = step * (q : Nat) ∧ Tell x e size step := by
  have hp := ht.pos
  have get : ∀ i, i < T.length → T[i]? = some (x (e + i)) := fun i hi => by
    conv => lhs; rw [hn]
    exact Md.nums_get hi
  constructor
  · intro h
    unfold rep at h
    simp only [Bool.and_eq_true, decide_eq_true_eq] at h
    obtain ⟨⟨h1, h2⟩, h3⟩ := h
    have e1 : T.length = T.length / q * q := by
      have := Nat.div_add_mod T.length q
      rw [h1, Nat.mul_comm] at this
      omega
    have e2 : r = r / (q : Nat) * (q : Nat) := by
      have := Int.mul_ediv_add_emod r (q : Nat)
      rw [h2, Int.mul_comm] at this
      omega
    have hs : 0 < T.length / q := Nat.div_pos (Nat.le_of_dvd hp (Nat.dvd_of_mod_eq_zero h1)) hq
    refine ⟨T.length / q, r / (q : Nat), e1, e2, Tell.ofParts (q := q) ht e1 e2 hs fun i hi => ?_⟩
    have g := congrArg (fun l => l[i]?) h3
    simp only [List.getElem?_map, List.getElem?_take, List.getElem?_drop] at g
    rw [if_pos (by omega), get i (by omega), get (T.length / q + i) (by omega)] at g
    simp only [Option.map_some, Option.some.injEq] at g
    have e3 : e + i + T.length / q = e + (T.length / q + i) := by omega
    rw [e3, ← g]
  · rintro ⟨size, step, e1, e2, t⟩
    have hs := t.pos
    have d1 : T.length / q = size := by rw [e1]; exact Nat.mul_div_cancel size hq
    have d2 : r / (q : Nat) = step := by rw [e2]; exact Int.mul_ediv_cancel step (by omega)
    unfold rep
    simp only [Bool.and_eq_true, decide_eq_true_eq, d1, d2]
    refine ⟨⟨by rw [e1]; exact Nat.mul_mod_left _ _, by rw [e2]; exact Int.mul_emod_left _ _⟩, ?_⟩
    apply List.ext_getElem?
    intro i
    simp only [List.getElem?_map, List.getElem?_take, List.getElem?_drop]
    by_cases c : i < T.length - size
    · rw [if_pos c, get i (by omega), get (size + i) (by omega)]
      have := t.step (e + i) (by omega)
      have e3 : e + i + size = e + (size + i) := by omega
      rw [e3] at this
      simp [this]
    · rw [if_neg c, List.getElem?_eq_none (by omega)]
      rfl
theorem m_shortest_ok {x : Nat → Int} {e : Nat} {T : List Int} {r : Int} (h0 : T ≠ []) (hl : T.length ≤ 900000) (ht : Tell x e T.length r) (hn : T = nums x e T.length) :
    ∃ T' r', m_shortest_turn [dI T, .int r] = some (.tuple [dI T', .int r']) ∧ T' = nums x e T'.length ∧ Tell x e T'.length r' ∧ Round x T'.length ∧ T'.length ≤ T.length := by
  let R : List Int × Int × Nat → Rho := fun s => [.sh (dI s.1), .sh (.int s.2.1), .sh (.int (s.2.2 : Nat))]
  let I : List Int × Int × Nat → Prop := fun s => 2 ≤ s.2.2 ∧ s.2.2 ≤ 900001 ∧ s.1.length ≤ T.length ∧ Tell x e s.1.length s.2.1 ∧ s.1 = nums x e s.1.length ∧
    ∀ (q size : Nat) (step : Int), 2 ≤ q → q < s.2.2 → s.1.length = size * q → s.2.1 = step * (q : Nat) → ¬ Tell x e size step
  let next : List Int × Int × Nat → List Int × Int × Nat := fun s => if rep s.1 s.2.1 s.2.2 = true then (s.1.take (s.1.length / s.2.2), s.2.1 / (s.2.2 : Nat), s.2.2) else (s.1, s.2.1, s.2.2 + 1)
  obtain ⟨⟨T', r', q'⟩, w1, w2, w3⟩ := rWhile (ft := dThen (dOp (gI fun i j => .bool (decide (i ≤ j))) (dV 2) (dThen (dCons (dV 0) dNil) gLen)) isB)
    (fb := sIf (dThen (dThen (dCons (dV 0) (dCons (dV 1) (dCons (dV 2) dNil))) m_repeats) truth) (sPar 0 1 (dCons (dThen (dPair (dV 0) (dPair (dC none) (dThen (dOp (gIc cDiv fun i j => .int (i / j)) (dThen (dCons (dV 0) dNil) gLen) (dV 2)) asPart))) fun p => gSl p.1 p.2.1 p.2.2) (dCons (dOp (gIc cDiv fun i j => .int (i / j)) (dV 1) (dV 2)) dNil))) (sAug 2 (fun i j => i + j) (dC (.int 1))))
    R I (fun s => 2 * s.1.length + 2 - s.2.2) (fun s => decide ((s.2.2 : Nat) ≤ s.1.length)) next
    (fun ⟨S, s, q⟩ hI => by
      have : decide (((q : Nat) : Int) ≤ ((S.length : Nat) : Int)) = decide (q ≤ S.length) := by simp
      show _ = some (decide (q ≤ S.length), _)
      rw [← this]
      exact rThen (rOp (rV rfl) (rThen (rCons (rV rfl) rNil) len_dI) rfl) rfl)
    (fun ⟨S, s, q⟩ hI hb => by
      obtain ⟨i1, i2, i3, i4, i5, i6⟩ := hI
      simp only at i1 i2 i3 i4 i5 i6
      have hb : q ≤ S.length := of_decide_eq_true hb
      have hp := i4.pos
      have hS0 : S ≠ [] := List.length_pos_iff.mp hp
      have hrep := m_repeats_ok (T := S) (r := s) (q := q) hS0 (by omega) (by omega) (by omega)
      have hQ : (0 : Int) < (q : Nat) := by omega
      have hQ2 : ((q : Nat) : Int) < 2 ^ 200 := Int.lt_of_le_of_lt (show ((q : Nat) : Int) ≤ 1000000 by omega) (by decide)
      have tst : (dThen (dThen (dCons (dV 0) (dCons (dV 1) (dCons (dV 2) dNil))) m_repeats) truth) (R (S, s, q)) = some (rep S s q, R (S, s, q)) := rThen (rThen (rCons (rV rfl) (rCons (rV rfl) (rCons (rV rfl) rNil))) hrep) rfl
      have iff := rep_iff i4 i5 (by omega : 0 < q)
      by_cases c : rep S s q = true
      · have en : next (S, s, q) = (S.take (S.length / q), s / (q : Nat), q) := if_pos c
        rw [en]
        obtain ⟨size, step, e1, e2, t⟩ := iff.mp c
        have hs := t.pos
        have d1 : S.length / q = size := by rw [e1]; exact Nat.mul_div_cancel size (by omega)
        have d2 : s / (q : Nat) = step := by rw [e2]; exact Int.mul_ediv_cancel step (by omega)
        have hlen : size < S.length := by
          have := Nat.mul_le_mul_left size i1
          omega
        have el : (S.take (S.length / q)).length = size := by rw [List.length_take, d1]; omega
        refine ⟨?_, ⟨i1, i2, ?_, ?_, ?_, ?_⟩, ?_⟩
        · refine rIfST tst c ?_
          refine rPar (ρ1 := R (S, s, q)) (rCons (rThen (rPair (rV rfl) (rPair rC (rPart (rOp (rThen (rCons (rV rfl) rNil) len_dI) (rV rfl) (div_ok hQ hQ2))))) (sl_to (k := S.length / q) (by show ((S.length : Nat) : Int) / ((q : Nat) : Int) = ((S.length / q : Nat) : Int); omega))) (rCons (rOp (rV rfl) (rV rfl) (div_ok hQ hQ2)) rNil)) (by simp [R]) (by simp [R])
        · show (S.take (S.length / q)).length ≤ T.length
          omega
        · show Tell x e (S.take (S.length / q)).length (s / (q : Nat))
          rw [el, d2]
          exact t
        · show S.take (S.length / q) = nums x e (S.take (S.length / q)).length
          rw [el, d1]
          conv => lhs; rw [i5]
          exact Md.nums_take (by omega)
        · intro q1 size1 step1 a1 a2 a3 a4 t1
          simp only at a2 a3 a4
          rw [el] at a3
          rw [d2] at a4
          refine i6 q1 (size1 * q) (step1 * (q : Nat)) a1 a2 ?_ ?_ (t1.mul (by omega))
          · rw [e1, a3]; ac_rfl
          · rw [e2, a4]; ac_rfl
        · show 2 * (S.take (S.length / q)).length + 2 - q < 2 * S.length + 2 - q
          rw [el]
          omega
      · have en : next (S, s, q) = (S, s, q + 1) := if_neg c
        rw [en]
        refine ⟨?_, ⟨by show 2 ≤ q + 1; omega, by show q + 1 ≤ 900001; omega, i3, i4, i5, ?_⟩, ?_⟩
        · refine rIfSF tst (by simpa using c) ?_
          have : ((q : Nat) : Int) + 1 = ((q + 1 : Nat) : Int) := by omega
          show _ = some (Fl.nx [.sh (dI S), .sh (.int s), .sh (.int ((q + 1 : Nat) : Int))])
          rw [← this]
          exact rAug (ρ1 := R (S, s, q)) rfl rC
        · intro q1 size step a1 a2 a3 a4 t1
          simp only at a2 a3 a4
          by_cases z : q1 = q
          · subst z
            exact c (iff.mpr ⟨size, step, a3, a4, t1⟩)
          · exact i6 q1 size step a1 (by omega) a3 a4 t1
        · show 2 * S.length + 2 - (q + 1) < 2 * S.length + 2 - q
          omega)
    (2 * T.length) (T, r, 2) ⟨by show 2 ≤ 2; omega, by show 2 ≤ 900001; decide, Nat.le_refl _, ht, hn, fun q size step a1 a2 => by simp only at a2; omega⟩ (by show 2 * T.length + 2 - 2 ≤ 2 * T.length; omega)
  obtain ⟨i1, i2, i3, i4, i5, i6⟩ := w2
  simp only at i1 i2 i3 i4 i5 i6
  have w3 : ¬ q' ≤ T'.length := of_decide_eq_false w3
  refine ⟨T', r', ?_, i5, i4, Round.ofNone i4 fun q size step a1 a2 a3 a4 => i6 q size step a1 (by omega) a3 a4, i3⟩
  apply fin (f := b_shortest_turn)
  unfold b_shortest_turn
  exact rSeq (ρ1 := R (T, r, 2)) (rAsg rC (rName (by simp [rho0]))) (rSeq w1 (rRet (rThen (rCons (rV rfl) (rCons (rV rfl) rNil)) (few_map (by simp)))))

end Pg

set_option Elab.async false
set_option linter.all false
set_option maxRecDepth 100000
set_option maxHeartbeats 1000000
namespace Pg
open PySem PySem.Spec PyProof.Rows L2 Ly
local macro_rules | `(tactic| walk_at "run") => `(tactic| first
  | with_reducible exact rC
  | with_reducible exact rNil
  | with_reducible exact rNext
  | with_reducible exact rGN
  | ((with_reducible refine' rV ?m1); (case' m1 => rfl))
  | with_reducible assumption
  | ((with_reducible refine' rCons ?m1 ?m2); (case' m1 => walk_at "run"); (case' m2 => walk_at "run"))
  | ((with_reducible refine' rOp ?m1 ?m2 ?m3); (case' m1 => walk_at "run"); (case' m2 => walk_at "run"); (case' m3 => walk_at "run"))
  | ((with_reducible refine' rNot ?m1); (case' m1 => walk_at "run"))
  | ((with_reducible refine' rB ?m1); (case' m1 => walk_at "run"))
  | ((with_reducible refine' rPart ?m1); (case' m1 => walk_at "run"))
  | ((with_reducible refine' rThen ?m1 ?m2); (case' m1 => walk_at "run"); (case' m2 => walk_at "run"))
  | ((with_reducible refine' rPair ?m1 ?m2); (case' m1 => walk_at "run"); (case' m2 => walk_at "run"))
  | ((with_reducible refine' rSeq ?m1 ?m2); (case' m1 => walk_at "run"); (case' m2 => walk_at "run"))
  | ((with_reducible refine' rRet ?m1); (case' m1 => walk_at "run"))
  | ((with_reducible refine' rAsgE ?m1 ?m2 ?m3); (case' m1 => walk_at "run"); (case' m2 => rfl); (case' m3 => (simp [rho0])))
  | ((with_reducible refine' rAsg ?m1 ?m2); (case' m1 => walk_at "run"); (case' m2 => walk_at "run"))
  | ((with_reducible refine' rDrop ?m1); (case' m1 => walk_at "run"))
  | ((with_reducible refine' rNameE ?m1 ?m2); (case' m1 => rfl); (case' m2 => (simp [rho0, unset])))
  | ((with_reducible refine' rTup ?m1 ?m2); (case' m1 => rfl); (case' m2 => walk_at "run"))
  | ((with_reducible refine' rGC ?m1 ?m2); (case' m1 => walk_at "run"); (case' m2 => walk_at "run"))
  | ((with_reducible refine' rParE ?m1 ?m2 ?m3 ?m4); (case' m1 => walk_at "run"); (case' m2 => rfl); (case' m3 => (simp [rho0])); (case' m4 => (simp [rho0])))
  | ((with_reducible refine' rAugE ?m1 ?m2 ?m3); (case' m1 => rfl); (case' m2 => walk_at "run"); (case' m3 => rfl))
  | ((with_reducible refine' rIxO ?m1 ?m2 ?m3 ?m4); (case' m1 => rfl); (case' m2 => walk_at "run"); (case' m3 => rfl); (case' m4 => walk_at "run"))
  | ((with_reducible refine' rSlO ?m1 ?m2 ?m3); (case' m1 => rfl); (case' m2 => walk_at "run"); (case' m3 => rfl))
  | ((with_reducible refine' rFrz ?m1); (case' m1 => rfl))
  | ((with_reducible refine' rCallOE ?m1 ?m2 ?m3 ?m4 ?m5); (case' m1 => rfl); (case' m2 => walk_at "run"); (case' m3 => rfl); (case' m4 => walk_at "run"); (case' m5 => rfl))
  | with_reducible exact len_dI
  | with_reducible exact disp1
  | with_reducible exact truth_dI
  | with_reducible exact flat_dI
  | ((with_reducible refine' cat_lit1 ?m1); (case' m1 => ((try simp only [List.length_append, List.length_cons, List.length_nil]) <;> omega)))
  | ((with_reducible refine' cat_lit2 ?m1); (case' m1 => ((try simp only [List.length_append, List.length_cons, List.length_nil]) <;> omega)))
  | ((with_reducible refine' cat_dI ?m1); (case' m1 => ((try simp only [List.length_append, List.length_cons, List.length_nil]) <;> omega)))
  | rfl
  | skip)
open Md (Tell Round Begin nums Lad ladOf)
/-- the loop that finds the least beginning -/
def bstep (x : Nat → Int) (p : Nat) (r : Int) (s : Nat) : Bool := decide (0 < s) && decide (x (s - 1) + r = x (s - 1 + p))
theorem begin_of {x : Nat → Int} {p s : Nat} {r : Int} (h : Tell x s p r) (b : bstep x p r s = false) : Begin x s := by
  refine Begin.of h ?_
  unfold bstep at b
  by_cases z : s = 0
  · exact .inl z
  · right
    intro e
    simp only [Bool.and_eq_false_iff, decide_eq_false_iff_not] at b
    rcases b with b | b
    · omega
    · exact b e.symm
theorem tell_less {x : Nat → Int} {p s : Nat} {r : Int} (h : Tell x s p r) (b : bstep x p r s = true) : Tell x (s - 1) p r := by
  unfold bstep at b
  simp only [Bool.and_eq_true, decide_eq_true_eq] at b
  refine ⟨h.pos, fun n hn => ?_⟩
  by_cases z : n = s - 1
  · rw [z, ← b.2]
  · exact h.step n (by omega)
theorem m_shortened_ok {L : Lad} (h0 : L.T ≠ []) (hE : L.E.length ≤ 400000) (hT : L.T.length ≤ 400000) :
    ∃ M : Lad, m_shortened [dLad L] = some (dLad M) ∧ M.Least ∧ M.at = L.at ∧ M.T.length ≤ L.T.length ∧ M.E.length ≤ L.E.length := by
  have ht := L.tell h0
  have hn := Lad.turn (L := L)
  have he := Lad.early (L := L)
  generalize hx : L.at = x at ht hn he
  obtain ⟨T', r', e1, n1, t1, rd, l1⟩ := m_shortest_ok (x := x) (e := L.E.length) h0 (by omega) ht hn
  have hp := t1.pos
  have hN : L.E ++ T' = nums x 0 (L.E.length + T'.length) := by
    conv => lhs; rw [he, n1]
    have := Md.nums_append (x := x) (a := 0) (m := L.E.length) (k := T'.length)
    rw [Nat.zero_add] at this
    exact this
  have get : ∀ i, i < L.E.length + T'.length → (L.E ++ T')[i]? = some (x i) := fun i hi => by
    rw [hN, Md.nums_get hi, Nat.zero_add]
  let R : Nat → Rho := fun s => [.sh (dLad L), .sh (dI L.E), .sh (dI T'), .sh (.int r'), .sh (.int (T'.length : Nat)), .sh (.int (s : Nat)), .sh (dI (L.E ++ T'))]
  obtain ⟨s, w1, ⟨w2, w3⟩, w4⟩ := rWhile (ft := dIf (dThen (dOp (gI fun i j => .bool (decide (j < i))) (dV 5) (dC (.int 0))) isB) (dThen (dOp (fun x y => (gEq x y).map .bool) (dOp gAdd (dOp gIx (dV 6) (dOp (gI fun i j => .int (i - j)) (dV 5) (dC (.int 1)))) (dV 3)) (dOp gIx (dV 6) (dOp gAdd (dOp (gI fun i j => .int (i - j)) (dV 5) (dC (.int 1))) (dV 4)))) isB) (dC false))
    (fb := sAug 5 (fun i j => i - j) (dC (.int 1))) R (fun s => s ≤ L.E.length ∧ Tell x s T'.length r') (fun s => s) (bstep x T'.length r') (fun s => s - 1)
    (fun s hI => by
      by_cases z : 0 < s
      · have c1 : ((s : Nat) : Int) - 1 = ((s - 1 : Nat) : Int) := by omega
        refine rIfT (b := decide ((0 : Int) < (s : Nat))) (ρ1 := R s) (rThen (rOp (rV rfl) rC rfl) rfl) (by simpa using z) ?_
        have : bstep x T'.length r' s = decide (x (s - 1) + r' = x (s - 1 + T'.length)) := by simp [bstep, z]
        rw [this]
        refine rThen (rOp (x := .int (x (s - 1) + r')) (y := .int (x (s - 1 + T'.length))) (ρ1 := R s) (ρ2 := R s) (z := .bool (decide (x (s - 1) + r' = x (s - 1 + T'.length)))) ?_ ?_ rfl) rfl
        · exact rOp (rOp (rV rfl) (rOp (rV rfl) rC rfl) (ix_dI c1 (get (s - 1) (by omega)))) (rV rfl) rfl
        · exact rOp (rV rfl) (rOp (rOp (rV rfl) rC rfl) (rV rfl) rfl) (ix_dI (k := s - 1 + T'.length) (by omega) (get (s - 1 + T'.length) (by omega)))
      · have : bstep x T'.length r' s = false := by simp [bstep, z]
        rw [this]
        exact rIfF (b := decide ((0 : Int) < (s : Nat))) (ρ1 := R s) (rThen (rOp (rV rfl) rC rfl) rfl) (by simpa using z) rfl)
    (fun s hI hb => by
      have z : 0 < s := by
        unfold bstep at hb
        simp only [Bool.and_eq_true, decide_eq_true_eq] at hb
        exact hb.1
      refine ⟨?_, ⟨by omega, tell_less hI.2 hb⟩, by omega⟩
      have c1 : ((s : Nat) : Int) - 1 = ((s - 1 : Nat) : Int) := by omega
      show _ = some (Fl.nx [.sh (dLad L), .sh (dI L.E), .sh (dI T'), .sh (.int r'), .sh (.int (T'.length : Nat)), .sh (.int ((s - 1 : Nat) : Int)), .sh (dI (L.E ++ T'))])
      rw [← c1]
      exact rAug (ρ1 := R s) rfl rC)
    L.E.length L.E.length ⟨Nat.le_refl _, t1⟩ (Nat.le_refl _)
  refine ⟨ladOf x s T'.length r', ?_, Md.least_of w3 rd (begin_of w3 w4), Md.ladOf_at w3, ?_, ?_⟩
  · have k1 : (L.E ++ T').take s = nums x 0 s := by rw [hN]; exact Md.nums_take (by omega)
    have k2 : ((L.E ++ T').drop s).take T'.length = nums x s T'.length := by
      rw [hN, Md.nums_drop, Nat.zero_add]
      exact Md.nums_take (by omega)
    apply fin (f := b_shortened)
    unfold b_shortened
    refine' rSeq (ρ1 := [.sh (dLad L), .sh (dI L.E), .sh (dI L.T), .sh (.int L.r), .un, .un, .un]) (by walk_at "run") (rSeq (ρ1 := [.sh (dLad L), .sh (dI L.E), .sh (dI T'), .sh (.int r'), .un, .un, .un]) (by walk_at "run")
      (rSeq (ρ1 := [.sh (dLad L), .sh (dI L.E), .sh (dI T'), .sh (.int r'), .sh (.int (T'.length : Nat)), .sh (.int (L.E.length : Nat)), .un]) (by walk_at "run") (rSeq (ρ1 := R L.E.length) ?a (rSeq w1 (rRet ?b)))))
    case a => exact rAsg (rOp (rV rfl) (rV rfl) (cat_dI (by omega))) (rName (by simp))
    case b =>
      refine' rThen (rCons (rThen (rThen (rPair (rV rfl) (rPair rC (rPart (rV rfl)))) (sl_to rfl)) flat_dI) (rCons (rThen (rThen (rPair (rV rfl) (rPair (rPart (rV rfl)) (rPart (rOp (rV rfl) (rV rfl) rfl)))) (sl_mid (a := s) (b := T'.length) rfl ?c ?d)) flat_dI) (rCons (rThen (rV rfl) rfl) rNil))) ?e
      case c => omega
      case d => rw [List.length_append]; omega
      case e =>
        rw [k1, k2]
        exact few_map (by simp)
  · simp [ladOf, Md.nums_length, l1]
  · simp [ladOf, Md.nums_length, w2]

end Pg

set_option Elab.async false
set_option linter.all false
set_option maxRecDepth 100000
set_option maxHeartbeats 1000000
namespace Pg
open PySem PySem.Spec PyProof.Rows L2 Ly
local macro_rules | `(tactic| walk_at "run") => `(tactic| first
  | with_reducible exact rC
  | with_reducible exact rNil
  | with_reducible exact rNext
  | with_reducible exact rGN
  | ((with_reducible refine' rV ?m1); (case' m1 => rfl))
  | with_reducible assumption
  | ((with_reducible refine' rCons ?m1 ?m2); (case' m1 => walk_at "run"); (case' m2 => walk_at "run"))
  | ((with_reducible refine' rOp ?m1 ?m2 ?m3); (case' m1 => walk_at "run"); (case' m2 => walk_at "run"); (case' m3 => walk_at "run"))
  | ((with_reducible refine' rNot ?m1); (case' m1 => walk_at "run"))
  | ((with_reducible refine' rB ?m1); (case' m1 => walk_at "run"))
  | ((with_reducible refine' rPart ?m1); (case' m1 => walk_at "run"))
  | ((with_reducible refine' rThen ?m1 ?m2); (case' m1 => walk_at "run"); (case' m2 => walk_at "run"))
  | ((with_reducible refine' rPair ?m1 ?m2); (case' m1 => walk_at "run"); (case' m2 => walk_at "run"))
  | ((with_reducible refine' rSeq ?m1 ?m2); (case' m1 => walk_at "run"); (case' m2 => walk_at "run"))
  | ((with_reducible refine' rRet ?m1); (case' m1 => walk_at "run"))
  | ((with_reducible refine' rAsgE ?m1 ?m2 ?m3); (case' m1 => walk_at "run"); (case' m2 => rfl); (case' m3 => (simp [rho0])))
  | ((with_reducible refine' rAsg ?m1 ?m2); (case' m1 => walk_at "run"); (case' m2 => walk_at "run"))
  | ((with_reducible refine' rDrop ?m1); (case' m1 => walk_at "run"))
  | ((with_reducible refine' rNameE ?m1 ?m2); (case' m1 => rfl); (case' m2 => (simp [rho0, unset])))
  | ((with_reducible refine' rTup ?m1 ?m2); (case' m1 => rfl); (case' m2 => walk_at "run"))
  | ((with_reducible refine' rGC ?m1 ?m2); (case' m1 => walk_at "run"); (case' m2 => walk_at "run"))
  | ((with_reducible refine' rParE ?m1 ?m2 ?m3 ?m4); (case' m1 => walk_at "run"); (case' m2 => rfl); (case' m3 => (simp [rho0])); (case' m4 => (simp [rho0])))
  | ((with_reducible refine' rAugE ?m1 ?m2 ?m3); (case' m1 => rfl); (case' m2 => walk_at "run"); (case' m3 => rfl))
  | ((with_reducible refine' rIxO ?m1 ?m2 ?m3 ?m4); (case' m1 => rfl); (case' m2 => walk_at "run"); (case' m3 => rfl); (case' m4 => walk_at "run"))
  | ((with_reducible refine' rSlO ?m1 ?m2 ?m3); (case' m1 => rfl); (case' m2 => walk_at "run"); (case' m3 => rfl))
  | ((with_reducible refine' rFrz ?m1); (case' m1 => rfl))
  | ((with_reducible refine' rCallOE ?m1 ?m2 ?m3 ?m4 ?m5); (case' m1 => rfl); (case' m2 => walk_at "run"); (case' m3 => rfl); (case' m4 => walk_at "run"); (case' m5 => rfl))
  | with_reducible exact len_dI
  | with_reducible exact disp1
  | with_reducible exact truth_dI
  | with_reducible exact flat_dI
  | ((with_reducible refine' cat_lit1 ?m1); (case' m1 => ((try simp only [List.length_append, List.length_cons, List.length_nil]) <;> omega)))
  | ((with_reducible refine' cat_lit2 ?m1); (case' m1 => ((try simp only [List.length_append, List.length_cons, List.length_nil]) <;> omega)))
  | ((with_reducible refine' cat_dI ?m1); (case' m1 => ((try simp only [List.length_append, List.length_cons, List.length_nil]) <;> omega)))
  | rfl
  | skip)
open Md (Tell Round Begin nums Lad ladOf SetV bits nthL Days firstOf)
theorem setOk_of {E F : List Int} {f l : Nat} (v : SetV E f l F) : SetOk E f l F := by
  have hl := v.l0
  refine ⟨by omega, ?_, ?_⟩
  · rw [List.cons_append, List.pairwise_cons, List.pairwise_append]
    refine ⟨fun x hx => ?_, v.eU, by simp, fun x hx y hy => ?_⟩
    · rcases List.mem_append.mp hx with h | h
      · have := v.eR x h; omega
      · have := List.mem_singleton.mp h; omega
    · have := v.eR x hx
      have := List.mem_singleton.mp hy
      omega
  · rw [List.cons_append, List.pairwise_cons, List.pairwise_append]
    refine ⟨fun x hx => ?_, v.fU, by simp, fun x hx y hy => ?_⟩
    · rcases List.mem_append.mp hx with h | h
      · have := v.fR x h; omega
      · have := List.mem_singleton.mp h; omega
    · have := v.fR x hx
      have := List.mem_singleton.mp hy
      omega
/-- the places, from a on, m of them, where b is 1 -/
def daysOf (b : Nat → Int) (a m : Nat) : List Int := ((List.range m).filter fun i => decide (b (a + i) = 1)).map fun i : Nat => (i : Int)
theorem daysOf_mem {b : Nat → Int} {a m : Nat} {k : Int} : k ∈ daysOf b a m ↔ ∃ i : Nat, i < m ∧ b (a + i) = 1 ∧ k = i := by
  unfold daysOf
  simp only [List.mem_map, List.mem_filter, List.mem_range, decide_eq_true_eq]
  constructor
  · rintro ⟨i, ⟨h1, h2⟩, h3⟩
    exact ⟨i, h1, h2, h3.symm⟩
  · rintro ⟨i, h1, h2, h3⟩
    exact ⟨i, ⟨h1, h2⟩, h3.symm⟩
theorem daysOf_up {b : Nat → Int} {a m : Nat} : (daysOf b a m).Pairwise (· < ·) := by
  unfold daysOf
  rw [List.pairwise_map]
  refine List.Pairwise.imp (R := (· < ·)) (fun {x y} h => by omega) ?_
  exact List.Pairwise.filter _ List.pairwise_lt_range
theorem daysOf_length {b : Nat → Int} {a m : Nat} : (daysOf b a m).length ≤ m := by
  unfold daysOf
  rw [List.length_map]
  refine Nat.le_trans (List.length_filter_le _ _) ?_
  simp
theorem daysOf_set {b : Nat → Int} {f l : Nat} (hl : 0 < l) : SetV (daysOf b 0 f) f l (daysOf b f l) := by
  refine ⟨hl, daysOf_up, fun x hx => ?_, daysOf_up, fun x hx => ?_⟩
  · obtain ⟨i, h1, h2, h3⟩ := daysOf_mem.mp hx
    omega
  · obtain ⟨i, h1, h2, h3⟩ := daysOf_mem.mp hx
    omega
theorem nth_days {E F : List Int} {f l : Nat} (v : SetV E f l F) (hF : F ≠ []) : Days (bits E f l F) (nthL E f l F).at :=
  ⟨fun _ => Md.bits_01, Md.nth_up v hF, Md.nth_zero v hF, Md.nth_day v hF⟩
/-- the days told by a least ladder of days are the set's -/
theorem early_days {b y : Nat → Int} (d : Days b y) {e p : Nat} {s : Int} (t : Tell y e p s) : nums y 0 e = daysOf b 0 (firstOf y e p s).toNat := by
  obtain ⟨h0, h1, h2, h3⟩ := Md.first_facts d t
  refine rising_ext ?_ daysOf_up fun k => ?_
  · unfold nums
    rw [List.pairwise_map]
    exact List.Pairwise.imp (R := (· < ·)) (fun {i j} h => d.mono (by omega)) List.pairwise_lt_range
  · rw [daysOf_mem]
    unfold nums
    simp only [List.mem_map, List.mem_range, Nat.zero_add]
    constructor
    · rintro ⟨i, hi, rfl⟩
      have := h1 i hi
      have := d.zero i
      exact ⟨(y i).toNat, by omega, d.is i, by omega⟩
    · rintro ⟨i, hi, hb, rfl⟩
      obtain ⟨k, hk⟩ := (d.day i).mp hb
      refine ⟨k, ?_, hk⟩
      rcases Nat.lt_or_ge k e with c | c
      · exact c
      · have := d.mono_le c
        omega
theorem round_days {b y : Nat → Int} (d : Days b y) {e p : Nat} {s : Int} (t : Tell y e p s) : (nums y e p).map (fun x => x - firstOf y e p s) = daysOf b (firstOf y e p s).toNat s.toNat := by
  obtain ⟨h0, h1, h2, h3⟩ := Md.first_facts d t
  have hs := d.rise t
  have hp := t.pos
  refine rising_ext ?_ daysOf_up fun k => ?_
  · unfold nums
    rw [List.map_map, List.pairwise_map]
    exact List.Pairwise.imp (R := (· < ·)) (fun {i j} h => by have := d.mono (show e + i < e + j by omega); simp only [Function.comp]; omega) List.pairwise_lt_range
  · rw [daysOf_mem]
    unfold nums
    simp only [List.mem_map, List.mem_range]
    constructor
    · rintro ⟨z, ⟨i, hi, rfl⟩, rfl⟩
      have g1 := d.mono_le (show e ≤ e + i by omega)
      have g2 := d.mono_le (show e + i ≤ e + p - 1 by omega)
      refine ⟨(y (e + i) - firstOf y e p s).toNat, by omega, ?_, by omega⟩
      have e1 : (firstOf y e p s).toNat + (y (e + i) - firstOf y e p s).toNat = (y (e + i)).toNat := by omega
      rw [e1]
      exact d.is _
    · rintro ⟨i, hi, hb, rfl⟩
      obtain ⟨k, hk⟩ := (d.day _).mp hb
      have ke : e ≤ k := by
        rcases Nat.lt_or_ge k e with c | c
        · have := h1 k c
          omega
        · exact c
      have g3 := t.step e (Nat.le_refl _)
      have kp : k < e + p := d.lt_of (by omega)
      refine ⟨y k, ⟨k - e, by omega, ?_⟩, by omega⟩
      have e1 : e + (k - e) = k := by omega
      rw [e1]
theorem max_dI {xs : List Int} {m : Int} (h : m ∈ xs) (h2 : ∀ x ∈ xs, x ≤ m) : gMax [dI xs] = some (.int m) := by
  have h0 : xs ≠ [] := fun z => by rw [z] at h; cases h
  unfold gMax
  simp only [intsOf_map, Option.bind_some]
  rw [if_neg h0]
  obtain ⟨a, b⟩ := mostOf_ok h0
  have : mostOf xs = m := Int.le_antisymm (h2 _ a) (b _ h)
  rw [this]
theorem min_dI {xs : List Int} {m : Int} (h : m ∈ xs) (h2 : ∀ x ∈ xs, m ≤ x) : gMin [dI xs] = some (.int m) := by
  have h0 : xs ≠ [] := fun z => by rw [z] at h; cases h
  unfold gMin
  simp only [intsOf_map, Option.bind_some]
  rw [if_neg h0]
  obtain ⟨a, b⟩ := leastOf_ok h0
  have : leastOf xs = m := Int.le_antisymm (b _ h) (h2 _ a)
  rw [this]
/-! ended, narrowed -/
def endF (E : List Int) : Int := match E.getLast? with
  | some v => v + 1
  | none => 0
theorem m_ended_ok {E : List Int} : m_ended [dI E] = some (dSet E (endF E) 1 []) := by
  have tst : (dThen (dV 0) truth) (rho0 [dI E] 1) = some (!E.isEmpty, rho0 [dI E] 1) := rThen (rV rfl) truth_dI
  have fst : (dIf (dThen (dV 0) truth) (dOp gAdd (dOp gIx (dV 0) (dThen (dC (.int 1)) (gU fun i => .int (-i)))) (dC (.int 1))) (dC (.int 0))) (rho0 [dI E] 1) = some (.int (endF E), rho0 [dI E] 1) := by
    unfold endF
    cases h : E.getLast? with
    | none =>
      have : E = [] := List.getLast?_eq_none_iff.mp h
      exact rIfF tst (by simp [this]) rC
    | some v =>
      have : E ≠ [] := fun z => by rw [z] at h; cases h
      exact rIfT tst (by simp [this]) (rOp (rOp (rV rfl) (rThen rC rfl) (ix_last h)) rC rfl)
  apply fin (f := b_ended)
  unfold b_ended
  refine' rSeq (ρ1 := [.sh (dI E), .sh (.int (endF E))]) (rAsgE fst rfl (by simp [rho0])) (rRet (rThen (rCons (rThen (rThen (rCons (rV rfl) rNil) ?a) flat_dI) (rCons (rThen (rV rfl) rfl) (rCons (rThen rC rfl) (rCons (rThen (rThen rNil (few_map (by simp))) ?b) rNil)))) (few_map (by simp))))
  case a => rfl
  case b => exact flat_dI (xs := [])
theorem m_narrowed_ok {E F : List Int} {f l : Nat} (v : SetV E f l F) (hE : E.length ≤ 400000) (hF : F.length ≤ 400000) :
    ∃ f' l' : Nat, m_narrowed [dSet E f l F] = some (dSet (daysOf (bits E f l F) 0 f') f' l' (daysOf (bits E f l F) f' l')) ∧ Begin (bits E f l F) f' ∧ Round (bits E f l F) l' := by
  by_cases h0 : F = []
  · subst h0
    have tb : ∀ e, (∀ x ∈ E, x < (e : Nat)) → Tell (bits E f l []) e 1 0 := fun e he => ⟨by omega, fun n hn => by
      have z : ∀ m, e ≤ m → bits E f l [] m = 0 := fun m hm => by
        unfold bits
        split
        · rw [if_neg]
          intro q
          have := he _ q
          omega
        · simp
      rw [z _ (by omega), z _ hn]
      rfl⟩
    have e0 : 0 ≤ endF E := by
      unfold endF
      cases h : E.getLast? with
      | none => exact Int.le_refl _
      | some w =>
        have := v.eR w (List.mem_of_getLast? h)
        show 0 ≤ w + 1
        omega
    have ub : ∀ x ∈ E, x < endF E := fun x hx => by
      unfold endF
      cases h : E.getLast? with
      | none =>
        have : E = [] := List.getLast?_eq_none_iff.mp h
        rw [this] at hx
        cases hx
      | some w =>
        show x < w + 1
        obtain ⟨i, hi, rfl⟩ := List.getElem_of_mem hx
        rw [List.getLast?_eq_getElem?] at h
        obtain ⟨hw, rfl⟩ := List.getElem?_eq_some_iff.mp h
        by_cases c : i = E.length - 1
        · subst c; omega
        · have := Md.up_get v.eU (show i < E.length - 1 by omega) hw
          omega
    have ec : ((endF E).toNat : Int) = endF E := by omega
    have t1 := tb (endF E).toNat (fun x hx => by rw [ec]; exact ub x hx)
    refine ⟨(endF E).toNat, 1, ?_, Begin.of t1 ?_, ⟨⟨_, _, t1⟩, fun e q t h => h.pos⟩⟩
    · have d1 : daysOf (bits E f l []) 0 (endF E).toNat = E := by
        refine rising_ext daysOf_up v.eU fun k => ?_
        rw [daysOf_mem]
        constructor
        · rintro ⟨i, h1, h2, rfl⟩
          unfold bits at h2
          rw [Nat.zero_add] at h2
          split at h2
          · split at h2
            · assumption
            · cases h2
          · simp at h2
        · intro hk
          have := v.eR k hk
          have := ub k hk
          refine ⟨k.toNat, by omega, ?_, by omega⟩
          unfold bits
          rw [Nat.zero_add, if_pos (by omega), if_pos]
          have : ((k.toNat : Nat) : Int) = k := by omega
          rw [this]
          exact hk
      have d2 : daysOf (bits E f l []) (endF E).toNat 1 = [] := by
        unfold daysOf
        have : bits E f l [] (endF E).toNat = 0 := by
          unfold bits
          split
          · rw [if_neg]
            intro q
            have := ub _ q
            omega
          · simp
        simp [this]
      rw [d1, d2, ec]
      apply fin (f := b_narrowed)
      unfold b_narrowed
      refine' rSeq (ρ1 := [.sh (dSet E f l []), .sh (dI E), .sh (.int f), .sh (.int l), .sh (dI []), .un, .un, .un]) ?u1 (rSeqR (rIfST (rNot (rThen (rV rfl) truth_dI)) rfl (rRet (rThen (rCons (rV rfl) rNil) m_ended_ok))))
      case u1 => walk_at "run"
    · by_cases c : (endF E).toNat = 0
      · exact .inl c
      right
      unfold endF at c ⊢
      cases h : E.getLast? with
      | none => simp [h] at c
      | some w =>
        simp only [h] at c ⊢
        have hw := List.mem_of_getLast? h
        have := v.eR w hw
        have e1 : (w + 1).toNat - 1 = w.toNat := by omega
        have e2 : ((w.toNat : Nat) : Int) = w := by omega
        have b1 : bits E f l [] w.toNat = 1 := by
          unfold bits
          rw [if_pos (by omega), if_pos (by rw [e2]; exact hw)]
        have b0 : bits E f l [] (w.toNat + 1) = 0 := by
          unfold bits
          split
          · rw [if_neg]
            intro q
            have := ub _ q
            unfold endF at this
            rw [h] at this
            simp only at this
            omega
          · simp
        rw [e1, b1, b0]
        decide
  · have d := nth_days v h0
    have hFl : 0 < F.length := List.length_pos_iff.mpr h0
    obtain ⟨M, e1, hM, hat, l1, l2⟩ := m_shortened_ok (L := nthL E f l F) (by simp [nthL, h0]) (by simpa [nthL] using hE) (by simpa [nthL] using hF)
    have t := M.tell hM.1
    rw [hat] at t
    have hR := hM.2.1
    have hB := hM.2.2
    rw [hat] at hR hB
    obtain ⟨g1, g2⟩ := Md.set_least d t hR hB
    have hs := d.rise t
    obtain ⟨h0', h1, h2, h3⟩ := Md.first_facts d t
    have hE' := Lad.early (L := M)
    have hT' := Lad.turn (L := M)
    rw [hat] at hE' hT'
    have q1 := early_days d t
    have q2 := round_days d t
    rw [← hE'] at q1
    rw [← hT'] at q2
    have hp := t.pos
    refine ⟨(firstOf (nthL E f l F).at M.E.length M.T.length M.r).toNat, M.r.toNat, ?_, g2, g1⟩
    rw [← q1, ← q2]
    have c1 : ((firstOf (nthL E f l F).at M.E.length M.T.length M.r).toNat : Int) = firstOf (nthL E f l F).at M.E.length M.T.length M.r := by omega
    have c2 : ((M.r.toNat : Nat) : Int) = M.r := by omega
    rw [c1, c2]
    have lastT : M.T.getLast? = some ((nthL E f l F).at (M.E.length + M.T.length - 1)) := by
      rw [List.getLast?_eq_getElem?]
      conv => lhs; rw [hT']
      rw [Md.nums_length, Md.nums_get (by omega)]
      congr 2
      omega
    have comp : (dComp (dThen (dV 4) asList) [6] (gtName 6) (dC true) (dOp gAdd (dV 2) (dV 6))) [.sh (dSet E f l F), .sh (dI E), .sh (.int f), .sh (.int l), .sh (dI F), .un, .un, .un] =
        some (dI (F.map fun x => (f : Int) + x), [.sh (dSet E f l F), .sh (dI E), .sh (.int f), .sh (.int l), .sh (dI F), .un, .un, .un]) := by
      exact rCompII (fun x => (f : Int) + x) (ns := F) (rThen (rV rfl) rfl) rfl (fun _ => rfl) (by simp) (fun n _ => by exact rOp (rV rfl) (rV rfl) rfl) (by omega)
    generalize hfo : firstOf (nthL E f l F).at M.E.length M.T.length M.r = fo at *
    -- the list of which the greatest is taken
    have mx : gMax [dI ((-1 : Int) :: ((nthL E f l F).at (M.E.length + M.T.length - 1) - M.r) :: (M.E.drop (M.E.length - 1)))] = some (.int (fo - 1)) := by
      have eL : M.E.length = 0 ∨ M.E.drop (M.E.length - 1) = [(nthL E f l F).at (M.E.length - 1)] := by
        by_cases z : M.E.length = 0
        · exact .inl z
        right
        have w := congrArg (List.drop (M.E.length - 1)) hE'
        rw [Md.nums_drop, Nat.zero_add] at w
        have : M.E.length - (M.E.length - 1) = 1 := by omega
        rw [this] at w
        rw [w]
        rfl
      unfold firstOf at hfo
      rcases eL with z | z
      · have zE : M.E = [] := List.length_eq_zero_iff.mp z
        rw [if_pos z] at hfo
        have : M.E.drop (M.E.length - 1) = [] := by rw [zE]; rfl
        rw [this]
        refine max_dI ?_ fun x hx => ?_
        · simp only [List.mem_cons]
          omega
        · simp only [List.mem_cons, List.not_mem_nil, or_false] at hx
          omega
      · have z0 : M.E.length ≠ 0 := fun w => by
          have : M.E = [] := List.length_eq_zero_iff.mp w
          rw [this] at z
          cases z
        rw [if_neg z0] at hfo
        rw [z]
        refine max_dI ?_ fun x hx => ?_
        · simp only [List.mem_cons]
          omega
        · simp only [List.mem_cons, List.not_mem_nil, or_false] at hx
          omega
    have cut : (dSlO 1 (dThen (dThen (dC (.int 1)) (gU fun i => .int (-i))) asPart) (dC none)) [.sh (dSet E f l F), .ow false (M.E.map .int), .sh (.int f), .sh (.int M.r), .sh (dI F), .sh (dI M.T), .un, .un] =
        some (dI (M.E.drop (M.E.length - 1)), [.sh (dSet E f l F), .ow false (M.E.map .int), .sh (.int f), .sh (.int M.r), .sh (dI F), .sh (dI M.T), .un, .un]) := by
      refine (rSlO (lo := some (-1)) (hi := none) rfl (rPair (rPart (rThen rC rfl)) rC) rfl).trans ?_
      congr 3
      simp only [Ly.cutD, HT.sIx_none, List.length_map, HT.sIx]
      rw [if_pos (by omega)]
      have : ((-1 : Int) + (M.E.length : Int)).toNat = M.E.length - 1 := by omega
      rw [this, ← List.map_drop, List.take_of_length_le (by simp)]
    have comp2 : (dComp (dThen (dV 5) asList) [7] (gtName 7) (dC true) (dOp (gI fun i j => .int (i - j)) (dV 7) (dV 2))) [.sh (dSet E f l F), .sh (dI M.E), .sh (.int fo), .sh (.int M.r), .sh (dI F), .sh (dI M.T), .un, .un] =
        some (dI (M.T.map fun x => x - fo), [.sh (dSet E f l F), .sh (dI M.E), .sh (.int fo), .sh (.int M.r), .sh (dI F), .sh (dI M.T), .un, .un]) := by
      have : M.T.length ≤ 1000000 := by
        have : (nthL E f l F).T.length = F.length := by simp [nthL]
        omega
      exact rCompII (fun x => x - fo) (ns := M.T) (rThen (rV rfl) rfl) rfl (fun _ => rfl) (by simp) (fun n _ => by exact rOp (rV rfl) (rV rfl) rfl) this
    have dr : (M.E.drop (M.E.length - 1)).length ≤ 1 := by rw [List.length_drop]; omega
    apply fin (f := b_narrowed)
    unfold b_narrowed
    refine' rSeq (ρ1 := [.sh (dSet E f l F), .sh (dI E), .sh (.int f), .sh (.int l), .sh (dI F), .un, .un, .un]) ?u1 (rSeq (rIfSF (rNot (rThen (rV rfl) truth_dI)) ?u2 rNext)
      (rSeq (ρ1 := [.sh (dSet E f l F), .ow false (M.E.map .int), .sh (.int f), .sh (.int M.r), .sh (dI F), .sh (dI M.T), .un, .un]) ?u3
      (rSeq (ρ1 := [.sh (dSet E f l F), .ow false (M.E.map .int), .sh (.int fo), .sh (.int M.r), .sh (dI F), .sh (dI M.T), .un, .un]) ?u4 (rRet ?u5))))
    case u1 => walk_at "run"
    case u2 => simp [h0]
    case u3 => exact rOwn3 (rCons (rThen (rCons (rV rfl) (rCons comp (rCons (rV rfl) rNil))) (few_map (by simp))) rNil) e1 (by simp) (by simp) (by simp) (by decide) (by decide) (by decide)
    case u4 =>
      refine rAsgE (rOp (rThen (rCons (rOp (rThen (rCons (rThen rC rfl) (rCons (rOp (rOp (rV rfl) (rThen rC rfl) (ix_last lastT)) (rV rfl) rfl) rNil)) (few_map (by simp))) cut (cat_dI (xs := [-1, (nthL E f l F).at (M.E.length + M.T.length - 1) - M.r]) (by simp; omega))) rNil) mx) rC rfl) ?_ (by simp)
      have : fo - 1 + 1 = fo := by omega
      show List.set _ 2 (Sl.sh (PyData.int (fo - 1 + 1))) = _
      rw [this]
      rfl
    case u5 =>
      exact rThen (rCons (rThen (rFrz rfl) (flat_dI (xs := M.E))) (rCons (rThen (rV rfl) rfl) (rCons (rThen (rV rfl) rfl) (rCons (rThen comp2 flat_dI) rNil)))) (few_map (by simp))

end Pg

set_option Elab.async false
set_option linter.all false
set_option maxRecDepth 100000
set_option maxHeartbeats 1000000
namespace Pg
open PySem PySem.Spec PyProof.Rows L2 Ly
local macro_rules | `(tactic| walk_at "run") => `(tactic| first
  | with_reducible exact rC
  | with_reducible exact rNil
  | with_reducible exact rNext
  | with_reducible exact rGN
  | ((with_reducible refine' rV ?m1); (case' m1 => rfl))
  | with_reducible assumption
  | ((with_reducible refine' rCons ?m1 ?m2); (case' m1 => walk_at "run"); (case' m2 => walk_at "run"))
  | ((with_reducible refine' rOp ?m1 ?m2 ?m3); (case' m1 => walk_at "run"); (case' m2 => walk_at "run"); (case' m3 => walk_at "run"))
  | ((with_reducible refine' rNot ?m1); (case' m1 => walk_at "run"))
  | ((with_reducible refine' rB ?m1); (case' m1 => walk_at "run"))
  | ((with_reducible refine' rPart ?m1); (case' m1 => walk_at "run"))
  | ((with_reducible refine' rThen ?m1 ?m2); (case' m1 => walk_at "run"); (case' m2 => walk_at "run"))
  | ((with_reducible refine' rPair ?m1 ?m2); (case' m1 => walk_at "run"); (case' m2 => walk_at "run"))
  | ((with_reducible refine' rSeq ?m1 ?m2); (case' m1 => walk_at "run"); (case' m2 => walk_at "run"))
  | ((with_reducible refine' rRet ?m1); (case' m1 => walk_at "run"))
  | ((with_reducible refine' rAsgE ?m1 ?m2 ?m3); (case' m1 => walk_at "run"); (case' m2 => rfl); (case' m3 => (simp [rho0])))
  | ((with_reducible refine' rAsg ?m1 ?m2); (case' m1 => walk_at "run"); (case' m2 => walk_at "run"))
  | ((with_reducible refine' rDrop ?m1); (case' m1 => walk_at "run"))
  | ((with_reducible refine' rNameE ?m1 ?m2); (case' m1 => rfl); (case' m2 => (simp [rho0, unset])))
  | ((with_reducible refine' rTup ?m1 ?m2); (case' m1 => rfl); (case' m2 => walk_at "run"))
  | ((with_reducible refine' rGC ?m1 ?m2); (case' m1 => walk_at "run"); (case' m2 => walk_at "run"))
  | ((with_reducible refine' rParE ?m1 ?m2 ?m3 ?m4); (case' m1 => walk_at "run"); (case' m2 => rfl); (case' m3 => (simp [rho0])); (case' m4 => (simp [rho0])))
  | ((with_reducible refine' rAugE ?m1 ?m2 ?m3); (case' m1 => rfl); (case' m2 => walk_at "run"); (case' m3 => rfl))
  | ((with_reducible refine' rIxO ?m1 ?m2 ?m3 ?m4); (case' m1 => rfl); (case' m2 => walk_at "run"); (case' m3 => rfl); (case' m4 => walk_at "run"))
  | ((with_reducible refine' rSlO ?m1 ?m2 ?m3); (case' m1 => rfl); (case' m2 => walk_at "run"); (case' m3 => rfl))
  | ((with_reducible refine' rFrz ?m1); (case' m1 => rfl))
  | ((with_reducible refine' rCallOE ?m1 ?m2 ?m3 ?m4 ?m5); (case' m1 => rfl); (case' m2 => walk_at "run"); (case' m3 => rfl); (case' m4 => walk_at "run"); (case' m5 => rfl))
  | with_reducible exact len_dI
  | with_reducible exact disp1
  | with_reducible exact truth_dI
  | with_reducible exact flat_dI
  | ((with_reducible refine' cat_lit1 ?m1); (case' m1 => ((try simp only [List.length_append, List.length_cons, List.length_nil]) <;> omega)))
  | ((with_reducible refine' cat_lit2 ?m1); (case' m1 => ((try simp only [List.length_append, List.length_cons, List.length_nil]) <;> omega)))
  | ((with_reducible refine' cat_dI ?m1); (case' m1 => ((try simp only [List.length_append, List.length_cons, List.length_nil]) <;> omega)))
  | rfl
  | skip)
open Md (Tell Round Begin nums Lad ladOf SetV bits nthL Days firstOf)
/-! ### places in ascending lists -/
theorem m_place_ok {xs : List Int} {d : Int} (up : xs.Pairwise (· < ·)) (hl : xs.length ≤ 1000000) :
    ∃ k : Nat, m_place_of [dI xs, .int d] = some (.int k) ∧ k ≤ xs.length ∧ ∀ (i : Nat) (h : i < xs.length), i < k ↔ xs[i] < d := by
  let R : Nat × Nat × Sl → Rho := fun s => [.sh (dI xs), .sh (.int d), .sh (.int (s.1 : Nat)), .sh (.int (s.2.1 : Nat)), s.2.2]
  let mid : Nat × Nat × Sl → Nat := fun s => (s.1 + s.2.1) / 2
  let I : Nat × Nat × Sl → Prop := fun s => s.1 ≤ s.2.1 ∧ s.2.1 ≤ xs.length ∧ (∀ (i : Nat) (h : i < xs.length), i < s.1 → xs[i] < d) ∧ ∀ (i : Nat) (h : i < xs.length), s.2.1 ≤ i → ¬ xs[i] < d
  let next : Nat × Nat × Sl → Nat × Nat × Sl := fun s => if ((xs[mid s]?).getD 0) < d then (mid s + 1, s.2.1, .sh (.int (mid s : Nat))) else (s.1, mid s, .sh (.int (mid s : Nat)))
  obtain ⟨⟨lo, hi, s4⟩, w1, ⟨i1, i2, i3, i4⟩, w3⟩ := rWhile (ft := dThen (dOp (gI fun i j => .bool (decide (i < j))) (dV 2) (dV 3)) isB)
    (fb := sSeq (sAsg (dOp (gIc cDiv fun i j => .int (i / j)) (dOp gAdd (dV 2) (dV 3)) (dC (.int 2))) (gtName 4))
      (sIf (dThen (dOp (gI fun i j => .bool (decide (i < j))) (dOp gIx (dV 0) (dV 4)) (dV 1)) isB) (sAsg (dOp gAdd (dV 4) (dC (.int 1))) (gtName 2)) (sAsg (dV 4) (gtName 3))))
    R I (fun s => s.2.1 - s.1) (fun s => decide (s.1 < s.2.1)) next
    (fun ⟨lo, hi, s4⟩ hI => by
      have : decide (((lo : Nat) : Int) < ((hi : Nat) : Int)) = decide (lo < hi) := by simp
      show _ = some (decide (lo < hi), _)
      rw [← this]
      exact rThen (rOp (rV rfl) (rV rfl) rfl) rfl)
    (fun ⟨lo, hi, s4⟩ hI hb => by
      obtain ⟨i1, i2, i3, i4⟩ := hI
      simp only at i1 i2 i3 i4
      have hb : lo < hi := of_decide_eq_true hb
      have hm : (lo + hi) / 2 < xs.length := by omega
      have m1 : ((lo : Nat) : Int) + ((hi : Nat) : Int) = ((lo + hi : Nat) : Int) := by omega
      have m2 : (((lo : Nat) : Int) + ((hi : Nat) : Int)) / 2 = (((lo + hi) / 2 : Nat) : Int) := by omega
      have s1 : sAsg (dOp (gIc cDiv fun i j => .int (i / j)) (dOp gAdd (dV 2) (dV 3)) (dC (.int 2))) (gtName 4) (R (lo, hi, s4)) = some (.nx [.sh (dI xs), .sh (.int d), .sh (.int (lo : Nat)), .sh (.int (hi : Nat)), .sh (.int ((lo + hi) / 2 : Nat))]) := by
        rw [← m2]
        exact rAsgE (rOp (rOp (rV rfl) (rV rfl) rfl) rC (div_ok (by decide) (by decide))) rfl (by simp [R])
      have get : (xs[(lo + hi) / 2]?) = some xs[(lo + hi) / 2] := List.getElem?_eq_getElem hm
      have tst : (dThen (dOp (gI fun i j => .bool (decide (i < j))) (dOp gIx (dV 0) (dV 4)) (dV 1)) isB) [.sh (dI xs), .sh (.int d), .sh (.int (lo : Nat)), .sh (.int (hi : Nat)), .sh (.int ((lo + hi) / 2 : Nat))] =
          some (decide (xs[(lo + hi) / 2] < d), [.sh (dI xs), .sh (.int d), .sh (.int (lo : Nat)), .sh (.int (hi : Nat)), .sh (.int ((lo + hi) / 2 : Nat))]) :=
        rThen (rOp (rOp (rV rfl) (rV rfl) (ix_dI rfl get)) (rV rfl) rfl) rfl
      by_cases c : xs[(lo + hi) / 2] < d
      · have en : next (lo, hi, s4) = ((lo + hi) / 2 + 1, hi, .sh (.int ((lo + hi) / 2 : Nat))) := if_pos (by show ((xs[(lo + hi) / 2]?).getD 0) < d; rw [get]; exact c)
        rw [en]
        refine ⟨rSeq s1 (rIfST tst (decide_eq_true c) (rAsgE (rOp (rV rfl) rC rfl) rfl (by simp))), ⟨by show (lo + hi) / 2 + 1 ≤ hi; omega, i2, fun i h hi2 => ?_, i4⟩, by show hi - ((lo + hi) / 2 + 1) < hi - lo; omega⟩
        have hi2 : i < (lo + hi) / 2 + 1 := hi2
        by_cases z : i = (lo + hi) / 2
        · subst z; exact c
        · exact Int.lt_trans (Md.up_get up (by omega) hm) c
      · have en : next (lo, hi, s4) = (lo, (lo + hi) / 2, .sh (.int ((lo + hi) / 2 : Nat))) := if_neg (by show ¬ ((xs[(lo + hi) / 2]?).getD 0) < d; rw [get]; exact c)
        rw [en]
        refine ⟨rSeq s1 (rIfSF tst (decide_eq_false c) (rAsgE (rV rfl) rfl (by simp))), ⟨by show lo ≤ (lo + hi) / 2; omega, by show (lo + hi) / 2 ≤ xs.length; omega, i3, fun i h hi2 => ?_⟩, by show (lo + hi) / 2 - lo < hi - lo; omega⟩
        have hi2 : (lo + hi) / 2 ≤ i := hi2
        by_cases z : i = (lo + hi) / 2
        · subst z; exact c
        · have := Md.up_get up (show (lo + hi) / 2 < i by omega) h
          omega)
    xs.length (0, xs.length, .un) ⟨Nat.zero_le _, Nat.le_refl _, fun i h z => absurd z (Nat.not_lt_zero _), fun i h z => absurd h (by simp only at z; omega)⟩ (by show xs.length - 0 ≤ xs.length; omega)
  simp only at i1 i2 i3 i4
  have w3 : ¬ lo < hi := of_decide_eq_false w3
  refine ⟨lo, ?_, by omega, fun i h => ⟨i3 i h, fun z => ?_⟩⟩
  · apply fin (f := b_place_of)
    unfold b_place_of
    exact rSeq (ρ1 := R (0, xs.length, .un)) (rParE (rCons rC (rCons (rThen (rCons (rV rfl) rNil) len_dI) rNil)) rfl (by simp [rho0]) (by simp [rho0])) (rSeq w1 (rRet (rV rfl)))
  · rcases Nat.lt_or_ge i lo with c | c
    · exact c
    · exact absurd z (i4 i h (by omega))
/-! ### how many days lie ahead of a day -/
theorem m_many_ok {E F : List Int} {f l : Nat} {d : Int} (v : SetV E f l F) (hE : E.length ≤ 400000) (hF : F.length ≤ 400000) (hl : l < 2 ^ 60) :
    ∃ k : Nat, m_many_before [dSet E f l F, .int d] = some (.int k) ∧ (F ≠ [] → ∀ j, j < k ↔ (nthL E f l F).at j < d) ∧ (F = [] → k ≤ E.length ∧ ∀ (j : Nat) (h : j < E.length), j < k ↔ E[j] < d) := by
  have hl0 := v.l0
  have unp : sAsg (dV 0) (gtTup 4 (gtCons (gtName 2) (gtCons (gtName 3) (gtCons (gtName 4) (gtCons (gtName 5) gtNil))))) (rho0 [dSet E f l F, .int d] 6) =
      some (.nx [.sh (dSet E f l F), .sh (.int d), .sh (dI E), .sh (.int f), .sh (.int l), .sh (dI F), .un, .un]) := by walk_at "run"
  by_cases c : d ≤ f
  · obtain ⟨k, e1, e2, e3⟩ := m_place_ok (d := d) v.eU (by omega)
    refine ⟨k, ?_, fun hF0 j => ?_, fun _ => ⟨e2, e3⟩⟩
    · apply fin (f := b_many_before)
      unfold b_many_before
      exact rSeq unp (rSeqR (rIfST (b := decide (d ≤ (f : Int))) (rThen (rOp (rV rfl) (rV rfl) rfl) rfl) (decide_eq_true c) (rRet (rThen (rCons (rV rfl) (rCons (rV rfl) rNil)) e1))))
    · by_cases z : j < E.length
      · rw [Md.nth_lt z]
        exact e3 j z
      · obtain ⟨i1, q⟩ := Md.nth_ge (E := E) (F := F) (f := f) (l := l) (k := j) (by omega) hF0
        have f1 := v.fR _ (List.getElem_mem i1)
        rw [q, ← Int.natCast_mul]
        constructor
        · intro; omega
        · intro; omega
  · have hL : (0 : Int) < (l : Nat) := by omega
    have hL2 : ((l : Nat) : Int) < 2 ^ 200 := Int.lt_of_le_of_lt (show ((l : Nat) : Int) ≤ 2 ^ 60 by omega) (by decide)
    obtain ⟨k, e1, e2, e3⟩ := m_place_ok (d := (d - f) % l) v.fU (by omega)
    have t0 : 0 ≤ (d - f) / (l : Int) := Int.ediv_nonneg (by omega) (by omega)
    have dm := Int.mul_ediv_add_emod (d - f) l
    have r0 := Int.emod_nonneg (d - f) (show (l : Int) ≠ 0 by omega)
    have r1 := Int.emod_lt_of_pos (d - f) hL
    obtain ⟨t, ht⟩ : ∃ t : Nat, (d - f) / (l : Int) = t := ⟨((d - f) / (l : Int)).toNat, by omega⟩
    rw [ht] at dm
    generalize hpl : (d - f) % (l : Int) = pl at *
    refine ⟨E.length + F.length * t + k, ?_, fun hF0 j => ?_, fun h0 => ?_⟩
    · have ec : ((E.length + F.length * t + k : Nat) : Int) = (E.length : Int) + (F.length : Int) * t + k := by
        rw [Int.natCast_add, Int.natCast_add, Int.natCast_mul]
      rw [ec]
      apply fin (f := b_many_before)
      unfold b_many_before
      refine' rSeq unp (rSeq (rIfSF (b := decide (d ≤ (f : Int))) (rThen (rOp (rV rfl) (rV rfl) rfl) rfl) (decide_eq_false c) rNext)
        (rSeq (ρ1 := [.sh (dSet E f l F), .sh (.int d), .sh (dI E), .sh (.int f), .sh (.int l), .sh (dI F), .sh (.int t), .sh (.int pl)]) ?u1 (rRet ?u2)))
      case u1 =>
        rw [← ht, ← hpl]
        exact rAsg (rThen (rCons (rOp (rV rfl) (rV rfl) rfl) (rCons (rV rfl) rNil)) (dm_ok hL hL2)) (rTup rfl (rGC (rName (by simp)) (rGC (rName (by simp)) rGN)))
      case u2 =>
        exact rOp (rOp (rThen (rCons (rV rfl) rNil) len_dI) (rOp (rThen (rCons (rV rfl) rNil) len_dI) (rV rfl) (mul_ok (.inl (by omega)))) rfl) (rThen (rCons (rV rfl) (rCons (rV rfl) rNil)) e1) rfl
    · have hc : 0 < F.length := List.length_pos_iff.mpr hF0
      by_cases z : j < E.length
      · have q := v.eR _ (List.getElem_mem z)
        rw [Md.nth_lt z]
        constructor
        · intro; omega
        · intro
          have := Nat.zero_le (F.length * t)
          omega
      · obtain ⟨i1, q⟩ := Md.nth_ge (E := E) (F := F) (f := f) (l := l) (k := j) (by omega) hF0
        have f1 := v.fR _ (List.getElem_mem i1)
        have g3 := e3 _ i1
        have djm := Nat.div_add_mod (j - E.length) F.length
        rw [q]
        generalize (j - E.length) / F.length = Q at *
        generalize hI : (j - E.length) % F.length = i at *
        have ej : j = E.length + (F.length * Q + i) := by omega
        rw [ej]
        rcases Nat.lt_trichotomy Q t with w | w | w
        · have a1 : F.length * (Q + 1) ≤ F.length * t := Nat.mul_le_mul_left _ w
          have a2 : l * (Q + 1) ≤ l * t := Nat.mul_le_mul_left _ w
          rw [Nat.mul_add] at a1 a2
          rw [← Int.natCast_mul]
          rw [← Int.natCast_mul] at dm
          constructor
          · intro; omega
          · intro; omega
        · subst w
          rw [← Int.natCast_mul]
          rw [← Int.natCast_mul] at dm
          constructor
          · intro g
            have := g3.mp (by omega)
            omega
          · intro g
            have := g3.mpr (by omega)
            omega
        · have a1 : F.length * (t + 1) ≤ F.length * Q := Nat.mul_le_mul_left _ w
          have a2 : l * (t + 1) ≤ l * Q := Nat.mul_le_mul_left _ w
          rw [Nat.mul_add] at a1 a2
          rw [← Int.natCast_mul]
          rw [← Int.natCast_mul] at dm
          constructor
          · intro; omega
          · intro; omega
    · subst h0
      have : k = 0 := by simpa using e2
      subst this
      simp only [List.length_nil, Nat.zero_mul, Nat.add_zero]
      refine ⟨Nat.le_refl _, fun j h => ⟨fun _ => ?_, fun _ => h⟩⟩
      have := v.eR _ (List.getElem_mem h)
      omega
/-! ### the next day -/
def NextDay (b : Nat → Int) (d : Int) (z : D) : Prop := (∃ n : Nat, z = .int n ∧ b n = 1 ∧ d ≤ n ∧ ∀ m : Nat, m < n → d ≤ m → b m = 0) ∨ (z = .none ∧ ∀ m : Nat, d ≤ m → b m = 0)
theorem m_from_ok {E F : List Int} {f l : Nat} {d : Int} (v : SetV E f l F) (hE : E.length ≤ 400000) (hF : F.length ≤ 400000) (hl : l < 2 ^ 60) :
    ∃ z, m_day_from [dSet E f l F, .int d] = some z ∧ NextDay (bits E f l F) d z := by
  obtain ⟨k, e1, e2, e3⟩ := m_many_ok (d := d) v hE hF hl
  have unp : sAsg (dV 0) (gtTup 4 (gtCons (gtName 2) (gtCons (gtName 3) (gtCons (gtName 4) (gtCons (gtName 5) gtNil))))) (rho0 [dSet E f l F, .int k] 6) =
      some (.nx [.sh (dSet E f l F), .sh (.int k), .sh (dI E), .sh (.int f), .sh (.int l), .sh (dI F), .un, .un]) := by walk_at "run"
  have out : ∀ z, m_nth_day [dSet E f l F, .int k] = some z → m_day_from [dSet E f l F, .int d] = some z := fun z h => by
    apply fin (f := b_day_from)
    unfold b_day_from
    exact rRet (rThen (rCons (rV rfl) (rCons (rThen (rCons (rV rfl) (rCons (rV rfl) rNil)) e1) rNil)) h)
  have tst : (dThen (dOp (gI fun i j => .bool (decide (i < j))) (dV 1) (dThen (dCons (dV 2) dNil) gLen)) isB) [.sh (dSet E f l F), .sh (.int k), .sh (dI E), .sh (.int f), .sh (.int l), .sh (dI F), .un, .un] =
      some (decide ((k : Int) < (E.length : Int)), [.sh (dSet E f l F), .sh (.int k), .sh (dI E), .sh (.int f), .sh (.int l), .sh (dI F), .un, .un]) := rThen (rOp (rV rfl) (rThen (rCons (rV rfl) rNil) len_dI) rfl) rfl
  by_cases c : k < E.length
  · have hz : m_nth_day [dSet E f l F, .int k] = some (.int E[k]) := by
      apply fin (f := b_nth_day)
      unfold b_nth_day
      exact rSeq unp (rSeqR (rIfST tst (decide_eq_true (by omega)) (rRet (rOp (rV rfl) (rV rfl) (ix_dI rfl (List.getElem?_eq_getElem c))))))
    refine ⟨_, out _ hz, .inl ?_⟩
    have q := v.eR _ (List.getElem_mem c)
    refine ⟨E[k].toNat, by congr 1; omega, ?_, ?_, fun m hm hd => ?_⟩
    · unfold bits
      rw [if_pos (by omega), if_pos]
      have : ((E[k].toNat : Nat) : Int) = E[k] := by omega
      rw [this]
      exact List.getElem_mem c
    · have : ¬ E[k] < d := by
        by_cases hF0 : F = []
        · have := (e3 hF0).2 k c
          omega
        · have := e2 hF0 k
          rw [Md.nth_lt c] at this
          omega
      omega
    · unfold bits
      rw [if_pos (by omega), if_neg]
      intro hm2
      obtain ⟨i, hi, ei⟩ := List.getElem_of_mem hm2
      have ik : i < k := by
        rcases Nat.lt_trichotomy i k with w | w | w
        · exact w
        · subst w; omega
        · have := Md.up_get v.eU w hi; omega
      have : E[i] < d := by
        by_cases hF0 : F = []
        · exact ((e3 hF0).2 i hi).mp ik
        · have := (e2 hF0 i).mp ik
          rw [Md.nth_lt hi] at this
          exact this
      omega
  · by_cases hF0 : F = []
    · have hz : m_nth_day [dSet E f l F, .int k] = some .none := by
        apply fin (f := b_nth_day)
        unfold b_nth_day
        exact rSeq unp (rSeq (rIfSF tst (decide_eq_false (by omega)) rNext) (rSeqR (rIfST (rNot (rThen (rV rfl) truth_dI)) (by simp [hF0]) (rRet rC))))
      refine ⟨_, out _ hz, .inr ⟨rfl, fun m hm => ?_⟩⟩
      unfold bits
      split
      · rw [if_neg]
        intro hm2
        obtain ⟨i, hi, ei⟩ := List.getElem_of_mem hm2
        have := ((e3 hF0).2 i hi).mp (by omega)
        omega
      · simp [hF0]
    · have dd := nth_days v hF0
      have hc : 0 < F.length := List.length_pos_iff.mpr hF0
      obtain ⟨i1, q⟩ := Md.nth_ge (E := E) (F := F) (f := f) (l := l) (k := k) (by omega) hF0
      have hz : m_nth_day [dSet E f l F, .int k] = some (.int ((nthL E f l F).at k)) := by
        rw [q]
        have hC : (0 : Int) < (F.length : Nat) := by omega
        have hC2 : ((F.length : Nat) : Int) < 2 ^ 200 := Int.lt_of_le_of_lt (show ((F.length : Nat) : Int) ≤ 1000000 by omega) (by decide)
        have a0 : ((k : Nat) : Int) - ((E.length : Nat) : Int) = ((k - E.length : Nat) : Int) := by omega
        have a1 : (((k : Nat) : Int) - ((E.length : Nat) : Int)) / ((F.length : Nat) : Int) = (((k - E.length) / F.length : Nat) : Int) := by rw [a0]; omega
        have a2 : (((k : Nat) : Int) - ((E.length : Nat) : Int)) % ((F.length : Nat) : Int) = (((k - E.length) % F.length : Nat) : Int) := by rw [a0]; omega
        have a3 : (f : Int) + F[(k - E.length) % F.length] + l * ((k - E.length) / F.length : Nat) = (f : Int) + l * ((k - E.length) / F.length : Nat) + F[(k - E.length) % F.length] := by
          generalize (l : Int) * ((k - E.length) / F.length : Nat) = w
          omega
        rw [a3]
        apply fin (f := b_nth_day)
        unfold b_nth_day
        refine' rSeq unp (rSeq (rIfSF tst (decide_eq_false (by omega)) rNext) (rSeq (rIfSF (rNot (rThen (rV rfl) truth_dI)) (by simp [hF0]) rNext)
          (rSeq (ρ1 := [.sh (dSet E f l F), .sh (.int k), .sh (dI E), .sh (.int f), .sh (.int l), .sh (dI F), .sh (.int ((k - E.length) / F.length : Nat)), .sh (.int ((k - E.length) % F.length : Nat))]) ?u1 (rRet ?u2))))
        case u1 =>
          rw [← a1, ← a2]
          exact rAsg (rThen (rCons (rOp (rV rfl) (rThen (rCons (rV rfl) rNil) len_dI) rfl) (rCons (rThen (rCons (rV rfl) rNil) len_dI) rNil)) (dm_ok hC hC2)) (rTup rfl (rGC (rName (by simp)) (rGC (rName (by simp)) rGN)))
        case u2 =>
          exact rOp (rOp (rV rfl) (rOp (rV rfl) (rV rfl) (mul_ok (.inl (by omega)))) rfl) (rOp (rV rfl) (rV rfl) (ix_dI rfl (List.getElem?_eq_getElem i1))) rfl
      refine ⟨_, out _ hz, .inl ⟨((nthL E f l F).at k).toNat, ?_, dd.is k, ?_, fun m hm hd => ?_⟩⟩
      · have := dd.zero k
        congr 1
        omega
      · have := e2 hF0 k
        omega
      · rcases dd.b01 m with w | w
        · exact w
        · exfalso
          obtain ⟨j, hj⟩ := (dd.day m).mp w
          have z := dd.zero k
          have jk : j < k := dd.lt_of (by omega)
          have := (e2 hF0 j).mp jk
          omega

end Pg

set_option Elab.async false
set_option linter.all false
set_option maxRecDepth 100000
set_option maxHeartbeats 1000000
namespace Pg
open PySem PySem.Spec PyProof.Rows L2 Ly
local macro_rules | `(tactic| walk_at "run") => `(tactic| first
  | with_reducible exact rC
  | with_reducible exact rNil
  | with_reducible exact rNext
  | with_reducible exact rGN
  | ((with_reducible refine' rV ?m1); (case' m1 => rfl))
  | with_reducible assumption
  | ((with_reducible refine' rCons ?m1 ?m2); (case' m1 => walk_at "run"); (case' m2 => walk_at "run"))
  | ((with_reducible refine' rOp ?m1 ?m2 ?m3); (case' m1 => walk_at "run"); (case' m2 => walk_at "run"); (case' m3 => walk_at "run"))
  | ((with_reducible refine' rNot ?m1); (case' m1 => walk_at "run"))
  | ((with_reducible refine' rB ?m1); (case' m1 => walk_at "run"))
  | ((with_reducible refine' rPart ?m1); (case' m1 => walk_at "run"))
  | ((with_reducible refine' rThen ?m1 ?m2); (case' m1 => walk_at "run"); (case' m2 => walk_at "run"))
  | ((with_reducible refine' rPair ?m1 ?m2); (case' m1 => walk_at "run"); (case' m2 => walk_at "run"))
  | ((with_reducible refine' rSeq ?m1 ?m2); (case' m1 => walk_at "run"); (case' m2 => walk_at "run"))
  | ((with_reducible refine' rRet ?m1); (case' m1 => walk_at "run"))
  | ((with_reducible refine' rAsgE ?m1 ?m2 ?m3); (case' m1 => walk_at "run"); (case' m2 => rfl); (case' m3 => (simp [rho0])))
  | ((with_reducible refine' rAsg ?m1 ?m2); (case' m1 => walk_at "run"); (case' m2 => walk_at "run"))
  | ((with_reducible refine' rDrop ?m1); (case' m1 => walk_at "run"))
  | ((with_reducible refine' rNameE ?m1 ?m2); (case' m1 => rfl); (case' m2 => (simp [rho0, unset])))
  | ((with_reducible refine' rTup ?m1 ?m2); (case' m1 => rfl); (case' m2 => walk_at "run"))
  | ((with_reducible refine' rGC ?m1 ?m2); (case' m1 => walk_at "run"); (case' m2 => walk_at "run"))
  | ((with_reducible refine' rParE ?m1 ?m2 ?m3 ?m4); (case' m1 => walk_at "run"); (case' m2 => rfl); (case' m3 => (simp [rho0])); (case' m4 => (simp [rho0])))
  | ((with_reducible refine' rAugE ?m1 ?m2 ?m3); (case' m1 => rfl); (case' m2 => walk_at "run"); (case' m3 => rfl))
  | ((with_reducible refine' rIxO ?m1 ?m2 ?m3 ?m4); (case' m1 => rfl); (case' m2 => walk_at "run"); (case' m3 => rfl); (case' m4 => walk_at "run"))
  | ((with_reducible refine' rSlO ?m1 ?m2 ?m3); (case' m1 => rfl); (case' m2 => walk_at "run"); (case' m3 => rfl))
  | ((with_reducible refine' rFrz ?m1); (case' m1 => rfl))
  | ((with_reducible refine' rCallOE ?m1 ?m2 ?m3 ?m4 ?m5); (case' m1 => rfl); (case' m2 => walk_at "run"); (case' m3 => rfl); (case' m4 => walk_at "run"); (case' m5 => rfl))
  | with_reducible exact len_dI
  | with_reducible exact disp1
  | with_reducible exact truth_dI
  | with_reducible exact flat_dI
  | ((with_reducible refine' cat_lit1 ?m1); (case' m1 => ((try simp only [List.length_append, List.length_cons, List.length_nil]) <;> omega)))
  | ((with_reducible refine' cat_lit2 ?m1); (case' m1 => ((try simp only [List.length_append, List.length_cons, List.length_nil]) <;> omega)))
  | ((with_reducible refine' cat_dI ?m1); (case' m1 => ((try simp only [List.length_append, List.length_cons, List.length_nil]) <;> omega)))
  | rfl
  | skip)
open Md (Tell Round Begin nums Lad ladOf SetV bits nthL Days firstOf)
theorem NextDay.is {b : Nat → Int} {d : Int} {z : D} (h : NextDay b d z) (h0 : 0 ≤ d) (b01 : ∀ n, b n = 0 ∨ b n = 1) : gEq z (.int d) = some (decide (b d.toNat = 1)) := by
  rcases h with ⟨n, rfl, h1, h2, h3⟩ | ⟨rfl, h1⟩
  · unfold gEq
    simp only [Option.some.injEq, decide_eq_decide]
    constructor
    · intro e
      have : d.toNat = n := by omega
      rw [this]; exact h1
    · intro e
      rcases Nat.lt_or_ge d.toNat n with c | c
      · have := h3 d.toNat c (by omega)
        omega
      · omega
  · unfold gEq
    simp only [Option.some.injEq]
    have := h1 d.toNat (by omega)
    rw [this]
    rfl
theorem NextDay.uniq {b : Nat → Int} {d : Int} {z w : D} (h : NextDay b d z) (k : NextDay b d w) : z = w := by
  rcases h with ⟨n, rfl, h1, h2, h3⟩ | ⟨rfl, h1⟩
  · rcases k with ⟨m, rfl, k1, k2, k3⟩ | ⟨rfl, k1⟩
    · congr 2
      rcases Nat.lt_trichotomy n m with c | c | c
      · have := k3 n c h2; omega
      · exact c
      · have := h3 m c k2; omega
    · have := k1 n h2; omega
  · rcases k with ⟨m, rfl, k1, k2, k3⟩ | ⟨rfl, k1⟩
    · have := h1 m k2; omega
    · rfl
section
variable {E F : List Int} {f l : Nat} {d : Int}
theorem m_holds_ok (v : SetV E f l F) (hE : E.length ≤ 400000) (hF : F.length ≤ 400000) (hl : l < 2 ^ 60) (h0 : 0 ≤ d) : m_holds [dSet E f l F, .int d] = some (.bool (decide (bits E f l F d.toNat = 1))) := by
  obtain ⟨z, e1, e2⟩ := m_from_ok (d := d) v hE hF hl
  apply fin (f := b_holds)
  unfold b_holds
  exact rRet (rOp (rThen (rCons (rV rfl) (rCons (rV rfl) rNil)) e1) (rV rfl) (by rw [e2.is h0 fun _ => Md.bits_01]; rfl))
theorem one_number (h0 : 0 ≤ d) : m_check_numbers [dI [d]] = some .none := m_check_numbers_ok fun x hx => by
  have := List.mem_singleton.mp hx
  omega
theorem m_has_ok (v : SetV E f l F) (hE : E.length ≤ 400000) (hF : F.length ≤ 400000) (hl : l < 2 ^ 60) (h0 : 0 ≤ d) : m_has [dSet E f l F, .int d] = some (.bool (decide (bits E f l F d.toNat = 1))) := by
  have k1 := m_check_sets_ok (setOk_of v) (by omega) (by omega)
  have k2 := one_number h0
  have k3 := m_holds_ok v hE hF hl h0
  apply fin (f := b_has)
  unfold b_has
  exact rSeq (rDrop (rThen (rCons (rThen (rCons (rV rfl) rNil) (few_map (by simp))) rNil) k1)) (rSeq (rDrop (rThen (rCons (rThen (rCons (rV rfl) rNil) (few_map (by simp))) rNil) k2)) (rRet (rThen (rCons (rV rfl) (rCons (rV rfl) rNil)) k3)))
theorem m_next_ok (v : SetV E f l F) (hE : E.length ≤ 400000) (hF : F.length ≤ 400000) (hl : l < 2 ^ 60) (h0 : 0 ≤ d) : ∃ z, m_next_day [dSet E f l F, .int d] = some z ∧ NextDay (bits E f l F) d z := by
  have k1 := m_check_sets_ok (setOk_of v) (by omega) (by omega)
  have k2 := one_number h0
  obtain ⟨z, e1, e2⟩ := m_from_ok (d := d) v hE hF hl
  refine ⟨z, ?_, e2⟩
  apply fin (f := b_next_day)
  unfold b_next_day
  exact rSeq (rDrop (rThen (rCons (rThen (rCons (rV rfl) rNil) (few_map (by simp))) rNil) k1)) (rSeq (rDrop (rThen (rCons (rThen (rCons (rV rfl) rNil) (few_map (by simp))) rNil) k2)) (rRet (rThen (rCons (rV rfl) (rCons (rV rfl) rNil)) e1)))
theorem m_least_set_ok (v : SetV E f l F) (hE : E.length ≤ 400000) (hF : F.length ≤ 400000) :
    ∃ f' l' : Nat, m_least_set [dSet E f l F] = some (dSet (daysOf (bits E f l F) 0 f') f' l' (daysOf (bits E f l F) f' l')) ∧ Begin (bits E f l F) f' ∧ Round (bits E f l F) l' := by
  have k1 := m_check_sets_ok (setOk_of v) (by omega) (by omega)
  obtain ⟨f', l', e1, e2⟩ := m_narrowed_ok v hE hF
  refine ⟨f', l', ?_, e2⟩
  apply fin (f := b_least_set)
  unfold b_least_set
  exact rSeq (rDrop (rThen (rCons (rThen (rCons (rV rfl) rNil) (few_map (by simp))) rNil) k1)) (rRet (rThen (rCons (rV rfl) rNil) e1))
/-! ### the law's own looks -/
theorem in_dI {xs : List Int} {i : Int} : gIn (.int i) (dI xs) = some (.bool (decide (i ∈ xs))) := by
  unfold gIn
  simp only [intsOf_map, Option.map_some]
  congr 2
  rw [Bool.eq_iff_iff]
  simp [List.any_eq_true]
theorem bits_eq {n : Nat} : decide (bits E f l F n = 1) = if n < f then decide ((n : Int) ∈ E) else decide ((((n - f) % l : Nat) : Int) ∈ F) := by
  unfold bits
  by_cases c : n < f
  · rw [if_pos c, if_pos c]
    by_cases z : (n : Int) ∈ E <;> simp [z]
  · rw [if_neg c, if_neg c]
    by_cases z : (((n - f) % l : Nat) : Int) ∈ F <;> simp [z]
theorem l_has_ok (hl : 0 < l) (h0 : 0 ≤ d) : m__law_dl_has [dSet E f l F, .int d] = some (.bool (decide (bits E f l F d.toNat = 1))) := by
  have ed : ((d.toNat : Nat) : Int) = d := by omega
  apply fin (f := b__law_dl_has)
  unfold b__law_dl_has
  refine' rSeq (ρ1 := [.sh (dSet E f l F), .sh (.int d), .sh (dI E), .sh (.int f), .sh (.int l), .sh (dI F)]) ?u1 (rRet ?u2)
  case u1 => walk_at "run"
  case u2 =>
    rw [bits_eq]
    by_cases c : d < f
    · rw [if_pos (by omega), ed]
      exact rIfT (b := decide (d < (f : Int))) (rThen (rOp (rV rfl) (rV rfl) rfl) rfl) (decide_eq_true c) (rOp (rV rfl) (rV rfl) in_dI)
    · rw [if_neg (by omega)]
      have e2 : (((d.toNat - f) % l : Nat) : Int) = (d - f) % (l : Int) := by
        have : d - f = ((d.toNat - f : Nat) : Int) := by omega
        rw [this]
        omega
      rw [e2]
      exact rIfF (b := decide (d < (f : Int))) (rThen (rOp (rV rfl) (rV rfl) rfl) rfl) (decide_eq_false c) (rOp (rOp (rThen (rCons (rOp (rV rfl) (rV rfl) rfl) rNil) rfl) (rV rfl) (mod_ok (by omega))) (rV rfl) in_dI)
end
theorem rForFind {ρ ρ1 : Rho} {ι : Type} {fi : Den (List D)} {g : D → Rho → Option Rho} {fb : DenS} (c : ι → D) (p : ι → Bool) (h : ι → D) (I : Rho → Prop) {ns : List ι} (hi : fi ρ = some (ns.map c, ρ1)) (h0 : I ρ1)
    (hs : ∀ n ∈ ns, ∀ ρ2, I ρ2 → ∃ ρ3, g (c n) ρ2 = some ρ3 ∧ (p n = true → ∃ ρ4, fb ρ3 = some (.rt (h n) ρ4)) ∧ (p n = false → ∃ ρ4, fb ρ3 = some (.nx ρ4) ∧ I ρ4)) :
    (∃ n ρ', ns.find? p = some n ∧ sFor fi g fb ρ = some (.rt (h n) ρ')) ∨ (ns.find? p = none ∧ ∃ ρ', sFor fi g fb ρ = some (.nx ρ') ∧ I ρ') := by
  have main : ∀ (ns : List ι) (ρ2 : Rho), (∀ n ∈ ns, ∀ ρ2, I ρ2 → ∃ ρ3, g (c n) ρ2 = some ρ3 ∧ (p n = true → ∃ ρ4, fb ρ3 = some (.rt (h n) ρ4)) ∧ (p n = false → ∃ ρ4, fb ρ3 = some (.nx ρ4) ∧ I ρ4)) → I ρ2 →
      (∃ n ρ', ns.find? p = some n ∧ forL g fb (ns.map c) ρ2 = some (.rt (h n) ρ')) ∨ (ns.find? p = none ∧ ∃ ρ', forL g fb (ns.map c) ρ2 = some (.nx ρ') ∧ I ρ') := by
    intro ns
    induction ns with
    | nil => exact fun ρ2 _ i => .inr ⟨rfl, ρ2, rfl, i⟩
    | cons n ns ih =>
      intro ρ2 hs i
      obtain ⟨ρ3, a1, a2, a3⟩ := hs n List.mem_cons_self ρ2 i
      cases hp : p n with
      | true =>
        obtain ⟨ρ4, b1⟩ := a2 hp
        refine .inl ⟨n, ρ4, by rw [List.find?_cons_of_pos hp], ?_⟩
        rw [List.map_cons, forL, a1]
        simp [b1]
      | false =>
        obtain ⟨ρ4, b1, b2⟩ := a3 hp
        have := ih ρ4 (fun m hm => hs m (List.mem_cons_of_mem _ hm)) b2
        rw [List.find?_cons_of_neg (by simp [hp]), List.map_cons, forL, a1]
        simpa [b1] using this
  have := main ns ρ1 hs h0
  unfold sFor
  rw [hi]
  simpa using this
theorem find_range {p : Nat → Bool} : ∀ {m n : Nat}, (List.range m).find? p = some n → n < m ∧ p n = true ∧ ∀ i, i < n → p i = false := by
  intro m n h
  obtain ⟨h1, as, bs, h2, h3⟩ := List.find?_eq_some_iff_append.mp h
  have hl : n = as.length := by
    have e := congrArg (fun q => q[as.length]?) h2
    simp only [List.getElem?_append_right (Nat.le_refl _), Nat.sub_self, List.getElem?_cons_zero] at e
    rw [List.getElem?_eq_some_iff] at e
    obtain ⟨_, e⟩ := e
    simp at e
    exact e.symm
  have hm : as.length < m := by
    have := congrArg List.length h2
    simp at this
    omega
  refine ⟨by omega, h1, fun i hi => ?_⟩
  have e := congrArg (fun q => q[i]?) h2
  simp only [List.getElem?_append_left (show i < as.length by omega)] at e
  have : (List.range m)[i]? = some i := List.getElem?_range (by omega)
  rw [this] at e
  have := h3 i (List.mem_of_getElem? e.symm)
  simpa using this
theorem l_ahead_ok {E F : List Int} {f l : Nat} {d : Int} (hl : 0 < l) (hf : f ≤ 100000) (hl2 : l ≤ 100000) (h0 : 0 ≤ d) : ∃ z, m__law_dl_ahead [dSet E f l F, .int d] = some z ∧ NextDay (bits E f l F) d z := by
  have er : ((f : Int) + 2 * (l : Int) + 1).toNat = f + 2 * l + 1 := by omega
  have rng : (dThen (dCons (dOp gAdd (dOp gAdd (dOp gIx (dV 0) (dC (.int 1))) (dOp gMul (dC (.int 2)) (dOp gIx (dV 0) (dC (.int 2))))) (dC (.int 1))) dNil) rng1) (rho0 [dSet E f l F, .int d] 1) =
      some ((List.range (f + 2 * l + 1)).map fun k => .int (k : Nat), rho0 [dSet E f l F, .int d] 1) := by
    rw [← er]
    exact rThen (rCons (rOp (rOp (rOp (rV rfl) rC rfl) (rOp rC (rOp (rV rfl) rC rfl) (mul_ok (.inl (by decide)))) rfl) rC rfl) rNil) (rng_ok (by omega))
  have main := rForFind (g := gtName 2) (fb := sIf (dThen (dThen (dCons (dV 0) (dCons (dOp gAdd (dV 1) (dV 2)) dNil)) m__law_dl_has) truth) (sRet (dOp gAdd (dV 1) (dV 2))) sNext)
    (fun k : Nat => .int (k : Nat)) (fun k => decide (bits E f l F (d + k).toNat = 1)) (fun k => .int (d + k)) (fun ρ => ∃ s, ρ = [.sh (dSet E f l F), .sh (.int d), s]) rng ⟨_, rfl⟩ (fun n _ ρ2 ⟨s, hs⟩ => by
      subst hs
      have k1 := l_has_ok (E := E) (F := F) (f := f) hl (show 0 ≤ d + (n : Int) by omega)
      have tst : (dThen (dThen (dCons (dV 0) (dCons (dOp gAdd (dV 1) (dV 2)) dNil)) m__law_dl_has) truth) [.sh (dSet E f l F), .sh (.int d), .sh (.int n)] =
        some (decide (bits E f l F (d + n).toNat = 1), [.sh (dSet E f l F), .sh (.int d), .sh (.int n)]) := rThen (rThen (rCons (rV rfl) (rCons (rOp (rV rfl) (rV rfl) rfl) rNil)) k1) rfl
      exact ⟨[.sh (dSet E f l F), .sh (.int d), .sh (.int n)], rfl, fun hp => ⟨_, rIfST tst hp (rRet (rOp (rV rfl) (rV rfl) rfl))⟩, fun hp => ⟨_, rIfSF tst hp rNext, _, rfl⟩⟩)
  have no : ∀ n, bits E f l F n = 0 ∨ bits E f l F n = 1 := fun _ => Md.bits_01
  rcases main with ⟨n, ρ', hf1, hr⟩ | ⟨hf1, ρ', hr, _⟩
  · obtain ⟨g1, g2, g3⟩ := find_range hf1
    refine ⟨.int (d + n), ?_, .inl ⟨(d + n).toNat, by rw [Int.toNat_of_nonneg (by omega)], of_decide_eq_true g2, by omega, fun m hm hd => ?_⟩⟩
    · apply fin (f := b__law_dl_ahead)
      unfold b__law_dl_ahead
      exact rSeqR hr
    · have := of_decide_eq_false (g3 (m - d.toNat) (by omega))
      have e : (d + ((m - d.toNat : Nat) : Int)).toNat = m := by omega
      rw [e] at this
      rcases no m with w | w
      · exact w
      · exact absurd w this
  · refine ⟨.none, ?_, .inr ⟨rfl, ?_⟩⟩
    · apply fin (f := b__law_dl_ahead)
      unfold b__law_dl_ahead
      exact rSeq hr (rRet rC)
    · have near : ∀ m : Nat, d ≤ m → (m : Int) < d + f + 2 * l + 1 → bits E f l F m = 0 := fun m hm hm2 => by
        have := List.find?_eq_none.mp hf1 (m - d.toNat) (by simp; omega)
        simp only [decide_eq_true_eq] at this
        have e : (d + ((m - d.toNat : Nat) : Int)).toNat = m := by omega
        rw [e] at this
        rcases no m with w | w
        · exact w
        · exact absurd w this
      intro m
      induction m using Nat.strongRecOn with
      | ind m ih =>
        intro hm
        by_cases c : (m : Int) < d + f + 2 * l + 1
        · exact near m hm c
        · have t := (Md.bits_tell (E := E) (F := F) (f := f) hl).step (m - l) (by omega)
          have e : m - l + l = m := by omega
          rw [e] at t
          rw [t, ih (m - l) (by omega) (by omega)]
          rfl

end Pg

set_option Elab.async false
set_option linter.all false
set_option maxRecDepth 100000
set_option maxHeartbeats 1000000
namespace Pg
open PySem PySem.Spec PyProof.Rows L2 Ly
local macro_rules | `(tactic| walk_at "run") => `(tactic| first
  | with_reducible exact rC
  | with_reducible exact rNil
  | with_reducible exact rNext
  | with_reducible exact rGN
  | ((with_reducible refine' rV ?m1); (case' m1 => rfl))
  | with_reducible assumption
  | ((with_reducible refine' rCons ?m1 ?m2); (case' m1 => walk_at "run"); (case' m2 => walk_at "run"))
  | ((with_reducible refine' rOp ?m1 ?m2 ?m3); (case' m1 => walk_at "run"); (case' m2 => walk_at "run"); (case' m3 => walk_at "run"))
  | ((with_reducible refine' rNot ?m1); (case' m1 => walk_at "run"))
  | ((with_reducible refine' rB ?m1); (case' m1 => walk_at "run"))
  | ((with_reducible refine' rPart ?m1); (case' m1 => walk_at "run"))
  | ((with_reducible refine' rThen ?m1 ?m2); (case' m1 => walk_at "run"); (case' m2 => walk_at "run"))
  | ((with_reducible refine' rPair ?m1 ?m2); (case' m1 => walk_at "run"); (case' m2 => walk_at "run"))
  | ((with_reducible refine' rSeq ?m1 ?m2); (case' m1 => walk_at "run"); (case' m2 => walk_at "run"))
  | ((with_reducible refine' rRet ?m1); (case' m1 => walk_at "run"))
  | ((with_reducible refine' rAsgE ?m1 ?m2 ?m3); (case' m1 => walk_at "run"); (case' m2 => rfl); (case' m3 => (simp [rho0])))
  | ((with_reducible refine' rAsg ?m1 ?m2); (case' m1 => walk_at "run"); (case' m2 => walk_at "run"))
  | ((with_reducible refine' rDrop ?m1); (case' m1 => walk_at "run"))
  | ((with_reducible refine' rNameE ?m1 ?m2); (case' m1 => rfl); (case' m2 => (simp [rho0, unset])))
  | ((with_reducible refine' rTup ?m1 ?m2); (case' m1 => rfl); (case' m2 => walk_at "run"))
  | ((with_reducible refine' rGC ?m1 ?m2); (case' m1 => walk_at "run"); (case' m2 => walk_at "run"))
  | ((with_reducible refine' rParE ?m1 ?m2 ?m3 ?m4); (case' m1 => walk_at "run"); (case' m2 => rfl); (case' m3 => (simp [rho0])); (case' m4 => (simp [rho0])))
  | ((with_reducible refine' rAugE ?m1 ?m2 ?m3); (case' m1 => rfl); (case' m2 => walk_at "run"); (case' m3 => rfl))
  | ((with_reducible refine' rIxO ?m1 ?m2 ?m3 ?m4); (case' m1 => rfl); (case' m2 => walk_at "run"); (case' m3 => rfl); (case' m4 => walk_at "run"))
  | ((with_reducible refine' rSlO ?m1 ?m2 ?m3); (case' m1 => rfl); (case' m2 => walk_at "run"); (case' m3 => rfl))
  | ((with_reducible refine' rFrz ?m1); (case' m1 => rfl))
  | ((with_reducible refine' rCallOE ?m1 ?m2 ?m3 ?m4 ?m5); (case' m1 => rfl); (case' m2 => walk_at "run"); (case' m3 => rfl); (case' m4 => walk_at "run"); (case' m5 => rfl))
  | with_reducible exact len_dI
  | with_reducible exact disp1
  | with_reducible exact truth_dI
  | with_reducible exact flat_dI
  | ((with_reducible refine' cat_lit1 ?m1); (case' m1 => ((try simp only [List.length_append, List.length_cons, List.length_nil]) <;> omega)))
  | ((with_reducible refine' cat_lit2 ?m1); (case' m1 => ((try simp only [List.length_append, List.length_cons, List.length_nil]) <;> omega)))
  | ((with_reducible refine' cat_dI ?m1); (case' m1 => ((try simp only [List.length_append, List.length_cons, List.length_nil]) <;> omega)))
  | rfl
  | skip)
open Md (Tell Round Begin nums Lad ladOf SetV bits nthL Days firstOf)
theorem l_comes_ok {T : List Int} {r : Int} {part : Nat} (hp : 0 < part) (hp2 : part < T.length) (hl : T.length ≤ 400000) :
    ∃ b, m__law_dl_comes [dI T, .int r, .int (part : Nat)] = some (.bool b) ∧ (b = true ↔ (r * part / (T.length : Nat) * (T.length : Nat) = r * part ∧ ∀ (i : Nat) (h : i + part < T.length), T[i + part] = T[i] + r * part / (T.length : Nat))) := by
  have hL : (0 : Int) < (T.length : Nat) := by omega
  have hL2 : ((T.length : Nat) : Int) < 2 ^ 200 := Int.lt_of_le_of_lt (show ((T.length : Nat) : Int) ≤ 400000 by omega) (by decide)
  generalize hless : r * (part : Int) / ((T.length : Nat) : Int) = less
  have st1 : sAsg (dOp (gIc cDiv fun i j => .int (i / j)) (dThen (dCons (dOp gMul (dV 1) (dV 2)) dNil) gInt) (dThen (dCons (dV 0) dNil) gLen)) (gtName 3) (rho0 [dI T, .int r, .int (part : Nat)] 2) =
      some (.nx [.sh (dI T), .sh (.int r), .sh (.int (part : Nat)), .sh (.int less), .un]) := by
    rw [← hless]
    exact rAsgE (rOp (rThen (rCons (rOp (rV rfl) (rV rfl) (mul_ok (.inr (by omega)))) rNil) rfl) (rThen (rCons (rV rfl) rNil) len_dI) (div_ok hL hL2)) rfl (by simp [rho0])
  have tst : (dThen (dOp (fun x y => (gEq x y).map fun b => .bool (!b)) (dOp gMul (dV 3) (dThen (dCons (dV 0) dNil) gLen)) (dOp gMul (dV 1) (dV 2))) isB) [.sh (dI T), .sh (.int r), .sh (.int (part : Nat)), .sh (.int less), .un] =
      some (!decide (less * (T.length : Nat) = r * part), [.sh (dI T), .sh (.int r), .sh (.int (part : Nat)), .sh (.int less), .un]) :=
    rThen (rOp (rOp (rV rfl) (rThen (rCons (rV rfl) rNil) len_dI) (mul_ok (.inr (by omega)))) (rOp (rV rfl) (rV rfl) (mul_ok (.inr (by omega)))) rfl) rfl
  by_cases c : less * (T.length : Nat) = r * part
  · have rng : (dThen (dCons (dOp (gI fun i j => .int (i - j)) (dThen (dCons (dV 0) dNil) gLen) (dV 2)) dNil) rng1) [.sh (dI T), .sh (.int r), .sh (.int (part : Nat)), .sh (.int less), .un] =
        some ((List.range (T.length - part)).map fun k => .int (k : Nat), [.sh (dI T), .sh (.int r), .sh (.int (part : Nat)), .sh (.int less), .un]) := by
      have e : T.length - part = (((T.length : Nat) : Int) - part).toNat := by omega
      rw [e]
      exact rThen (rCons (rOp (rThen (rCons (rV rfl) rNil) len_dI) (rV rfl) rfl) rNil) (rng_ok (by omega))
    have main := rForFind (g := gtName 4) (fb := sIf (dThen (dOp (fun x y => (gEq x y).map fun b => .bool (!b)) (dOp gIx (dV 0) (dOp gAdd (dV 4) (dV 2))) (dOp gAdd (dOp gIx (dV 0) (dV 4)) (dV 3))) isB) (sRet (dC (.bool false))) sNext)
      (fun k : Nat => .int (k : Nat)) (fun k => !decide ((T[k + part]?).getD 0 = (T[k]?).getD 0 + less)) (fun _ => .bool false) (fun ρ => ∃ s, ρ = [.sh (dI T), .sh (.int r), .sh (.int (part : Nat)), .sh (.int less), s]) rng ⟨_, rfl⟩ (fun n hn ρ2 ⟨s, hs⟩ => by
        subst hs
        have hn : n < T.length - part := by simpa using hn
        have g1 : T[n + part]? = some T[n + part] := List.getElem?_eq_getElem (by omega)
        have g2 : T[n]? = some T[n] := List.getElem?_eq_getElem (by omega)
        have t2 : (dThen (dOp (fun x y => (gEq x y).map fun b => .bool (!b)) (dOp gIx (dV 0) (dOp gAdd (dV 4) (dV 2))) (dOp gAdd (dOp gIx (dV 0) (dV 4)) (dV 3))) isB) [.sh (dI T), .sh (.int r), .sh (.int (part : Nat)), .sh (.int less), .sh (.int n)] =
            some (!decide ((T[n + part]?).getD 0 = (T[n]?).getD 0 + less), [.sh (dI T), .sh (.int r), .sh (.int (part : Nat)), .sh (.int less), .sh (.int n)]) := by
          rw [g1, g2]
          exact rThen (rOp (rOp (rV rfl) (rOp (rV rfl) (rV rfl) rfl) (ix_dI (k := n + part) (by omega) g1)) (rOp (rOp (rV rfl) (rV rfl) (ix_dI rfl g2)) (rV rfl) rfl) rfl) rfl
        exact ⟨_, rfl, fun hp => ⟨_, rIfST t2 hp (rRet rC)⟩, fun hp => ⟨_, rIfSF t2 hp rNext, _, rfl⟩⟩)
    rcases main with ⟨n, ρ', hf, hr⟩ | ⟨hf, ρ', hr, _⟩
    · obtain ⟨g1, g2, g3⟩ := find_range hf
      refine ⟨false, ?_, ?_⟩
      · apply fin (f := b__law_dl_comes)
        unfold b__law_dl_comes
        exact rSeq st1 (rSeq (rIfSF tst (by simp [c]) rNext) (rSeqR hr))
      · simp only [Bool.false_eq_true, false_iff]
        rintro ⟨_, h⟩
        have := h n (by omega)
        rw [List.getElem?_eq_getElem (by omega), List.getElem?_eq_getElem (by omega)] at g2
        simp [this] at g2
    · refine ⟨true, ?_, ?_⟩
      · apply fin (f := b__law_dl_comes)
        unfold b__law_dl_comes
        exact rSeq st1 (rSeq (rIfSF tst (by simp [c]) rNext) (rSeq hr (rRet rC)))
      · simp only [true_iff]
        refine ⟨c, fun i h => ?_⟩
        have := List.find?_eq_none.mp hf i (by simp; omega)
        rw [List.getElem?_eq_getElem (by omega), List.getElem?_eq_getElem (by omega)] at this
        simpa using this
  · refine ⟨false, ?_, ?_⟩
    · apply fin (f := b__law_dl_comes)
      unfold b__law_dl_comes
      exact rSeq st1 (rSeqR (rIfST tst (by simp [c]) (rRet rC)))
    · simp only [Bool.false_eq_true, false_iff]
      rintro ⟨h, _⟩
      exact c h
theorem comes_iff {x : Nat → Int} {e : Nat} {T : List Int} {r : Int} {part : Nat} (ht : Tell x e T.length r) (hn : T = nums x e T.length) (hp : 0 < part) (hd : T.length % part = 0) :
    (r * part / (T.length : Nat) * (T.length : Nat) = r * part ∧ ∀ (i : Nat) (h : i + part < T.length), T[i + part] = T[i] + r * part / (T.length : Nat)) ↔ ∃ less, Tell x e part less ∧ less = r * part / (T.length : Nat) := by
  have h0 := ht.pos
  have get : ∀ i (h : i < T.length), T[i] = x (e + i) := fun i hi => by
    have := Md.nums_get (x := x) (a := e) hi
    rw [← hn, List.getElem?_eq_getElem hi] at this
    exact Option.some.inj this
  have hq : T.length = part * (T.length / part) := by
    have := Nat.div_add_mod T.length part
    omega
  generalize T.length / part = q at hq
  have hq2 : ((T.length : Nat) : Int) = (part : Int) * q := by rw [hq, Int.natCast_mul]
  constructor
  · rintro ⟨h1, h2⟩
    refine ⟨_, Tell.ofParts (q := q) ht hq ?_ hp fun i hi => ?_, rfl⟩
    · generalize r * (part : Int) / ((T.length : Nat) : Int) = less at h1
      rw [hq2] at h1
      have : (less * (q : Int)) * part = r * part := by rw [← h1]; ac_rfl
      exact (Int.eq_of_mul_eq_mul_right (by omega) this).symm
    · have := h2 i hi
      rw [get, get] at this
      have e1 : e + i + part = e + (i + part) := by omega
      rw [e1]
      exact this
  · rintro ⟨less, t, el⟩
    have pr := ht.prop t
    have e2 : r * (part : Int) / ((T.length : Nat) : Int) = less := el.symm
    rw [e2]
    refine ⟨pr.symm, fun i hi => ?_⟩
    rw [get, get]
    have := t.step (e + i) (by omega)
    have e1 : e + i + part = e + (i + part) := by omega
    rw [e1] at this
    exact this
theorem tell_gain {x : Nat → Int} {e len part : Nat} {r s : Int} (ht : Tell x e len r) (t : Tell x e part s) : s = r * part / (len : Nat) := by
  have pr := ht.prop t
  have := ht.pos
  rw [pr]
  exact (Int.mul_ediv_cancel s (by omega)).symm
theorem l_least_ok {L : Lad} (h0 : L.T ≠ []) (hE : L.E.length ≤ 200000) (hT : L.T.length ≤ 200000) :
    ∃ M : Lad, m__law_dl_least [dLad L] = some (dLad M) ∧ M.Least ∧ M.at = L.at := by
  have ht := L.tell h0
  have hn := Lad.turn (L := L)
  have he := Lad.early (L := L)
  have hp0 := ht.pos
  generalize hx : L.at = x at ht hn he
  have hN : L.E ++ L.T = nums x 0 (L.E.length + L.T.length) := by
    conv => lhs; rw [he, hn]
    have := Md.nums_append (x := x) (a := 0) (m := L.E.length) (k := L.T.length)
    rw [Nat.zero_add] at this
    exact this
  have get : ∀ i, i < L.E.length + L.T.length → (L.E ++ L.T)[i]? = some (x i) := fun i hi => by
    rw [hN, Md.nums_get hi, Nat.zero_add]
  have hL : (0 : Int) < (L.T.length : Nat) := by omega
  have hL2 : ((L.T.length : Nat) : Int) < 2 ^ 200 := Int.lt_of_le_of_lt (show ((L.T.length : Nat) : Int) ≤ 400000 by omega) (by decide)
  -- the loop that finds the length
  have rng : (dThen (dCons (dOp (gI fun i j => .int (i - j)) (dThen (dCons (dV 2) dNil) gLen) (dC (.int 1))) (dCons (dC (.int 0)) (dCons (dThen (dC (.int 1)) (gU fun i => .int (-i))) dNil))) rngDown)
      [.sh (dLad L), .sh (dI L.E), .sh (dI L.T), .sh (.int L.r), .sh (.int (L.T.length : Nat)), .sh (.int (L.E.length : Nat)), .un, .un, .un] =
      some ((List.range (L.T.length - 1)).map fun k => .int ((L.T.length : Int) - 1 - (k : Nat)), [.sh (dLad L), .sh (dI L.E), .sh (dI L.T), .sh (.int L.r), .sh (.int (L.T.length : Nat)), .sh (.int (L.E.length : Nat)), .un, .un, .un]) := by
    refine rThen (rCons (rOp (rThen (rCons (rV rfl) rNil) len_dI) rC rfl) (rCons rC (rCons (rThen rC rfl) rNil))) ?_
    unfold rngDown
    simp only
    rw [if_pos ⟨trivial, by omega, by omega, by decide, by decide⟩]
    have : (((L.T.length : Nat) : Int) - 1 - 0).toNat = L.T.length - 1 := by omega
    rw [this]
  obtain ⟨ρ', w1, cur, s6, hρ, c1, c2, c3⟩ := rFor (g := gtName 6) (fb := sIf (dIf (dThen (dOp (fun x y => (gEq x y).map .bool) (dOp (gIc (fun _ j => decide (0 < j)) fun i j => .int (i % j)) (dThen (dCons (dThen (dCons (dV 2) dNil) gLen) dNil) gInt) (dV 6)) (dC (.int 0))) isB) (dThen (dThen (dCons (dV 2) (dCons (dV 3) (dCons (dV 6) dNil))) m__law_dl_comes) truth) (dC false)) (sAsg (dV 6) (gtName 4)) sNext)
    (fun k : Nat => .int ((L.T.length : Int) - 1 - (k : Nat)))
    (fun as ρ => ∃ (cur : Nat) (s6 : Sl), ρ = [.sh (dLad L), .sh (dI L.E), .sh (dI L.T), .sh (.int L.r), .sh (.int (cur : Nat)), .sh (.int (L.E.length : Nat)), s6, .un, .un] ∧ (∃ s, Tell x L.E.length cur s) ∧ cur ≤ L.T.length ∧
      (∀ k ∈ as, ∀ s, L.T.length % (L.T.length - 1 - k) = 0 → Tell x L.E.length (L.T.length - 1 - k) s → cur ≤ L.T.length - 1 - k)) rng ⟨L.T.length, .un, rfl, ⟨_, ht⟩, Nat.le_refl _, fun k hk => by cases hk⟩
    (fun as k bs ρ2 hns ⟨cur, s6, hρ, i1, i2, i3⟩ => by
      subst hρ
      have hk : k < L.T.length - 1 := by
        have : k ∈ List.range (L.T.length - 1) := by rw [hns]; simp
        simpa using this
      have ek : (L.T.length : Int) - 1 - (k : Nat) = ((L.T.length - 1 - k : Nat) : Int) := by omega
      have before : ∀ j ∈ as, j < k := fun j hj => by
        have hlt : as.Pairwise (· < ·) ∧ _ := List.pairwise_append.mp (by rw [← hns]; exact List.pairwise_lt_range)
        exact hlt.2.2 j hj k List.mem_cons_self
      rw [ek]
      generalize hpart : L.T.length - 1 - k = part
      have hp : 0 < part := by omega
      have hp2 : part < L.T.length := by omega
      obtain ⟨b, q1, q2⟩ := l_comes_ok (T := L.T) (r := L.r) hp hp2 (by omega)
      have t1 : (dThen (dOp (fun x y => (gEq x y).map .bool) (dOp (gIc (fun _ j => decide (0 < j)) fun i j => .int (i % j)) (dThen (dCons (dThen (dCons (dV 2) dNil) gLen) dNil) gInt) (dV 6)) (dC (.int 0))) isB) [.sh (dLad L), .sh (dI L.E), .sh (dI L.T), .sh (.int L.r), .sh (.int (cur : Nat)), .sh (.int (L.E.length : Nat)), .sh (.int part), .un, .un] =
          some (decide (((L.T.length : Nat) : Int) % (part : Int) = 0), [.sh (dLad L), .sh (dI L.E), .sh (dI L.T), .sh (.int L.r), .sh (.int (cur : Nat)), .sh (.int (L.E.length : Nat)), .sh (.int part), .un, .un]) :=
        rThen (rOp (rOp (rThen (rCons (rThen (rCons (rV rfl) rNil) len_dI) rNil) rfl) (rV rfl) (mod_ok (by omega))) rC rfl) rfl
      have em : (((L.T.length : Nat) : Int) % (part : Int) = 0) ↔ L.T.length % part = 0 := by omega
      refine ⟨[.sh (dLad L), .sh (dI L.E), .sh (dI L.T), .sh (.int L.r), .sh (.int (cur : Nat)), .sh (.int (L.E.length : Nat)), .sh (.int part), .un, .un], ?_⟩
      have tst := rAnd (fu := dThen (dThen (dCons (dV 2) (dCons (dV 3) (dCons (dV 6) dNil))) m__law_dl_comes) truth) (c := b) t1 (fun _ => rThen (rThen (rCons (rV rfl) (rCons (rV rfl) (rCons (rV rfl) rNil))) q1) rfl)
      by_cases c : (decide (((L.T.length : Nat) : Int) % (part : Int) = 0) && b) = true
      · simp only [Bool.and_eq_true, decide_eq_true_eq] at c
        obtain ⟨d1, d2⟩ := c
        have d3 := em.mp d1
        obtain ⟨less, tl, _⟩ := (comes_iff ht hn hp d3).mp (q2.mp d2)
        refine ⟨_, rfl, rIfST tst (by simp [d1, d2]) (rAsgE (rV rfl) rfl (by simp)), part, .sh (.int part), rfl, ⟨_, tl⟩, by omega, fun j hj s g1 g2 => ?_⟩
        rcases List.mem_append.mp hj with hj | hj
        · have := before j hj
          omega
        · have := List.mem_singleton.mp hj
          subst this
          omega
      · refine ⟨_, rfl, rIfSF tst (by simpa using c) rNext, cur, .sh (.int part), rfl, i1, i2, fun j hj s g1 g2 => ?_⟩
        rcases List.mem_append.mp hj with hj | hj
        · exact i3 j hj s g1 g2
        · have := List.mem_singleton.mp hj
          subst this
          rw [hpart] at g1 g2 ⊢
          exfalso
          apply c
          simp only [Bool.and_eq_true, decide_eq_true_eq]
          exact ⟨em.mpr g1, q2.mpr ((comes_iff ht hn hp g1).mpr ⟨s, g2, tell_gain ht g2⟩)⟩)
  subst hρ
  obtain ⟨s, t1⟩ := c1
  have hcp := t1.pos
  have hg := tell_gain ht t1
  have rd : Round x cur := by
    obtain ⟨p, R⟩ := Md.exists_round _ _ _ _ ht (Nat.le_refl _)
    have d := R.dvd ht
    obtain ⟨⟨e0, s0, h0'⟩, least⟩ := id R
    have l1 := least _ _ _ t1
    have hpp := h0'.pos
    have tp := ht.mix h0'
    have le := Nat.le_of_dvd hp0 d
    by_cases z : p = L.T.length
    · have : cur = p := by omega
      rw [this]; exact R
    · have l2 := c3 (L.T.length - 1 - p) (by simp; omega) s0 (by
        have e : L.T.length - 1 - (L.T.length - 1 - p) = p := by omega
        rw [e]
        exact Nat.mod_eq_zero_of_dvd d) (by
        have e : L.T.length - 1 - (L.T.length - 1 - p) = p := by omega
        rw [e]
        exact tp)
      have : cur = p := by omega
      rw [this]; exact R
  -- the loop that finds the beginning
  let R : Nat → Rho := fun b => [.sh (dLad L), .sh (dI L.E), .sh (dI L.T), .sh (.int L.r), .sh (.int (cur : Nat)), .sh (.int (b : Nat)), s6, .sh (.int s), .sh (dI (L.E ++ L.T))]
  obtain ⟨b, v1, ⟨v2, v3⟩, v4⟩ := rWhile (ft := dIf (dThen (dOp (gI fun i j => .bool (decide (j < i))) (dV 5) (dC (.int 0))) isB) (dThen (dOp (fun x y => (gEq x y).map .bool) (dOp gAdd (dOp gIx (dV 8) (dOp (gI fun i j => .int (i - j)) (dV 5) (dC (.int 1)))) (dV 7)) (dOp gIx (dV 8) (dOp gAdd (dOp (gI fun i j => .int (i - j)) (dV 5) (dC (.int 1))) (dV 4)))) isB) (dC false))
    (fb := sAsg (dOp (gI fun i j => .int (i - j)) (dV 5) (dC (.int 1))) (gtName 5)) R (fun b => b ≤ L.E.length ∧ Tell x b cur s) (fun b => b) (bstep x cur s) (fun b => b - 1)
    (fun b hI => by
      by_cases z : 0 < b
      · have c1 : ((b : Nat) : Int) - 1 = ((b - 1 : Nat) : Int) := by omega
        refine rIfT (b := decide ((0 : Int) < (b : Nat))) (ρ1 := R b) (rThen (rOp (rV rfl) rC rfl) rfl) (by simpa using z) ?_
        have : bstep x cur s b = decide (x (b - 1) + s = x (b - 1 + cur)) := by simp [bstep, z]
        rw [this]
        refine rThen (rOp (x := .int (x (b - 1) + s)) (y := .int (x (b - 1 + cur))) (ρ1 := R b) (ρ2 := R b) (z := .bool (decide (x (b - 1) + s = x (b - 1 + cur)))) ?_ ?_ rfl) rfl
        · exact rOp (rOp (rV rfl) (rOp (rV rfl) rC rfl) (ix_dI c1 (get (b - 1) (by omega)))) (rV rfl) rfl
        · exact rOp (rV rfl) (rOp (rOp (rV rfl) rC rfl) (rV rfl) rfl) (ix_dI (k := b - 1 + cur) (by omega) (get (b - 1 + cur) (by omega)))
      · have : bstep x cur s b = false := by simp [bstep, z]
        rw [this]
        exact rIfF (b := decide ((0 : Int) < (b : Nat))) (ρ1 := R b) (rThen (rOp (rV rfl) rC rfl) rfl) (by simpa using z) rfl)
    (fun b hI hb => by
      have z : 0 < b := by
        unfold bstep at hb
        simp only [Bool.and_eq_true, decide_eq_true_eq] at hb
        exact hb.1
      refine ⟨?_, ⟨by omega, tell_less hI.2 hb⟩, by omega⟩
      have c1 : ((b : Nat) : Int) - 1 = ((b - 1 : Nat) : Int) := by omega
      show _ = some (Fl.nx [.sh (dLad L), .sh (dI L.E), .sh (dI L.T), .sh (.int L.r), .sh (.int (cur : Nat)), .sh (.int ((b - 1 : Nat) : Int)), s6, .sh (.int s), .sh (dI (L.E ++ L.T))])
      rw [← c1]
      exact rAsgE (rOp (rV rfl) rC rfl) rfl (by simp [R]))
    L.E.length L.E.length ⟨Nat.le_refl _, t1⟩ (Nat.le_refl _)
  refine ⟨ladOf x b cur s, ?_, Md.least_of v3 rd (begin_of v3 v4), Md.ladOf_at v3⟩
  have k1 : (L.E ++ L.T).take b = nums x 0 b := by rw [hN]; exact Md.nums_take (by omega)
  have k2 : ((L.E ++ L.T).drop b).take cur = nums x b cur := by
    rw [hN, Md.nums_drop, Nat.zero_add]
    exact Md.nums_take (by omega)
  apply fin (f := b__law_dl_least)
  unfold b__law_dl_least
  refine' rSeq (ρ1 := [.sh (dLad L), .sh (dI L.E), .sh (dI L.T), .sh (.int L.r), .un, .un, .un, .un, .un]) ?u1 (rSeq (ρ1 := [.sh (dLad L), .sh (dI L.E), .sh (dI L.T), .sh (.int L.r), .sh (.int (L.T.length : Nat)), .sh (.int (L.E.length : Nat)), .un, .un, .un]) ?u2
    (rSeq w1 (rSeq (ρ1 := R L.E.length) ?u3 (rSeq v1 (rRet ?u4)))))
  case u1 => walk_at "run"
  case u2 => walk_at "run"
  case u3 =>
    rw [show R L.E.length = [.sh (dLad L), .sh (dI L.E), .sh (dI L.T), .sh (.int L.r), .sh (.int (cur : Nat)), .sh (.int (L.E.length : Nat)), s6, .sh (.int s), .sh (dI (L.E ++ L.T))] from rfl, hg]
    exact rParE (rCons (rOp (rThen (rCons (rOp (rV rfl) (rV rfl) (mul_ok (.inr (by omega)))) rNil) rfl) (rThen (rCons (rV rfl) rNil) len_dI) (div_ok hL hL2)) (rCons (rOp (rV rfl) (rV rfl) (cat_dI (by omega))) rNil)) rfl (by simp) (by simp)
  case u4 =>
    refine' rThen (rCons (rThen (rPair (rV rfl) (rPair rC (rPart (rV rfl)))) (sl_to rfl)) (rCons (rThen (rPair (rV rfl) (rPair (rPart (rV rfl)) (rPart (rOp (rV rfl) (rV rfl) rfl)))) (sl_mid (a := b) (b := cur) rfl ?v1 ?v2)) (rCons (rV rfl) rNil))) ?v3
    case v1 => omega
    case v2 => rw [List.length_append]; omega
    case v3 =>
      rw [k1, k2]
      exact few_map (by simp)

end Pg

set_option Elab.async false
set_option linter.all false
set_option maxRecDepth 100000
set_option maxHeartbeats 1000000
namespace Pg
open PySem PySem.Spec PyProof.Rows L2 Ly
local macro_rules | `(tactic| walk_at "run") => `(tactic| first
  | with_reducible exact rC
  | with_reducible exact rNil
  | with_reducible exact rNext
  | with_reducible exact rGN
  | ((with_reducible refine' rV ?m1); (case' m1 => rfl))
  | with_reducible assumption
  | ((with_reducible refine' rCons ?m1 ?m2); (case' m1 => walk_at "run"); (case' m2 => walk_at "run"))
  | ((with_reducible refine' rOp ?m1 ?m2 ?m3); (case' m1 => walk_at "run"); (case' m2 => walk_at "run"); (case' m3 => walk_at "run"))
  | ((with_reducible refine' rNot ?m1); (case' m1 => walk_at "run"))
  | ((with_reducible refine' rB ?m1); (case' m1 => walk_at "run"))
  | ((with_reducible refine' rPart ?m1); (case' m1 => walk_at "run"))
  | ((with_reducible refine' rThen ?m1 ?m2); (case' m1 => walk_at "run"); (case' m2 => walk_at "run"))
  | ((with_reducible refine' rPair ?m1 ?m2); (case' m1 => walk_at "run"); (case' m2 => walk_at "run"))
  | ((with_reducible refine' rSeq ?m1 ?m2); (case' m1 => walk_at "run"); (case' m2 => walk_at "run"))
  | ((with_reducible refine' rRet ?m1); (case' m1 => walk_at "run"))
  | ((with_reducible refine' rAsgE ?m1 ?m2 ?m3); (case' m1 => walk_at "run"); (case' m2 => rfl); (case' m3 => (simp [rho0])))
  | ((with_reducible refine' rAsg ?m1 ?m2); (case' m1 => walk_at "run"); (case' m2 => walk_at "run"))
  | ((with_reducible refine' rDrop ?m1); (case' m1 => walk_at "run"))
  | ((with_reducible refine' rNameE ?m1 ?m2); (case' m1 => rfl); (case' m2 => (simp [rho0, unset])))
  | ((with_reducible refine' rTup ?m1 ?m2); (case' m1 => rfl); (case' m2 => walk_at "run"))
  | ((with_reducible refine' rGC ?m1 ?m2); (case' m1 => walk_at "run"); (case' m2 => walk_at "run"))
  | ((with_reducible refine' rParE ?m1 ?m2 ?m3 ?m4); (case' m1 => walk_at "run"); (case' m2 => rfl); (case' m3 => (simp [rho0])); (case' m4 => (simp [rho0])))
  | ((with_reducible refine' rAugE ?m1 ?m2 ?m3); (case' m1 => rfl); (case' m2 => walk_at "run"); (case' m3 => rfl))
  | ((with_reducible refine' rIxO ?m1 ?m2 ?m3 ?m4); (case' m1 => rfl); (case' m2 => walk_at "run"); (case' m3 => rfl); (case' m4 => walk_at "run"))
  | ((with_reducible refine' rSlO ?m1 ?m2 ?m3); (case' m1 => rfl); (case' m2 => walk_at "run"); (case' m3 => rfl))
  | ((with_reducible refine' rFrz ?m1); (case' m1 => rfl))
  | ((with_reducible refine' rCallOE ?m1 ?m2 ?m3 ?m4 ?m5); (case' m1 => rfl); (case' m2 => walk_at "run"); (case' m3 => rfl); (case' m4 => walk_at "run"); (case' m5 => rfl))
  | with_reducible exact len_dI
  | with_reducible exact disp1
  | with_reducible exact truth_dI
  | with_reducible exact flat_dI
  | ((with_reducible refine' cat_lit1 ?m1); (case' m1 => ((try simp only [List.length_append, List.length_cons, List.length_nil]) <;> omega)))
  | ((with_reducible refine' cat_lit2 ?m1); (case' m1 => ((try simp only [List.length_append, List.length_cons, List.length_nil]) <;> omega)))
  | ((with_reducible refine' cat_dI ?m1); (case' m1 => ((try simp only [List.length_append, List.length_cons, List.length_nil]) <;> omega)))
  | rfl
  | skip)
open Md (Tell Round Begin nums Lad ladOf SetV bits nthL Days firstOf)
/-! ### draws -/
theorem _root_.Ly.SackD.mono {b c : Nat} {ds : List D} (h : SackD b ds) (l : b ≤ c) : SackD c ds := by
  obtain ⟨s0, s1, s2, e, h0, h1, h2, h3, h4⟩ := h
  exact ⟨s0, s1, s2, e, h0, h1, h2, h3, by omega⟩
theorem pow_ok {i : Int} {k n : Nat} (h : i.natAbs < 2 ^ n) (h0 : 0 < n) (hk : (n + 1) * k ≤ 134217728) : gIc cPow (fun i j => .int (i ^ j.toNat)) (.int i) (.int (k : Nat)) = some (.int (i ^ k)) := by
  have p := powC_of h h0 hk
  rw [gIc_ok (c := cPow) (decide_eq_true p)]
  simp
theorem pick_ok {b : Nat} {ds : List D} {m : Int} (h : SackD b ds) (hb : b ≤ 2 ^ 90) (m0 : 0 < m) (m1 : m < 2 ^ 200) :
    ∃ n es, m__law_dl_pick ds [.int m] = some (.int n, es) ∧ SackD (b + 1) es ∧ 0 ≤ n ∧ n < m := by
  obtain ⟨s0, s1, s2, rfl, h0, h1, h2, h3, h4⟩ := h
  have e90 : (2 : Nat) ^ 90 = 1237940039285380274899124224 := by decide
  have e120 : (2 : Int) ^ 120 = 1329227995784915872903807060280344576 := by decide
  have e140 : (2 : Nat) ^ 140 = 1393796574908163946345982392040522594123776 := by decide
  rw [e90] at hb
  rw [e120] at h2
  have tst : (dThen (dOp (gI fun i j => .bool (decide (j < i))) (dIxO 0 (dC (.int 0))) (dC (.int 1))) isB) [.ow true [.int s0, .int s1, .int s2], .sh (.int m), .un, .un] =
      some (decide (1 < s0), [.ow true [.int s0, .int s1, .int s2], .sh (.int m), .un, .un]) := rThen (rOp (rIxO rfl rC rfl rfl) rC rfl) rfl
  by_cases c : 1 < s0
  · refine ⟨s0 % m, [.int (s0 / m), .int s1, .int s2], ?_, ⟨s0 / m, s1, s2, rfl, Int.ediv_nonneg h0 (by omega), h1, by rw [e120]; exact h2, h3, by omega⟩, Int.emod_nonneg _ (by omega), Int.emod_lt_of_pos _ m0⟩
    refine finO (f := b__law_dl_pick) (ρ := [.ow true [.int (s0 / m), .int s1, .int s2], .sh (.int m), .sh (.int (s0 % m)), .un]) ?_ rfl
    unfold b__law_dl_pick
    exact rSeqR (rIfST tst (decide_eq_true c) (rSeq (rAsgE (rOp (rThen (rCons (rIxO rfl rC rfl rfl) rNil) rfl) (rV rfl) (mod_ok m0)) rfl (by simp)) (rSeq (rPutO (rOp (rIxO rfl rC rfl rfl) (rV rfl) (div_ok m0 m1)) rfl rC rfl rfl) (rRet (rV rfl)))))
  · generalize hv : s2 + 1 = v
    have a1 : (s1 + 1500450271 * v).natAbs < 2 ^ 140 := by rw [e140]; omega
    have b1 : -(2 ^ 64 : Int) < 1500450271 ∧ (1500450271 : Int) < 2 ^ 64 := by decide
    have b2 : -(2 ^ 64 : Int) < 32416190071 ∧ (32416190071 : Int) < 2 ^ 64 := by decide
    have p1 : (0 : Int) < 10 ^ 40 + 121 := by decide
    have p2 : (0 : Int) < 10 ^ 36 + 67 := by decide
    have p3 : (10 ^ 40 + 121 : Int) = 10000000000000000000000000000000000000121 := by decide
    generalize hw1 : (s1 + 1500450271 * v) ^ 3 % (10 ^ 40 + 121) = w1
    have w10 : 0 ≤ w1 := by rw [← hw1]; exact Int.emod_nonneg _ (by decide)
    have w11 : w1 < 10 ^ 40 + 121 := by rw [← hw1]; exact Int.emod_lt_of_pos _ p1
    rw [p3] at w11
    have a2 : (w1 + 32416190071 * v).natAbs < 2 ^ 140 := by rw [e140]; omega
    generalize hw2 : (w1 + 32416190071 * v) ^ 2 % (10 ^ 36 + 67) = w2
    refine ⟨w2 / 4096 % m, [.int s0, .int s1, .int v], ?_, ⟨s0, s1, v, rfl, h0, h1, by rw [e120]; exact h2, by omega, by omega⟩, Int.emod_nonneg _ (by omega), Int.emod_lt_of_pos _ m0⟩
    refine finO (f := b__law_dl_pick) (ρ := [.ow true [.int s0, .int s1, .int v], .sh (.int m), .un, .sh (.int w2)]) ?_ rfl
    unfold b__law_dl_pick
    have q1 : sPutO 0 (dOp gAdd (dIxO 0 (dC (.int 2))) (dC (.int 1))) (dC (.int 2)) [.ow true [.int s0, .int s1, .int s2], .sh (.int m), .un, .un] = some (.nx [.ow true [.int s0, .int s1, .int v], .sh (.int m), .un, .un]) := by
      rw [← hv]
      exact rPutO (ρ1 := [.ow true [.int s0, .int s1, .int s2], .sh (.int m), .un, .un]) (ρ2 := [.ow true [.int s0, .int s1, .int s2], .sh (.int m), .un, .un]) (x := .int (s2 + 1)) (j := 2) (k := 2) (xs := [.int s0, .int s1, .int s2]) (ys := [.int s0, .int s1, .int s2]) (b := true) (c := true) (rOp (rIxO rfl rC rfl rfl) rC rfl) rfl rC rfl rfl
    have q2 : sAsg (dOp (gIc (fun _ j => decide (0 < j)) fun i j => .int (i % j)) (dOp (gIc cPow fun i j => .int (i ^ j.toNat)) (dThen (dCons (dOp gAdd (dIxO 0 (dC (.int 1))) (dOp gMul (dC (.int 1500450271)) (dIxO 0 (dC (.int 2))))) dNil) gInt) (dC (.int 3))) (dOp gAdd (dOp (gIc cPow fun i j => .int (i ^ j.toNat)) (dC (.int 10)) (dC (.int 40))) (dC (.int 121)))) (gtName 3)
        [.ow true [.int s0, .int s1, .int v], .sh (.int m), .un, .un] = some (.nx [.ow true [.int s0, .int s1, .int v], .sh (.int m), .un, .sh (.int w1)]) := by
      rw [← hw1]
      exact rAsgE (rOp (rOp (rThen (rCons (rOp (rIxO rfl rC rfl rfl) (rOp rC (rIxO rfl rC rfl rfl) (mul_ok (.inl b1))) rfl) rNil) rfl) rC (pow_ok (k := 3) a1 (by decide) (by decide))) (rOp (rOp rC rC (pow_ok (i := 10) (k := 40) (n := 4) (by decide) (by decide) (by decide))) rC rfl) (mod_ok p1)) rfl (by simp)
    have q3 : sAsg (dOp (gIc (fun _ j => decide (0 < j)) fun i j => .int (i % j)) (dOp (gIc cPow fun i j => .int (i ^ j.toNat)) (dThen (dCons (dOp gAdd (dV 3) (dOp gMul (dC (.int 32416190071)) (dIxO 0 (dC (.int 2))))) dNil) gInt) (dC (.int 2))) (dOp gAdd (dOp (gIc cPow fun i j => .int (i ^ j.toNat)) (dC (.int 10)) (dC (.int 36))) (dC (.int 67)))) (gtName 3)
        [.ow true [.int s0, .int s1, .int v], .sh (.int m), .un, .sh (.int w1)] = some (.nx [.ow true [.int s0, .int s1, .int v], .sh (.int m), .un, .sh (.int w2)]) := by
      rw [← hw2]
      exact rAsgE (rOp (rOp (rThen (rCons (rOp (rV rfl) (rOp rC (rIxO rfl rC rfl rfl) (mul_ok (.inl b2))) rfl) rNil) rfl) rC (pow_ok (k := 2) a2 (by decide) (by decide))) (rOp (rOp rC rC (pow_ok (i := 10) (k := 36) (n := 4) (by decide) (by decide) (by decide))) rC rfl) (mod_ok p2)) rfl (by simp)
    exact rSeq (rIfSF tst (decide_eq_false c) rNext) (rSeq q1 (rSeq q2 (rSeq q3 (rRet (rOp (rThen (rCons (rOp (rV rfl) rC (div_ok (by decide) (by decide))) rNil) rfl) (rV rfl) (mod_ok m0))))))
/-- a draw from a slot -/
theorem rPick {ρ : Rho} {b : Nat} {ds : List D} {m : Int} {fs : Den (List D)} (h0 : ρ[0]? = some (.ow true ds)) (h : fs ρ = some ([.int m], ρ)) (hs : SackD b ds) (hb : b ≤ 2 ^ 90) (m0 : 0 < m) (m1 : m < 2 ^ 200) :
    ∃ n es, dCallO 0 fs m__law_dl_pick ρ = some (.int n, ρ.set 0 (.ow true es)) ∧ SackD (b + 1) es ∧ 0 ≤ n ∧ n < m := by
  obtain ⟨n, es, e1, e2, e3⟩ := pick_ok hs hb m0 m1
  exact ⟨n, es, rCallO h0 h h0 e1, e2, e3⟩
theorem ix_in {xs : List Int} {n : Int} (h0 : 0 ≤ n) (h1 : n < xs.length) : ∃ w, w ∈ xs ∧ gIx (dI xs) (.int n) = some (.int w) := by
  have hk : n.toNat < xs.length := by omega
  exact ⟨xs[n.toNat], List.getElem_mem hk, ix_dI (k := n.toNat) (by omega) (List.getElem?_eq_getElem hk)⟩
theorem range_map {m : Nat} : (List.range m).map (fun k => PyData.int (k : Nat)) = ((List.range m).map fun k : Nat => (k : Int)).map PyData.int := by simp
/-! comprehensions that draw -/
theorem compL_draw {ι : Type} {vs : List Nat} {g : D → Rho → Option Rho} {ft : Den Bool} {fe : Den D} (c : ι → D) (h : ι → D) (J : Nat → Rho → Prop) :
    ∀ (ns : List ι) (k : Nat) (ρ' : Rho), J k (unset ρ' vs) → (∀ n ∈ ns, ∀ j ρ1, j < k + ns.length → J j ρ1 → ∃ ρ2 b ρ3, g (c n) ρ1 = some ρ2 ∧ ft ρ2 = some (b, ρ3) ∧ J (j + 1) (unset ρ3 vs) ∧ (b = true → fe ρ3 = some (h n, ρ3))) →
      ∃ (ys : List ι) (ρe : Rho), compL vs g ft fe (ns.map c) ρ' = some (ys.map h, ρe) ∧ ys.Sublist ns ∧ J (k + ns.length) (unset ρe vs)
  | [], k, ρ', hj, _ => ⟨[], ρ', rfl, .slnil, hj⟩
  | n :: ns, k, ρ', hj, st => by
    obtain ⟨ρ2, b, ρ3, a1, a2, a3, a4⟩ := st n List.mem_cons_self k _ (by simp) hj
    obtain ⟨ys, ρe, b1, b2, b3⟩ := compL_draw c h J ns (k + 1) ρ3 a3 fun m hm j ρ1 hjl => st m (List.mem_cons_of_mem _ hm) j ρ1 (by simp at hjl ⊢; omega)
    have ek : k + 1 + ns.length = k + (n :: ns).length := by simp; omega
    rw [ek] at b3
    cases b with
    | true =>
      refine ⟨n :: ys, ρe, ?_, b2.cons_cons n, b3⟩
      rw [List.map_cons, compL, a1]
      simp [a2, a4 rfl, b1]
    | false =>
      refine ⟨ys, ρe, ?_, b2.cons n, b3⟩
      rw [List.map_cons, compL, a1]
      simp [a2, b1]
theorem back_unset {ρ0 ρe : Rho} {vs : List Nat} (hl : ρ0.length = ρe.length) : back ρ0 (unset ρe vs) vs = back ρ0 ρe vs := by
  apply List.ext_getElem?
  intro i
  rw [back_get (by rw [unset_length]; exact hl), back_get hl]
  by_cases z : i ∈ vs
  · rw [if_pos z, if_pos z]
  · rw [if_neg z, if_neg z, unset_get, if_neg z]
theorem rCompDraw {ι : Type} {ρ ρ1 : Rho} {fi : Den (List D)} {vs : List Nat} {g : D → Rho → Option Rho} {ft : Den Bool} {fe : Den D} (c : ι → D) (h : ι → D) (J : Nat → Rho → Prop) {ns : List ι} (hi : fi ρ = some (ns.map c, ρ1)) (hno : noOw ρ1 vs = true) (h0 : J 0 (unset ρ1 vs)) (hJ : ∀ k ρ, J k ρ → ρ.length = ρ1.length)
    (st : ∀ n ∈ ns, ∀ j ρ1, j < ns.length → J j ρ1 → ∃ ρ2 b ρ3, g (c n) ρ1 = some ρ2 ∧ ft ρ2 = some (b, ρ3) ∧ J (j + 1) (unset ρ3 vs) ∧ (b = true → fe ρ3 = some (h n, ρ3))) (hl : ns.length ≤ 1000000) :
    ∃ (ys : List ι) (ρu : Rho), dComp fi vs g ft fe ρ = some (.list (ys.map h), back ρ1 ρu vs) ∧ ys.Sublist ns ∧ J ns.length ρu := by
  obtain ⟨ys, ρe, e1, e2, e3⟩ := compL_draw (vs := vs) (g := g) (ft := ft) (fe := fe) c h J ns 0 ρ1 h0 (fun n hn j ρ1 hj => st n hn j ρ1 (by omega))
  rw [Nat.zero_add] at e3
  refine ⟨ys, unset ρe vs, ?_, e2, e3⟩
  have hle : ρ1.length = ρe.length := by
    have := hJ _ _ e3
    rw [unset_length] at this
    exact this.symm
  rw [back_unset hle]
  unfold dComp
  rw [hi]
  simp only [Option.bind_some]
  rw [if_pos hno, e1]
  simp only [Option.bind_some]
  have hl2 : (ys.map h).length ≤ 1000000 := by
    rw [List.length_map]
    exact Nat.le_trans e2.length_le hl
  rw [few_ok hl2]
  rfl

end Pg

set_option Elab.async false
set_option linter.all false
set_option maxRecDepth 100000
set_option maxHeartbeats 1000000
namespace Pg
open PySem PySem.Spec PyProof.Rows L2 Ly
local macro_rules | `(tactic| walk_at "run") => `(tactic| first
  | with_reducible exact rC
  | with_reducible exact rNil
  | with_reducible exact rNext
  | with_reducible exact rGN
  | ((with_reducible refine' rV ?m1); (case' m1 => rfl))
  | with_reducible assumption
  | ((with_reducible refine' rCons ?m1 ?m2); (case' m1 => walk_at "run"); (case' m2 => walk_at "run"))
  | ((with_reducible refine' rOp ?m1 ?m2 ?m3); (case' m1 => walk_at "run"); (case' m2 => walk_at "run"); (case' m3 => walk_at "run"))
  | ((with_reducible refine' rNot ?m1); (case' m1 => walk_at "run"))
  | ((with_reducible refine' rB ?m1); (case' m1 => walk_at "run"))
  | ((with_reducible refine' rPart ?m1); (case' m1 => walk_at "run"))
  | ((with_reducible refine' rThen ?m1 ?m2); (case' m1 => walk_at "run"); (case' m2 => walk_at "run"))
  | ((with_reducible refine' rPair ?m1 ?m2); (case' m1 => walk_at "run"); (case' m2 => walk_at "run"))
  | ((with_reducible refine' rSeq ?m1 ?m2); (case' m1 => walk_at "run"); (case' m2 => walk_at "run"))
  | ((with_reducible refine' rRet ?m1); (case' m1 => walk_at "run"))
  | ((with_reducible refine' rAsgE ?m1 ?m2 ?m3); (case' m1 => walk_at "run"); (case' m2 => rfl); (case' m3 => (simp [rho0])))
  | ((with_reducible refine' rAsg ?m1 ?m2); (case' m1 => walk_at "run"); (case' m2 => walk_at "run"))
  | ((with_reducible refine' rDrop ?m1); (case' m1 => walk_at "run"))
  | ((with_reducible refine' rNameE ?m1 ?m2); (case' m1 => rfl); (case' m2 => (simp [rho0, unset])))
  | ((with_reducible refine' rTup ?m1 ?m2); (case' m1 => rfl); (case' m2 => walk_at "run"))
  | ((with_reducible refine' rGC ?m1 ?m2); (case' m1 => walk_at "run"); (case' m2 => walk_at "run"))
  | ((with_reducible refine' rParE ?m1 ?m2 ?m3 ?m4); (case' m1 => walk_at "run"); (case' m2 => rfl); (case' m3 => (simp [rho0])); (case' m4 => (simp [rho0])))
  | ((with_reducible refine' rAugE ?m1 ?m2 ?m3); (case' m1 => rfl); (case' m2 => walk_at "run"); (case' m3 => rfl))
  | ((with_reducible refine' rIxO ?m1 ?m2 ?m3 ?m4); (case' m1 => rfl); (case' m2 => walk_at "run"); (case' m3 => rfl); (case' m4 => walk_at "run"))
  | ((with_reducible refine' rSlO ?m1 ?m2 ?m3); (case' m1 => rfl); (case' m2 => walk_at "run"); (case' m3 => rfl))
  | ((with_reducible refine' rFrz ?m1); (case' m1 => rfl))
  | ((with_reducible refine' rCallOE ?m1 ?m2 ?m3 ?m4 ?m5); (case' m1 => rfl); (case' m2 => walk_at "run"); (case' m3 => rfl); (case' m4 => walk_at "run"); (case' m5 => rfl))
  | with_reducible exact len_dI
  | with_reducible exact disp1
  | with_reducible exact truth_dI
  | with_reducible exact flat_dI
  | ((with_reducible refine' cat_lit1 ?m1); (case' m1 => ((try simp only [List.length_append, List.length_cons, List.length_nil]) <;> omega)))
  | ((with_reducible refine' cat_lit2 ?m1); (case' m1 => ((try simp only [List.length_append, List.length_cons, List.length_nil]) <;> omega)))
  | ((with_reducible refine' cat_dI ?m1); (case' m1 => ((try simp only [List.length_append, List.length_cons, List.length_nil]) <;> omega)))
  | rfl
  | skip)
open Md (Tell Round Begin nums Lad ladOf SetV bits nthL Days firstOf)
abbrev menu : List Int := [6, 4, 3, 2, 1, 5, 12, 8, 9, 7, 10, 11, 13, 17, 25, 31, 34, 49, 53, 59, 60]
theorem l_length_ok {b : Nat} {ds : List D} {most : Int} (h : SackD b ds) (hb : b ≤ 2 ^ 80) (h1 : 1 ≤ most) : ∃ (n : Int) (es : List D), m__law_dl_length ds [.int most] = some (.int n, es) ∧ SackD (b + 1) es ∧ 1 ≤ n ∧ n ≤ most ∧ n ≤ 60 := by
  generalize hM : menu.filter (fun n => decide (n ≤ most)) = M
  have in1 : (1 : Int) ∈ M := by
    rw [← hM, List.mem_filter]
    exact ⟨by decide, by simpa using h1⟩
  have hlen : 0 < M.length := List.length_pos_of_mem in1
  have hlen2 : M.length ≤ 21 := by rw [← hM]; exact Nat.le_trans (List.length_filter_le _ _) (by decide)
  obtain ⟨n, es, e1, e2, e3, e4⟩ := pick_ok (m := (M.length : Int)) h (Nat.le_trans hb (by decide)) (by omega) (Int.lt_of_le_of_lt (show (M.length : Int) ≤ 21 by omega) (by decide))
  obtain ⟨w, w1, w2⟩ := ix_in (xs := M) e3 (by omega)
  have w3 : w ∈ menu ∧ w ≤ most := by
    rw [← hM, List.mem_filter] at w1
    exact ⟨w1.1, by simpa using w1.2⟩
  have w4 : ∀ v ∈ menu, 1 ≤ v ∧ v ≤ 60 := by decide
  have w5 := w4 w w3.1
  refine ⟨w, es, ?_, e2, w5.1, w3.2, w5.2⟩
  refine finO (f := b__law_dl_length) (ρ := [.ow true es, .sh (.int most), .sh (dI M), .un]) ?_ rfl
  unfold b__law_dl_length
  refine' rSeq (ρ1 := [.ow true ds, .sh (.int most), .sh (dI menu), .un]) ?u1 (rSeq (ρ1 := [.ow true ds, .sh (.int most), .sh (dI M), .un]) ?u2 (rRet ?u3))
  case u1 =>
    refine rAsgE (d := dI menu) (ρ1 := [.ow true ds, .sh (.int most), .un, .un]) (rThen (x := menu.map .int) ?_ (few_map (by decide))) rfl (by simp)
    walk_at "run"
  case u2 =>
    refine rAsgE (d := dI M) (ρ1 := [.ow true ds, .sh (.int most), .sh (dI menu), .un]) ?_ rfl (by simp)
    rw [← hM]
    exact rComp1 PyData.int (fun n => decide (n ≤ most)) PyData.int (rThen (rV rfl) rfl) rfl (fun _ => rfl) (by simp) (fun n _ => by exact rThen (rOp (rV rfl) (rV rfl) rfl) rfl) (fun n _ _ => by exact rV rfl) (by decide)
  case u3 => exact rOp (rV rfl) (rCallOE rfl (rCons (rThen (rCons (rV rfl) rNil) len_dI) rNil) rfl e1 rfl) w2
theorem sub_days {ys : List Nat} {m : Nat} (h : ys.Sublist (List.range m)) : (ys.map fun k : Nat => (k : Int)).Pairwise (· < ·) ∧ ∀ x ∈ ys.map fun k : Nat => (k : Int), 0 ≤ x ∧ x < m := by
  constructor
  · rw [List.pairwise_map]
    exact List.Pairwise.imp (R := (· < ·)) (fun {x y} h => by omega) (List.Pairwise.sublist h List.pairwise_lt_range)
  · intro x hx
    obtain ⟨k, hk, rfl⟩ := List.mem_map.mp hx
    have := List.mem_range.mp (h.subset hk)
    omega
theorem l_set_ok {b : Nat} {ds : List D} {most : Int} (h : SackD b ds) (hb : b ≤ 2 ^ 70) (h1 : 1 ≤ most) :
    ∃ (E F : List Int) (f l : Nat) (es : List D), m__law_dl_set ds [.int most] = some (dSet E f l F, es) ∧ SetV E f l F ∧ f ≤ 8 ∧ (l : Int) ≤ most ∧ l ≤ 60 ∧ SackD (b + 100) es := by
  have hb' : b + 100 ≤ 2 ^ 80 := Nat.le_trans (Nat.add_le_add_right hb 100) (by decide)
  have e80 : (2 : Nat) ^ 80 ≤ 2 ^ 90 := by decide
  obtain ⟨n0, d1, p0, s1, a0, a1⟩ := pick_ok (m := 3) h (by omega) (by decide) (by decide)
  obtain ⟨w, w1, w2⟩ := ix_in (xs := [1, 4, 9]) a0 (by simpa using a1)
  have w3 : 1 ≤ w ∧ w ≤ 9 := (show ∀ v ∈ ([1, 4, 9] : List Int), 1 ≤ v ∧ v ≤ 9 by decide) w w1
  obtain ⟨n1, d2, p1, s2, b0, b1⟩ := pick_ok (m := w) s1 (by omega) (by omega) (Int.lt_of_le_of_lt w3.2 (by decide))
  obtain ⟨n2, d3, p2, s3, c0, c1, c2⟩ := l_length_ok (most := most) s2 (by omega) h1
  obtain ⟨n3, d4, p3, s4, g0, g1⟩ := pick_ok (m := 4) s3 (by omega) (by decide) (by decide)
  obtain ⟨f, rfl⟩ : ∃ f : Nat, n1 = f := ⟨n1.toNat, by omega⟩
  obtain ⟨l, rfl⟩ : ∃ l : Nat, n2 = l := ⟨n2.toNat, by omega⟩
  -- the two lists that are drawn
  obtain ⟨ys, ρu, y1, y2, d5, y3, y4⟩ := rCompDraw (ι := Nat) (fi := dThen (dCons (dV 2) dNil) rng1) (vs := [7]) (g := gtName 7) (ft := dThen (dOp (fun x y => (gEq x y).map .bool) (dCallO 0 (dCons (dOp gAdd (dV 4) (dC (.int 1))) dNil) m__law_dl_pick) (dC (.int 0))) isB) (fe := dV 7)
    (ρ := [.ow true d4, .sh (.int most), .sh (.int f), .sh (.int l), .sh (.int (1 + n3)), .un, .un, .un, .un]) (ρ1 := [.ow true d4, .sh (.int most), .sh (.int f), .sh (.int l), .sh (.int (1 + n3)), .un, .un, .un, .un])
    (fun k : Nat => .int (k : Nat)) (fun k : Nat => .int (k : Nat)) (fun j ρ => ∃ d5, SackD (b + 4 + j) d5 ∧ ρ = [.ow true d5, .sh (.int most), .sh (.int f), .sh (.int l), .sh (.int (1 + n3)), .un, .un, .un, .un]) (ns := List.range f)
    (rThen (rCons (rV rfl) rNil) (rng_ok (by omega))) rfl ⟨d4, s4, rfl⟩ (fun k ρ ⟨_, _, e⟩ => by rw [e]; rfl) (fun n hn j ρ1 hj ⟨d5, t1, e⟩ => by
      subst e
      have hj : j < f := by simpa using hj
      obtain ⟨x, d6, q1, q2, q3, q4⟩ := pick_ok (m := 1 + n3 + 1) t1 (by omega) (by omega) (Int.lt_of_le_of_lt (show 1 + n3 + 1 ≤ 10 by omega) (by decide))
      exact ⟨[.ow true d5, .sh (.int most), .sh (.int f), .sh (.int l), .sh (.int (1 + n3)), .un, .un, .sh (.int n), .un], decide (x = 0), [.ow true d6, .sh (.int most), .sh (.int f), .sh (.int l), .sh (.int (1 + n3)), .un, .un, .sh (.int n), .un], rfl,
        rThen (rOp (rCallOE rfl (rCons (rOp (rV rfl) rC rfl) rNil) rfl q1 rfl) rC rfl) rfl, ⟨d6, q2.mono (by omega), rfl⟩, fun _ => rV rfl⟩) (by simp; omega)
  subst y4
  have hF : (List.range f).length = f := by simp
  rw [hF] at y3
  obtain ⟨zs, ρv, z1, z2, d7, z3, z4⟩ := rCompDraw (ι := Nat) (fi := dThen (dCons (dV 3) dNil) rng1) (vs := [8]) (g := gtName 8) (ft := dThen (dOp (fun x y => (gEq x y).map .bool) (dCallO 0 (dCons (dOp gAdd (dV 4) (dC (.int 1))) dNil) m__law_dl_pick) (dC (.int 0))) isB) (fe := dV 8)
    (ρ := [.ow true d5, .sh (.int most), .sh (.int f), .sh (.int l), .sh (.int (1 + n3)), .sh (dI (ys.map fun k : Nat => (k : Int))), .un, .un, .un]) (ρ1 := [.ow true d5, .sh (.int most), .sh (.int f), .sh (.int l), .sh (.int (1 + n3)), .sh (dI (ys.map fun k : Nat => (k : Int))), .un, .un, .un])
    (fun k : Nat => .int (k : Nat)) (fun k : Nat => .int (k : Nat)) (fun j ρ => ∃ d6, SackD (b + 4 + f + j) d6 ∧ ρ = [.ow true d6, .sh (.int most), .sh (.int f), .sh (.int l), .sh (.int (1 + n3)), .sh (dI (ys.map fun k : Nat => (k : Int))), .un, .un, .un]) (ns := List.range l)
    (rThen (rCons (rV rfl) rNil) (rng_ok (by omega))) rfl ⟨d5, y3, rfl⟩ (fun k ρ ⟨_, _, e⟩ => by rw [e]; rfl) (fun n hn j ρ1 hj ⟨d5, t1, e⟩ => by
      subst e
      have hj : j < l := by simpa using hj
      obtain ⟨x, d6, q1, q2, q3, q4⟩ := pick_ok (m := 1 + n3 + 1) t1 (by omega) (by omega) (Int.lt_of_le_of_lt (show 1 + n3 + 1 ≤ 10 by omega) (by decide))
      exact ⟨[.ow true d5, .sh (.int most), .sh (.int f), .sh (.int l), .sh (.int (1 + n3)), .sh (dI (ys.map fun k : Nat => (k : Int))), .un, .un, .sh (.int n)], decide (x = 0), [.ow true d6, .sh (.int most), .sh (.int f), .sh (.int l), .sh (.int (1 + n3)), .sh (dI (ys.map fun k : Nat => (k : Int))), .un, .un, .sh (.int n)], rfl,
        rThen (rOp (rCallOE rfl (rCons (rOp (rV rfl) rC rfl) rNil) rfl q1 rfl) rC rfl) rfl, ⟨d6, q2.mono (by omega), rfl⟩, fun _ => rV rfl⟩) (by simp; omega)
  subst z4
  have hFl : (List.range l).length = l := by simp
  rw [hFl] at z3
  obtain ⟨n5, d8, p5, s5, _, _⟩ := pick_ok (m := 8) z3 (by omega) (by decide) (by decide)
  obtain ⟨u1, u2⟩ := sub_days y2
  obtain ⟨v1, v2⟩ := sub_days z2
  have ey : PyData.list (ys.map fun k : Nat => PyData.int (k : Nat)) = dI (ys.map fun k : Nat => (k : Int)) := by simp [dI]
  have ez : PyData.list (zs.map fun k : Nat => PyData.int (k : Nat)) = dI (zs.map fun k : Nat => (k : Int)) := by simp [dI]
  rw [ey] at y1
  rw [ez] at z1
  have sp := s5.mono (show b + 4 + f + l + 1 ≤ b + 100 by omega)
  have tst : (dThen (dOp (fun x y => (gEq x y).map .bool) (dCallO 0 (dCons (dC (.int 8)) dNil) m__law_dl_pick) (dC (.int 0))) isB) [.ow true d7, .sh (.int most), .sh (.int f), .sh (.int l), .sh (.int (1 + n3)), .sh (dI (ys.map fun k : Nat => (k : Int))), .sh (dI (zs.map fun k : Nat => (k : Int))), .un, .un] =
      some (decide (n5 = 0), [.ow true d8, .sh (.int most), .sh (.int f), .sh (.int l), .sh (.int (1 + n3)), .sh (dI (ys.map fun k : Nat => (k : Int))), .sh (dI (zs.map fun k : Nat => (k : Int))), .un, .un]) :=
    rThen (rOp (rCallOE rfl (rCons rC rNil) rfl p5 rfl) rC rfl) rfl
  have st1 : sPar 2 3 (dCons (dCallO 0 (dCons (dOp gIx (dThen (dCons (dC (.int 1)) (dCons (dC (.int 4)) (dCons (dC (.int 9)) dNil))) fun ds => (few ds).map .list) (dCallO 0 (dCons (dC (.int 3)) dNil) m__law_dl_pick)) dNil) m__law_dl_pick) (dCons (dCallO 0 (dCons (dV 1) dNil) m__law_dl_length) dNil))
      (.ow true ds :: rho0 [.int most] 7) = some (.nx [.ow true d3, .sh (.int most), .sh (.int f), .sh (.int l), .un, .un, .un, .un, .un]) :=
    rParE (rCons (rCallOE rfl (rCons (rOp (rThen (rCons rC (rCons rC (rCons rC rNil))) (few_map (by simp))) (rCallOE rfl (rCons rC rNil) rfl p0 rfl) w2) rNil) rfl p1 rfl) (rCons (rCallOE rfl (rCons (rV rfl) rNil) rfl p2 rfl) rNil)) rfl (by simp [rho0]) (by simp [rho0])
  have st2 : sAsg (dOp gAdd (dC (.int 1)) (dCallO 0 (dCons (dC (.int 4)) dNil) m__law_dl_pick)) (gtName 4) [.ow true d3, .sh (.int most), .sh (.int f), .sh (.int l), .un, .un, .un, .un, .un] = some (.nx [.ow true d4, .sh (.int most), .sh (.int f), .sh (.int l), .sh (.int (1 + n3)), .un, .un, .un, .un]) :=
    rAsgE (rOp rC (rCallOE rfl (rCons rC rNil) rfl p3 rfl) rfl) rfl (by simp)
  have fin1 : ∀ Z : List Int, (∀ x ∈ Z, 0 ≤ x ∧ x < (l : Int)) → Z.Pairwise (· < ·) → SetV (ys.map fun k : Nat => (k : Int)) f l Z := fun Z h1 h2 => ⟨by omega, u1, u2, h2, h1⟩
  by_cases c : n5 = 0
  · refine ⟨ys.map fun k : Nat => (k : Int), [], f, l, d8, ?_, fin1 [] (fun x hx => by cases hx) .nil, by omega, c1, by omega, sp⟩
    refine finO (f := b__law_dl_set) (ρ := [.ow true d8, .sh (.int most), .sh (.int f), .sh (.int l), .sh (.int (1 + n3)), .sh (dI (ys.map fun k : Nat => (k : Int))), .sh (dI []), .un, .un]) ?_ rfl
    unfold b__law_dl_set
    exact rSeq st1 (rSeq st2 (rSeq (rAsgE y1 rfl (by simp [back, unset])) (rSeq (rAsgE z1 rfl (by simp [back, unset])) (rSeq (rIfST tst (decide_eq_true c) (rAsgE (d := dI []) (rThen rNil (few_map (by simp))) rfl (by simp))) (rRet (rThen (rCons (rV rfl) (rCons (rV rfl) (rCons (rV rfl) (rCons (rV rfl) rNil)))) (few_map (by simp))))))))
  · refine ⟨ys.map fun k : Nat => (k : Int), zs.map fun k : Nat => (k : Int), f, l, d8, ?_, fin1 _ v2 v1, by omega, c1, by omega, sp⟩
    refine finO (f := b__law_dl_set) (ρ := [.ow true d8, .sh (.int most), .sh (.int f), .sh (.int l), .sh (.int (1 + n3)), .sh (dI (ys.map fun k : Nat => (k : Int))), .sh (dI (zs.map fun k : Nat => (k : Int))), .un, .un]) ?_ rfl
    unfold b__law_dl_set
    exact rSeq st1 (rSeq st2 (rSeq (rAsgE y1 rfl (by simp [back, unset])) (rSeq (rAsgE z1 rfl (by simp [back, unset])) (rSeq (rIfSF tst (decide_eq_false c) rNext) (rRet (rThen (rCons (rV rfl) (rCons (rV rfl) (rCons (rV rfl) (rCons (rV rfl) rNil)))) (few_map (by simp))))))))

end Pg

set_option Elab.async false
set_option linter.all false
set_option maxRecDepth 100000
set_option maxHeartbeats 1000000
namespace Pg
open PySem PySem.Spec PyProof.Rows L2 Ly
local macro_rules | `(tactic| walk_at "run") => `(tactic| first
  | with_reducible exact rC
  | with_reducible exact rNil
  | with_reducible exact rNext
  | with_reducible exact rGN
  | ((with_reducible refine' rV ?m1); (case' m1 => rfl))
  | with_reducible assumption
  | ((with_reducible refine' rCons ?m1 ?m2); (case' m1 => walk_at "run"); (case' m2 => walk_at "run"))
  | ((with_reducible refine' rOp ?m1 ?m2 ?m3); (case' m1 => walk_at "run"); (case' m2 => walk_at "run"); (case' m3 => walk_at "run"))
  | ((with_reducible refine' rNot ?m1); (case' m1 => walk_at "run"))
  | ((with_reducible refine' rB ?m1); (case' m1 => walk_at "run"))
  | ((with_reducible refine' rPart ?m1); (case' m1 => walk_at "run"))
  | ((with_reducible refine' rThen ?m1 ?m2); (case' m1 => walk_at "run"); (case' m2 => walk_at "run"))
  | ((with_reducible refine' rPair ?m1 ?m2); (case' m1 => walk_at "run"); (case' m2 => walk_at "run"))
  | ((with_reducible refine' rSeq ?m1 ?m2); (case' m1 => walk_at "run"); (case' m2 => walk_at "run"))
  | ((with_reducible refine' rRet ?m1); (case' m1 => walk_at "run"))
  | ((with_reducible refine' rAsgE ?m1 ?m2 ?m3); (case' m1 => walk_at "run"); (case' m2 => rfl); (case' m3 => (simp [rho0])))
  | ((with_reducible refine' rAsg ?m1 ?m2); (case' m1 => walk_at "run"); (case' m2 => walk_at "run"))
  | ((with_reducible refine' rDrop ?m1); (case' m1 => walk_at "run"))
  | ((with_reducible refine' rNameE ?m1 ?m2); (case' m1 => rfl); (case' m2 => (simp [rho0, unset])))
  | ((with_reducible refine' rTup ?m1 ?m2); (case' m1 => rfl); (case' m2 => walk_at "run"))
  | ((with_reducible refine' rGC ?m1 ?m2); (case' m1 => walk_at "run"); (case' m2 => walk_at "run"))
  | ((with_reducible refine' rParE ?m1 ?m2 ?m3 ?m4); (case' m1 => walk_at "run"); (case' m2 => rfl); (case' m3 => (simp [rho0])); (case' m4 => (simp [rho0])))
  | ((with_reducible refine' rAugE ?m1 ?m2 ?m3); (case' m1 => rfl); (case' m2 => walk_at "run"); (case' m3 => rfl))
  | ((with_reducible refine' rIxO ?m1 ?m2 ?m3 ?m4); (case' m1 => rfl); (case' m2 => walk_at "run"); (case' m3 => rfl); (case' m4 => walk_at "run"))
  | ((with_reducible refine' rSlO ?m1 ?m2 ?m3); (case' m1 => rfl); (case' m2 => walk_at "run"); (case' m3 => rfl))
  | ((with_reducible refine' rFrz ?m1); (case' m1 => rfl))
  | ((with_reducible refine' rCallOE ?m1 ?m2 ?m3 ?m4 ?m5); (case' m1 => rfl); (case' m2 => walk_at "run"); (case' m3 => rfl); (case' m4 => walk_at "run"); (case' m5 => rfl))
  | with_reducible exact len_dI
  | with_reducible exact disp1
  | with_reducible exact truth_dI
  | with_reducible exact flat_dI
  | ((with_reducible refine' cat_lit1 ?m1); (case' m1 => ((try simp only [List.length_append, List.length_cons, List.length_nil]) <;> omega)))
  | ((with_reducible refine' cat_lit2 ?m1); (case' m1 => ((try simp only [List.length_append, List.length_cons, List.length_nil]) <;> omega)))
  | ((with_reducible refine' cat_dI ?m1); (case' m1 => ((try simp only [List.length_append, List.length_cons, List.length_nil]) <;> omega)))
  | rfl
  | skip)
open Md (Tell Round Begin nums Lad ladOf SetV bits nthL Days firstOf)
/-! ### the law's sets, day by day -/
theorem daysOf_eq {b : Nat → Int} {a m : Nat} : PyData.list (((List.range m).filter fun i => decide (b (a + i) = 1)).map fun k : Nat => PyData.int (k : Nat)) = dI (daysOf b a m) := by simp [dI, daysOf]
/-- the days from f on come over and over: so they tell the same set -/
theorem bits_daysOf {b : Nat → Int} {g m : Nat} (h : ∀ n, b n = 0 ∨ b n = 1) (t : Tell b g m 0) : bits (daysOf b 0 g) g m (daysOf b g m) = b := by
  funext n
  have hm := t.pos
  unfold bits
  have e01 : ∀ (P : Prop) [Decidable P], (P ↔ b n = 1) → (if P then (1 : Int) else 0) = b n := fun P _ hP => by
    by_cases c : P
    · rw [if_pos c, hP.mp c]
    · rw [if_neg c]
      rcases h n with w | w
      · exact w.symm
      · exact absurd (hP.mpr w) c
  split
  · rename_i c
    apply e01
    rw [daysOf_mem]
    constructor
    · rintro ⟨i, h1, h2, h3⟩
      have : i = n := by omega
      subst this
      rwa [Nat.zero_add] at h2
    · intro w
      exact ⟨n, c, by rwa [Nat.zero_add], rfl⟩
  · rename_i c
    have st := t.steps ((n - g) / m) (g + (n - g) % m) (by omega)
    have e1 : g + (n - g) % m + m * ((n - g) / m) = n := by
      have := Nat.mod_add_div (n - g) m
      omega
    rw [e1] at st
    simp at st
    apply e01
    rw [daysOf_mem, st]
    constructor
    · rintro ⟨i, h1, h2, h3⟩
      have : (n - g) % m = i := by omega
      rwa [this]
    · intro w
      exact ⟨(n - g) % m, Nat.mod_lt _ hm, w, rfl⟩
theorem l_wide_ok {b : Nat} {ds : List D} {E F : List Int} {f l : Nat} {top : Int} (h : SackD b ds) (hb : b ≤ 2 ^ 70) (v : SetV E f l F) (hf : f ≤ 1000) (hl : l ≤ 1000) (h1 : 1 ≤ top) (h2 : top ≤ 1000) :
    ∃ (g m t : Nat) (es : List D), m__law_dl_set_wide ds [dSet E f l F, .int top] = some (dSet (daysOf (bits E f l F) 0 g) g m (daysOf (bits E f l F) g m), es) ∧ f ≤ g ∧ g ≤ f + 7 ∧ m = l * t ∧ 0 < t ∧ m ≤ 2000 ∧ SackD (b + 3) es ∧ (m : Int) ≤ max (l : Int) top := by
  have hl0 := v.l0
  have e70 : (2 : Nat) ^ 70 + 100 ≤ 2 ^ 90 := by decide
  have e200 : (10000 : Int) < 2 ^ 200 := by decide
  -- the room
  have d0 : 0 ≤ top / (l : Int) := Int.ediv_nonneg (by omega) (by omega)
  have dm := Int.mul_ediv_add_emod top l
  have dr := Int.emod_nonneg top (show (l : Int) ≠ 0 by omega)
  obtain ⟨q, hq⟩ : ∃ q : Nat, top / (l : Int) = q := ⟨(top / (l : Int)).toNat, by omega⟩
  rw [hq, ← Int.natCast_mul] at dm
  have hq2 : q ≤ l * q := Nat.le_mul_of_pos_left q hl0
  generalize hroom : (if (q : Int) > 1 then (q : Int) else 1) = room
  have r1 : 1 ≤ room := by rw [← hroom]; split <;> omega
  have r2 : room ≤ 1000 := by rw [← hroom]; split <;> omega
  have r3 : room = 1 ∨ room = q := by rw [← hroom]; split <;> simp
  obtain ⟨n0, d1, p0, s1, a0, a1⟩ := pick_ok (m := 8) h (by omega) (by decide) (by decide)
  obtain ⟨w, w1, w2⟩ := ix_in (xs := [3, 3, 3, 3, 3, 3, 3, room]) a0 (by simpa using a1)
  have w3 : 1 ≤ w ∧ w ≤ 1000 := by
    simp only [List.mem_cons, List.not_mem_nil, or_false] at w1
    omega
  obtain ⟨n1, d2, p1, s2, b0, b1⟩ := pick_ok (m := w) s1 (by omega) (by omega) (by omega)
  generalize htimes : (if 1 + n1 < room then 1 + n1 else room) = times
  have t1 : 1 ≤ times ∧ times ≤ room := by rw [← htimes]; split <;> omega
  obtain ⟨n2, d3, p2, s3, c0, c1⟩ := pick_ok (m := 8) s2 (by omega) (by decide) (by decide)
  obtain ⟨t, rfl⟩ : ∃ t : Nat, times = t := ⟨times.toNat, by omega⟩
  obtain ⟨c, rfl⟩ : ∃ c : Nat, n2 = c := ⟨n2.toNat, by omega⟩
  have hm1 : l * t ≤ 1000 ∨ t = 1 := by
    rcases r3 with r | r
    · right; omega
    · left
      have : l * t ≤ l * q := Nat.mul_le_mul_left _ (by omega)
      omega
  have hm : l * t ≤ 1000 := by
    rcases hm1 with r | r
    · exact r
    · rw [r]; omega
  have hmt : ((l * t : Nat) : Int) ≤ max (l : Int) top := by
    rcases r3 with r | r
    · have : t = 1 := by omega
      rw [this]
      omega
    · have : l * t ≤ l * q := Nat.mul_le_mul_left _ (by omega)
      omega
  refine ⟨f + c, l * t, t, d3, ?_, by omega, by omega, rfl, by omega, by omega, s3, hmt⟩
  have ch : gMul (dI [3]) (.int 7) = some (dI [3, 3, 3, 3, 3, 3, 3]) := rfl
  have has : ∀ n : Nat, m__law_dl_has [dSet E f l F, .int (n : Nat)] = some (.bool (decide (bits E f l F n = 1))) := fun n => by
    have := l_has_ok (E := E) (F := F) (f := f) hl0 (show (0 : Int) ≤ (n : Nat) by omega)
    simpa using this
  have eg : ((f + c : Nat) : Int) = (f : Int) + c := by omega
  have em : ((l * t : Nat) : Int) = (l : Int) * t := Int.natCast_mul _ _
  have comp1 : ∀ d, (dComp (dThen (dCons (dV 10) dNil) rng1) [13] (gtName 13) (dThen (dThen (dCons (dV 1) (dCons (dV 13) dNil)) m__law_dl_has) truth) (dV 13))
      [.ow true d, .sh (dSet E f l F), .sh (.int top), .sh (dI E), .sh (.int f), .sh (.int l), .sh (dI F), .sh (.int room), .sh (dI [3, 3, 3, 3, 3, 3, 3, room]), .sh (.int t), .sh (.int (f + c : Nat)), .sh (.int (l * t : Nat)), .un, .un, .un] =
      some (dI (daysOf (bits E f l F) 0 (f + c)), [.ow true d, .sh (dSet E f l F), .sh (.int top), .sh (dI E), .sh (.int f), .sh (.int l), .sh (dI F), .sh (.int room), .sh (dI [3, 3, 3, 3, 3, 3, 3, room]), .sh (.int t), .sh (.int (f + c : Nat)), .sh (.int (l * t : Nat)), .un, .un, .un]) := fun d => by
    have := rComp1 (fi := dThen (dCons (dV 10) dNil) rng1) (vs := [13]) (i := 13) (ft := dThen (dThen (dCons (dV 1) (dCons (dV 13) dNil)) m__law_dl_has) truth) (fe := dV 13)
      (ρ := [.ow true d, .sh (dSet E f l F), .sh (.int top), .sh (dI E), .sh (.int f), .sh (.int l), .sh (dI F), .sh (.int room), .sh (dI [3, 3, 3, 3, 3, 3, 3, room]), .sh (.int t), .sh (.int (f + c : Nat)), .sh (.int (l * t : Nat)), .un, .un, .un])
      (ρ1 := [.ow true d, .sh (dSet E f l F), .sh (.int top), .sh (dI E), .sh (.int f), .sh (.int l), .sh (dI F), .sh (.int room), .sh (dI [3, 3, 3, 3, 3, 3, 3, room]), .sh (.int t), .sh (.int (f + c : Nat)), .sh (.int (l * t : Nat)), .un, .un, .un])
      (fun k : Nat => .int (k : Nat)) (fun i => decide (bits E f l F (0 + i) = 1)) (fun k : Nat => .int (k : Nat)) (ns := List.range (f + c)) (rThen (rCons (rV rfl) rNil) (rng_ok (by omega))) rfl (fun _ => rfl) (by simp)
      (fun n _ => by rw [Nat.zero_add]; exact rThen (rThen (rCons (rV rfl) (rCons (rV rfl) rNil)) (has n)) rfl) (fun n _ _ => by exact rV rfl) (by simp; omega)
    rw [daysOf_eq] at this
    exact this
  have comp2 : ∀ d X, (dComp (dThen (dCons (dV 11) dNil) rng1) [14] (gtName 14) (dThen (dThen (dCons (dV 1) (dCons (dOp gAdd (dV 10) (dV 14)) dNil)) m__law_dl_has) truth) (dV 14))
      [.ow true d, .sh (dSet E f l F), .sh (.int top), .sh (dI E), .sh (.int f), .sh (.int l), .sh (dI F), .sh (.int room), .sh (dI [3, 3, 3, 3, 3, 3, 3, room]), .sh (.int t), .sh (.int (f + c : Nat)), .sh (.int (l * t : Nat)), X, .un, .un] =
      some (dI (daysOf (bits E f l F) (f + c) (l * t)), [.ow true d, .sh (dSet E f l F), .sh (.int top), .sh (dI E), .sh (.int f), .sh (.int l), .sh (dI F), .sh (.int room), .sh (dI [3, 3, 3, 3, 3, 3, 3, room]), .sh (.int t), .sh (.int (f + c : Nat)), .sh (.int (l * t : Nat)), X, .un, .un]) := fun d X => by
    have := rComp1 (fi := dThen (dCons (dV 11) dNil) rng1) (vs := [14]) (i := 14) (ft := dThen (dThen (dCons (dV 1) (dCons (dOp gAdd (dV 10) (dV 14)) dNil)) m__law_dl_has) truth) (fe := dV 14)
      (ρ := [.ow true d, .sh (dSet E f l F), .sh (.int top), .sh (dI E), .sh (.int f), .sh (.int l), .sh (dI F), .sh (.int room), .sh (dI [3, 3, 3, 3, 3, 3, 3, room]), .sh (.int t), .sh (.int (f + c : Nat)), .sh (.int (l * t : Nat)), X, .un, .un])
      (ρ1 := [.ow true d, .sh (dSet E f l F), .sh (.int top), .sh (dI E), .sh (.int f), .sh (.int l), .sh (dI F), .sh (.int room), .sh (dI [3, 3, 3, 3, 3, 3, 3, room]), .sh (.int t), .sh (.int (f + c : Nat)), .sh (.int (l * t : Nat)), X, .un, .un])
      (fun k : Nat => .int (k : Nat)) (fun i => decide (bits E f l F (f + c + i) = 1)) (fun k : Nat => .int (k : Nat)) (ns := List.range (l * t)) (rThen (rCons (rV rfl) rNil) (rng_ok (by omega))) rfl (fun _ => rfl) (by simp)
      (fun n _ => by
        have := has (f + c + n)
        have e : ((f + c + n : Nat) : Int) = ((f + c : Nat) : Int) + (n : Nat) := by omega
        rw [e] at this
        exact rThen (rThen (rCons (rV rfl) (rCons (rOp (rV rfl) (rV rfl) rfl) rNil)) this) rfl) (fun n _ _ => by exact rV rfl) (by simp; omega)
    rw [daysOf_eq] at this
    exact this
  refine finO (f := b__law_dl_set_wide) (ρ := [.ow true d3, .sh (dSet E f l F), .sh (.int top), .sh (dI E), .sh (.int f), .sh (.int l), .sh (dI F), .sh (.int room), .sh (dI [3, 3, 3, 3, 3, 3, 3, room]), .sh (.int t), .sh (.int (f + c : Nat)), .sh (.int (l * t : Nat)), .sh (dI (daysOf (bits E f l F) 0 (f + c))), .un, .un]) ?_ rfl
  unfold b__law_dl_set_wide
  refine' rSeq (ρ1 := [.ow true ds, .sh (dSet E f l F), .sh (.int top), .sh (dI E), .sh (.int f), .sh (.int l), .sh (dI F), .un, .un, .un, .un, .un, .un, .un, .un]) ?u1
    (rSeq (ρ1 := [.ow true ds, .sh (dSet E f l F), .sh (.int top), .sh (dI E), .sh (.int f), .sh (.int l), .sh (dI F), .sh (.int room), .un, .un, .un, .un, .un, .un, .un]) ?u2
    (rSeq (ρ1 := [.ow true ds, .sh (dSet E f l F), .sh (.int top), .sh (dI E), .sh (.int f), .sh (.int l), .sh (dI F), .sh (.int room), .sh (dI [3, 3, 3, 3, 3, 3, 3, room]), .un, .un, .un, .un, .un, .un]) ?u3
    (rSeq (ρ1 := [.ow true d2, .sh (dSet E f l F), .sh (.int top), .sh (dI E), .sh (.int f), .sh (.int l), .sh (dI F), .sh (.int room), .sh (dI [3, 3, 3, 3, 3, 3, 3, room]), .sh (.int t), .un, .un, .un, .un, .un]) ?u4
    (rSeq (ρ1 := [.ow true d3, .sh (dSet E f l F), .sh (.int top), .sh (dI E), .sh (.int f), .sh (.int l), .sh (dI F), .sh (.int room), .sh (dI [3, 3, 3, 3, 3, 3, 3, room]), .sh (.int t), .sh (.int (f + c : Nat)), .sh (.int (l * t : Nat)), .un, .un, .un]) ?u5
    (rSeq (rAsgE (comp1 d3) rfl (by simp)) (rRet ?u6))))))
  case u1 => walk_at "run"
  case u2 =>
    rw [← hroom, ← hq]
    exact rAsgE (rThen (rCons rC (rCons (rOp (rV rfl) (rV rfl) (div_ok (by omega) (by omega))) rNil)) rfl) rfl (by simp [rho0])
  case u3 => exact rAsgE (rOp (rOp (rThen (rCons rC rNil) disp1) rC ch) (rThen (rCons (rV rfl) rNil) disp1) (cat_dI (by simp))) rfl (by simp)
  case u4 =>
    rw [← htimes]
    exact rAsgE (rThen (rCons (rV rfl) (rCons (rOp rC (rCallOE rfl (rCons (rOp (rV rfl) (rCallOE rfl (rCons rC rNil) rfl p0 rfl) w2) rNil) rfl p1 rfl) rfl) rNil)) rfl) rfl (by simp)
  case u5 =>
    rw [eg, em]
    exact rAsg (rThen (rCons (rOp (rV rfl) (rCallOE rfl (rCons rC rNil) rfl p2 rfl) rfl) (rCons (rOp (rV rfl) (rV rfl) (mul_ok (.inl (by omega)))) rNil)) (few_map (by simp))) (rTup rfl (rGC (rName (by simp)) (rGC (rName (by simp)) rGN)))
  case u6 => exact rThen (rCons (rV rfl) (rCons (rV rfl) (rCons (rV rfl) (rCons (comp2 d3 _) rNil)))) (few_map (by simp))

end Pg

set_option Elab.async false
set_option linter.all false
set_option maxRecDepth 100000
set_option maxHeartbeats 1000000
namespace Pg
open PySem PySem.Spec PyProof.Rows L2 Ly
local macro_rules | `(tactic| walk_at "run") => `(tactic| first
  | with_reducible exact rC
  | with_reducible exact rNil
  | with_reducible exact rNext
  | with_reducible exact rGN
  | ((with_reducible refine' rV ?m1); (case' m1 => rfl))
  | with_reducible assumption
  | ((with_reducible refine' rCons ?m1 ?m2); (case' m1 => walk_at "run"); (case' m2 => walk_at "run"))
  | ((with_reducible refine' rOp ?m1 ?m2 ?m3); (case' m1 => walk_at "run"); (case' m2 => walk_at "run"); (case' m3 => walk_at "run"))
  | ((with_reducible refine' rNot ?m1); (case' m1 => walk_at "run"))
  | ((with_reducible refine' rB ?m1); (case' m1 => walk_at "run"))
  | ((with_reducible refine' rPart ?m1); (case' m1 => walk_at "run"))
  | ((with_reducible refine' rThen ?m1 ?m2); (case' m1 => walk_at "run"); (case' m2 => walk_at "run"))
  | ((with_reducible refine' rPair ?m1 ?m2); (case' m1 => walk_at "run"); (case' m2 => walk_at "run"))
  | ((with_reducible refine' rSeq ?m1 ?m2); (case' m1 => walk_at "run"); (case' m2 => walk_at "run"))
  | ((with_reducible refine' rRet ?m1); (case' m1 => walk_at "run"))
  | ((with_reducible refine' rAsgE ?m1 ?m2 ?m3); (case' m1 => walk_at "run"); (case' m2 => rfl); (case' m3 => (simp [rho0])))
  | ((with_reducible refine' rAsg ?m1 ?m2); (case' m1 => walk_at "run"); (case' m2 => walk_at "run"))
  | ((with_reducible refine' rDrop ?m1); (case' m1 => walk_at "run"))
  | ((with_reducible refine' rNameE ?m1 ?m2); (case' m1 => rfl); (case' m2 => (simp [rho0, unset])))
  | ((with_reducible refine' rTup ?m1 ?m2); (case' m1 => rfl); (case' m2 => walk_at "run"))
  | ((with_reducible refine' rGC ?m1 ?m2); (case' m1 => walk_at "run"); (case' m2 => walk_at "run"))
  | ((with_reducible refine' rParE ?m1 ?m2 ?m3 ?m4); (case' m1 => walk_at "run"); (case' m2 => rfl); (case' m3 => (simp [rho0])); (case' m4 => (simp [rho0])))
  | ((with_reducible refine' rAugE ?m1 ?m2 ?m3); (case' m1 => rfl); (case' m2 => walk_at "run"); (case' m3 => rfl))
  | ((with_reducible refine' rIxO ?m1 ?m2 ?m3 ?m4); (case' m1 => rfl); (case' m2 => walk_at "run"); (case' m3 => rfl); (case' m4 => walk_at "run"))
  | ((with_reducible refine' rSlO ?m1 ?m2 ?m3); (case' m1 => rfl); (case' m2 => walk_at "run"); (case' m3 => rfl))
  | ((with_reducible refine' rFrz ?m1); (case' m1 => rfl))
  | ((with_reducible refine' rCallOE ?m1 ?m2 ?m3 ?m4 ?m5); (case' m1 => rfl); (case' m2 => walk_at "run"); (case' m3 => rfl); (case' m4 => walk_at "run"); (case' m5 => rfl))
  | with_reducible exact len_dI
  | with_reducible exact disp1
  | with_reducible exact truth_dI
  | with_reducible exact flat_dI
  | ((with_reducible refine' cat_lit1 ?m1); (case' m1 => ((try simp only [List.length_append, List.length_cons, List.length_nil]) <;> omega)))
  | ((with_reducible refine' cat_lit2 ?m1); (case' m1 => ((try simp only [List.length_append, List.length_cons, List.length_nil]) <;> omega)))
  | ((with_reducible refine' cat_dI ?m1); (case' m1 => ((try simp only [List.length_append, List.length_cons, List.length_nil]) <;> omega)))
  | rfl
  | skip)
open Md (Tell Round Begin nums Lad ladOf SetV bits nthL Days firstOf)
theorem rComp2 {ρ ρ1 : Rho} {ι : Type} {fi : Den (List D)} {vs : List Nat} {i j : Nat} {ft : Den Bool} {fe : Den D} (a b : ι → D) (p : ι → Bool) (h : ι → D) {ns : List ι} (hi : fi ρ = some (ns.map fun n => .tuple [a n, b n], ρ1)) (hno : noOw ρ1 vs = true)
    (hu : ∀ n, unset (((unset ρ1 vs).set i (.sh (a n))).set j (.sh (b n))) vs = unset ρ1 vs) (hl : i < ρ1.length) (hl2 : j < ρ1.length)
    (ht : ∀ n ∈ ns, ft (((unset ρ1 vs).set i (.sh (a n))).set j (.sh (b n))) = some (p n, ((unset ρ1 vs).set i (.sh (a n))).set j (.sh (b n))))
    (hx : ∀ n ∈ ns, p n = true → fe (((unset ρ1 vs).set i (.sh (a n))).set j (.sh (b n))) = some (h n, ((unset ρ1 vs).set i (.sh (a n))).set j (.sh (b n)))) (hn : ns.length ≤ 1000000) :
    dComp fi vs (gtTup 2 (gtCons (gtName i) (gtCons (gtName j) gtNil))) ft fe ρ = some (.list ((ns.filter p).map h), ρ1) :=
  rComp (fun n => .tuple [a n, b n]) p h hi hno (fun n k => ⟨_, rTup rfl (rGC (rName (by rw [unset_length]; exact hl)) (rGC (rName (by rw [List.length_set, unset_length]; exact hl2)) rGN)), hu n, ht n k, hx n k⟩) hn
theorem nums_idx {b : Nat → Int} {a m : Nat} : (nums b a m).zipIdx = (List.range m).map fun i => (b (a + i), i) := by
  apply List.ext_getElem?
  intro i
  rw [List.getElem?_zipIdx, List.getElem?_map]
  by_cases h : i < m
  · rw [Md.nums_get h, List.getElem?_range h]
    simp
  · rw [List.getElem?_eq_none (by rw [Md.nums_length]; omega), List.getElem?_eq_none (by simp; omega)]
    rfl
theorem enum_nums {b : Nat → Int} {a m : Nat} : enumD [dI (nums b a m)] = some ((List.range m).map fun i => .tuple [.int (i : Nat), .int (b (a + i))]) := by
  rw [enum_dI, nums_idx, List.map_map]
  rfl
/-- a set told in its least way -/
def Canon (b : Nat → Int) (d : D) : Prop := ∃ f l : Nat, d = dSet (daysOf b 0 f) f l (daysOf b f l) ∧ Begin b f ∧ Round b l
theorem Canon.uniq {b : Nat → Int} {d e : D} (h : Canon b d) (k : Canon b e) : d = e := by
  obtain ⟨f, l, rfl, h1, h2⟩ := h
  obtain ⟨g, m, rfl, k1, k2⟩ := k
  rw [h1.eq k1, h2.eq k2]
theorem l_set_of_ok {b : Nat → Int} {f l : Nat} (t : Tell b f l 0) (h01 : ∀ n, b n = 0 ∨ b n = 1) (hf : f ≤ 100000) (hl : l ≤ 100000) :
    ∃ d, m__law_dl_set_of [dI (nums b 0 (f + l)), .int (f : Nat)] = some d ∧ Canon b d := by
  have hl0 := t.pos
  have e1 : (nums b 0 (f + l)).take f = nums b 0 f := Md.nums_take (by omega)
  have e2 : (nums b 0 (f + l)).drop f = nums b f l := by
    rw [Md.nums_drop, Nat.zero_add]
    congr 1
    omega
  obtain ⟨M, q1, q2, q3⟩ := l_least_ok (L := ⟨nums b 0 f, nums b f l, 0⟩) (by
    intro z
    have := congrArg List.length z
    rw [Md.nums_length] at this
    simp at this
    omega) (by show (nums b 0 f).length ≤ _; rw [Md.nums_length]; omega) (by show (nums b f l).length ≤ _; rw [Md.nums_length]; omega)
  have hat : M.at = b := by rw [q3]; exact Md.ladOf_at t
  have tm := M.tell q2.1
  have hB := q2.2.2
  have hR := q2.2.1
  rw [hat] at tm hB hR
  have hr := Md.bits_flat h01 tm
  have hE := Lad.early (L := M)
  have hT := Lad.turn (L := M)
  rw [hat] at hE hT
  have lE : M.E.length ≤ f := hB.2 _ _ _ t
  have lT : M.T.length ≤ l := hR.2 _ _ _ t
  refine ⟨_, ?_, M.E.length, M.T.length, rfl, hB, hR⟩
  generalize hfe : M.E.length = fe at *
  generalize hlt : M.T.length = lt at *
  have ed : dLad M = .tuple [dI (nums b 0 fe), dI (nums b fe lt), .int 0] := by
    show PyData.tuple [dI M.E, dI M.T, .int M.r] = _
    rw [hr]
    conv => lhs; rw [hE, hT]
  rw [ed] at q1
  have comp1 : ∀ X Y Z W V, (dComp (dThen (dCons (dV 2) dNil) enumD) [6, 7] (gtTup 2 (gtCons (gtName 6) (gtCons (gtName 7) gtNil))) (dThen (dOp (fun x y => (gEq x y).map .bool) (dV 7) (dC (.int 1))) isB) (dV 6)) [X, Y, .sh (dI (nums b 0 fe)), Z, W, V, .un, .un, .un] =
      some (dI (daysOf b 0 fe), [X, Y, .sh (dI (nums b 0 fe)), Z, W, V, .un, .un, .un]) := fun X Y Z W V => by
    have := rComp2 (fi := dThen (dCons (dV 2) dNil) enumD) (vs := [6, 7]) (i := 6) (j := 7) (ft := dThen (dOp (fun x y => (gEq x y).map .bool) (dV 7) (dC (.int 1))) isB) (fe := dV 6)
      (ρ := [X, Y, .sh (dI (nums b 0 fe)), Z, W, V, .un, .un, .un]) (ρ1 := [X, Y, .sh (dI (nums b 0 fe)), Z, W, V, .un, .un, .un]) (fun i : Nat => .int (i : Nat)) (fun i => .int (b (0 + i))) (fun i => decide (b (0 + i) = 1)) (fun i : Nat => .int (i : Nat)) (ns := List.range fe)
      (rThen (rCons (rV rfl) rNil) enum_nums) rfl (fun _ => rfl) (by simp) (by simp) (fun n _ => by exact rThen (rOp (rV rfl) rC rfl) rfl) (fun n _ _ => by exact rV rfl) (by simp; omega)
    rw [daysOf_eq] at this
    exact this
  have comp2 : ∀ X Y Z W V, (dComp (dThen (dCons (dV 3) dNil) enumD) [8, 7] (gtTup 2 (gtCons (gtName 8) (gtCons (gtName 7) gtNil))) (dThen (dOp (fun x y => (gEq x y).map .bool) (dV 7) (dC (.int 1))) isB) (dV 8)) [X, Y, Z, .sh (dI (nums b fe lt)), W, V, .un, .un, .un] =
      some (dI (daysOf b fe lt), [X, Y, Z, .sh (dI (nums b fe lt)), W, V, .un, .un, .un]) := fun X Y Z W V => by
    have := rComp2 (fi := dThen (dCons (dV 3) dNil) enumD) (vs := [8, 7]) (i := 8) (j := 7) (ft := dThen (dOp (fun x y => (gEq x y).map .bool) (dV 7) (dC (.int 1))) isB) (fe := dV 8)
      (ρ := [X, Y, Z, .sh (dI (nums b fe lt)), W, V, .un, .un, .un]) (ρ1 := [X, Y, Z, .sh (dI (nums b fe lt)), W, V, .un, .un, .un]) (fun i : Nat => .int (i : Nat)) (fun i => .int (b (fe + i))) (fun i => decide (b (fe + i) = 1)) (fun i : Nat => .int (i : Nat)) (ns := List.range lt)
      (rThen (rCons (rV rfl) rNil) enum_nums) rfl (fun _ => rfl) (by simp) (by simp) (fun n _ => by exact rThen (rOp (rV rfl) rC rfl) rfl) (fun n _ _ => by exact rV rfl) (by simp; omega)
    rw [daysOf_eq] at this
    exact this
  have n1 : (nums b 0 fe).length = fe := Md.nums_length
  have n2 : (nums b fe lt).length = lt := Md.nums_length
  have g1 : gLen [dI (nums b 0 fe)] = some (.int fe) := by rw [len_dI, n1]
  have g2 : gLen [dI (nums b fe lt)] = some (.int lt) := by rw [len_dI, n2]
  apply fin (f := b__law_dl_set_of)
  unfold b__law_dl_set_of
  refine' rSeq (ρ1 := [.sh (dI (nums b 0 (f + l))), .sh (.int f), .sh (dI (nums b 0 fe)), .sh (dI (nums b fe lt)), .sh (.int 0), .un, .un, .un, .un]) ?u1
    (rSeq (rAsgE (comp1 _ _ _ _ _) rfl (by simp)) (rRet (rThen (rCons (rV rfl) (rCons (rThen (rCons (rV rfl) rNil) g1) (rCons (rThen (rCons (rV rfl) rNil) g2) (rCons (comp2 _ _ _ _ _) rNil)))) (few_map (by simp)))))
  case u1 =>
    refine rAsg (rThen (rCons (rThen (rCons (rThen (rPair (rV rfl) (rPair rC (rPart (rV rfl)))) (sl_to rfl)) (rCons (rThen (rPair (rV rfl) (rPair (rPart (rV rfl)) rC)) (sl_from rfl)) (rCons rC rNil))) (few_map (by simp))) rNil) (by rw [e1, e2]; exact q1)) (rTup rfl (rGC (rName (by simp [rho0])) (rGC (rName (by simp [rho0])) (rGC (rName (by simp [rho0])) rGN))))
theorem l_set_least_ok {E F : List Int} {f l : Nat} (v : SetV E f l F) (hf : f ≤ 100000) (hl : l ≤ 100000) : ∃ d, m__law_dl_set_least [dSet E f l F] = some d ∧ Canon (bits E f l F) d := by
  have hl0 := v.l0
  obtain ⟨d, e1, e2⟩ := l_set_of_ok (Md.bits_tell (E := E) (F := F) (f := f) hl0) (fun _ => Md.bits_01) hf hl
  refine ⟨d, ?_, e2⟩
  have has : ∀ n : Nat, m__law_dl_has [dSet E f l F, .int (n : Nat)] = some (.bool (decide (bits E f l F n = 1))) := fun n => by
    have := l_has_ok (E := E) (F := F) (f := f) hl0 (show (0 : Int) ≤ (n : Nat) by omega)
    simpa using this
  have g01 : ∀ n, gInt [.bool (decide (bits E f l F n = 1))] = some (.int (bits E f l F n)) := fun n => by
    unfold gInt
    rcases Md.bits_01 (E := E) (F := F) (f := f) (l := l) (n := n) with w | w <;> simp [w]
  have cmp : (dComp (dThen (dCons (dOp gAdd (dOp gIx (dV 0) (dC (.int 1))) (dOp gIx (dV 0) (dC (.int 2)))) dNil) rng1) [2] (gtName 2) (dC true) (dThen (dCons (dThen (dCons (dV 0) (dCons (dV 2) dNil)) m__law_dl_has) dNil) gInt)) (rho0 [dSet E f l F] 2) =
      some (dI (nums (bits E f l F) 0 (f + l)), rho0 [dSet E f l F] 2) := by
    have en : PyData.list ((List.range (f + l)).map fun k : Nat => PyData.int (bits E f l F k)) = dI (nums (bits E f l F) 0 (f + l)) := by simp [dI, nums]
    rw [← en]
    have er : ((f : Int) + (l : Int)).toNat = f + l := by omega
    refine rComp1T (ρ1 := rho0 [dSet E f l F] 2) (fun k : Nat => .int (k : Nat)) (fun k : Nat => .int (bits E f l F k)) (ns := List.range (f + l)) ?_ rfl (fun _ => rfl) (by simp [rho0]) (fun n _ => by exact rThen (rCons (rThen (rCons (rV rfl) (rCons (rV rfl) rNil)) (has n)) rNil) (g01 n)) (by simp; omega)
    rw [← er]
    exact rThen (rCons (rOp (rOp (rV rfl) rC rfl) (rOp (rV rfl) rC rfl) rfl) rNil) (rng_ok (by omega))
  apply fin (f := b__law_dl_set_least)
  unfold b__law_dl_set_least
  exact rSeq (ρ1 := [.sh (dSet E f l F), .sh (dI (nums (bits E f l F) 0 (f + l))), .un]) (rAsgE cmp rfl (by simp [rho0])) (rRet (rThen (rCons (rV rfl) (rCons (rOp (rV rfl) rC rfl) rNil)) e1))
theorem l_days_to_ok {E F : List Int} {f l m : Nat} (hl : 0 < l) (hm : m ≤ 100000) : m__law_dl_days_to [dSet E f l F, .int (m : Nat)] = some (dI (daysOf (bits E f l F) 0 m)) := by
  have has : ∀ n : Nat, m__law_dl_has [dSet E f l F, .int (n : Nat)] = some (.bool (decide (bits E f l F n = 1))) := fun n => by
    have := l_has_ok (E := E) (F := F) (f := f) hl (show (0 : Int) ≤ (n : Nat) by omega)
    simpa using this
  have cmp : (dComp (dThen (dCons (dV 1) dNil) rng1) [2] (gtName 2) (dThen (dThen (dCons (dV 0) (dCons (dV 2) dNil)) m__law_dl_has) truth) (dV 2)) (rho0 [dSet E f l F, .int (m : Nat)] 1) =
      some (dI (daysOf (bits E f l F) 0 m), rho0 [dSet E f l F, .int (m : Nat)] 1) := by
    rw [← daysOf_eq]
    exact rComp1 (ρ1 := rho0 [dSet E f l F, .int (m : Nat)] 1) (fun k : Nat => .int (k : Nat)) (fun i => decide (bits E f l F (0 + i) = 1)) (fun k : Nat => .int (k : Nat)) (ns := List.range m) (rThen (rCons (rV rfl) rNil) (rng_ok (by omega))) rfl (fun _ => rfl) (by simp [rho0])
      (fun n _ => by rw [Nat.zero_add]; exact rThen (rThen (rCons (rV rfl) (rCons (rV rfl) rNil)) (has n)) rfl) (fun n _ _ => by exact rV rfl) (by simp; omega)
  apply fin (f := b__law_dl_days_to)
  unfold b__law_dl_days_to
  exact rRet cmp
/-! the program's: some days, every -/
theorem ended_canon {E : List Int} {f l : Nat} (v : SetV E f l []) (hE : E.length ≤ 400000) : Canon (bits E f l []) (dSet E (endF E) 1 []) := by
  obtain ⟨f', l', e1, e2, e3⟩ := m_narrowed_ok v hE (by simp)
  have : m_narrowed [dSet E f l []] = some (dSet E (endF E) 1 []) := by
    apply fin (f := b_narrowed)
    unfold b_narrowed
    refine' rSeq (ρ1 := [.sh (dSet E f l []), .sh (dI E), .sh (.int f), .sh (.int l), .sh (dI []), .un, .un, .un]) ?u1 (rSeqR (rIfST (rNot (rThen (rV rfl) truth_dI)) rfl (rRet (rThen (rCons (rV rfl) rNil) m_ended_ok))))
    case u1 => walk_at "run"
  rw [this] at e1
  exact ⟨f', l', Option.some.inj e1, e2, e3⟩
theorem m_set_of_ok {days : List Int} {top : Nat} (h : ∀ x ∈ days, 0 ≤ x ∧ x < (top : Nat)) (hl : days.length < 64) : ∃ d, m_set_of [dI days] = some d ∧ Canon (bits (rising days) top 1 []) d := by
  have v : SetV (rising days) top 1 [] := ⟨by decide, rising_ok, fun x hx => h x (rising_mem.mp hx), .nil, fun x hx => by cases hx⟩
  have hlen : (rising days).length ≤ 400000 := by
    have : ∀ xs : List Int, (rising xs).length ≤ xs.length := by
      intro xs
      induction xs with
      | nil => exact Nat.le_refl _
      | cons x xs ih =>
        have : ∀ ys : List Int, (Ly.putIn x ys).length ≤ ys.length + 1 := by
          intro ys
          induction ys with
          | nil => simp [Ly.putIn]
          | cons y ys ih2 =>
            unfold Ly.putIn
            split
            · simp
            · split
              · simp
              · simp; omega
        have := this (rising xs)
        simp only [rising, List.length_cons]
        omega
    have := this days
    omega
  refine ⟨_, ?_, ended_canon v hlen⟩
  have k1 := m_check_numbers_ok (xs := days) fun x hx => (h x hx).1
  have k2 : gSortSet [dI days] = some (dI (rising days)) := by
    unfold gSortSet
    simp only [intsOf_map, Option.bind_some]
    rw [if_pos hl]
  apply fin (f := b_set_of)
  unfold b_set_of
  exact rSeq (rDrop (rThen (rCons (rV rfl) rNil) k1)) (rRet (rThen (rCons (rThen (rCons (rV rfl) rNil) k2) rNil) m_ended_ok))
theorem m_every_ok {f l : Nat} (hl : 0 < l) : ∃ d, m_every [.int (l : Nat), .int (f : Nat)] = some d ∧ Canon (bits [] f l [0]) d := by
  have v : SetV [] f l [0] := ⟨hl, .nil, (fun x hx => by cases hx), List.pairwise_singleton _ _, (fun x hx => by have := List.mem_singleton.mp hx; omega)⟩
  obtain ⟨f', l', e1, e2⟩ := m_narrowed_ok v (by simp) (by simp)
  refine ⟨_, ?_, f', l', rfl, e2⟩
  have k1 := one_number (d := (f : Int)) (by omega)
  apply fin (f := b_every)
  unfold b_every
  exact rSeq (rIfSF (b := decide ((l : Int) < 1)) (rThen (rOp (rV rfl) rC rfl) rfl) (decide_eq_false (by omega)) rNext) (rSeq (rDrop (rThen (rCons (rThen (rCons (rV rfl) rNil) disp1) rNil) k1))
    (rRet (rThen (rCons (rThen (rCons (x := dI []) (rThen rNil (by rfl)) (rCons (rV rfl) (rCons (rV rfl) (rCons (rThen (rCons rC rNil) disp1) rNil)))) (few_map (by simp))) rNil) e1)))

end Pg

set_option Elab.async false
set_option linter.all false
set_option maxRecDepth 100000
set_option maxHeartbeats 1000000
namespace Pg
open PySem PySem.Spec PyProof.Rows L2 Ly
local macro_rules | `(tactic| walk_at "run") => `(tactic| first
  | with_reducible exact rC
  | with_reducible exact rNil
  | with_reducible exact rNext
  | with_reducible exact rGN
  | ((with_reducible refine' rV ?m1); (case' m1 => rfl))
  | with_reducible assumption
  | ((with_reducible refine' rCons ?m1 ?m2); (case' m1 => walk_at "run"); (case' m2 => walk_at "run"))
  | ((with_reducible refine' rOp ?m1 ?m2 ?m3); (case' m1 => walk_at "run"); (case' m2 => walk_at "run"); (case' m3 => walk_at "run"))
  | ((with_reducible refine' rNot ?m1); (case' m1 => walk_at "run"))
  | ((with_reducible refine' rB ?m1); (case' m1 => walk_at "run"))
  | ((with_reducible refine' rPart ?m1); (case' m1 => walk_at "run"))
  | ((with_reducible refine' rThen ?m1 ?m2); (case' m1 => walk_at "run"); (case' m2 => walk_at "run"))
  | ((with_reducible refine' rPair ?m1 ?m2); (case' m1 => walk_at "run"); (case' m2 => walk_at "run"))
  | ((with_reducible refine' rSeq ?m1 ?m2); (case' m1 => walk_at "run"); (case' m2 => walk_at "run"))
  | ((with_reducible refine' rRet ?m1); (case' m1 => walk_at "run"))
  | ((with_reducible refine' rAsgE ?m1 ?m2 ?m3); (case' m1 => walk_at "run"); (case' m2 => rfl); (case' m3 => (simp [rho0])))
  | ((with_reducible refine' rAsg ?m1 ?m2); (case' m1 => walk_at "run"); (case' m2 => walk_at "run"))
  | ((with_reducible refine' rDrop ?m1); (case' m1 => walk_at "run"))
  | ((with_reducible refine' rNameE ?m1 ?m2); (case' m1 => rfl); (case' m2 => (simp [rho0, unset])))
  | ((with_reducible refine' rTup ?m1 ?m2); (case' m1 => rfl); (case' m2 => walk_at "run"))
  | ((with_reducible refine' rGC ?m1 ?m2); (case' m1 => walk_at "run"); (case' m2 => walk_at "run"))
  | ((with_reducible refine' rParE ?m1 ?m2 ?m3 ?m4); (case' m1 => walk_at "run"); (case' m2 => rfl); (case' m3 => (simp [rho0])); (case' m4 => (simp [rho0])))
  | ((with_reducible refine' rAugE ?m1 ?m2 ?m3); (case' m1 => rfl); (case' m2 => walk_at "run"); (case' m3 => rfl))
  | ((with_reducible refine' rIxO ?m1 ?m2 ?m3 ?m4); (case' m1 => rfl); (case' m2 => walk_at "run"); (case' m3 => rfl); (case' m4 => walk_at "run"))
  | ((with_reducible refine' rSlO ?m1 ?m2 ?m3); (case' m1 => rfl); (case' m2 => walk_at "run"); (case' m3 => rfl))
  | ((with_reducible refine' rFrz ?m1); (case' m1 => rfl))
  | ((with_reducible refine' rCallOE ?m1 ?m2 ?m3 ?m4 ?m5); (case' m1 => rfl); (case' m2 => walk_at "run"); (case' m3 => rfl); (case' m4 => walk_at "run"); (case' m5 => rfl))
  | with_reducible exact len_dI
  | with_reducible exact disp1
  | with_reducible exact truth_dI
  | with_reducible exact flat_dI
  | ((with_reducible refine' cat_lit1 ?m1); (case' m1 => ((try simp only [List.length_append, List.length_cons, List.length_nil]) <;> omega)))
  | ((with_reducible refine' cat_lit2 ?m1); (case' m1 => ((try simp only [List.length_append, List.length_cons, List.length_nil]) <;> omega)))
  | ((with_reducible refine' cat_dI ?m1); (case' m1 => ((try simp only [List.length_append, List.length_cons, List.length_nil]) <;> omega)))
  | rfl
  | skip)
open Md (Tell Round Begin nums Lad ladOf SetV bits nthL Days firstOf)
/-! ### gaps -/
theorem nums_zip {y : Nat → Int} {a m : Nat} : (nums y a (m + 1)).zip ((nums y a (m + 1)).drop 1) = (List.range m).map fun k => (y (a + k), y (a + k + 1)) := by
  rw [Md.nums_drop]
  apply List.ext_getElem?
  intro i
  by_cases h : i < m
  · rw [List.getElem?_map, List.getElem?_range h, List.zip_eq_zipWith, List.getElem?_zipWith, Md.nums_get (by omega), Md.nums_get (by omega)]
    simp only [Option.map_some]
    have : a + 1 + i = a + i + 1 := by omega
    rw [this]
  · rw [List.getElem?_eq_none (by simp [Md.nums_length]; omega), List.getElem?_eq_none (by simp; omega)]
theorem days_upto {b y : Nat → Int} (d : Days b y) {n k : Nat} (h : ∀ j, j < k ↔ y j < n) : daysOf b 0 n = nums y 0 k := by
  refine rising_ext daysOf_up ?_ fun z => ?_
  · unfold nums
    rw [List.pairwise_map]
    exact List.Pairwise.imp (R := (· < ·)) (fun {i j} h => d.mono (by omega)) List.pairwise_lt_range
  · rw [daysOf_mem]
    unfold nums
    simp only [List.mem_map, List.mem_range, Nat.zero_add]
    constructor
    · rintro ⟨i, hi, hb, rfl⟩
      obtain ⟨j, hj⟩ := (d.day i).mp hb
      exact ⟨j, (h j).mpr (by omega), hj⟩
    · rintro ⟨j, hj, rfl⟩
      have := (h j).mp hj
      have := d.zero j
      exact ⟨(y j).toNat, by omega, d.is j, by omega⟩
theorem _root_.Md.Days.unique {b y z : Nat → Int} (d : Days b y) (e : Days b z) : y = z := by
  funext k
  induction k using Nat.strongRecOn with
  | ind k ih =>
    have h1 := d.is k
    have h2 := e.is k
    obtain ⟨i, hi⟩ := (e.day _).mp h1
    obtain ⟨j, hj⟩ := (d.day _).mp h2
    have z1 := d.zero k
    have z2 := e.zero k
    have hi2 : k ≤ i := by
      rcases Nat.lt_or_ge i k with c | c
      · have := ih i c
        have := d.mono c
        omega
      · exact c
    have hj2 : k ≤ j := by
      rcases Nat.lt_or_ge j k with c | c
      · have := ih j c
        have := e.mono c
        omega
      · exact c
    have := e.mono_le hi2
    have := d.mono_le hj2
    omega
/-- least and greatest distance -/
def GapsOf (y : Nat → Int) (z : D) : Prop := ∃ mn mx : Int, z = .tuple [.int mn, .int mx] ∧ (∃ k, mn = y (k + 1) - y k) ∧ (∀ k, mn ≤ y (k + 1) - y k) ∧ (∃ k, mx = y (k + 1) - y k) ∧ ∀ k, y (k + 1) - y k ≤ mx
theorem GapsOf.uniq {y : Nat → Int} {z w : D} (h : GapsOf y z) (k : GapsOf y w) : z = w := by
  obtain ⟨a, b, rfl, ⟨i, hi⟩, h2, ⟨j, hj⟩, h4⟩ := h
  obtain ⟨c, d, rfl, ⟨i', hi'⟩, k2, ⟨j', hj'⟩, k4⟩ := k
  have := h2 i'
  have := k2 i
  have := h4 j'
  have := k4 j
  have e1 : a = c := by omega
  have e2 : b = d := by omega
  rw [e1, e2]
theorem gap_back {y : Nat → Int} {e c : Nat} {s : Int} (t : Tell y e c s) : ∀ k, ∃ j, j < e + c ∧ y (k + 1) - y k = y (j + 1) - y j := by
  intro k
  induction k using Nat.strongRecOn with
  | ind k ih =>
    rcases Nat.lt_or_ge k (e + c) with h | h
    · exact ⟨k, h, rfl⟩
    · have hc := t.pos
      obtain ⟨j, hj, e1⟩ := ih (k - c) (by omega)
      refine ⟨j, hj, ?_⟩
      have a1 := t.step (k - c) (by omega)
      have a2 := t.step (k - c + 1) (by omega)
      have w1 : k - c + c = k := by omega
      have w2 : k - c + 1 + c = k + 1 := by omega
      rw [w1] at a1
      rw [w2] at a2
      omega
/-- from so many first ones -/
theorem gaps_of {y : Nat → Int} {e c N : Nat} {s : Int} (t : Tell y e c s) (hN : e + c ≤ N) :
    ∃ mn mx, gMin [dI ((List.range N).map fun k => y (k + 1) - y k)] = some (.int mn) ∧ gMax [dI ((List.range N).map fun k => y (k + 1) - y k)] = some (.int mx) ∧ GapsOf y (.tuple [.int mn, .int mx]) ∧ (∃ k, k < N ∧ mn = y (k + 1) - y k) ∧ ∃ k, k < N ∧ mx = y (k + 1) - y k := by
  have hc := t.pos
  have h0 : ((List.range N).map fun k => y (k + 1) - y k) ≠ [] := by
    intro z
    have := congrArg List.length z
    simp at this
    omega
  obtain ⟨a1, a2⟩ := leastOf_ok h0
  obtain ⟨b1, b2⟩ := mostOf_ok h0
  obtain ⟨i, hi, ei⟩ := List.mem_map.mp a1
  obtain ⟨j, hj, ej⟩ := List.mem_map.mp b1
  refine ⟨_, _, min_dI a1 a2, max_dI b1 b2, ⟨_, _, rfl, ⟨i, ei.symm⟩, fun k => ?_, ⟨j, ej.symm⟩, fun k => ?_⟩, ⟨i, by simpa using hi, ei.symm⟩, ⟨j, by simpa using hj, ej.symm⟩⟩
  · obtain ⟨q, hq, e1⟩ := gap_back t k
    rw [e1]
    exact a2 _ (List.mem_map.mpr ⟨q, by simp; omega, rfl⟩)
  · obtain ⟨q, hq, e1⟩ := gap_back t k
    rw [e1]
    exact b2 _ (List.mem_map.mpr ⟨q, by simp; omega, rfl⟩)
/-- the run of `gaps` over its list of days -/
theorem gaps_run {E F : List Int} {f l : Nat} {mn mx : Int} {days : List Int} (v : SetV E f l F) (hE : E.length ≤ 100000) (hF : F.length ≤ 100000) (hd : E ++ F.map (fun x => (f : Int) + x) ++ (F.take 1).map (fun x => (f : Int) + (l : Int) + x) = days) (h2 : F = [] → 2 ≤ E.length)
    (hmn : gMin [dI ((days.zip (days.drop 1)).map fun q => q.2 - q.1)] = some (.int mn)) (hmx : gMax [dI ((days.zip (days.drop 1)).map fun q => q.2 - q.1)] = some (.int mx)) : m_gaps [dSet E f l F] = some (.tuple [.int mn, .int mx]) := by
  have k1 := m_check_sets_ok (setOk_of v) (by omega) (by omega)
  have hlen : days.length ≤ 300000 := by
    rw [← hd]
    simp only [List.length_append, List.length_map, List.length_take]
    omega
  have tst : (dIf (dNot (dThen (dV 4) truth)) (dThen (dOp (gI fun i j => .bool (decide (i < j))) (dThen (dCons (dV 1) dNil) gLen) (dC (.int 2))) isB) (dC false)) [.sh (dSet E f l F), .sh (dI E), .sh (.int f), .sh (.int l), .sh (dI F), .un, .un, .un, .un, .un] =
      some (false, [.sh (dSet E f l F), .sh (dI E), .sh (.int f), .sh (.int l), .sh (dI F), .un, .un, .un, .un, .un]) := by
    by_cases z : F = []
    · refine rIfT (rNot (rThen (rV rfl) truth_dI)) (by simp [z]) ?_
      have h3 := h2 z
      have h4 : decide ((E.length : Int) < 2) = false := decide_eq_false (by omega)
      rw [← h4]
      exact rThen (rOp (rThen (rCons (rV rfl) rNil) len_dI) rC rfl) rfl
    · exact rIfF (rNot (rThen (rV rfl) truth_dI)) (by simp [z]) rfl
  have c1 : ∀ X, (dComp (dThen (dV 4) asList) [7] (gtName 7) (dC true) (dOp gAdd (dV 2) (dV 7))) [X, .sh (dI E), .sh (.int f), .sh (.int l), .sh (dI F), .un, .un, .un, .un, .un] =
      some (dI (F.map fun x => (f : Int) + x), [X, .sh (dI E), .sh (.int f), .sh (.int l), .sh (dI F), .un, .un, .un, .un, .un]) := fun X => by
    exact rCompII (fun x => (f : Int) + x) (ns := F) (rThen (rV rfl) rfl) rfl (fun _ => rfl) (by simp) (fun n _ => by exact rOp (rV rfl) (rV rfl) rfl) (by omega)
  have c2 : ∀ X, (dComp (dThen (dThen (dPair (dV 4) (dPair (dC none) (dThen (dC (.int 1)) asPart))) fun p => gSl p.1 p.2.1 p.2.2) asList) [7] (gtName 7) (dC true) (dOp gAdd (dOp gAdd (dV 2) (dV 3)) (dV 7))) [X, .sh (dI E), .sh (.int f), .sh (.int l), .sh (dI F), .un, .un, .un, .un, .un] =
      some (dI ((F.take 1).map fun x => (f : Int) + (l : Int) + x), [X, .sh (dI E), .sh (.int f), .sh (.int l), .sh (dI F), .un, .un, .un, .un, .un]) := fun X => by
    exact rCompII (fun x => (f : Int) + (l : Int) + x) (ns := F.take 1) (rThen (rThen (rPair (rV rfl) (rPair rC (rPart rC))) (sl_to (k := 1) rfl)) rfl) rfl (fun _ => rfl) (by simp) (fun n _ => by exact rOp (rOp (rV rfl) (rV rfl) rfl) (rV rfl) rfl) (by rw [List.length_take]; omega)
  have c3 : ∀ X, (dComp (dThen (dCons (dV 5) (dCons (dThen (dPair (dV 5) (dPair (dThen (dC (.int 1)) asPart) (dC none))) fun p => gSl p.1 p.2.1 p.2.2) dNil)) zipD) [8, 9] (gtTup 2 (gtCons (gtName 8) (gtCons (gtName 9) gtNil))) (dC true) (dOp (gI fun i j => .int (i - j)) (dV 9) (dV 8))) [X, .sh (dI E), .sh (.int f), .sh (.int l), .sh (dI F), .sh (dI days), .un, .un, .un, .un] =
      some (dI ((days.zip (days.drop 1)).map fun q => q.2 - q.1), [X, .sh (dI E), .sh (.int f), .sh (.int l), .sh (dI F), .sh (dI days), .un, .un, .un, .un]) := fun X => by
    have := rComp2 (fi := dThen (dCons (dV 5) (dCons (dThen (dPair (dV 5) (dPair (dThen (dC (.int 1)) asPart) (dC none))) fun p => gSl p.1 p.2.1 p.2.2) dNil)) zipD) (vs := [8, 9]) (i := 8) (j := 9) (ft := dC true) (fe := dOp (gI fun i j => .int (i - j)) (dV 9) (dV 8))
      (ρ := [X, .sh (dI E), .sh (.int f), .sh (.int l), .sh (dI F), .sh (dI days), .un, .un, .un, .un]) (ρ1 := [X, .sh (dI E), .sh (.int f), .sh (.int l), .sh (dI F), .sh (dI days), .un, .un, .un, .un]) (fun q : Int × Int => .int q.1) (fun q => .int q.2) (fun _ => true) (fun q => .int (q.2 - q.1)) (ns := days.zip (days.drop 1))
      (rThen (rCons (rV rfl) (rCons (rThen (rPair (rV rfl) (rPair (rPart rC) rC)) (sl_from (k := 1) rfl)) rNil)) zip_dI) rfl (fun _ => rfl) (by simp) (by simp) (fun n _ => rfl) (fun n _ _ => by exact rOp (rV rfl) (rV rfl) rfl) (by rw [List.length_zip]; omega)
    rw [this, List.filter_eq_self.mpr (fun _ _ => rfl)]
    simp [dI]
  have lf : (F.take 1).length ≤ 1 := by rw [List.length_take]; omega
  apply fin (f := b_gaps)
  unfold b_gaps
  refine' rSeq (ρ1 := rho0 [dSet E f l F] 9) (rDrop (rThen (rCons (rThen (rCons (rV rfl) rNil) (few_map (by simp))) rNil) k1)) (rSeq (ρ1 := [.sh (dSet E f l F), .sh (dI E), .sh (.int f), .sh (.int l), .sh (dI F), .un, .un, .un, .un, .un]) ?u1
    (rSeq (rIfSF tst rfl rNext) (rSeq (ρ1 := [.sh (dSet E f l F), .sh (dI E), .sh (.int f), .sh (.int l), .sh (dI F), .sh (dI days), .un, .un, .un, .un]) ?u2 (rSeq (rAsgE (c3 _) rfl (by simp)) (rRet (rThen (rCons (rThen (rCons (rV rfl) rNil) hmn) (rCons (rThen (rCons (rV rfl) rNil) hmx) rNil)) (few_map (by simp))))))))
  case u1 => walk_at "run"
  case u2 =>
    refine rAsgE (d := dI days) (rOp (rOp (rV rfl) (c1 _) (cat_dI (by rw [List.length_map]; omega))) (c2 _) ?_) rfl (by simp)
    rw [← hd]
    exact cat_dI (by simp only [List.length_append, List.length_map]; omega)
theorem nums_diff {y : Nat → Int} {m : Nat} : ((nums y 0 (m + 1)).zip ((nums y 0 (m + 1)).drop 1)).map (fun q => q.2 - q.1) = (List.range m).map fun k => y (k + 1) - y k := by
  rw [nums_zip, List.map_map]
  simp [Function.comp_def]
theorem m_gaps_ok {E F : List Int} {f l : Nat} (v : SetV E f l F) (h0 : F ≠ []) (hE : E.length ≤ 100000) (hF : F.length ≤ 100000) : ∃ z, m_gaps [dSet E f l F] = some z ∧ GapsOf (nthL E f l F).at z := by
  have hc : 0 < F.length := List.length_pos_iff.mpr h0
  have t := (nthL E f l F).tell (by simp [nthL, h0])
  have e1 : (nthL E f l F).E = E := rfl
  have e2 : (nthL E f l F).T = F.map fun x => (f : Int) + x := rfl
  have e3 : (nthL E f l F).T.length = F.length := by rw [e2]; simp
  rw [e1, e3] at t
  obtain ⟨mn, mx, g1, g2, g3, _⟩ := gaps_of t (Nat.le_refl _)
  refine ⟨_, gaps_run (days := nums (nthL E f l F).at 0 (E.length + F.length + 1)) v hE hF ?_ (fun z => absurd z h0) (by rw [nums_diff]; exact g1) (by rw [nums_diff]; exact g2), g3⟩
  have a1 := Lad.early (L := nthL E f l F)
  have a2 := Lad.turn (L := nthL E f l F)
  rw [e1] at a1
  rw [e3, e1] at a2
  rw [e2] at a2
  have a3 : (F.take 1).map (fun x => (f : Int) + (l : Int) + x) = nums (nthL E f l F).at (E.length + F.length) 1 := by
    have st := t.step E.length (Nat.le_refl _)
    obtain ⟨i1, q⟩ := Md.nth_ge (E := E) (F := F) (f := f) (l := l) (k := E.length) (Nat.le_refl _) h0
    have z1 : E.length - E.length = 0 := by omega
    simp only [z1, Nat.zero_mod, Nat.zero_div] at q
    have er : (nthL E f l F).r = l := rfl
    rw [q, er] at st
    cases F with
    | nil => exact absurd rfl h0
    | cons x xs =>
      simp only [List.getElem_cons_zero] at st
      simp only [nums, List.range_one, List.map_cons, List.map_nil, Nat.add_zero, List.take_succ_cons, List.take_zero]
      rw [st]
      congr 1
      simp
      omega
  have n1 := Md.nums_append (x := (nthL E f l F).at) (a := 0) (m := E.length) (k := F.length)
  have n2 := Md.nums_append (x := (nthL E f l F).at) (a := 0) (m := E.length + F.length) (k := 1)
  rw [Nat.zero_add] at n1 n2
  rw [a2, a3, ← n2, ← n1, ← a1]

end Pg

set_option Elab.async false
set_option linter.all false
set_option maxRecDepth 100000
set_option maxHeartbeats 1000000
namespace Pg
open PySem PySem.Spec PyProof.Rows L2 Ly
local macro_rules | `(tactic| walk_at "run") => `(tactic| first
  | with_reducible exact rC
  | with_reducible exact rNil
  | with_reducible exact rNext
  | with_reducible exact rGN
  | ((with_reducible refine' rV ?m1); (case' m1 => rfl))
  | with_reducible assumption
  | ((with_reducible refine' rCons ?m1 ?m2); (case' m1 => walk_at "run"); (case' m2 => walk_at "run"))
  | ((with_reducible refine' rOp ?m1 ?m2 ?m3); (case' m1 => walk_at "run"); (case' m2 => walk_at "run"); (case' m3 => walk_at "run"))
  | ((with_reducible refine' rNot ?m1); (case' m1 => walk_at "run"))
  | ((with_reducible refine' rB ?m1); (case' m1 => walk_at "run"))
  | ((with_reducible refine' rPart ?m1); (case' m1 => walk_at "run"))
  | ((with_reducible refine' rThen ?m1 ?m2); (case' m1 => walk_at "run"); (case' m2 => walk_at "run"))
  | ((with_reducible refine' rPair ?m1 ?m2); (case' m1 => walk_at "run"); (case' m2 => walk_at "run"))
  | ((with_reducible refine' rSeq ?m1 ?m2); (case' m1 => walk_at "run"); (case' m2 => walk_at "run"))
  | ((with_reducible refine' rRet ?m1); (case' m1 => walk_at "run"))
  | ((with_reducible refine' rAsgE ?m1 ?m2 ?m3); (case' m1 => walk_at "run"); (case' m2 => rfl); (case' m3 => (simp [rho0])))
  | ((with_reducible refine' rAsg ?m1 ?m2); (case' m1 => walk_at "run"); (case' m2 => walk_at "run"))
  | ((with_reducible refine' rDrop ?m1); (case' m1 => walk_at "run"))
  | ((with_reducible refine' rNameE ?m1 ?m2); (case' m1 => rfl); (case' m2 => (simp [rho0, unset])))
  | ((with_reducible refine' rTup ?m1 ?m2); (case' m1 => rfl); (case' m2 => walk_at "run"))
  | ((with_reducible refine' rGC ?m1 ?m2); (case' m1 => walk_at "run"); (case' m2 => walk_at "run"))
  | ((with_reducible refine' rParE ?m1 ?m2 ?m3 ?m4); (case' m1 => walk_at "run"); (case' m2 => rfl); (case' m3 => (simp [rho0])); (case' m4 => (simp [rho0])))
  | ((with_reducible refine' rAugE ?m1 ?m2 ?m3); (case' m1 => rfl); (case' m2 => walk_at "run"); (case' m3 => rfl))
  | ((with_reducible refine' rIxO ?m1 ?m2 ?m3 ?m4); (case' m1 => rfl); (case' m2 => walk_at "run"); (case' m3 => rfl); (case' m4 => walk_at "run"))
  | ((with_reducible refine' rSlO ?m1 ?m2 ?m3); (case' m1 => rfl); (case' m2 => walk_at "run"); (case' m3 => rfl))
  | ((with_reducible refine' rFrz ?m1); (case' m1 => rfl))
  | ((with_reducible refine' rCallOE ?m1 ?m2 ?m3 ?m4 ?m5); (case' m1 => rfl); (case' m2 => walk_at "run"); (case' m3 => rfl); (case' m4 => walk_at "run"); (case' m5 => rfl))
  | with_reducible exact len_dI
  | with_reducible exact disp1
  | with_reducible exact truth_dI
  | with_reducible exact flat_dI
  | ((with_reducible refine' cat_lit1 ?m1); (case' m1 => ((try simp only [List.length_append, List.length_cons, List.length_nil]) <;> omega)))
  | ((with_reducible refine' cat_lit2 ?m1); (case' m1 => ((try simp only [List.length_append, List.length_cons, List.length_nil]) <;> omega)))
  | ((with_reducible refine' cat_dI ?m1); (case' m1 => ((try simp only [List.length_append, List.length_cons, List.length_nil]) <;> omega)))
  | rfl
  | skip)
open Md (Tell Round Begin nums Lad ladOf SetV bits nthL Days firstOf)
/-! ### what is shown -/
theorem repr_ok {z : D} (h : Fine z) : gRepr [z] = some (.str z.shown) := by
  have a := shown_le z h.sh h.od
  have b := h.ln
  have c := h.dp
  unfold gRepr
  exact if_pos ⟨h.sh, by omega, by omega⟩
theorem cst_dI : ∀ (xs : List Int), cstAll (xs.map PyData.int) = 1940 * xs.length
  | [] => rfl
  | x :: xs => by simp only [List.map_cons, cstAll, cst, cst_dI xs, List.length_cons]; omega
theorem odd_dI : ∀ (xs : List Int), noOddAll (xs.map PyData.int) = true
  | [] => rfl
  | x :: xs => by simp [noOddAll, noOdd, odd_dI xs]
theorem nl_dI : ∀ (xs : List Int), nlAll (xs.map PyData.int) = 0
  | [] => rfl
  | x :: xs => by simp [nlAll, nl, nl_dI xs]
theorem dp_dI : ∀ (xs : List Int), PyData.depthAll (xs.map PyData.int) = 0
  | [] => rfl
  | x :: xs => by simp [PyData.depthAll, PyData.depth, dp_dI xs]
theorem sh_dI : ∀ (xs : List Int), (∀ x ∈ xs, x.natAbs < 2 ^ 200) → PyData.showableAll (xs.map PyData.int) = true
  | [], _ => rfl
  | x :: xs, h => by
    rw [List.map_cons, PyData.showableAll, int_showable (h x List.mem_cons_self), sh_dI xs fun y hy => h y (List.mem_cons_of_mem _ hy)]
    rfl
theorem slim_dI : ∀ (xs : List Int), slimAll (xs.map PyData.int) = true
  | [] => rfl
  | x :: xs => by simp [slimAll, slim, slim_dI xs]
theorem slimC_dI : ∀ (xs : List Int), slimCAll (xs.map PyData.int) = true
  | [] => rfl
  | x :: xs => by simp [slimCAll, slimC, slimC_dI xs]
theorem fine_none : Fine .none := ⟨rfl, rfl, by decide, by decide⟩
theorem fine_bool (b : Bool) : Fine (.bool b) := ⟨rfl, rfl, by show 0 ≤ 50; omega, by show 10 ≤ 10000000; omega⟩
theorem fine_int {i : Int} (h : i.natAbs < 2 ^ 200) : Fine (.int i) := ⟨int_showable h, rfl, by show 0 ≤ 50; omega, by show 1930 ≤ 10000000; omega⟩
theorem fine_two {i j : Int} (h : i.natAbs < 2 ^ 200) (k : j.natAbs < 2 ^ 200) : Fine (.tuple [.int i, .int j]) := by
  refine ⟨?_, rfl, by show 1 ≤ 50; omega, by show 3880 + 10 ≤ 10000000; omega⟩
  simp only [PyData.showable, PyData.showableAll]
  have a := int_showable h
  have b := int_showable k
  simp only [PyData.showable] at a b
  simp [a, b]
structure Small (E F : List Int) (f l : Nat) : Prop where
  se : ∀ x ∈ E, x.natAbs < 2 ^ 200
  sf : ∀ x ∈ F, x.natAbs < 2 ^ 200
  le : E.length ≤ 1200
  lf : F.length ≤ 1200
  ff : f ≤ 10000
  ll : l ≤ 10000
section
variable {E F : List Int} {f l : Nat}
theorem small_nat {n : Nat} (h : n ≤ 10000) : ((n : Nat) : Int).natAbs < 2 ^ 200 := by
  have e : ((n : Nat) : Int).natAbs = n := Int.natAbs_natCast n
  rw [e]
  exact Nat.lt_of_le_of_lt h (by decide)
theorem cst_set : cst (dSet E f l F) = 1940 * E.length + 1940 * F.length + 3930 := by
  simp only [cst, cstAll, cst_dI]
  omega
theorem fine_set (s : Small E F f l) : Fine (dSet E f l F) := by
  refine ⟨?_, ?_, ?_, ?_⟩
  · have a := int_showable (small_nat s.ff)
    have b := int_showable (small_nat s.ll)
    simp only [PyData.showable] at a b
    simp only [PyData.showable, PyData.showableAll, sh_dI E s.se, sh_dI F s.sf, a, b]
    rfl
  · simp only [noOdd, noOddAll, odd_dI]
    rfl
  · simp only [PyData.depth, PyData.depthAll, dp_dI]
    omega
  · rw [cst_set]
    have := s.le
    have := s.lf
    omega
theorem okS_set (s : Small E F f l) : OkS (dSet E f l F) := by
  have h1 := s.le
  have h2 := s.lf
  refine ⟨fine_set s, ?_, ?_, ?_, ?_⟩
  · simp only [slim, slimAll, slim_dI, List.length_map]
    have a : decide (E.length ≤ 100000) = true := decide_eq_true (by omega)
    have b : decide (F.length ≤ 100000) = true := decide_eq_true (by omega)
    rw [a, b]
    rfl
  · simp only [slimC, slimCAll, slimC_dI, List.length_map, List.length_cons, List.length_nil]
    have a : decide (E.length ≤ 100000) = true := decide_eq_true (by omega)
    have b : decide (F.length ≤ 100000) = true := decide_eq_true (by omega)
    rw [a, b]
    rfl
  · simp only [PyData.depth, PyData.depthAll, dp_dI]
    omega
  · rw [cst_set]
    simp only [nl, nlAll, nl_dI]
    omega
theorem fine_pair {E' F' : List Int} {f' l' : Nat} (s : Small E F f l) (t : Small E' F' f' l') : Fine (.list [dSet E f l F, dSet E' f' l' F']) := by
  have a := fine_set s
  have b := fine_set t
  refine ⟨?_, ?_, ?_, ?_⟩
  · rw [PyData.showable, PyData.showableAll, PyData.showableAll, PyData.showableAll, a.sh, b.sh]
    rfl
  · rw [noOdd, noOddAll, noOddAll, noOddAll, a.od, b.od]
    rfl
  · have := a.dp
    have := b.dp
    simp only [PyData.depth, PyData.depthAll, dp_dI]
    omega
  · have e1 : cst (.list [dSet E f l F, dSet E' f' l' F']) = cst (dSet E f l F) + cst (dSet E' f' l' F') + 30 := by
      simp only [cst, cstAll]
      omega
    rw [e1, cst_set, cst_set]
    have := s.le
    have := s.lf
    have := t.le
    have := t.lf
    omega
theorem copy_set (s : Small E F f l) : gCopy [dSet E f l F] = some (dSet E f l F) := by
  have o := okS_set s
  unfold gCopy
  exact if_pos ⟨o.dp, o.s2⟩
end
theorem eq_str {x y : Str} : gEq (.str x) (.str y) = some (decide (x = y)) := rfl
/-! ### gaps, as the law asks -/
theorem l_gaps_right_ok {E F : List Int} {f l g m : Nat} (v : SetV E f l F) (hf : f ≤ 1000) (hl : l ≤ 1000) (hg : g ≤ 2000) (hm : m ≤ 2000) (t : Tell (bits E f l F) g m 0) (hE : E.length ≤ 1000) (hF : F.length ≤ 1000) :
    m__law_dl_gaps_right [dSet E f l F, dSet (daysOf (bits E f l F) 0 g) g m (daysOf (bits E f l F) g m)] = some (.bool true) := by
  have hl0 := v.l0
  have hm0 := t.pos
  generalize hb : bits E f l F = b at *
  generalize hW : dSet (daysOf b 0 g) g m (daysOf b g m) = W
  have vW : SetV (daysOf b 0 g) g m (daysOf b g m) := daysOf_set hm0
  have bW : bits (daysOf b 0 g) g m (daysOf b g m) = b := by
    subst hb
    exact bits_daysOf (fun _ => Md.bits_01) t
  have lE' : (daysOf b 0 g).length ≤ 100000 := Nat.le_trans daysOf_length (by omega)
  have lF' : (daysOf b g m).length ≤ 100000 := Nat.le_trans daysOf_length (by omega)
  have dt : m__law_dl_days_to [dSet E f l F, .int ((f : Int) + 2 * (l : Int))] = some (dI (daysOf b 0 (f + 2 * l))) := by
    have := l_days_to_ok (E := E) (F := F) (f := f) (l := l) (m := f + 2 * l) hl0 (by omega)
    have e : ((f + 2 * l : Nat) : Int) = (f : Int) + 2 * (l : Int) := by omega
    rw [e] at this
    rw [this, hb]
  have st1 : sAsg (dThen (dCons (dV 0) (dCons (dOp gAdd (dOp gIx (dV 0) (dC (.int 1))) (dOp gMul (dC (.int 2)) (dOp gIx (dV 0) (dC (.int 2))))) dNil)) m__law_dl_days_to) (gtName 2) (rho0 [dSet E f l F, W] 4) = some (.nx [.sh (dSet E f l F), .sh W, .sh (dI (daysOf b 0 (f + 2 * l))), .un, .un, .un]) :=
    rAsgE (rThen (rCons (rV rfl) (rCons (rOp (rOp (rV rfl) rC rfl) (rOp rC (rOp (rV rfl) rC rfl) (mul_ok (.inl (by decide)))) rfl) rNil)) dt) rfl (by simp [rho0])
  have tst : (dThen (dOp (gI fun i j => .bool (decide (i < j))) (dThen (dCons (dV 2) dNil) gLen) (dC (.int 2))) isB) [.sh (dSet E f l F), .sh W, .sh (dI (daysOf b 0 (f + 2 * l))), .un, .un, .un] =
      some (decide (((daysOf b 0 (f + 2 * l)).length : Int) < 2), [.sh (dSet E f l F), .sh W, .sh (dI (daysOf b 0 (f + 2 * l))), .un, .un, .un]) := rThen (rOp (rThen (rCons (rV rfl) rNil) len_dI) rC rfl) rfl
  by_cases c : (daysOf b 0 (f + 2 * l)).length < 2
  · apply fin (f := b__law_dl_gaps_right)
    unfold b__law_dl_gaps_right
    exact rSeq st1 (rSeqR (rIfST tst (decide_eq_true (by omega)) (rRet rC)))
  -- days, distances, and what both answer
  have core : ∃ (y : Nat → Int) (N : Nat) (mn mx : Int), daysOf b 0 (f + 2 * l) = nums y 0 (N + 1) ∧ gMin [dI ((List.range N).map fun k => y (k + 1) - y k)] = some (.int mn) ∧ gMax [dI ((List.range N).map fun k => y (k + 1) - y k)] = some (.int mx) ∧
      m_gaps [dSet E f l F] = some (.tuple [.int mn, .int mx]) ∧ m_gaps [W] = some (.tuple [.int mn, .int mx]) ∧ mn.natAbs < 2 ^ 200 ∧ mx.natAbs < 2 ^ 200 ∧ N ≤ 10000 := by
    have hN0 : (daysOf b 0 (f + 2 * l)).length ≤ f + 2 * l := daysOf_length
    have small : ∀ i : Int, -10000 ≤ i → i ≤ 10000 → i.natAbs < 2 ^ 200 := fun i h1 h2 => Nat.lt_of_le_of_lt (show i.natAbs ≤ 10000 by omega) (by decide)
    by_cases z : F = []
    · subst z
      have dE : ∀ n, f ≤ n → daysOf b 0 n = E := fun n hn => by
        refine rising_ext daysOf_up v.eU fun k => ?_
        rw [daysOf_mem, ← hb]
        constructor
        · rintro ⟨i, h1, h2, rfl⟩
          unfold bits at h2
          rw [Nat.zero_add] at h2
          split at h2
          · split at h2
            · assumption
            · cases h2
          · simp at h2
        · intro hk
          have := v.eR k hk
          refine ⟨k.toNat, by omega, ?_, by omega⟩
          unfold bits
          rw [Nat.zero_add, if_pos (by omega), if_pos]
          have : ((k.toNat : Nat) : Int) = k := by omega
          rw [this]
          exact hk
      have dF : daysOf b g m = [] := by
        rw [List.eq_nil_iff_forall_not_mem]
        intro k hk
        obtain ⟨i, h1, h2, h3⟩ := daysOf_mem.mp hk
        have hgE : f ≤ g + i ∨ g + i < f := by omega
        rw [← hb] at h2
        rcases hgE with w | w
        · unfold bits at h2
          rw [if_neg (by omega)] at h2
          simp at h2
        · -- a day ahead of f that comes again for ever
          have st := t.steps (f + 1) (g + i) (by omega)
          have big : f ≤ g + i + m * (f + 1) := by
            have := Nat.le_mul_of_pos_left (f + 1) hm0
            omega
          have z0 : b (g + i + m * (f + 1)) = 0 := by
            rw [← hb]
            unfold bits
            rw [if_neg (by omega)]
            simp
          rw [z0, ← hb, h2] at st
          simp at st
      have dEl := dE (f + 2 * l) (by omega)
      rw [dEl] at c ⊢
      have dEg : daysOf b 0 g = E := by
        -- all days lie ahead of g
        refine rising_ext daysOf_up v.eU fun k => ?_
        constructor
        · intro hk
          obtain ⟨i, h1, h2, h3⟩ := daysOf_mem.mp hk
          have : k ∈ daysOf b 0 (f + 2 * l + g) := daysOf_mem.mpr ⟨i, by omega, h2, h3⟩
          rw [dE _ (by omega)] at this
          exact this
        · intro hk
          have q := v.eR k hk
          have hbk : b k.toNat = 1 := by
            rw [← hb]
            unfold bits
            rw [if_pos (by omega), if_pos]
            have : ((k.toNat : Nat) : Int) = k := by omega
            rw [this]
            exact hk
          refine daysOf_mem.mpr ⟨k.toNat, ?_, by rw [Nat.zero_add]; exact hbk, by omega⟩
          rcases Nat.lt_or_ge k.toNat g with w | w
          · exact w
          · exfalso
            have st := t.steps ((k.toNat - g) / m) (g + (k.toNat - g) % m) (by omega)
            have e1 : g + (k.toNat - g) % m + m * ((k.toNat - g) / m) = k.toNat := by
              have := Nat.mod_add_div (k.toNat - g) m
              omega
            rw [e1] at st
            simp at st
            have : (((k.toNat - g) % m : Nat) : Int) ∈ daysOf b g m := daysOf_mem.mpr ⟨_, Nat.mod_lt _ hm0, by rw [← st]; exact hbk, rfl⟩
            rw [dF] at this
            cases this
      have hlen : 2 ≤ E.length := by omega
      have eN : E = nums (fun k => (E[k]?).getD 0) 0 (E.length - 1 + 1) := by
        apply List.ext_getElem?
        intro i
        by_cases h : i < E.length
        · rw [Md.nums_get (by omega), Nat.zero_add, List.getElem?_eq_getElem h]
          rfl
        · rw [List.getElem?_eq_none (by omega), List.getElem?_eq_none (by rw [Md.nums_length]; omega)]
      have h0 : ((List.range (E.length - 1)).map fun k => (E[k + 1]?).getD 0 - (E[k]?).getD 0) ≠ [] := by
        intro w
        have := congrArg List.length w
        simp at this
        omega
      obtain ⟨a1, a2⟩ := leastOf_ok h0
      obtain ⟨b1, b2⟩ := mostOf_ok h0
      have bound : ∀ x ∈ ((List.range (E.length - 1)).map fun k => (E[k + 1]?).getD 0 - (E[k]?).getD 0), -10000 ≤ x ∧ x ≤ 10000 := fun x hx => by
        obtain ⟨k, hk, rfl⟩ := List.mem_map.mp hx
        have hk : k < E.length - 1 := by simpa using hk
        rw [List.getElem?_eq_getElem (by omega), List.getElem?_eq_getElem (by omega)]
        have := v.eR _ (List.getElem_mem (show k < E.length by omega))
        have := v.eR _ (List.getElem_mem (show k + 1 < E.length by omega))
        simp only [Option.getD_some]
        omega
      have g1 := min_dI a1 a2
      have g2 := max_dI b1 b2
      have nd : ((E.zip (E.drop 1)).map fun q => q.2 - q.1) = (List.range (E.length - 1)).map fun k => (E[k + 1]?).getD 0 - (E[k]?).getD 0 := by
        conv => lhs; rw [eN]
        exact nums_diff
      refine ⟨fun k => (E[k]?).getD 0, E.length - 1, _, _, eN, g1, g2, ?_, ?_, small _ (bound _ a1).1 (bound _ a1).2, small _ (bound _ b1).1 (bound _ b1).2, by omega⟩
      · exact gaps_run (days := E) v (by omega) (by simp) (by simp) (fun _ => hlen) (by rw [nd]; exact g1) (by rw [nd]; exact g2)
      · rw [← hW, dEg, dF]
        rw [dEg, dF] at vW
        exact gaps_run (days := E) vW (by omega) (by simp) (by simp) (fun _ => hlen) (by rw [nd]; exact g1) (by rw [nd]; exact g2)
    · have d := nth_days v z
      rw [hb] at d
      have hc : 0 < F.length := List.length_pos_iff.mpr z
      have ty := (nthL E f l F).tell (by simp [nthL, z])
      have e1 : (nthL E f l F).E = E := rfl
      have e3 : (nthL E f l F).T.length = F.length := by simp [nthL]
      have e4 : (nthL E f l F).r = l := rfl
      rw [e1, e3, e4] at ty
      -- the days up to f + 2 l
      have y1 := ty.step (E.length + F.length - 1) (by omega)
      have y2 := ty.steps 2 E.length (Nat.le_refl _)
      obtain ⟨i1, q1⟩ := Md.nth_ge (E := E) (F := F) (f := f) (l := l) (k := E.length) (Nat.le_refl _) z
      obtain ⟨i2, q2⟩ := Md.nth_ge (E := E) (F := F) (f := f) (l := l) (k := E.length + F.length - 1) (by omega) z
      have r1 := v.fR _ (List.getElem_mem i1)
      have r2 := v.fR _ (List.getElem_mem i2)
      have z1 : (E.length - E.length) / F.length = 0 := by rw [Nat.sub_self, Nat.zero_div]
      have z2 : (E.length + F.length - 1 - E.length) / F.length = 0 := Nat.div_eq_of_lt (by omega)
      rw [z1] at q1
      rw [z2] at q2
      simp only [Int.natCast_zero, Int.mul_zero, Int.add_zero] at q1 q2
      have upto : ∀ j, j < E.length + F.length * 2 ↔ (nthL E f l F).at j < ((f + 2 * l : Nat) : Int) := fun j => by
        have w1 : E.length + F.length - 1 + F.length = E.length + F.length * 2 - 1 := by omega
        rw [w1] at y1
        constructor
        · intro h
          have := d.mono_le (show j ≤ E.length + F.length * 2 - 1 by omega)
          omega
        · intro h
          rcases Nat.lt_or_ge j (E.length + F.length * 2) with w | w
          · exact w
          · have := d.mono_le w
            rw [y2] at this
            omega
      have du := days_upto d upto
      obtain ⟨mn, mx, g1, g2, g3, ⟨k1, k2, k3⟩, k4, k5, k6⟩ := gaps_of (N := E.length + F.length * 2 - 1) ty (by omega)
      obtain ⟨za, ga1, ga2⟩ := m_gaps_ok v z (by omega) (by omega)
      have zb : daysOf b g m ≠ [] := by
        intro w
        have hy := d.zero g
        have hge := d.ge g
        have hbk := d.is g
        have st := t.steps ((((nthL E f l F).at g).toNat - g) / m) (g + (((nthL E f l F).at g).toNat - g) % m) (by omega)
        have e5 : g + (((nthL E f l F).at g).toNat - g) % m + m * ((((nthL E f l F).at g).toNat - g) / m) = ((nthL E f l F).at g).toNat := by
          have := Nat.mod_add_div (((nthL E f l F).at g).toNat - g) m
          omega
        rw [e5] at st
        simp at st
        have : (((((nthL E f l F).at g).toNat - g) % m : Nat) : Int) ∈ daysOf b g m := daysOf_mem.mpr ⟨_, Nat.mod_lt _ hm0, by rw [← st]; exact hbk, rfl⟩
        rw [w] at this
        cases this
      obtain ⟨zw, gw1, gw2⟩ := m_gaps_ok vW zb lE' lF'
      have dW := nth_days vW zb
      rw [bW] at dW
      rw [← d.unique dW] at gw2
      have u1 := ga2.uniq g3
      have u2 := gw2.uniq g3
      have eW : E.length + F.length * 2 - 1 + 1 = E.length + F.length * 2 := by omega
      have bnd : ∀ k, k < E.length + F.length * 2 - 1 → -10000 ≤ (nthL E f l F).at (k + 1) - (nthL E f l F).at k ∧ (nthL E f l F).at (k + 1) - (nthL E f l F).at k ≤ 10000 := fun k hk => by
        have := (upto k).mp (by omega)
        have := (upto (k + 1)).mp (by omega)
        have := d.zero k
        have := d.zero (k + 1)
        omega
      refine ⟨(nthL E f l F).at, E.length + F.length * 2 - 1, mn, mx, by rw [eW]; exact du, g1, g2, by rw [ga1, u1], by rw [← hW, gw1, u2], ?_, ?_, by omega⟩
      · rw [k3]
        exact small _ (bnd _ k2).1 (bnd _ k2).2
      · rw [k6]
        exact small _ (bnd _ k5).1 (bnd _ k5).2
  obtain ⟨y, N, mn, mx, e1, e2, e3, e4, e5, e6, e7, e8⟩ := core
  rw [e1] at st1 tst c
  rw [Md.nums_length] at tst c
  have fz := fine_two e6 e7
  have rz := repr_ok fz
  generalize (PyData.tuple [.int mn, .int mx]).shown = Z at rz
  have getd : ∀ k, k < N + 1 → (nums y 0 (N + 1))[k]? = some (y k) := fun k hk => by rw [Md.nums_get hk, Nat.zero_add]
  have cmp : (dComp (dThen (dCons (dOp (gI fun i j => .int (i - j)) (dThen (dCons (dV 2) dNil) gLen) (dC (.int 1))) dNil) rng1) [5] (gtName 5) (dC true) (dOp (gI fun i j => .int (i - j)) (dOp gIx (dV 2) (dOp gAdd (dV 5) (dC (.int 1)))) (dOp gIx (dV 2) (dV 5)))) [.sh (dSet E f l F), .sh W, .sh (dI (nums y 0 (N + 1))), .un, .un, .un] =
      some (dI ((List.range N).map fun k => y (k + 1) - y k), [.sh (dSet E f l F), .sh W, .sh (dI (nums y 0 (N + 1))), .un, .un, .un]) := by
    have en : PyData.list ((List.range N).map fun k : Nat => PyData.int (y (k + 1) - y k)) = dI ((List.range N).map fun k => y (k + 1) - y k) := by simp [dI]
    rw [← en]
    refine rComp1T (ρ1 := [.sh (dSet E f l F), .sh W, .sh (dI (nums y 0 (N + 1))), .un, .un, .un]) (fun k : Nat => .int (k : Nat)) (fun k : Nat => .int (y (k + 1) - y k)) (ns := List.range N) ?_ rfl (fun _ => rfl) (by simp) (fun n hn => ?_) (by simp; omega)
    · have er : (((nums y 0 (N + 1)).length : Int) - 1).toNat = N := by rw [Md.nums_length]; omega
      have := rThen (rCons (rOp (rThen (rCons (rV (ρ := [.sh (dSet E f l F), .sh W, .sh (dI (nums y 0 (N + 1))), .un, .un, .un]) (i := 2) rfl) rNil) len_dI) (rC (a := PyData.int 1)) (rfl : (gI fun i j => .int (i - j)) (.int ((nums y 0 (N + 1)).length : Int)) (.int 1) = _)) rNil) (rng_ok (n := ((nums y 0 (N + 1)).length : Int) - 1) (by rw [Md.nums_length]; omega))
      rw [er] at this
      exact this
    · have hn : n < N := by simpa using hn
      exact rOp (rOp (rV rfl) (rOp (rV rfl) rC rfl) (ix_dI (k := n + 1) (by omega) (getd _ (by omega)))) (rOp (rV rfl) (rV rfl) (ix_dI rfl (getd _ (by omega)))) rfl
  apply fin (f := b__law_dl_gaps_right)
  unfold b__law_dl_gaps_right
  refine' rSeq st1 (rSeq (rIfSF tst (decide_eq_false ?u0) rNext) (rSeq (rAsgE cmp rfl (by simp)) (rSeq (ρ1 := [.sh (dSet E f l F), .sh W, .sh (dI (nums y 0 (N + 1))), .sh (dI ((List.range N).map fun k => y (k + 1) - y k)), .sh (.str Z), .un]) ?u1 (rRet ?u2))))
  case u0 => omega
  case u1 => exact rAsgE (rThen (rCons (rThen (rCons (rThen (rCons (rV rfl) rNil) e2) (rCons (rThen (rCons (rV rfl) rNil) e3) rNil)) (few_map (by simp))) rNil) rz) rfl (by simp)
  case u2 =>
    refine rIfT (b := decide (Z = Z)) (rB (rOp (rThen (rCons (rThen (rCons (rV rfl) rNil) e4) rNil) rz) (rV rfl) rfl)) (by simp) ?_
    have : (PyData.bool true) = .bool (decide (Z = Z)) := by simp
    rw [this]
    exact rOp (rThen (rCons (rThen (rCons (rV rfl) rNil) e5) rNil) rz) (rV rfl) rfl

end Pg

set_option Elab.async false
set_option linter.all false
set_option maxRecDepth 100000
set_option maxHeartbeats 1000000
namespace Pg
open PySem PySem.Spec PyProof.Rows L2 Ly
local macro_rules | `(tactic| walk_at "run") => `(tactic| first
  | with_reducible exact rC
  | with_reducible exact rNil
  | with_reducible exact rNext
  | with_reducible exact rGN
  | ((with_reducible refine' rV ?m1); (case' m1 => rfl))
  | with_reducible assumption
  | ((with_reducible refine' rCons ?m1 ?m2); (case' m1 => walk_at "run"); (case' m2 => walk_at "run"))
  | ((with_reducible refine' rOp ?m1 ?m2 ?m3); (case' m1 => walk_at "run"); (case' m2 => walk_at "run"); (case' m3 => walk_at "run"))
  | ((with_reducible refine' rNot ?m1); (case' m1 => walk_at "run"))
  | ((with_reducible refine' rB ?m1); (case' m1 => walk_at "run"))
  | ((with_reducible refine' rPart ?m1); (case' m1 => walk_at "run"))
  | ((with_reducible refine' rThen ?m1 ?m2); (case' m1 => walk_at "run"); (case' m2 => walk_at "run"))
  | ((with_reducible refine' rPair ?m1 ?m2); (case' m1 => walk_at "run"); (case' m2 => walk_at "run"))
  | ((with_reducible refine' rSeq ?m1 ?m2); (case' m1 => walk_at "run"); (case' m2 => walk_at "run"))
  | ((with_reducible refine' rRet ?m1); (case' m1 => walk_at "run"))
  | ((with_reducible refine' rAsgE ?m1 ?m2 ?m3); (case' m1 => walk_at "run"); (case' m2 => rfl); (case' m3 => (simp [rho0])))
  | ((with_reducible refine' rAsg ?m1 ?m2); (case' m1 => walk_at "run"); (case' m2 => walk_at "run"))
  | ((with_reducible refine' rDrop ?m1); (case' m1 => walk_at "run"))
  | ((with_reducible refine' rNameE ?m1 ?m2); (case' m1 => rfl); (case' m2 => (simp [rho0, unset])))
  | ((with_reducible refine' rTup ?m1 ?m2); (case' m1 => rfl); (case' m2 => walk_at "run"))
  | ((with_reducible refine' rGC ?m1 ?m2); (case' m1 => walk_at "run"); (case' m2 => walk_at "run"))
  | ((with_reducible refine' rParE ?m1 ?m2 ?m3 ?m4); (case' m1 => walk_at "run"); (case' m2 => rfl); (case' m3 => (simp [rho0])); (case' m4 => (simp [rho0])))
  | ((with_reducible refine' rAugE ?m1 ?m2 ?m3); (case' m1 => rfl); (case' m2 => walk_at "run"); (case' m3 => rfl))
  | ((with_reducible refine' rIxO ?m1 ?m2 ?m3 ?m4); (case' m1 => rfl); (case' m2 => walk_at "run"); (case' m3 => rfl); (case' m4 => walk_at "run"))
  | ((with_reducible refine' rSlO ?m1 ?m2 ?m3); (case' m1 => rfl); (case' m2 => walk_at "run"); (case' m3 => rfl))
  | ((with_reducible refine' rFrz ?m1); (case' m1 => rfl))
  | ((with_reducible refine' rCallOE ?m1 ?m2 ?m3 ?m4 ?m5); (case' m1 => rfl); (case' m2 => walk_at "run"); (case' m3 => rfl); (case' m4 => walk_at "run"); (case' m5 => rfl))
  | with_reducible exact len_dI
  | with_reducible exact disp1
  | with_reducible exact truth_dI
  | with_reducible exact flat_dI
  | ((with_reducible refine' cat_lit1 ?m1); (case' m1 => ((try simp only [List.length_append, List.length_cons, List.length_nil]) <;> omega)))
  | ((with_reducible refine' cat_lit2 ?m1); (case' m1 => ((try simp only [List.length_append, List.length_cons, List.length_nil]) <;> omega)))
  | ((with_reducible refine' cat_dI ?m1); (case' m1 => ((try simp only [List.length_append, List.length_cons, List.length_nil]) <;> omega)))
  | rfl
  | skip)
open Md (Tell Round Begin nums Lad ladOf SetV bits nthL Days firstOf)
theorem NextDay.fine {b : Nat → Int} {d : Int} {z : D} {f l : Nat} (h : NextDay b d z) (t : Tell b f l 0) (h0 : 0 ≤ d) (hd : d < 2 ^ 150) (hf : f ≤ 10000) (hl : l ≤ 10000) : Fine z := by
  rcases h with ⟨n, rfl, h1, h2, h3⟩ | ⟨rfl, _⟩
  · refine fine_int ?_
    have hn : (n : Int) < d + f + l + 1 := by
      rcases Int.lt_or_le (n : Int) (d + f + l + 1) with c | c
      · exact c
      · exfalso
        have st := t.step (n - l) (by omega)
        have e : n - l + l = n := by omega
        rw [e, h1] at st
        have := h3 (n - l) (by have := t.pos; omega) (by omega)
        omega
    have e150 : (2 : Int) ^ 150 = 1427247692705959881058285969449495136382746624 := by decide
    have e200 : (2 : Nat) ^ 200 = 1606938044258990275541962092341162602522202993782792835301376 := by decide
    rw [e150] at hd
    rw [e200]
    omega
  · exact fine_none
theorem ne_same {Z : Str} {fa fb : Den D} {ρ : Rho} (h : fa ρ = some (.str Z, ρ)) (k : fb ρ = some (.str Z, ρ)) : dThen (dOp (fun x y => (gEq x y).map fun b => .bool (!b)) fa fb) isB ρ = some (false, ρ) := by
  have : (!decide (Z = Z)) = false := by simp
  rw [← this]
  exact rThen (rOp h k rfl) rfl
theorem l_asked_right_ok {k : Nat} {ds : List D} {E F : List Int} {f l g m : Nat} (h : SackD k ds) (hk : k ≤ 2 ^ 60) (v : SetV E f l F) (hf : f ≤ 1000) (hl : l ≤ 1000) (hg : g ≤ 2000) (hm : m ≤ 2000) (t : Tell (bits E f l F) g m 0) (hE : E.length ≤ 1000) (hF : F.length ≤ 1000) :
    ∃ es, m__law_dl_asked_right ds [dSet E f l F, dSet (daysOf (bits E f l F) 0 g) g m (daysOf (bits E f l F) g m)] = some (.bool true, es) ∧ SackD (k + 2) es := by
  have hl0 := v.l0
  have hm0 := t.pos
  have e60 : (2 : Nat) ^ 60 + 100 ≤ 2 ^ 90 := by decide
  generalize hW : dSet (daysOf (bits E f l F) 0 g) g m (daysOf (bits E f l F) g m) = W
  have vW : SetV (daysOf (bits E f l F) 0 g) g m (daysOf (bits E f l F) g m) := daysOf_set hm0
  have bW : bits (daysOf (bits E f l F) 0 g) g m (daysOf (bits E f l F) g m) = bits E f l F := bits_daysOf (fun _ => Md.bits_01) t
  have lE' : (daysOf (bits E f l F) 0 g).length ≤ 400000 := Nat.le_trans daysOf_length (by omega)
  have lF' : (daysOf (bits E f l F) g m).length ≤ 400000 := Nat.le_trans daysOf_length (by omega)
  obtain ⟨far, d1, p1, s1, a0, a1⟩ := pick_ok (m := 10 ^ 30) h (by omega) (by decide) (by decide)
  obtain ⟨n2, d2, p2, s2, b0, b1⟩ := pick_ok (m := 60) s1 (by omega) (by decide) (by decide)
  have e30 : (10 : Int) ^ 30 = 1000000000000000000000000000000 := by decide
  rw [e30] at a1
  have q0 : 0 ≤ far / 10 ^ 6 := Int.ediv_nonneg a0 (by decide)
  have q1 : far / 10 ^ 6 ≤ far := Int.ediv_le_self _ a0
  have q2 : (l : Int) * (far / 10 ^ 6) ≤ 1000 * (far / 10 ^ 6) := Int.mul_le_mul_of_nonneg_right (by omega) q0
  have q3 : 0 ≤ (l : Int) * (far / 10 ^ 6) := Int.mul_nonneg (by omega) q0
  generalize hedge : (f : Int) + (l : Int) - 1 + (l : Int) * (far / 10 ^ 6) = edge
  have r0 : 0 ≤ edge := by omega
  have e150 : (2 : Int) ^ 150 = 1427247692705959881058285969449495136382746624 := by decide
  have r1 : edge < 2 ^ 150 := by rw [e150]; omega
  -- one day
  have one : ∀ d : Int, 0 ≤ d → d < 2 ^ 150 → ∀ (X Y Z s5 s6 : Sl), ∃ s6' : Sl, (sSeq (sAsg (dThen (dCons (dV 1) (dCons (dV 5) dNil)) m__law_dl_has) (gtName 6))
      (sSeq (sIf (dIf (dThen (dOp (fun x y => (gEq x y).map fun b => .bool (!b)) (dThen (dCons (dThen (dCons (dV 1) (dCons (dV 5) dNil)) m_has) dNil) gRepr) (dThen (dCons (dV 6) dNil) gRepr)) isB) (dC true) (dThen (dOp (fun x y => (gEq x y).map fun b => .bool (!b)) (dThen (dCons (dThen (dCons (dV 5) (dCons (dV 2) dNil)) fun es => m_has (kw2r [] es)) dNil) gRepr) (dThen (dCons (dV 6) dNil) gRepr)) isB)) (sRet (dC (.bool false))) sNext)
      (sSeq (sAsg (dThen (dCons (dV 1) (dCons (dV 5) dNil)) m__law_dl_ahead) (gtName 6))
      (sIf (dIf (dThen (dOp (fun x y => (gEq x y).map fun b => .bool (!b)) (dThen (dCons (dThen (dCons (dV 2) (dCons (dV 5) dNil)) m_next_day) dNil) gRepr) (dThen (dCons (dV 6) dNil) gRepr)) isB) (dC true) (dThen (dOp (fun x y => (gEq x y).map fun b => .bool (!b)) (dThen (dCons (dThen (dCons (dV 5) (dCons (dV 1) dNil)) fun es => m_next_day (kw2r [] es)) dNil) gRepr) (dThen (dCons (dV 6) dNil) gRepr)) isB)) (sRet (dC (.bool false))) sNext))))
      ([X, .sh (dSet E f l F), .sh W, Y, Z, .sh (.int d), s6] : Rho) = some (.nx [X, .sh (dSet E f l F), .sh W, Y, Z, .sh (.int d), s6']) := by
    intro d hd0 hd1 X Y Z s5 s6
    have k1 := l_has_ok (E := E) (F := F) (f := f) hl0 hd0
    have k2 := m_has_ok (d := d) v (by omega) (by omega) (by omega) hd0
    have k3 := m_has_ok (d := d) vW lE' lF' (by omega) hd0
    rw [bW, hW] at k3
    obtain ⟨z1, j1, j2⟩ := l_ahead_ok (E := E) (F := F) (f := f) hl0 (by omega) (by omega) hd0
    obtain ⟨z2, j3, j4⟩ := m_next_ok (d := d) v (by omega) (by omega) (by omega) hd0
    obtain ⟨z3, j5, j6⟩ := m_next_ok (d := d) vW lE' lF' (by omega) hd0
    rw [bW] at j6
    rw [hW] at j5
    obtain rfl := j4.uniq j2
    obtain rfl := j6.uniq j2
    have fz := repr_ok (j2.fine (Md.bits_tell (E := E) (F := F) (f := f) hl0) hd0 hd1 (by omega) (by omega))
    generalize hbb : decide (bits E f l F d.toNat = 1) = bb at k1 k2 k3
    have fb := repr_ok (fine_bool bb)
    generalize (PyData.bool bb).shown = Sb at fb
    generalize z3.shown = Sz at fz
    refine ⟨.sh z3, rSeq (ρ1 := [X, .sh (dSet E f l F), .sh W, Y, Z, .sh (.int d), .sh (.bool bb)]) (rAsgE (rThen (rCons (rV rfl) (rCons (rV rfl) rNil)) k1) rfl (by simp)) (rSeq (ρ1 := [X, .sh (dSet E f l F), .sh W, Y, Z, .sh (.int d), .sh (.bool bb)]) (rIfSF (b := false) ?_ rfl rNext)
      (rSeq (ρ1 := [X, .sh (dSet E f l F), .sh W, Y, Z, .sh (.int d), .sh z3]) (rAsgE (rThen (rCons (rV rfl) (rCons (rV rfl) rNil)) j1) rfl (by simp)) (rIfSF (b := false) ?_ rfl rNext)))⟩
    · exact rIfF (ne_same (Z := Sb) (rThen (rCons (rThen (rCons (rV rfl) (rCons (rV rfl) rNil)) k2) rNil) fb) (rThen (rCons (rV rfl) rNil) fb)) rfl
        (ne_same (Z := Sb) (rThen (rCons (rThen (rCons (rV rfl) (rCons (rV rfl) rNil)) k3) rNil) fb) (rThen (rCons (rV rfl) rNil) fb))
    · exact rIfF (ne_same (Z := Sz) (rThen (rCons (rThen (rCons (rV rfl) (rCons (rV rfl) rNil)) j5) rNil) fz) (rThen (rCons (rV rfl) rNil) fz)) rfl
        (ne_same (Z := Sz) (rThen (rCons (rThen (rCons (rV rfl) (rCons (rV rfl) rNil)) j3) rNil) fz) (rThen (rCons (rV rfl) rNil) fz))
  have all5 : ∀ d ∈ ([0, far, (f : Int), n2, edge] : List Int), 0 ≤ d ∧ d < 2 ^ 150 := fun d hd => by
    simp only [List.mem_cons, List.not_mem_nil, or_false] at hd
    rw [e150]
    rw [e150] at r1
    rcases hd with rfl | rfl | rfl | rfl | rfl <;> omega
  obtain ⟨ρ', w1, s5, s6, w2⟩ := rFor (fi := dThen (dThen (dCons (dC (.int 0)) (dCons (dV 3) (dCons (dOp gIx (dV 1) (dC (.int 1))) (dCons (dCallO 0 (dCons (dC (.int 60)) dNil) m__law_dl_pick) (dCons (dV 4) dNil))))) fun ds => (few ds).map .list) asList) (g := gtName 5)
    (fb := (sSeq (sAsg (dThen (dCons (dV 1) (dCons (dV 5) dNil)) m__law_dl_has) (gtName 6))
      (sSeq (sIf (dIf (dThen (dOp (fun x y => (gEq x y).map fun b => .bool (!b)) (dThen (dCons (dThen (dCons (dV 1) (dCons (dV 5) dNil)) m_has) dNil) gRepr) (dThen (dCons (dV 6) dNil) gRepr)) isB) (dC true) (dThen (dOp (fun x y => (gEq x y).map fun b => .bool (!b)) (dThen (dCons (dThen (dCons (dV 5) (dCons (dV 2) dNil)) fun es => m_has (kw2r [] es)) dNil) gRepr) (dThen (dCons (dV 6) dNil) gRepr)) isB)) (sRet (dC (.bool false))) sNext)
      (sSeq (sAsg (dThen (dCons (dV 1) (dCons (dV 5) dNil)) m__law_dl_ahead) (gtName 6))
      (sIf (dIf (dThen (dOp (fun x y => (gEq x y).map fun b => .bool (!b)) (dThen (dCons (dThen (dCons (dV 2) (dCons (dV 5) dNil)) m_next_day) dNil) gRepr) (dThen (dCons (dV 6) dNil) gRepr)) isB) (dC true) (dThen (dOp (fun x y => (gEq x y).map fun b => .bool (!b)) (dThen (dCons (dThen (dCons (dV 5) (dCons (dV 1) dNil)) fun es => m_next_day (kw2r [] es)) dNil) gRepr) (dThen (dCons (dV 6) dNil) gRepr)) isB)) (sRet (dC (.bool false))) sNext)))))
    (ρ := [.ow true d1, .sh (dSet E f l F), .sh W, .sh (.int far), .sh (.int edge), .un, .un]) (ρ1 := [.ow true d2, .sh (dSet E f l F), .sh W, .sh (.int far), .sh (.int edge), .un, .un])
    PyData.int (fun _ ρ => ∃ s5 s6, ρ = [.ow true d2, .sh (dSet E f l F), .sh W, .sh (.int far), .sh (.int edge), s5, s6]) (ns := [0, far, (f : Int), n2, edge])
    (rThen (rThen (rCons rC (rCons (rV rfl) (rCons (rOp (rV rfl) rC rfl) (rCons (rCallOE rfl (rCons rC rNil) rfl p2 rfl) (rCons (rV rfl) rNil))))) (few_map (by simp))) rfl) ⟨_, _, rfl⟩ (fun as n bs ρ2 hn ⟨s5, s6, hρ⟩ => by
      subst hρ
      obtain ⟨m0, m1⟩ := all5 n (by rw [hn]; simp)
      obtain ⟨s6', q⟩ := one n m0 m1 (.ow true d2) (.sh (.int far)) (.sh (.int edge)) s5 s6
      exact ⟨_, _, rfl, q, .sh (.int n), s6', rfl⟩)
  subst w2
  refine ⟨d2, ?_, s2⟩
  refine finO (f := b__law_dl_asked_right) (ρ := [.ow true d2, .sh (dSet E f l F), .sh W, .sh (.int far), .sh (.int edge), s5, s6]) ?_ rfl
  unfold b__law_dl_asked_right
  refine' rSeq (ρ1 := [.ow true d1, .sh (dSet E f l F), .sh W, .sh (.int far), .un, .un, .un]) ?u1 (rSeq (ρ1 := [.ow true d1, .sh (dSet E f l F), .sh W, .sh (.int far), .sh (.int edge), .un, .un]) ?u2 (rSeq w1 (rRet rC)))
  case u1 => exact rAsgE (rCallOE rfl (rCons (rOp rC rC (pow_ok (i := 10) (k := 30) (n := 4) (by decide) (by decide) (by decide))) rNil) rfl p1 rfl) rfl (by simp [rho0])
  case u2 =>
    rw [← hedge]
    exact rAsgE (rOp (rOp (rOp (rOp (rV rfl) rC rfl) (rOp (rV rfl) rC rfl) rfl) rC rfl) (rOp (rOp (rV rfl) rC rfl) (rOp (rV rfl) (rOp rC rC (pow_ok (i := 10) (k := 6) (n := 4) (by decide) (by decide) (by decide))) (div_ok (by decide) (by decide))) (mul_ok (.inl (by omega)))) rfl) rfl (by simp)

end Pg

set_option Elab.async false
set_option linter.all false
set_option maxRecDepth 100000
set_option maxHeartbeats 1000000
namespace Pg
open PySem PySem.Spec PyProof.Rows L2 Ly
local macro_rules | `(tactic| walk_at "run") => `(tactic| first
  | with_reducible exact rC
  | with_reducible exact rNil
  | with_reducible exact rNext
  | with_reducible exact rGN
  | ((with_reducible refine' rV ?m1); (case' m1 => rfl))
  | with_reducible assumption
  | ((with_reducible refine' rCons ?m1 ?m2); (case' m1 => walk_at "run"); (case' m2 => walk_at "run"))
  | ((with_reducible refine' rOp ?m1 ?m2 ?m3); (case' m1 => walk_at "run"); (case' m2 => walk_at "run"); (case' m3 => walk_at "run"))
  | ((with_reducible refine' rNot ?m1); (case' m1 => walk_at "run"))
  | ((with_reducible refine' rB ?m1); (case' m1 => walk_at "run"))
  | ((with_reducible refine' rPart ?m1); (case' m1 => walk_at "run"))
  | ((with_reducible refine' rThen ?m1 ?m2); (case' m1 => walk_at "run"); (case' m2 => walk_at "run"))
  | ((with_reducible refine' rPair ?m1 ?m2); (case' m1 => walk_at "run"); (case' m2 => walk_at "run"))
  | ((with_reducible refine' rSeq ?m1 ?m2); (case' m1 => walk_at "run"); (case' m2 => walk_at "run"))
  | ((with_reducible refine' rRet ?m1); (case' m1 => walk_at "run"))
  | ((with_reducible refine' rAsgE ?m1 ?m2 ?m3); (case' m1 => walk_at "run"); (case' m2 => rfl); (case' m3 => (simp [rho0])))
  | ((with_reducible refine' rAsg ?m1 ?m2); (case' m1 => walk_at "run"); (case' m2 => walk_at "run"))
  | ((with_reducible refine' rDrop ?m1); (case' m1 => walk_at "run"))
  | ((with_reducible refine' rNameE ?m1 ?m2); (case' m1 => rfl); (case' m2 => (simp [rho0, unset])))
  | ((with_reducible refine' rTup ?m1 ?m2); (case' m1 => rfl); (case' m2 => walk_at "run"))
  | ((with_reducible refine' rGC ?m1 ?m2); (case' m1 => walk_at "run"); (case' m2 => walk_at "run"))
  | ((with_reducible refine' rParE ?m1 ?m2 ?m3 ?m4); (case' m1 => walk_at "run"); (case' m2 => rfl); (case' m3 => (simp [rho0])); (case' m4 => (simp [rho0])))
  | ((with_reducible refine' rAugE ?m1 ?m2 ?m3); (case' m1 => rfl); (case' m2 => walk_at "run"); (case' m3 => rfl))
  | ((with_reducible refine' rIxO ?m1 ?m2 ?m3 ?m4); (case' m1 => rfl); (case' m2 => walk_at "run"); (case' m3 => rfl); (case' m4 => walk_at "run"))
  | ((with_reducible refine' rSlO ?m1 ?m2 ?m3); (case' m1 => rfl); (case' m2 => walk_at "run"); (case' m3 => rfl))
  | ((with_reducible refine' rFrz ?m1); (case' m1 => rfl))
  | ((with_reducible refine' rCallOE ?m1 ?m2 ?m3 ?m4 ?m5); (case' m1 => rfl); (case' m2 => walk_at "run"); (case' m3 => rfl); (case' m4 => walk_at "run"); (case' m5 => rfl))
  | with_reducible exact len_dI
  | with_reducible exact disp1
  | with_reducible exact truth_dI
  | with_reducible exact flat_dI
  | ((with_reducible refine' cat_lit1 ?m1); (case' m1 => ((try simp only [List.length_append, List.length_cons, List.length_nil]) <;> omega)))
  | ((with_reducible refine' cat_lit2 ?m1); (case' m1 => ((try simp only [List.length_append, List.length_cons, List.length_nil]) <;> omega)))
  | ((with_reducible refine' cat_dI ?m1); (case' m1 => ((try simp only [List.length_append, List.length_cons, List.length_nil]) <;> omega)))
  | rfl
  | skip)
open Md (Tell Round Begin nums Lad ladOf SetV bits nthL Days firstOf)
/-! ### sets that are made, as the law asks -/
theorem compL_drawE {ι : Type} {α : Type} {vs : List Nat} {g : D → Rho → Option Rho} {fe : Den D} (c : ι → D) (h : α → D) (Pq : α → Prop) (J : Nat → Rho → Prop) :
    ∀ (ns : List ι) (k : Nat) (ρ' : Rho), J k (unset ρ' vs) → (∀ n ∈ ns, ∀ j ρ1, j < k + ns.length → J j ρ1 → ∃ ρ2 y ρ3, g (c n) ρ1 = some ρ2 ∧ fe ρ2 = some (h y, ρ3) ∧ Pq y ∧ J (j + 1) (unset ρ3 vs)) →
      ∃ (ys : List α) (ρe : Rho), compL vs g (dC true) fe (ns.map c) ρ' = some (ys.map h, ρe) ∧ ys.length = ns.length ∧ (∀ y ∈ ys, Pq y) ∧ J (k + ns.length) (unset ρe vs)
  | [], k, ρ', hj, _ => ⟨[], ρ', rfl, rfl, (fun y hy => by cases hy), hj⟩
  | n :: ns, k, ρ', hj, st => by
    obtain ⟨ρ2, y, ρ3, a1, a2, a3, a4⟩ := st n List.mem_cons_self k _ (by simp) hj
    obtain ⟨ys, ρe, b1, b2, b3, b4⟩ := compL_drawE c h Pq J ns (k + 1) ρ3 a4 fun m hm j ρ1 hjl => st m (List.mem_cons_of_mem _ hm) j ρ1 (by simp at hjl ⊢; omega)
    have ek : k + 1 + ns.length = k + (n :: ns).length := by simp; omega
    rw [ek] at b4
    refine ⟨y :: ys, ρe, ?_, by simp [b2], fun z hz => ?_, b4⟩
    · rw [List.map_cons, compL, a1]
      simp [rC, a2, b1]
    · rcases List.mem_cons.mp hz with rfl | q
      · exact a3
      · exact b3 z q
theorem rCompDrawE {ι : Type} {α : Type} {ρ ρ1 : Rho} {fi : Den (List D)} {vs : List Nat} {g : D → Rho → Option Rho} {fe : Den D} (c : ι → D) (h : α → D) (Pq : α → Prop) (J : Nat → Rho → Prop) {ns : List ι} (hi : fi ρ = some (ns.map c, ρ1)) (hno : noOw ρ1 vs = true) (h0 : J 0 (unset ρ1 vs)) (hJ : ∀ k ρ, J k ρ → ρ.length = ρ1.length)
    (st : ∀ n ∈ ns, ∀ j ρ1, j < ns.length → J j ρ1 → ∃ ρ2 y ρ3, g (c n) ρ1 = some ρ2 ∧ fe ρ2 = some (h y, ρ3) ∧ Pq y ∧ J (j + 1) (unset ρ3 vs)) (hl : ns.length ≤ 1000000) :
    ∃ (ys : List α) (ρu : Rho), dComp fi vs g (dC true) fe ρ = some (.list (ys.map h), back ρ1 ρu vs) ∧ ys.length = ns.length ∧ (∀ y ∈ ys, Pq y) ∧ J ns.length ρu := by
  obtain ⟨ys, ρe, e1, e2, e3, e4⟩ := compL_drawE (vs := vs) (g := g) (fe := fe) c h Pq J ns 0 ρ1 h0 (fun n hn j ρ1 hj => st n hn j ρ1 (by omega))
  rw [Nat.zero_add] at e4
  refine ⟨ys, unset ρe vs, ?_, e2, e3, e4⟩
  have hle : ρ1.length = ρe.length := by
    have := hJ _ _ e4
    rw [unset_length] at this
    exact this.symm
  rw [back_unset hle]
  unfold dComp
  rw [hi]
  simp only [Option.bind_some]
  rw [if_pos hno, e1]
  simp only [Option.bind_some]
  have hl2 : (ys.map h).length ≤ 1000000 := by
    rw [List.length_map, e2]
    exact hl
  rw [few_ok hl2]
  rfl
/-- a set told in its least way, with its bounds -/
theorem Canon.open {b : Nat → Int} {d : D} {f l : Nat} (h : Canon b d) (h01 : ∀ n, b n = 0 ∨ b n = 1) (t : Tell b f l 0) :
    ∃ f' l' : Nat, d = dSet (daysOf b 0 f') f' l' (daysOf b f' l') ∧ f' ≤ f ∧ l' ≤ l ∧ SetV (daysOf b 0 f') f' l' (daysOf b f' l') ∧ bits (daysOf b 0 f') f' l' (daysOf b f' l') = b := by
  obtain ⟨f', l', e, h1, h2⟩ := h
  obtain ⟨⟨p, s, x1⟩, x2⟩ := h1
  obtain ⟨⟨q, r, y1⟩, y2⟩ := h2
  have z := x1.mix y1
  have r0 := Md.bits_flat h01 z
  rw [r0] at z
  exact ⟨f', l', e, x2 _ _ _ t, y2 _ _ _ t, daysOf_set z.pos, bits_daysOf h01 z⟩
theorem small_days {b : Nat → Int} {f l : Nat} (hf : f ≤ 1200) (hl : l ≤ 1200) : Small (daysOf b 0 f) (daysOf b f l) f l := by
  have sm : ∀ a m : Nat, m ≤ 1200 → ∀ x ∈ daysOf b a m, x.natAbs < 2 ^ 200 := fun a m hm x hx => by
    obtain ⟨i, i1, i2, i3⟩ := daysOf_mem.mp hx
    rw [i3]
    exact small_nat (by omega)
  exact ⟨sm _ _ hf, sm _ _ hl, Nat.le_trans daysOf_length hf, Nat.le_trans daysOf_length hl, by omega, by omega⟩
theorem Canon.okS {b : Nat → Int} {d : D} {f l : Nat} (h : Canon b d) (h01 : ∀ n, b n = 0 ∨ b n = 1) (t : Tell b f l 0) (hf : f ≤ 1200) (hl : l ≤ 1200) : OkS d := by
  obtain ⟨f', l', rfl, e1, e2, _⟩ := h.open h01 t
  exact okS_set (small_days (by omega) (by omega))
theorem same_ok {d : D} (o : OkS d) : gSame [d, d] = some (.bool true) := by
  unfold gSame
  exact if_pos ⟨rfl, o⟩
theorem l_made_right_ok {k : Nat} {ds : List D} (h : SackD k ds) (hk : k ≤ 2 ^ 60) : ∃ es, m__law_dl_made_right ds [] = some (.bool true, es) := by
  have e60 : (2 : Nat) ^ 60 + 100 ≤ 2 ^ 90 := by decide
  have e200 : (10000 : Int) < 2 ^ 200 := by decide
  obtain ⟨n0, d1, p0, s1, a0, a1⟩ := pick_ok (m := 3) h (by omega) (by decide) (by decide)
  obtain ⟨top, w1, w2⟩ := ix_in (xs := [9, 60, 600]) a0 (by simpa using a1)
  have w3 : 1 ≤ top ∧ top ≤ 600 := (show ∀ v ∈ ([9, 60, 600] : List Int), 1 ≤ v ∧ v ≤ 600 by decide) top w1
  obtain ⟨m, rfl⟩ : ∃ m : Nat, top = m := ⟨top.toNat, by omega⟩
  obtain ⟨n1, d2, p1, s2, b0, b1⟩ := pick_ok (m := 9) s1 (by omega) (by decide) (by decide)
  obtain ⟨n, rfl⟩ : ∃ n : Nat, n1 = n := ⟨n1.toNat, by omega⟩
  -- our days
  obtain ⟨od, ρu, y1, y2, y3, d3, y4, y5⟩ := rCompDrawE (ι := Nat) (α := Int) (fi := dThen (dCons (dCallO 0 (dCons (dC (.int 9)) dNil) m__law_dl_pick) dNil) rng1) (vs := [8]) (g := gtName 8) (fe := dCallO 0 (dCons (dV 1) dNil) m__law_dl_pick)
    (ρ := [.ow true d1, .sh (.int (m : Nat)), .un, .un, .un, .un, .un, .un, .un, .un, .un]) (ρ1 := [.ow true d2, .sh (.int (m : Nat)), .un, .un, .un, .un, .un, .un, .un, .un, .un])
    (fun k : Nat => .int (k : Nat)) (fun k : Int => .int k) (fun x => 0 ≤ x ∧ x < (m : Nat)) (fun j ρ => ∃ d3, SackD (k + 2 + j) d3 ∧ ρ = [.ow true d3, .sh (.int (m : Nat)), .un, .un, .un, .un, .un, .un, .un, .un, .un]) (ns := List.range n)
    (rThen (rCons (rCallOE rfl (rCons rC rNil) rfl p1 rfl) rNil) (rng_ok (by omega))) rfl ⟨d2, s2, rfl⟩ (fun k ρ ⟨_, _, e⟩ => by rw [e]; rfl) (fun n' hn j ρ1 hj ⟨d5, t1, e⟩ => by
      subst e
      have hj : j < n := by simpa using hj
      obtain ⟨x, d6, q1, q2, q3, q4⟩ := pick_ok (m := (m : Nat)) t1 (by omega) (by omega) (by omega)
      exact ⟨[.ow true d5, .sh (.int (m : Nat)), .un, .un, .un, .un, .un, .un, .sh (.int n'), .un, .un], x, [.ow true d6, .sh (.int (m : Nat)), .un, .un, .un, .un, .un, .un, .sh (.int n'), .un, .un], rfl,
        rCallOE rfl (rCons (rV rfl) rNil) rfl q1 rfl, ⟨q3, q4⟩, ⟨d6, q2.mono (by omega), rfl⟩⟩) (by simp; omega)
  subst y5
  have hr : (List.range n).length = n := by simp
  rw [hr] at y2 y4
  have eo : PyData.list (od.map fun k : Int => PyData.int k) = dI od := rfl
  rw [eo] at y1
  -- what is due
  obtain ⟨D1, u1, u2⟩ := m_set_of_ok (days := od) (top := m) y3 (by omega)
  have tD := Md.bits_tell (E := rising od) (F := []) (f := m) (l := 1) (by decide)
  have h01 : ∀ x, bits (rising od) m 1 [] x = 0 ∨ bits (rising od) m 1 [] x = 1 := fun _ => Md.bits_01
  obtain ⟨D2, u3, u4⟩ := l_set_of_ok tD h01 (by omega) (by omega)
  obtain rfl := u2.uniq u4
  have oD := same_ok (u2.okS h01 tD (by omega) (by omega))
  have cmp : ∀ X : Sl, (dComp (dThen (dCons (dV 1) dNil) rng1) [9] (gtName 9) (dC true) (dThen (dCons (dOp gIn (dV 9) (dV 2)) dNil) gInt)) [.ow true d3, .sh (.int (m : Nat)), .sh (dI od), X, .un, .un, .un, .un, .un, .un, .un] =
      some (dI (nums (bits (rising od) m 1 []) 0 m), [.ow true d3, .sh (.int (m : Nat)), .sh (dI od), X, .un, .un, .un, .un, .un, .un, .un]) := fun X => by
    have en : PyData.list ((List.range m).map fun k : Nat => PyData.int (bits (rising od) m 1 [] (0 + k))) = dI (nums (bits (rising od) m 1 []) 0 m) := by simp [dI, nums]
    rw [← en]
    refine rComp1T (ρ1 := [.ow true d3, .sh (.int (m : Nat)), .sh (dI od), X, .un, .un, .un, .un, .un, .un, .un]) (fun k : Nat => .int (k : Nat)) (fun k : Nat => .int (bits (rising od) m 1 [] (0 + k))) (ns := List.range m) (rThen (rCons (rV rfl) rNil) (rng_ok (by omega))) rfl (fun _ => rfl) (by simp) (fun n hn => ?_) (by simp; omega)
    have hn : n < m := by simpa using hn
    have ev : gInt [.bool (decide ((n : Int) ∈ od))] = some (.int (bits (rising od) m 1 [] (0 + n))) := by
      unfold gInt bits
      rw [Nat.zero_add, if_pos hn]
      by_cases z : (n : Int) ∈ od
      · simp [z, rising_mem]
      · simp [z, rising_mem]
    exact rThen (rCons (rOp (rV rfl) (rV rfl) in_dI) rNil) ev
  have edue : nums (bits (rising od) m 1 []) 0 m ++ [0] = nums (bits (rising od) m 1 []) 0 (m + 1) := by
    rw [← Md.nums_append]
    congr 1
    simp [nums, bits]
  have sdue : sAsg (dThen (dCons (dOp gAdd (dComp (dThen (dCons (dV 1) dNil) rng1) [9] (gtName 9) (dC true) (dThen (dCons (dOp gIn (dV 9) (dV 2)) dNil) gInt)) (dThen (dCons (dC (.int 0)) dNil) fun ds => (few ds).map .list)) (dCons (dV 1) dNil)) m__law_dl_set_of) (gtName 4)
      [.ow true d3, .sh (.int (m : Nat)), .sh (dI od), .sh (dI od), .un, .un, .un, .un, .un, .un, .un] = some (.nx [.ow true d3, .sh (.int (m : Nat)), .sh (dI od), .sh (dI od), .sh D1, .un, .un, .un, .un, .un, .un]) := by
    have hcat : gAdd (dI (nums (bits (rising od) m 1 []) 0 m)) (dI [0]) = some (dI (nums (bits (rising od) m 1 []) 0 (m + 1))) := by
      rw [← edue]
      exact cat_dI (by rw [Md.nums_length]; simp; omega)
    exact rAsgE (rThen (rCons (rOp (cmp _) (rThen (rCons rC rNil) disp1) hcat) (rCons (rV rfl) rNil)) u3) rfl (by simp)
  -- the round set
  obtain ⟨m0, d4, p4, s4, c0, c1⟩ := pick_ok (m := 2) y4 (by omega) (by decide) (by decide)
  obtain ⟨w, x1, x2⟩ := ix_in (xs := [6, 60]) c0 (by simpa using c1)
  have x3 : 1 ≤ w ∧ w ≤ 60 := (show ∀ v ∈ ([6, 60] : List Int), 1 ≤ v ∧ v ≤ 60 by decide) w x1
  obtain ⟨m1, d5, p5, s5, g0, g1⟩ := pick_ok (m := w) s4 (by omega) (by omega) (by omega)
  obtain ⟨m2, d6, p6, s6, i0, i1⟩ := pick_ok (m := 3) s5 (by omega) (by decide) (by decide)
  obtain ⟨w', x4, x5⟩ := ix_in (xs := [9, 61, 601]) i0 (by simpa using i1)
  have x6 : 1 ≤ w' ∧ w' ≤ 601 := (show ∀ v ∈ ([9, 61, 601] : List Int), 1 ≤ v ∧ v ≤ 601 by decide) w' x4
  obtain ⟨m3, d7, p7, s7, j0, j1⟩ := pick_ok (m := w') s6 (by omega) (by omega) (by omega)
  obtain ⟨l, hl⟩ : ∃ l : Nat, 1 + m1 = l := ⟨(1 + m1).toNat, by omega⟩
  obtain ⟨f, rfl⟩ : ∃ f : Nat, m3 = f := ⟨m3.toNat, by omega⟩
  have hl0 : 0 < l := by omega
  obtain ⟨D2, v1, v2⟩ := m_every_ok (f := f) hl0
  have tE := Md.bits_tell (E := []) (F := [0]) (f := f) (l := l) hl0
  have k01 : ∀ x, bits [] f l [0] x = 0 ∨ bits [] f l [0] x = 1 := fun _ => Md.bits_01
  obtain ⟨D3, v3, v4⟩ := l_set_of_ok tE k01 (by omega) (by omega)
  obtain rfl := v2.uniq v4
  have oE := same_ok (v2.okS k01 tE (by omega) (by omega))
  have cmp2 : (dComp (dThen (dCons (dV 1) dNil) rng1) [10] (gtName 10) (dC true) (dThen (dCons (dIf (dB (dOp (gI fun i j => .bool (decide (j ≤ i))) (dV 10) (dV 6))) (dOp (fun x y => (gEq x y).map .bool) (dOp (gIc (fun _ j => decide (0 < j)) fun i j => .int (i % j)) (dThen (dCons (dOp (gI fun i j => .int (i - j)) (dV 10) (dV 6)) dNil) gInt) (dV 5)) (dC (.int 0))) (dC (.bool false))) dNil) gInt))
      [.ow true d7, .sh (.int (f + l : Nat)), .sh (dI od), .sh (dI od), .sh D1, .sh (.int (l : Nat)), .sh (.int (f : Nat)), .un, .un, .un, .un] =
      some (dI (nums (bits [] f l [0]) 0 (f + l)), [.ow true d7, .sh (.int (f + l : Nat)), .sh (dI od), .sh (dI od), .sh D1, .sh (.int (l : Nat)), .sh (.int (f : Nat)), .un, .un, .un, .un]) := by
    have en : PyData.list ((List.range (f + l)).map fun k : Nat => PyData.int (bits [] f l [0] (0 + k))) = dI (nums (bits [] f l [0]) 0 (f + l)) := by simp [dI, nums]
    rw [← en]
    refine rComp1T (ρ1 := [.ow true d7, .sh (.int (f + l : Nat)), .sh (dI od), .sh (dI od), .sh D1, .sh (.int (l : Nat)), .sh (.int (f : Nat)), .un, .un, .un, .un]) (fun k : Nat => .int (k : Nat)) (fun k : Nat => .int (bits [] f l [0] (0 + k))) (ns := List.range (f + l)) (rThen (rCons (rV rfl) rNil) (rng_ok (by omega))) rfl (fun _ => rfl) (by simp) (fun n hn => ?_) (by simp; omega)
    have ge : ∀ ρ : Rho, ρ[10]? = some (.sh (.int (n : Nat))) → ρ[6]? = some (.sh (.int (f : Nat))) → dB (dOp (gI fun i j => .bool (decide (j ≤ i))) (dV 10) (dV 6)) ρ = some (decide ((f : Int) ≤ (n : Int)), ρ) := fun ρ r1 r2 => rB (rOp (rV r1) (rV r2) rfl)
    rcases Nat.lt_or_ge n f with z | z
    · have ev : gInt [.bool false] = some (.int (bits [] f l [0] (0 + n))) := by
        unfold gInt bits
        rw [Nat.zero_add, if_pos z]
        simp
      exact rThen (rCons (rIfF (ge _ rfl rfl) (decide_eq_false (by omega)) rC) rNil) ev
    · have ev : gInt [.bool (decide (((n : Int) - (f : Int)) % (l : Int) = 0))] = some (.int (bits [] f l [0] (0 + n))) := by
        have e1 : ((n : Int) - (f : Int)) % (l : Int) = (((n - f) % l : Nat) : Int) := by
          rw [Int.natCast_emod, Int.natCast_sub z]
        rw [e1]
        unfold gInt bits
        rw [Nat.zero_add, if_neg (by omega)]
        by_cases q : (((n - f) % l : Nat) : Int) = 0
        · simp [q]
        · simp only [q, decide_false, List.mem_singleton, if_neg q]
          rfl
      exact rThen (rCons (rIfT (ge _ rfl rfl) (decide_eq_true (by omega)) (rOp (rOp (rThen (rCons (rOp (rV rfl) (rV rfl) rfl) rNil) rfl) (rV rfl) (gIc_ok (decide_eq_true (by omega)))) rC rfl)) rNil) ev
  have efl : ((f + l : Nat) : Int) = (f : Int) + (l : Int) := by omega
  refine ⟨d7, finO (f := b__law_dl_made_right) (ρ := [.ow true d7, .sh (.int (f + l : Nat)), .sh (dI od), .sh (dI od), .sh D2, .sh (.int (l : Nat)), .sh (.int (f : Nat)), .sh (dI (nums (bits [] f l [0]) 0 (f + l))), .un, .un, .un]) ?_ rfl⟩
  unfold b__law_dl_made_right
  refine' rSeq (ρ1 := [.ow true d1, .sh (.int (m : Nat)), .un, .un, .un, .un, .un, .un, .un, .un, .un]) ?u1
    (rSeq (ρ1 := [.ow true d3, .sh (.int (m : Nat)), .sh (dI od), .un, .un, .un, .un, .un, .un, .un, .un]) (rAsgE y1 rfl (by simp [back, unset]))
    (rSeq (ρ1 := [.ow true d3, .sh (.int (m : Nat)), .sh (dI od), .sh (dI od), .un, .un, .un, .un, .un, .un, .un]) ?u3
    (rSeq sdue
    (rSeq (ρ1 := [.ow true d3, .sh (.int (m : Nat)), .sh (dI od), .sh (dI od), .sh D1, .un, .un, .un, .un, .un, .un]) ?u5
    (rSeq (ρ1 := [.ow true d5, .sh (.int (m : Nat)), .sh (dI od), .sh (dI od), .sh D1, .sh (.int (l : Nat)), .un, .un, .un, .un, .un]) ?u6
    (rSeq (ρ1 := [.ow true d7, .sh (.int (m : Nat)), .sh (dI od), .sh (dI od), .sh D1, .sh (.int (l : Nat)), .sh (.int (f : Nat)), .un, .un, .un, .un]) ?u7
    (rSeq (ρ1 := [.ow true d7, .sh (.int (f + l : Nat)), .sh (dI od), .sh (dI od), .sh D1, .sh (.int (l : Nat)), .sh (.int (f : Nat)), .un, .un, .un, .un]) ?u8
    (rSeq (rAsgE cmp2 rfl (by simp))
    (rSeq (ρ1 := [.ow true d7, .sh (.int (f + l : Nat)), .sh (dI od), .sh (dI od), .sh D2, .sh (.int (l : Nat)), .sh (.int (f : Nat)), .sh (dI (nums (bits [] f l [0]) 0 (f + l))), .un, .un, .un]) ?u9
    (rRet ?u10))))))))))
  case u1 => exact rAsgE (rOp (rThen (rCons rC (rCons rC (rCons rC rNil))) (few_map (by simp))) (rCallOE rfl (rCons rC rNil) rfl p0 rfl) w2) rfl (by simp [rho0])
  case u3 => exact rAsgE (rThen (rCons (rV rfl) rNil) rfl) rfl (by simp)
  case u5 =>
    have c1 : (dNot (dThen (dThen (dCons (dThen (dCons (dV 3) dNil) m_set_of) (dCons (dV 4) dNil)) gSame) truth)) [.ow true d3, .sh (.int (m : Nat)), .sh (dI od), .sh (dI od), .sh D1, .un, .un, .un, .un, .un, .un] = some (false, [.ow true d3, .sh (.int (m : Nat)), .sh (dI od), .sh (dI od), .sh D1, .un, .un, .un, .un, .un, .un]) :=
      rNot (b := true) (rThen (rThen (rCons (rThen (rCons (rV rfl) rNil) u1) (rCons (rV rfl) rNil)) oD) rfl)
    have c2 : (dThen (dOp (fun x y => (gEq x y).map fun b => .bool (!b)) (dV 3) (dV 2)) isB) [.ow true d3, .sh (.int (m : Nat)), .sh (dI od), .sh (dI od), .sh D1, .un, .un, .un, .un, .un, .un] = some (false, [.ow true d3, .sh (.int (m : Nat)), .sh (dI od), .sh (dI od), .sh D1, .un, .un, .un, .un, .un, .un]) := by
      have ne : (gEq (dI od) (dI od)).map (fun b => PyData.bool (!b)) = some (.bool false) := by rw [eq_dI]; simp
      exact rThen (rOp (rV rfl) (rV rfl) ne) rfl
    have c3 : (dNot (dThen (dThen (dCons (dThen (dCons (dV 3) dNil) fun es => m_set_of (kw1 [] es)) (dCons (dV 4) dNil)) gSame) truth)) [.ow true d3, .sh (.int (m : Nat)), .sh (dI od), .sh (dI od), .sh D1, .un, .un, .un, .un, .un, .un] = some (false, [.ow true d3, .sh (.int (m : Nat)), .sh (dI od), .sh (dI od), .sh D1, .un, .un, .un, .un, .un, .un]) :=
      rNot (b := true) (rThen (rThen (rCons (rThen (rCons (rV rfl) rNil) u1) (rCons (rV rfl) rNil)) oD) rfl)
    exact rIfSF (rIfF c1 rfl (rIfF c2 rfl c3)) rfl rNext
  case u6 =>
    rw [← hl]
    exact rAsgE (rOp rC (rCallOE rfl (rCons (rOp (rThen (rCons rC (rCons rC rNil)) (few_map (by simp))) (rCallOE rfl (rCons rC rNil) rfl p4 rfl) x2) rNil) rfl p5 rfl) rfl) rfl (by simp)
  case u7 => exact rAsgE (rCallOE rfl (rCons (rOp (rThen (rCons rC (rCons rC (rCons rC rNil))) (few_map (by simp))) (rCallOE rfl (rCons rC rNil) rfl p6 rfl) x5) rNil) rfl p7 rfl) rfl (by simp)
  case u8 =>
    rw [efl]
    exact rAsgE (rOp (rV rfl) (rV rfl) rfl) rfl (by simp)
  case u9 => exact rAsgE (rThen (rCons (rV rfl) (rCons (rV rfl) rNil)) v3) rfl (by simp)
  case u10 =>
    exact rIfT (b := true) (rB (rThen (rCons (rThen (rCons (rV rfl) (rCons (rV rfl) rNil)) v1) (rCons (rV rfl) rNil)) oE)) rfl (rThen (rCons (rThen (rCons (rV rfl) (rCons (rV rfl) rNil)) v1) (rCons (rV rfl) rNil)) oE)

end Pg

set_option Elab.async false
set_option linter.all false
set_option maxRecDepth 100000
set_option maxHeartbeats 1000000
namespace Pg
open PySem PySem.Spec PyProof.Rows L2 Ly
local macro_rules | `(tactic| walk_at "run") => `(tactic| first
  | with_reducible exact rC
  | with_reducible exact rNil
  | with_reducible exact rNext
  | with_reducible exact rGN
  | ((with_reducible refine' rV ?m1); (case' m1 => rfl))
  | with_reducible assumption
  | ((with_reducible refine' rCons ?m1 ?m2); (case' m1 => walk_at "run"); (case' m2 => walk_at "run"))
  | ((with_reducible refine' rOp ?m1 ?m2 ?m3); (case' m1 => walk_at "run"); (case' m2 => walk_at "run"); (case' m3 => walk_at "run"))
  | ((with_reducible refine' rNot ?m1); (case' m1 => walk_at "run"))
  | ((with_reducible refine' rB ?m1); (case' m1 => walk_at "run"))
  | ((with_reducible refine' rPart ?m1); (case' m1 => walk_at "run"))
  | ((with_reducible refine' rThen ?m1 ?m2); (case' m1 => walk_at "run"); (case' m2 => walk_at "run"))
  | ((with_reducible refine' rPair ?m1 ?m2); (case' m1 => walk_at "run"); (case' m2 => walk_at "run"))
  | ((with_reducible refine' rSeq ?m1 ?m2); (case' m1 => walk_at "run"); (case' m2 => walk_at "run"))
  | ((with_reducible refine' rRet ?m1); (case' m1 => walk_at "run"))
  | ((with_reducible refine' rAsgE ?m1 ?m2 ?m3); (case' m1 => walk_at "run"); (case' m2 => rfl); (case' m3 => (simp [rho0])))
  | ((with_reducible refine' rAsg ?m1 ?m2); (case' m1 => walk_at "run"); (case' m2 => walk_at "run"))
  | ((with_reducible refine' rDrop ?m1); (case' m1 => walk_at "run"))
  | ((with_reducible refine' rNameE ?m1 ?m2); (case' m1 => rfl); (case' m2 => (simp [rho0, unset])))
  | ((with_reducible refine' rTup ?m1 ?m2); (case' m1 => rfl); (case' m2 => walk_at "run"))
  | ((with_reducible refine' rGC ?m1 ?m2); (case' m1 => walk_at "run"); (case' m2 => walk_at "run"))
  | ((with_reducible refine' rParE ?m1 ?m2 ?m3 ?m4); (case' m1 => walk_at "run"); (case' m2 => rfl); (case' m3 => (simp [rho0])); (case' m4 => (simp [rho0])))
  | ((with_reducible refine' rAugE ?m1 ?m2 ?m3); (case' m1 => rfl); (case' m2 => walk_at "run"); (case' m3 => rfl))
  | ((with_reducible refine' rIxO ?m1 ?m2 ?m3 ?m4); (case' m1 => rfl); (case' m2 => walk_at "run"); (case' m3 => rfl); (case' m4 => walk_at "run"))
  | ((with_reducible refine' rSlO ?m1 ?m2 ?m3); (case' m1 => rfl); (case' m2 => walk_at "run"); (case' m3 => rfl))
  | ((with_reducible refine' rFrz ?m1); (case' m1 => rfl))
  | ((with_reducible refine' rCallOE ?m1 ?m2 ?m3 ?m4 ?m5); (case' m1 => rfl); (case' m2 => walk_at "run"); (case' m3 => rfl); (case' m4 => walk_at "run"); (case' m5 => rfl))
  | with_reducible exact len_dI
  | with_reducible exact disp1
  | with_reducible exact truth_dI
  | with_reducible exact flat_dI
  | ((with_reducible refine' cat_lit1 ?m1); (case' m1 => ((try simp only [List.length_append, List.length_cons, List.length_nil]) <;> omega)))
  | ((with_reducible refine' cat_lit2 ?m1); (case' m1 => ((try simp only [List.length_append, List.length_cons, List.length_nil]) <;> omega)))
  | ((with_reducible refine' cat_dI ?m1); (case' m1 => ((try simp only [List.length_append, List.length_cons, List.length_nil]) <;> omega)))
  | rfl
  | skip)
open Md (Tell Round Begin nums Lad ladOf SetV bits nthL Days firstOf)
theorem up_length {xs : List Int} {f : Nat} (h : xs.Pairwise (· < ·)) (r : ∀ x ∈ xs, 0 ≤ x ∧ x < (f : Nat)) : xs.length ≤ f := by
  have main : ∀ i (hi : i < xs.length), (i : Int) ≤ xs[i] := by
    intro i
    induction i with
    | zero =>
      intro hi
      have := (r _ (List.getElem_mem hi)).1
      omega
    | succ i ih =>
      intro hi
      have a := ih (by omega)
      have b := Md.up_get h (show i < i + 1 by omega) hi
      omega
  rcases Nat.lt_or_ge f xs.length with z | z
  · have a := main f z
    have b := (r _ (List.getElem_mem z)).2
    omega
  · exact z
theorem SetV.small {E F : List Int} {f l : Nat} (v : SetV E f l F) (hf : f ≤ 1200) (hl : l ≤ 1200) : Small E F f l := by
  have sm : ∀ (X : List Int) (m : Nat), m ≤ 1200 → (∀ x ∈ X, 0 ≤ x ∧ x < (m : Nat)) → ∀ x ∈ X, x.natAbs < 2 ^ 200 := fun X m hm h x hx => by
    have := h x hx
    obtain ⟨n, rfl⟩ : ∃ n : Nat, x = n := ⟨x.toNat, by omega⟩
    exact small_nat (by omega)
  exact ⟨sm E f hf v.eR, sm F l hl v.fR, Nat.le_trans (up_length v.eU v.eR) hf, Nat.le_trans (up_length v.fU v.fR) hl, by omega, by omega⟩
theorem least_canon {E F : List Int} {f l : Nat} (v : SetV E f l F) (hf : f ≤ 1200) (hl : l ≤ 1200) {d : D} (c : Canon (bits E f l F) d) : m_least_set [dSet E f l F] = some d := by
  have h1 := up_length v.eU v.eR
  have h2 := up_length v.fU v.fR
  obtain ⟨f', l', e1, e2, e3⟩ := m_least_set_ok v (by omega) (by omega)
  rw [e1]
  exact congrArg some (Canon.uniq ⟨f', l', rfl, e2, e3⟩ c)
theorem m__law_right_ok {k : Nat} {ds : List D} (h : SackD k ds) (hk : k ≤ 2 ^ 50) : ∃ es, m__law_right ds [] = some (.bool true, es) := by
  have e50 : (2 : Nat) ^ 50 + 1000 ≤ 2 ^ 60 := by decide
  have e60 : (2 : Nat) ^ 60 + 1000 ≤ 2 ^ 70 := by decide
  obtain ⟨E, F, f, l, d1, p1, v, hf, hl, _, s1⟩ := l_set_ok (most := 12) h (by omega) (by decide)
  have hl0 := v.l0
  have b01 : ∀ n, bits E f l F n = 0 ∨ bits E f l F n = 1 := fun _ => Md.bits_01
  have t0 := Md.bits_tell (E := E) (F := F) (f := f) hl0
  obtain ⟨g, m, q, d2, p2, g0, g1, hm, q0, _, s2, m1⟩ := l_wide_ok (top := 580) s1 (by omega) v (by omega) (by omega) (by decide) (by decide)
  obtain ⟨D0, p3, c0⟩ := l_set_least_ok v (by omega) (by omega)
  have tw : Tell (bits E f l F) g m 0 := by
    have := (t0.mul q0).up g0
    rw [← hm, Int.zero_mul] at this
    exact this
  have hm0 := tw.pos
  have smT := SetV.small v (by omega) (by omega)
  have smW : Small (daysOf (bits E f l F) 0 g) (daysOf (bits E f l F) g m) g m := small_days (by omega) (by omega)
  have vW : SetV (daysOf (bits E f l F) 0 g) g m (daysOf (bits E f l F) g m) := daysOf_set hm0
  have bW : bits (daysOf (bits E f l F) 0 g) g m (daysOf (bits E f l F) g m) = bits E f l F := bits_daysOf b01 tw
  have hE := up_length v.eU v.eR
  have hF := up_length v.fU v.fR
  obtain ⟨d3, p4, s3⟩ := l_asked_right_ok s2 (by omega) v (by omega) (by omega) (by omega) (by omega) tw (by omega) (by omega)
  obtain ⟨g', m', q', d4, p5, g0', g1', hm', q0', m2', s4, _⟩ := l_wide_ok (top := 40) s3 (by omega) v (by omega) (by omega) (by decide) (by decide)
  have tw' : Tell (bits E f l F) g' m' 0 := by
    have := (t0.mul q0').up g0'
    rw [← hm', Int.zero_mul] at this
    exact this
  have p6 := l_gaps_right_ok v (by omega) (by omega) (by omega) (by omega) tw' (by omega) (by omega)
  obtain ⟨d5, p7⟩ := l_made_right_ok s4 (by omega)
  have lT : m_least_set [dSet E f l F] = some D0 := least_canon v (by omega) (by omega) c0
  have lW : m_least_set [dSet (daysOf (bits E f l F) 0 g) g m (daysOf (bits E f l F) g m)] = some D0 := least_canon vW (by omega) (by omega) (by rw [bW]; exact c0)
  have o0 := c0.okS b01 t0 (by omega) (by omega)
  have lD : m_least_set [D0] = some D0 := by
    obtain ⟨f0, l0, e0, h1, h2, v0, b0⟩ := c0.open b01 t0
    have : Canon (bits (daysOf (bits E f l F) 0 f0) f0 l0 (daysOf (bits E f l F) f0 l0)) D0 := by rw [b0]; exact c0
    conv => lhs; rw [e0]
    exact least_canon v0 (by omega) (by omega) this
  have cT := copy_set smT
  have cW := copy_set smW
  have rp := repr_ok (fine_pair smT smW)
  generalize hW : dSet (daysOf (bits E f l F) 0 g) g m (daysOf (bits E f l F) g m) = W at *
  generalize hW' : dSet (daysOf (bits E f l F) 0 g') g' m' (daysOf (bits E f l F) g' m') = W' at *
  generalize hT : dSet E f l F = T at *
  generalize (PyData.list [T, W]).shown = Z at rp
  obtain ⟨ρ', w1, s5, s6, w2⟩ := rFor (fi := dThen (dCons (dC (.int 2)) dNil) rng1) (g := gtName 5)
    (fb := (sSame 6 (dIf (dThen (dOp (fun x y => (gEq x y).map .bool) (dV 5) (dC (.int 0))) isB) (dThen (dCons (dOp gIx (dV 4) (dV 5)) dNil) m_least_set) (dThen (dCons (dOp gIx (dV 4) (dV 5)) dNil) fun es => m_least_set (kw1 [] es))) (dV 3)))
    (ρ := [.ow true d4, .sh T, .sh W, .sh D0, .sh (.list [T, W]), .un, .un]) (ρ1 := [.ow true d4, .sh T, .sh W, .sh D0, .sh (.list [T, W]), .un, .un])
    (fun k : Nat => PyData.int (k : Nat)) (fun _ ρ => ∃ s5 s6, ρ = [.ow true d4, .sh T, .sh W, .sh D0, .sh (.list [T, W]), s5, s6]) (ns := List.range 2)
    (rThen (rCons rC rNil) (rng_ok (by decide))) ⟨_, _, rfl⟩ (fun as n bs ρ2 hn ⟨s5, s6, hρ⟩ => by
      subst hρ
      have hm : n ∈ List.range 2 := by rw [hn]; simp
      have hm : n = 0 ∨ n = 1 := by
        have := List.mem_range.mp hm
        omega
      refine ⟨[.ow true d4, .sh T, .sh W, .sh D0, .sh (.list [T, W]), .sh (.int (n : Nat)), s6], [.ow true d4, .sh T, .sh W, .sh D0, .sh (.list [T, W]), .sh (.int (n : Nat)), .un], rfl, ?_, _, _, rfl⟩
      rcases hm with rfl | rfl
      · exact rSame (rIfT (b := true) (rThen (rOp (rV rfl) rC rfl) rfl) rfl (rThen (rCons (rOp (rV rfl) (rV rfl) rfl) rNil) lT)) (by simp) (rV rfl) o0
      · exact rSame (rIfF (b := false) (rThen (rOp (rV rfl) rC rfl) rfl) rfl (rThen (rCons (rOp (rV rfl) (rV rfl) rfl) rNil) lW)) (by simp) (rV rfl) o0)
  subst w2
  refine ⟨d5, finO (f := b__law_right) (ρ := [.ow true d5, .sh T, .sh W, .sh D0, .sh (.list [T, W]), s5, s6]) ?_ rfl⟩
  unfold b__law_right
  refine' rSeq (ρ1 := [.ow true d1, .sh T, .un, .un, .un, .un, .un]) ?u1
    (rSeq (ρ1 := [.ow true d2, .sh T, .sh W, .sh D0, .un, .un, .un]) ?u2
    (rSeq (ρ1 := [.ow true d2, .sh T, .sh W, .sh D0, .sh (.list [T, W]), .un, .un]) ?u3
    (rSeq (ρ1 := [.ow true d3, .sh T, .sh W, .sh D0, .sh (.list [T, W]), .un, .un]) ?u4
    (rSeq (ρ1 := [.ow true d4, .sh T, .sh W, .sh D0, .sh (.list [T, W]), .un, .un]) ?u5
    (rSeq w1 (rSeq (ρ1 := [.ow true d4, .sh T, .sh W, .sh D0, .sh (.list [T, W]), s5, s6]) ?u6 (rRet (rCallOE rfl rNil rfl p7 rfl))))))))
  case u1 => exact rAsgE (rCallOE rfl (rCons rC rNil) rfl p1 rfl) rfl (by simp [rho0])
  case u2 => exact rParE (rCons (rCallOE rfl (rCons (rV rfl) (rCons rC rNil)) rfl p2 rfl) (rCons (rThen (rCons (rV rfl) rNil) p3) rNil)) rfl (by simp) (by simp)
  case u3 => exact rAsgE (rThen (rCons (rThen (rCons (rV rfl) rNil) cT) (rCons (rThen (rCons (rV rfl) rNil) cW) rNil)) (few_map (by simp))) rfl (by simp)
  case u4 => exact rIfSF (b := false) (rNot (b := true) (rThen (rCallOE rfl (rCons (rOp (rV rfl) rC rfl) (rCons (rOp (rV rfl) rC rfl) rNil)) rfl p4 rfl) rfl)) rfl rNext
  case u5 => exact rIfSF (b := false) (rNot (b := true) (rThen (rThen (rCons (rOp (rV rfl) rC rfl) (rCons (rCallOE rfl (rCons (rV rfl) (rCons rC rNil)) rfl p5 rfl) rNil)) p6) rfl)) rfl rNext
  case u6 =>
    have c1 : dThen (dOp (fun x y => (gEq x y).map fun b => .bool (!b)) (dThen (dCons (dV 4) dNil) gRepr) (dThen (dCons (dThen (dCons (dV 1) (dCons (dV 2) dNil)) fun ds => (few ds).map .list) dNil) gRepr)) isB [.ow true d4, .sh T, .sh W, .sh D0, .sh (.list [T, W]), s5, s6] = some (false, [.ow true d4, .sh T, .sh W, .sh D0, .sh (.list [T, W]), s5, s6]) :=
      ne_same (Z := Z) (rThen (rCons (rV rfl) rNil) rp) (rThen (rCons (rThen (rCons (rV rfl) (rCons (rV rfl) rNil)) (few_map (by simp))) rNil) rp)
    exact rIfSF (b := false) (rIfF c1 rfl (rNot (b := true) (rThen (rThen (rCons (rThen (rCons (rV rfl) rNil) lD) (rCons (rV rfl) rNil)) (same_ok o0)) rfl))) rfl rNext

end Pg

set_option Elab.async false
set_option linter.all false
set_option maxRecDepth 100000
set_option maxHeartbeats 4000000
namespace K01
open PySem PySem.Spec PyProof.Rows L2 Ly
def topS (i : Nat) : Stmt := PySem.Challenge.pw_ladderdays_k01_sets_and_their_days.main.body.getD i (.Pass ⟨0, 0, 0, 0⟩)
abbrev s_ascends : Stmt := topS 6
theorem sc_ascends : FnScope ["numbers", "low", "high"] ["numbers"] (defScope s_ascends) := ⟨rfl, rfl, rfl, by decide +kernel, rfl, by decide +kernel, by decide +kernel⟩
abbrev s_is_set : Stmt := topS 7
theorem sc_is_set : FnScope ["told", "early", "first", "length", "found"] ["told"] (defScope s_is_set) := ⟨rfl, rfl, rfl, by decide +kernel, rfl, by decide +kernel, by decide +kernel⟩
abbrev s_check_sets : Stmt := topS 9
theorem sc_check_sets : FnScope ["sets", "told"] ["sets"] (defScope s_check_sets) := ⟨rfl, rfl, rfl, by decide +kernel, rfl, by decide +kernel, by decide +kernel⟩
abbrev s_check_numbers : Stmt := topS 10
theorem sc_check_numbers : FnScope ["numbers", "number"] ["numbers"] (defScope s_check_numbers) := ⟨rfl, rfl, rfl, by decide +kernel, rfl, by decide +kernel, by decide +kernel⟩
abbrev s_repeats : Stmt := topS 11
theorem sc_repeats : FnScope ["turn", "rise", "parts", "size", "step", "number"] ["turn", "rise", "parts"] (defScope s_repeats) := ⟨rfl, rfl, rfl, by decide +kernel, rfl, by decide +kernel, by decide +kernel⟩
abbrev s_shortest_turn : Stmt := topS 12
theorem sc_shortest_turn : FnScope ["turn", "rise", "parts"] ["turn", "rise"] (defScope s_shortest_turn) := ⟨rfl, rfl, rfl, by decide +kernel, rfl, by decide +kernel, by decide +kernel⟩
abbrev s_shortened : Stmt := topS 13
theorem sc_shortened : FnScope ["ladder", "early", "turn", "rise", "size", "start", "numbers"] ["ladder"] (defScope s_shortened) := ⟨rfl, rfl, rfl, by decide +kernel, rfl, by decide +kernel, by decide +kernel⟩
abbrev s_ended : Stmt := topS 14
theorem sc_ended : FnScope ["days", "first"] ["days"] (defScope s_ended) := ⟨rfl, rfl, rfl, by decide +kernel, rfl, by decide +kernel, by decide +kernel⟩
abbrev s_narrowed : Stmt := topS 15
theorem sc_narrowed : FnScope ["told", "early", "first", "length", "found", "days", "place", "day"] ["told"] (defScope s_narrowed) := ⟨rfl, rfl, rfl, by decide +kernel, rfl, by decide +kernel, by decide +kernel⟩
abbrev s_place_of : Stmt := topS 17
theorem sc_place_of : FnScope ["numbers", "number", "low", "high", "middle"] ["numbers", "number"] (defScope s_place_of) := ⟨rfl, rfl, rfl, by decide +kernel, rfl, by decide +kernel, by decide +kernel⟩
abbrev s_many_before : Stmt := topS 18
theorem sc_many_before : FnScope ["told", "day", "early", "first", "length", "found", "turns", "place"] ["told", "day"] (defScope s_many_before) := ⟨rfl, rfl, rfl, by decide +kernel, rfl, by decide +kernel, by decide +kernel⟩
abbrev s_nth_day : Stmt := topS 19
theorem sc_nth_day : FnScope ["told", "number", "early", "first", "length", "found", "turns", "at"] ["told", "number"] (defScope s_nth_day) := ⟨rfl, rfl, rfl, by decide +kernel, rfl, by decide +kernel, by decide +kernel⟩
abbrev s_day_from : Stmt := topS 20
theorem sc_day_from : FnScope ["told", "day"] ["told", "day"] (defScope s_day_from) := ⟨rfl, rfl, rfl, by decide +kernel, rfl, by decide +kernel, by decide +kernel⟩
abbrev s_holds : Stmt := topS 21
theorem sc_holds : FnScope ["told", "day"] ["told", "day"] (defScope s_holds) := ⟨rfl, rfl, rfl, by decide +kernel, rfl, by decide +kernel, by decide +kernel⟩
abbrev s_has : Stmt := topS 22
theorem sc_has : FnScope ["told", "day"] ["told", "day"] (defScope s_has) := ⟨rfl, rfl, rfl, by decide +kernel, rfl, by decide +kernel, by decide +kernel⟩
abbrev s_least_set : Stmt := topS 23
theorem sc_least_set : FnScope ["told"] ["told"] (defScope s_least_set) := ⟨rfl, rfl, rfl, by decide +kernel, rfl, by decide +kernel, by decide +kernel⟩
abbrev s_set_of : Stmt := topS 24
theorem sc_set_of : FnScope ["days"] ["days"] (defScope s_set_of) := ⟨rfl, rfl, rfl, by decide +kernel, rfl, by decide +kernel, by decide +kernel⟩
abbrev s_every : Stmt := topS 25
theorem sc_every : FnScope ["length", "first"] ["length", "first"] (defScope s_every) := ⟨rfl, rfl, rfl, by decide +kernel, rfl, by decide +kernel, by decide +kernel⟩
abbrev s_next_day : Stmt := topS 26
theorem sc_next_day : FnScope ["told", "day"] ["told", "day"] (defScope s_next_day) := ⟨rfl, rfl, rfl, by decide +kernel, rfl, by decide +kernel, by decide +kernel⟩
abbrev s_gaps : Stmt := topS 27
theorem sc_gaps : FnScope ["told", "early", "first", "length", "found", "days", "distances", "place", "soon", "late"] ["told"] (defScope s_gaps) := ⟨rfl, rfl, rfl, by decide +kernel, rfl, by decide +kernel, by decide +kernel⟩
abbrev s__law_dl_sack : Stmt := topS 29
theorem sc__law_dl_sack : FnScope ["_law_script", "_law_rank", "_law_cell"] ["_law_script", "_law_rank"] (defScope s__law_dl_sack) := ⟨rfl, rfl, rfl, by decide +kernel, rfl, by decide +kernel, by decide +kernel⟩
abbrev s__law_dl_pick : Stmt := topS 30
theorem sc__law_dl_pick : FnScope ["_law_sack", "_law_many", "_law_drawn", "_law_stirred"] ["_law_sack", "_law_many"] (defScope s__law_dl_pick) := ⟨rfl, rfl, rfl, by decide +kernel, rfl, by decide +kernel, by decide +kernel⟩
abbrev s__law_dl_copy : Stmt := topS 31
theorem sc__law_dl_copy : FnScope ["_law_thing", "_law_part"] ["_law_thing"] (defScope s__law_dl_copy) := ⟨rfl, rfl, rfl, by decide +kernel, rfl, by decide +kernel, by decide +kernel⟩
abbrev s__law_dl_ranks : Stmt := topS 32
theorem sc__law_dl_ranks : FnScope ["_law_thing", "_law_ranks", "_law_part"] ["_law_thing", "_law_ranks"] (defScope s__law_dl_ranks) := ⟨rfl, rfl, rfl, by decide +kernel, rfl, by decide +kernel, by decide +kernel⟩
abbrev s__law_dl_same : Stmt := topS 33
theorem sc__law_dl_same : FnScope ["_law_answer", "_law_due", "_law_owed"] ["_law_answer", "_law_due"] (defScope s__law_dl_same) := ⟨rfl, rfl, rfl, by decide +kernel, rfl, by decide +kernel, by decide +kernel⟩
abbrev s__law_dl_length : Stmt := topS 34
theorem sc__law_dl_length : FnScope ["_law_sack", "_law_most", "_law_menu", "_law_number"] ["_law_sack", "_law_most"] (defScope s__law_dl_length) := ⟨rfl, rfl, rfl, by decide +kernel, rfl, by decide +kernel, by decide +kernel⟩
abbrev s__law_dl_set : Stmt := topS 35
theorem sc__law_dl_set : FnScope ["_law_sack", "_law_most", "_law_our_first", "_law_our_length", "_law_dense", "_law_early", "_law_found", "_law_our_day", "_law_place"] ["_law_sack", "_law_most"] (defScope s__law_dl_set) := ⟨rfl, rfl, rfl, by decide +kernel, rfl, by decide +kernel, by decide +kernel⟩
abbrev s__law_dl_has : Stmt := topS 36
theorem sc__law_dl_has : FnScope ["_law_our_told", "_law_our_day", "_law_early", "_law_our_first", "_law_our_length", "_law_found"] ["_law_our_told", "_law_our_day"] (defScope s__law_dl_has) := ⟨rfl, rfl, rfl, by decide +kernel, rfl, by decide +kernel, by decide +kernel⟩
abbrev s__law_dl_set_wide : Stmt := topS 37
theorem sc__law_dl_set_wide : FnScope ["_law_sack", "_law_our_told", "_law_top", "_law_early", "_law_our_first", "_law_our_length", "_law_found", "_law_room", "_law_chances", "_law_times", "_law_begin", "_law_many", "_law_our_days", "_law_our_day", "_law_place"] ["_law_sack", "_law_our_told", "_law_top"] (defScope s__law_dl_set_wide) := ⟨rfl, rfl, rfl, by decide +kernel, rfl, by decide +kernel, by decide +kernel⟩
abbrev s__law_dl_comes : Stmt := topS 38
theorem sc__law_dl_comes : FnScope ["_law_turn", "_law_rise", "_law_part", "_law_less", "_law_place"] ["_law_turn", "_law_rise", "_law_part"] (defScope s__law_dl_comes) := ⟨rfl, rfl, rfl, by decide +kernel, rfl, by decide +kernel, by decide +kernel⟩
abbrev s__law_dl_least : Stmt := topS 39
theorem sc__law_dl_least : FnScope ["_law_ladder", "_law_early", "_law_turn", "_law_rise", "_law_our_length", "_law_begun", "_law_part", "_law_gain", "_law_numbers"] ["_law_ladder"] (defScope s__law_dl_least) := ⟨rfl, rfl, rfl, by decide +kernel, rfl, by decide +kernel, by decide +kernel⟩
abbrev s__law_dl_set_of : Stmt := topS 40
theorem sc__law_dl_set_of : FnScope ["_law_bits", "_law_our_first", "_law_begun", "_law_again", "_law_rise", "_law_our_days", "_law_our_day", "_law_bit", "_law_place"] ["_law_bits", "_law_our_first"] (defScope s__law_dl_set_of) := ⟨rfl, rfl, rfl, by decide +kernel, rfl, by decide +kernel, by decide +kernel⟩
abbrev s__law_dl_set_least : Stmt := topS 41
theorem sc__law_dl_set_least : FnScope ["_law_our_told", "_law_bits", "_law_our_day"] ["_law_our_told"] (defScope s__law_dl_set_least) := ⟨rfl, rfl, rfl, by decide +kernel, rfl, by decide +kernel, by decide +kernel⟩
abbrev s__law_dl_days_to : Stmt := topS 42
theorem sc__law_dl_days_to : FnScope ["_law_our_told", "_law_many", "_law_our_day"] ["_law_our_told", "_law_many"] (defScope s__law_dl_days_to) := ⟨rfl, rfl, rfl, by decide +kernel, rfl, by decide +kernel, by decide +kernel⟩
abbrev s__law_dl_ahead : Stmt := topS 43
theorem sc__law_dl_ahead : FnScope ["_law_our_told", "_law_our_day", "_law_number"] ["_law_our_told", "_law_our_day"] (defScope s__law_dl_ahead) := ⟨rfl, rfl, rfl, by decide +kernel, rfl, by decide +kernel, by decide +kernel⟩
abbrev s__law_dl_asked_right : Stmt := topS 44
theorem sc__law_dl_asked_right : FnScope ["_law_sack", "_law_our_told", "_law_wide", "_law_far", "_law_edge", "_law_our_day", "_law_due"] ["_law_sack", "_law_our_told", "_law_wide"] (defScope s__law_dl_asked_right) := ⟨rfl, rfl, rfl, by decide +kernel, rfl, by decide +kernel, by decide +kernel⟩
abbrev s__law_dl_gaps_right : Stmt := topS 45
theorem sc__law_dl_gaps_right : FnScope ["_law_our_told", "_law_wide", "_law_our_days", "_law_distances", "_law_due", "_law_spot"] ["_law_our_told", "_law_wide"] (defScope s__law_dl_gaps_right) := ⟨rfl, rfl, rfl, by decide +kernel, rfl, by decide +kernel, by decide +kernel⟩
abbrev s__law_dl_made_right : Stmt := topS 46
theorem sc__law_dl_made_right : FnScope ["_law_sack", "_law_top", "_law_our_days", "_law_given", "_law_due", "_law_our_length", "_law_our_first", "_law_bits", "_law_turn", "_law_our_day", "_law_spot"] ["_law_sack"] (defScope s__law_dl_made_right) := ⟨rfl, rfl, rfl, by decide +kernel, rfl, by decide +kernel, by decide +kernel⟩
abbrev s__law_right : Stmt := topS 47
theorem sc__law_right : FnScope ["_law_sack", "_law_our_told", "_law_wide", "_law_due", "_law_given", "_law_place", "_law_answer"] ["_law_sack"] (defScope s__law_right) := ⟨rfl, rfl, rfl, by decide +kernel, rfl, by decide +kernel, by decide +kernel⟩
abbrev s_law : Stmt := topS 48
theorem sc_law : FnScope ["_law_script", "_law_rank"] ["_law_script"] (defScope s_law) := ⟨rfl, rfl, rfl, by decide +kernel, rfl, by decide +kernel, by decide +kernel⟩
structure Tx (K : PySem.W.Frag) (mg : Str → Option Value) where
  m_all : mg "all" = none
  m_zip : mg "zip" = none
  m_len : mg "len" = none
  m_list : mg "list" = none
  m_max : mg "max" = none
  m_divmod : mg "divmod" = none
  m_sorted : mg "sorted" = none
  m_set : mg "set" = none
  m_min : mg "min" = none
  m_abs : mg "abs" = none
  m_int : mg "int" = none
  m_isinstance : mg "isinstance" = none
  m_tuple : mg "tuple" = none
  m_repr : mg "repr" = none
  m_range : mg "range" = none
  m_enumerate : mg "enumerate" = none
  f_ascends : Addr
  d_ascends : FuncData
  F_ascends : Fun K "ascends" "ascends" s_ascends f_ascends d_ascends
  g_ascends : mg "ascends" = some (.ref f_ascends)
  b_ascends : Binds K d_ascends ["numbers"] []
  f_is_set : Addr
  d_is_set : FuncData
  F_is_set : Fun K "is_set" "is_set" s_is_set f_is_set d_is_set
  g_is_set : mg "is_set" = some (.ref f_is_set)
  b_is_set : Binds K d_is_set ["told"] []
  f_check_sets : Addr
  d_check_sets : FuncData
  F_check_sets : Fun K "check_sets" "check_sets" s_check_sets f_check_sets d_check_sets
  g_check_sets : mg "check_sets" = some (.ref f_check_sets)
  b_check_sets : Binds K d_check_sets ["sets"] []
  f_check_numbers : Addr
  d_check_numbers : FuncData
  F_check_numbers : Fun K "check_numbers" "check_numbers" s_check_numbers f_check_numbers d_check_numbers
  g_check_numbers : mg "check_numbers" = some (.ref f_check_numbers)
  b_check_numbers : Binds K d_check_numbers ["numbers"] []
  f_repeats : Addr
  d_repeats : FuncData
  F_repeats : Fun K "repeats" "repeats" s_repeats f_repeats d_repeats
  g_repeats : mg "repeats" = some (.ref f_repeats)
  b_repeats : Binds K d_repeats ["turn", "rise", "parts"] []
  f_shortest_turn : Addr
  d_shortest_turn : FuncData
  F_shortest_turn : Fun K "shortest_turn" "shortest_turn" s_shortest_turn f_shortest_turn d_shortest_turn
  g_shortest_turn : mg "shortest_turn" = some (.ref f_shortest_turn)
  b_shortest_turn : Binds K d_shortest_turn ["turn", "rise"] []
  f_shortened : Addr
  d_shortened : FuncData
  F_shortened : Fun K "shortened" "shortened" s_shortened f_shortened d_shortened
  g_shortened : mg "shortened" = some (.ref f_shortened)
  b_shortened : Binds K d_shortened ["ladder"] []
  f_ended : Addr
  d_ended : FuncData
  F_ended : Fun K "ended" "ended" s_ended f_ended d_ended
  g_ended : mg "ended" = some (.ref f_ended)
  b_ended : Binds K d_ended ["days"] []
  f_narrowed : Addr
  d_narrowed : FuncData
  F_narrowed : Fun K "narrowed" "narrowed" s_narrowed f_narrowed d_narrowed
  g_narrowed : mg "narrowed" = some (.ref f_narrowed)
  b_narrowed : Binds K d_narrowed ["told"] []
  f_place_of : Addr
  d_place_of : FuncData
  F_place_of : Fun K "place_of" "place_of" s_place_of f_place_of d_place_of
  g_place_of : mg "place_of" = some (.ref f_place_of)
  b_place_of : Binds K d_place_of ["numbers", "number"] []
  f_many_before : Addr
  d_many_before : FuncData
  F_many_before : Fun K "many_before" "many_before" s_many_before f_many_before d_many_before
  g_many_before : mg "many_before" = some (.ref f_many_before)
  b_many_before : Binds K d_many_before ["told", "day"] []
  f_nth_day : Addr
  d_nth_day : FuncData
  F_nth_day : Fun K "nth_day" "nth_day" s_nth_day f_nth_day d_nth_day
  g_nth_day : mg "nth_day" = some (.ref f_nth_day)
  b_nth_day : Binds K d_nth_day ["told", "number"] []
  f_day_from : Addr
  d_day_from : FuncData
  F_day_from : Fun K "day_from" "day_from" s_day_from f_day_from d_day_from
  g_day_from : mg "day_from" = some (.ref f_day_from)
  b_day_from : Binds K d_day_from ["told", "day"] []
  f_holds : Addr
  d_holds : FuncData
  F_holds : Fun K "holds" "holds" s_holds f_holds d_holds
  g_holds : mg "holds" = some (.ref f_holds)
  b_holds : Binds K d_holds ["told", "day"] []
  f_has : Addr
  d_has : FuncData
  F_has : Fun K "has" "has" s_has f_has d_has
  g_has : mg "has" = some (.ref f_has)
  b_has : Binds K d_has ["told", "day"] []
  f_least_set : Addr
  d_least_set : FuncData
  F_least_set : Fun K "least_set" "least_set" s_least_set f_least_set d_least_set
  g_least_set : mg "least_set" = some (.ref f_least_set)
  b_least_set : Binds K d_least_set ["told"] []
  f_set_of : Addr
  d_set_of : FuncData
  F_set_of : Fun K "set_of" "set_of" s_set_of f_set_of d_set_of
  g_set_of : mg "set_of" = some (.ref f_set_of)
  b_set_of : Binds K d_set_of ["days"] []
  f_every : Addr
  d_every : FuncData
  F_every : Fun K "every" "every" s_every f_every d_every
  g_every : mg "every" = some (.ref f_every)
  b_every : Binds K d_every ["length", "first"] []
  f_next_day : Addr
  d_next_day : FuncData
  F_next_day : Fun K "next_day" "next_day" s_next_day f_next_day d_next_day
  g_next_day : mg "next_day" = some (.ref f_next_day)
  b_next_day : Binds K d_next_day ["told", "day"] []
  f_gaps : Addr
  d_gaps : FuncData
  F_gaps : Fun K "gaps" "gaps" s_gaps f_gaps d_gaps
  g_gaps : mg "gaps" = some (.ref f_gaps)
  b_gaps : Binds K d_gaps ["told"] []
  f__law_dl_sack : Addr
  d__law_dl_sack : FuncData
  F__law_dl_sack : Fun K "_law_dl_sack" "_law_dl_sack" s__law_dl_sack f__law_dl_sack d__law_dl_sack
  g__law_dl_sack : mg "_law_dl_sack" = some (.ref f__law_dl_sack)
  b__law_dl_sack : Binds K d__law_dl_sack ["_law_script", "_law_rank"] []
  f__law_dl_pick : Addr
  d__law_dl_pick : FuncData
  F__law_dl_pick : Fun K "_law_dl_pick" "_law_dl_pick" s__law_dl_pick f__law_dl_pick d__law_dl_pick
  g__law_dl_pick : mg "_law_dl_pick" = some (.ref f__law_dl_pick)
  b__law_dl_pick : Binds K d__law_dl_pick ["_law_sack", "_law_many"] []
  f__law_dl_copy : Addr
  d__law_dl_copy : FuncData
  F__law_dl_copy : Fun K "_law_dl_copy" "_law_dl_copy" s__law_dl_copy f__law_dl_copy d__law_dl_copy
  g__law_dl_copy : mg "_law_dl_copy" = some (.ref f__law_dl_copy)
  b__law_dl_copy : Binds K d__law_dl_copy ["_law_thing"] []
  f__law_dl_ranks : Addr
  d__law_dl_ranks : FuncData
  F__law_dl_ranks : Fun K "_law_dl_ranks" "_law_dl_ranks" s__law_dl_ranks f__law_dl_ranks d__law_dl_ranks
  g__law_dl_ranks : mg "_law_dl_ranks" = some (.ref f__law_dl_ranks)
  b__law_dl_ranks : Binds K d__law_dl_ranks ["_law_thing", "_law_ranks"] []
  f__law_dl_same : Addr
  d__law_dl_same : FuncData
  F__law_dl_same : Fun K "_law_dl_same" "_law_dl_same" s__law_dl_same f__law_dl_same d__law_dl_same
  g__law_dl_same : mg "_law_dl_same" = some (.ref f__law_dl_same)
  b__law_dl_same : Binds K d__law_dl_same ["_law_answer", "_law_due"] []
  f__law_dl_length : Addr
  d__law_dl_length : FuncData
  F__law_dl_length : Fun K "_law_dl_length" "_law_dl_length" s__law_dl_length f__law_dl_length d__law_dl_length
  g__law_dl_length : mg "_law_dl_length" = some (.ref f__law_dl_length)
  b__law_dl_length : Binds K d__law_dl_length ["_law_sack", "_law_most"] []
  f__law_dl_set : Addr
  d__law_dl_set : FuncData
  F__law_dl_set : Fun K "_law_dl_set" "_law_dl_set" s__law_dl_set f__law_dl_set d__law_dl_set
  g__law_dl_set : mg "_law_dl_set" = some (.ref f__law_dl_set)
  b__law_dl_set : Binds K d__law_dl_set ["_law_sack", "_law_most"] []
  f__law_dl_has : Addr
  d__law_dl_has : FuncData
  F__law_dl_has : Fun K "_law_dl_has" "_law_dl_has" s__law_dl_has f__law_dl_has d__law_dl_has
  g__law_dl_has : mg "_law_dl_has" = some (.ref f__law_dl_has)
  b__law_dl_has : Binds K d__law_dl_has ["_law_our_told", "_law_our_day"] []
  f__law_dl_set_wide : Addr
  d__law_dl_set_wide : FuncData
  F__law_dl_set_wide : Fun K "_law_dl_set_wide" "_law_dl_set_wide" s__law_dl_set_wide f__law_dl_set_wide d__law_dl_set_wide
  g__law_dl_set_wide : mg "_law_dl_set_wide" = some (.ref f__law_dl_set_wide)
  b__law_dl_set_wide : Binds K d__law_dl_set_wide ["_law_sack", "_law_our_told", "_law_top"] []
  f__law_dl_comes : Addr
  d__law_dl_comes : FuncData
  F__law_dl_comes : Fun K "_law_dl_comes" "_law_dl_comes" s__law_dl_comes f__law_dl_comes d__law_dl_comes
  g__law_dl_comes : mg "_law_dl_comes" = some (.ref f__law_dl_comes)
  b__law_dl_comes : Binds K d__law_dl_comes ["_law_turn", "_law_rise", "_law_part"] []
  f__law_dl_least : Addr
  d__law_dl_least : FuncData
  F__law_dl_least : Fun K "_law_dl_least" "_law_dl_least" s__law_dl_least f__law_dl_least d__law_dl_least
  g__law_dl_least : mg "_law_dl_least" = some (.ref f__law_dl_least)
  b__law_dl_least : Binds K d__law_dl_least ["_law_ladder"] []
  f__law_dl_set_of : Addr
  d__law_dl_set_of : FuncData
  F__law_dl_set_of : Fun K "_law_dl_set_of" "_law_dl_set_of" s__law_dl_set_of f__law_dl_set_of d__law_dl_set_of
  g__law_dl_set_of : mg "_law_dl_set_of" = some (.ref f__law_dl_set_of)
  b__law_dl_set_of : Binds K d__law_dl_set_of ["_law_bits", "_law_our_first"] []
  f__law_dl_set_least : Addr
  d__law_dl_set_least : FuncData
  F__law_dl_set_least : Fun K "_law_dl_set_least" "_law_dl_set_least" s__law_dl_set_least f__law_dl_set_least d__law_dl_set_least
  g__law_dl_set_least : mg "_law_dl_set_least" = some (.ref f__law_dl_set_least)
  b__law_dl_set_least : Binds K d__law_dl_set_least ["_law_our_told"] []
  f__law_dl_days_to : Addr
  d__law_dl_days_to : FuncData
  F__law_dl_days_to : Fun K "_law_dl_days_to" "_law_dl_days_to" s__law_dl_days_to f__law_dl_days_to d__law_dl_days_to
  g__law_dl_days_to : mg "_law_dl_days_to" = some (.ref f__law_dl_days_to)
  b__law_dl_days_to : Binds K d__law_dl_days_to ["_law_our_told", "_law_many"] []
  f__law_dl_ahead : Addr
  d__law_dl_ahead : FuncData
  F__law_dl_ahead : Fun K "_law_dl_ahead" "_law_dl_ahead" s__law_dl_ahead f__law_dl_ahead d__law_dl_ahead
  g__law_dl_ahead : mg "_law_dl_ahead" = some (.ref f__law_dl_ahead)
  b__law_dl_ahead : Binds K d__law_dl_ahead ["_law_our_told", "_law_our_day"] []
  f__law_dl_asked_right : Addr
  d__law_dl_asked_right : FuncData
  F__law_dl_asked_right : Fun K "_law_dl_asked_right" "_law_dl_asked_right" s__law_dl_asked_right f__law_dl_asked_right d__law_dl_asked_right
  g__law_dl_asked_right : mg "_law_dl_asked_right" = some (.ref f__law_dl_asked_right)
  b__law_dl_asked_right : Binds K d__law_dl_asked_right ["_law_sack", "_law_our_told", "_law_wide"] []
  f__law_dl_gaps_right : Addr
  d__law_dl_gaps_right : FuncData
  F__law_dl_gaps_right : Fun K "_law_dl_gaps_right" "_law_dl_gaps_right" s__law_dl_gaps_right f__law_dl_gaps_right d__law_dl_gaps_right
  g__law_dl_gaps_right : mg "_law_dl_gaps_right" = some (.ref f__law_dl_gaps_right)
  b__law_dl_gaps_right : Binds K d__law_dl_gaps_right ["_law_our_told", "_law_wide"] []
  f__law_dl_made_right : Addr
  d__law_dl_made_right : FuncData
  F__law_dl_made_right : Fun K "_law_dl_made_right" "_law_dl_made_right" s__law_dl_made_right f__law_dl_made_right d__law_dl_made_right
  g__law_dl_made_right : mg "_law_dl_made_right" = some (.ref f__law_dl_made_right)
  b__law_dl_made_right : Binds K d__law_dl_made_right ["_law_sack"] []
  f__law_right : Addr
  d__law_right : FuncData
  F__law_right : Fun K "_law_right" "_law_right" s__law_right f__law_right d__law_right
  g__law_right : mg "_law_right" = some (.ref f__law_right)
  b__law_right : Binds K d__law_right ["_law_sack"] []
  f_law : Addr
  d_law : FuncData
  F_law : Fun K "law" "law" s_law f_law d_law
  g_law : mg "law" = some (.ref f_law)
  b_law : Binds K d_law ["_law_script"] []
  kw2r_every : KBinds K d_every ["length", "first"] ["first", "length"] kw2r kw2r
  kw1_gaps : KBinds K d_gaps ["told"] ["told"] kw1 kw1
  kw2r_has : KBinds K d_has ["told", "day"] ["day", "told"] kw2r kw2r
  kw1_least_set : KBinds K d_least_set ["told"] ["told"] kw1 kw1
  kw2r_next_day : KBinds K d_next_day ["told", "day"] ["day", "told"] kw2r kw2r
  kw1_set_of : KBinds K d_set_of ["days"] ["days"] kw1 kw1
section
variable {P : Program} {w : World} {K : PySem.W.Frag} {mg : Str → Option Value} {base : Heap}
theorem G_ascends (T : Tx K mg) : FnG P w K mg base 1 T.f_ascends T.d_ascends ["numbers"] (spD K 1 Pg.m_ascends) :=
  gD2 (f := Pg.b_ascends) T.F_ascends sc_ascends rfl (by decide) rfl ⟨_,
    (es_ret (ev_cb c_all (ea_cons (ev_lc (vs := [1, 2]) (ei_zip (ea_cons (ev_var (i := 0)) (ea_cons (ev_sl o_sl (ev_var (i := 0)) (eo_some ev_int) eo_none) ea_nil))) (egv_tup (egsv_cons (egv_name (i := 1) (by decide)) (egsv_cons (egv_name (i := 2) (by decide)) egsv_nil))) et_yes (ev_op o_lt (ev_var (i := 1)) (ev_var (i := 2)))) ea_nil))),
    fun cdv A outer s H E hA hr => (pss_one (ps_ret (pe_callB (all_K (K := K) rfl rfl) (by rfl) T.m_all (by decide +kernel) (pa_cons (pe_lc (own := [("low", 1), ("high", 2)]) (by rfl) sc_ascends.nd (pi_zip (by rfl) T.m_zip (pa_cons (pv 0) (pa_cons (pe_slice (sl_K (K := K) rfl) (pv 0) (po_some pe_int) po_none) pa_nil))) (blkOk_by (own := [("low", 1), ("high", 2)]) (N := ["numbers", "low", "high"]) (sc := defScope s_ascends) (by decide +kernel)) (fun _ _ _ _ _ => by exact (pg_tup rfl (pgs_cons (pg_name (i := 1) sc_ascends.nd rfl (.inl rfl)) (pgs_cons (pg_name (i := 2) sc_ascends.nd rfl (.inl rfl)) pgs_nil)))) (fun _ _ _ _ _ => by exact pts_nil) (fun _ _ _ _ _ => by exact (pe_cmpR op_lt (pv 1) (pv 2) (nomark _)))) pa_nil))))⟩
theorem G_is_set (T : Tx K mg) : FnG P w K mg base 2 T.f_is_set T.d_is_set ["told"] (spD K 1 Pg.m_is_set) :=
  gD2 (f := Pg.b_is_set) T.F_is_set sc_is_set rfl (by decide) rfl ⟨_,
    (es_seq (es_asg (ev_var (i := 0)) (eg_tup (egs_cons (eg_name (i := 1)) (egs_cons (eg_name (i := 2)) (egs_cons (eg_name (i := 3)) (egs_cons (eg_name (i := 4)) egs_nil))))))
      (es_ret (ev_andV (ev_op o_ge (ev_var (i := 3)) ev_int) (ev_andV (ev_call (ea_cons (ev_op o_add (ev_op o_add (ev_lst (ea_cons (ev_un o_neg ev_int) ea_nil)) (ev_var (i := 1))) (ev_lst (ea_cons (ev_var (i := 2)) ea_nil))) ea_nil) (hn_cons hn_nil)) (ev_call (ea_cons (ev_op o_add (ev_op o_add (ev_lst (ea_cons (ev_un o_neg ev_int) ea_nil)) (ev_var (i := 4))) (ev_lst (ea_cons (ev_var (i := 3)) ea_nil))) ea_nil) (hn_cons hn_nil)))))),
    fun cdv A outer s H E hA hr => (pss_cons (ps_asg (pv 0) (pg_tup rfl (pgs_cons (pg_name (i := 1) sc_is_set.nd rfl (.inl rfl)) (pgs_cons (pg_name (i := 2) sc_is_set.nd rfl (.inl rfl)) (pgs_cons (pg_name (i := 3) sc_is_set.nd rfl (.inl rfl)) (pgs_cons (pg_name (i := 4) sc_is_set.nd rfl (.inl rfl)) pgs_nil))))))
      (pss_one (ps_ret (pe_and (pe_cmpR op_ge (pv 3) pe_int (nomark _)) (pe_and (pe_g (FnG.up (G_ascends T) (by decide)) hA hr (by rfl) T.g_ascends T.F_ascends.kp T.b_ascends (pa_cons (pe_op op_addU (pe_op op_addU (pe_lst (pa_cons (pe_un un_neg pe_int) pa_nil)) (pv 1)) (pe_lst (pa_cons (pv 2) pa_nil))) pa_nil)) (pe_one (pe_g (FnG.up (G_ascends T) (by decide)) hA hr (by rfl) T.g_ascends T.F_ascends.kp T.b_ascends (pa_cons (pe_op op_addU (pe_op op_addU (pe_lst (pa_cons (pe_un un_neg pe_int) pa_nil)) (pv 4)) (pe_lst (pa_cons (pv 3) pa_nil))) pa_nil))))))))⟩
theorem G_check_sets (T : Tx K mg) : FnG P w K mg base 3 T.f_check_sets T.d_check_sets ["sets"] (spD K 1 Pg.m_check_sets) :=
  gD2 (f := Pg.b_check_sets) T.F_check_sets sc_check_sets rfl (by decide) rfl ⟨_,
    (es_for (ei_list (ev_var (i := 0))) (eg_name (i := 1))
      (es_if (et_not (et_tr (ev_call (ea_cons (ev_var (i := 1)) ea_nil) (hn_cons hn_nil)))) es_never es_next)),
    fun cdv A outer s H E hA hr => (pss_one (ps_for PassesOwn.never rfl (il_K (K := K) rfl (pv 0)) (pg_name (i := 1) sc_check_sets.nd rfl (.inl rfl))
      (pss_one (ps_if (pt_not (tr_K (K := K) rfl (pe_g (FnG.up (G_is_set T) (by decide)) hA hr (by rfl) T.g_is_set T.F_is_set.kp T.b_is_set (pa_cons (pv 1) pa_nil)))) (pss_one ps_never) pss_nil))))⟩
theorem G_check_numbers (T : Tx K mg) : FnG P w K mg base 1 T.f_check_numbers T.d_check_numbers ["numbers"] (spD K 1 Pg.m_check_numbers) :=
  gD2 (f := Pg.b_check_numbers) T.F_check_numbers sc_check_numbers rfl (by decide) rfl ⟨_,
    (es_for (ei_list (ev_var (i := 0))) (eg_name (i := 1))
      (es_if (et_test (ev_op o_lt (ev_var (i := 1)) ev_int)) es_never es_next)),
    fun cdv A outer s H E hA hr => (pss_one (ps_for PassesOwn.never rfl (il_K (K := K) rfl (pv 0)) (pg_name (i := 1) sc_check_numbers.nd rfl (.inl rfl))
      (pss_one (ps_if (pt_cmpR op_lt (pv 1) pe_int (nomark _)) (pss_one ps_never) pss_nil))))⟩
theorem G_repeats (T : Tx K mg) : FnG P w K mg base 1 T.f_repeats T.d_repeats ["turn", "rise", "parts"] (spD K 3 Pg.m_repeats) :=
  gD2 (f := Pg.b_repeats) T.F_repeats sc_repeats rfl (by decide) rfl ⟨_,
    (es_seq (es_if (et_or (et_test (ev_op o_ne (ev_op o_mod (ev_cb c_len (ea_cons (ev_var (i := 0)) ea_nil)) (ev_var (i := 2))) ev_int)) (et_test (ev_op o_ne (ev_op o_mod (ev_var (i := 1)) (ev_var (i := 2))) ev_int))) (es_ret ev_bl) es_next)
      (es_seq (es_asg (ev_tup (ea_cons (ev_op o_fdiv (ev_cb c_len (ea_cons (ev_var (i := 0)) ea_nil)) (ev_var (i := 2))) (ea_cons (ev_op o_fdiv (ev_var (i := 1)) (ev_var (i := 2))) ea_nil))) (eg_tup (egs_cons (eg_name (i := 3)) (egs_cons (eg_name (i := 4)) egs_nil))))
      (es_ret (ev_op o_eq (ev_lc (vs := [5]) (ei_list (ev_sl o_sl (ev_var (i := 0)) eo_none (eo_some (ev_un o_neg (ev_var (i := 3)))))) (egv_name (i := 5) (by decide)) et_yes (ev_op o_add (ev_var (i := 5)) (ev_var (i := 4)))) (ev_sl o_sl (ev_var (i := 0)) (eo_some (ev_var (i := 3))) eo_none))))),
    fun cdv A outer s H E hA hr => (pss_cons (ps_if (PW.pt (pw_or (pt_cmpR (ne_K (K := K) rfl hr.units) (pe_op op_mod (pe_callB (len_K (K := K) rfl) (by rfl) T.m_len (by decide +kernel) (pa_cons (pv 0) pa_nil)) (pv 2)) pe_int (nomark _)) (pw_or1 (pt_cmpR (ne_K (K := K) rfl hr.units) (pe_op op_mod (pv 1) (pv 2)) pe_int (nomark _))))) (pss_one (ps_ret pe_bl)) pss_nil)
      (pss_cons (ps_asg (pe_tup (pa_cons (pe_op op_fdivW (pe_callB (len_K (K := K) rfl) (by rfl) T.m_len (by decide +kernel) (pa_cons (pv 0) pa_nil)) (pv 2)) (pa_cons (pe_op op_fdivW (pv 1) (pv 2)) pa_nil))) (pg_tup rfl (pgs_cons (pg_name (i := 3) sc_repeats.nd rfl (.inl rfl)) (pgs_cons (pg_name (i := 4) sc_repeats.nd rfl (.inr rfl)) pgs_nil))))
      (pss_one (ps_ret (pe_cmpR (eq_K (K := K) rfl hr.units) (pe_lc (own := [("number", 5)]) (by rfl) sc_repeats.nd (il_K (K := K) rfl (pe_slice (sl_K (K := K) rfl) (pv 0) po_none (po_some (pe_un un_neg (pv 3))))) (blkOk_by (own := [("number", 5)]) (N := ["turn", "rise", "parts", "size", "step", "number"]) (sc := defScope s_repeats) (by decide +kernel)) (fun _ _ _ _ _ => by exact (pg_name (i := 5) sc_repeats.nd rfl (.inl rfl))) (fun _ _ _ _ _ => by exact pts_nil) (fun _ _ _ _ _ => by exact (pe_op op_addU (pv 5) (pv 4)))) (pe_slice (sl_K (K := K) rfl) (pv 0) (po_some (pv 3)) po_none) (nomark _))))))⟩
theorem G_shortest_turn (T : Tx K mg) : FnG P w K mg base 2 T.f_shortest_turn T.d_shortest_turn ["turn", "rise"] (spD K 2 Pg.m_shortest_turn) :=
  gD2 (f := Pg.b_shortest_turn) T.F_shortest_turn sc_shortest_turn rfl (by decide) rfl ⟨_,
    (es_seq (es_asg ev_int (eg_name (i := 2)))
      (es_seq (es_while (et_test (ev_op o_le (ev_var (i := 2)) (ev_cb c_len (ea_cons (ev_var (i := 0)) ea_nil))))
      (es_if (et_tr (ev_call (ea_cons (ev_var (i := 0)) (ea_cons (ev_var (i := 1)) (ea_cons (ev_var (i := 2)) ea_nil))) (hn_cons (hn_cons (hn_cons hn_nil))))) (es_par (i := 0) (j := 1) (ea_cons (ev_sl o_sl (ev_var (i := 0)) eo_none (eo_some (ev_op o_fdiv (ev_cb c_len (ea_cons (ev_var (i := 0)) ea_nil)) (ev_var (i := 2))))) (ea_cons (ev_op o_fdiv (ev_var (i := 1)) (ev_var (i := 2))) ea_nil))) (es_aug (i := 2) ev_int)))
      (es_ret (ev_tup (ea_cons (ev_var (i := 0)) (ea_cons (ev_var (i := 1)) ea_nil)))))),
    fun cdv A outer s H E hA hr => (pss_cons (ps_set (i := 2) sc_shortest_turn.nd rfl (.inl rfl) pe_int)
      (pss_cons (ps_while PassesOwn.never (pt_cmpR op_le (pv 2) (pe_callB (len_K (K := K) rfl) (by rfl) T.m_len (by decide +kernel) (pa_cons (pv 0) pa_nil)) (nomark _))
      (pss_one (ps_if (tr_K (K := K) rfl (pe_g (FnG.up (G_repeats T) (by decide)) hA hr (by rfl) T.g_repeats T.F_repeats.kp T.b_repeats (pa_cons (pv 0) (pa_cons (pv 1) (pa_cons (pv 2) pa_nil))))) (pss_one (ps_par (i := 0) (j := 1) rfl sc_shortest_turn.nd rfl rfl (by decide) rfl rfl (pa_cons (pe_slice (sl_K (K := K) rfl) (pv 0) po_none (po_some (pe_op op_fdivW (pe_callB (len_K (K := K) rfl) (by rfl) T.m_len (by decide +kernel) (pa_cons (pv 0) pa_nil)) (pv 2)))) (pa_cons (pe_op op_fdivW (pv 1) (pv 2)) pa_nil)) (by rfl))) (pss_one (ps_aug (i := 2) sc_shortest_turn.nd rfl (.inl rfl) pe_int ip_add)))))
      (pss_one (ps_ret (pe_tup (pa_cons (pv 0) (pa_cons (pv 1) pa_nil)))))))⟩
theorem GF_shortened (T : Tx K mg) : FnG P w K mg base 3 T.f_shortened T.d_shortened ["ladder"] (spF K 1 Pg.m_shortened) :=
  gF2 (f := Pg.b_shortened) T.F_shortened sc_shortened rfl (by decide) rfl ⟨_,
    (esF_seq (esF_of (es_asg (ev_var (i := 0)) (eg_tup (egs_cons (eg_name (i := 1)) (egs_cons (eg_name (i := 2)) (egs_cons (eg_name (i := 3)) egs_nil))))) nr_asg)
      (esF_seq (esF_of (es_asg (ev_call (ea_cons (ev_var (i := 2)) (ea_cons (ev_var (i := 3)) ea_nil)) (hn_cons (hn_cons hn_nil))) (eg_tup (egs_cons (eg_name (i := 2)) (egs_cons (eg_name (i := 3)) egs_nil)))) nr_asg)
      (esF_seq (esF_of (es_par (i := 4) (j := 5) (ea_cons (ev_cb c_len (ea_cons (ev_var (i := 2)) ea_nil)) (ea_cons (ev_cb c_len (ea_cons (ev_var (i := 1)) ea_nil)) ea_nil))) nr_par)
      (esF_seq (esF_of (es_asg (ev_op o_add (ev_var (i := 1)) (ev_var (i := 2))) (eg_name (i := 6))) nr_asg)
      (esF_seq (esF_of (es_while (et_and (et_test (ev_op o_gt (ev_var (i := 5)) ev_int)) (et_test (ev_op o_eq (ev_op o_add (ev_op o_ix (ev_var (i := 6)) (ev_op o_sub (ev_var (i := 5)) ev_int)) (ev_var (i := 3))) (ev_op o_ix (ev_var (i := 6)) (ev_op o_add (ev_op o_sub (ev_var (i := 5)) ev_int) (ev_var (i := 4)))))))
      (es_aug (i := 5) ev_int)) (nr_while nr_aug))
      (esF_ret (evF_tup (eaF_cons (evF_list (evL_sl (ev_var (i := 6)) eo_none (eo_some (ev_var (i := 5))))) (eaF_cons (evF_list (evL_sl (ev_var (i := 6)) (eo_some (ev_var (i := 5))) (eo_some (ev_op o_add (ev_var (i := 5)) (ev_var (i := 4)))))) (eaF_cons (evF_sc (ev_var (i := 3))) eaF_nil)))))))))),
    fun cdv A outer s H E hA hr => (pss_cons (ps_asg (pv 0) (pg_tup rfl (pgs_cons (pg_name (i := 1) sc_shortened.nd rfl (.inl rfl)) (pgs_cons (pg_name (i := 2) sc_shortened.nd rfl (.inl rfl)) (pgs_cons (pg_name (i := 3) sc_shortened.nd rfl (.inl rfl)) pgs_nil)))))
      (pss_cons (ps_asg (pe_g (FnG.up (G_shortest_turn T) (by decide)) hA hr (by rfl) T.g_shortest_turn T.F_shortest_turn.kp T.b_shortest_turn (pa_cons (pv 2) (pa_cons (pv 3) pa_nil))) (pg_tup rfl (pgs_cons (pg_name (i := 2) sc_shortened.nd rfl (.inl rfl)) (pgs_cons (pg_name (i := 3) sc_shortened.nd rfl (.inl rfl)) pgs_nil))))
      (pss_cons (ps_par (i := 4) (j := 5) rfl sc_shortened.nd rfl rfl (by decide) rfl rfl (pa_cons (pe_callB (len_K (K := K) rfl) (by rfl) T.m_len (by decide +kernel) (pa_cons (pv 2) pa_nil)) (pa_cons (pe_callB (len_K (K := K) rfl) (by rfl) T.m_len (by decide +kernel) (pa_cons (pv 1) pa_nil)) pa_nil)) (by rfl))
      (pss_cons (ps_set (i := 6) sc_shortened.nd rfl (.inl rfl) (pe_op op_addU (pv 1) (pv 2)))
      (pss_cons (ps_while PassesOwn.never (PW.pt (pw_and (pt_cmpR op_gt (pv 5) pe_int (nomark _)) (pw_and1 (pt_cmpR (eq_K (K := K) rfl hr.units) (pe_op op_addU (pe_ix (ix_K (K := K) rfl) (pv 6) (pe_op op_sub (pv 5) pe_int) (fun _ _ => rfl)) (pv 3)) (pe_ix (ix_K (K := K) rfl) (pv 6) (pe_op op_addU (pe_op op_sub (pv 5) pe_int) (pv 4)) (fun _ _ => rfl)) (nomark _)))))
      (pss_one (ps_aug (i := 5) sc_shortened.nd rfl (.inl rfl) pe_int ip_sub)))
      (pss_one (ps_ret (pe_tup (pa_cons (pe_slice (sl_K (K := K) rfl) (pv 6) po_none (po_some (pv 5))) (pa_cons (pe_slice (sl_K (K := K) rfl) (pv 6) (po_some (pv 5)) (po_some (pe_op op_addU (pv 5) (pv 4)))) (pa_cons (pv 3) pa_nil)))))))))))⟩
theorem G_shortened (T : Tx K mg) : FnG P w K mg base 3 T.f_shortened T.d_shortened ["ladder"] (spD K 1 Pg.m_shortened) := FnG.data (GF_shortened T)
theorem GF_ended (T : Tx K mg) : FnG P w K mg base 1 T.f_ended T.d_ended ["days"] (spF K 1 Pg.m_ended) :=
  gF2 (f := Pg.b_ended) T.F_ended sc_ended rfl (by decide) rfl ⟨_,
    (esF_seq (esF_of (es_asg (ev_if (et_tr (ev_var (i := 0))) (ev_op o_add (ev_op o_ix (ev_var (i := 0)) (ev_un o_neg ev_int)) ev_int) ev_int) (eg_name (i := 1))) nr_asg)
      (esF_ret (evF_tup (eaF_cons (evF_list (evL_listOf (ea_cons (ev_var (i := 0)) ea_nil))) (eaF_cons (evF_sc (ev_var (i := 1))) (eaF_cons (evF_sc ev_int) (eaF_cons (evF_list (evL_lst ea_nil)) eaF_nil))))))),
    fun cdv A outer s H E hA hr => (pss_cons (ps_set (i := 1) sc_ended.nd rfl (.inl rfl) (pe_ifExp (tr_K (K := K) rfl (pv 0)) (pe_op op_addU (pe_ix (ix_K (K := K) rfl) (pv 0) (pe_un un_neg pe_int) (fun _ _ => rfl)) pe_int) pe_int))
      (pss_one (ps_ret (pe_tup (pa_cons (pe_callTy (lof_K (K := K) rfl) (by rfl) T.m_list (by decide +kernel) (pa_cons (pv 0) pa_nil)) (pa_cons (pv 1) (pa_cons pe_int (pa_cons (pe_lst pa_nil) pa_nil))))))))⟩
theorem G_ended (T : Tx K mg) : FnG P w K mg base 1 T.f_ended T.d_ended ["days"] (spD K 1 Pg.m_ended) := FnG.data (GF_ended T)
theorem GF_narrowed (T : Tx K mg) : FnG P w K mg base 4 T.f_narrowed T.d_narrowed ["told"] (spF K 1 Pg.m_narrowed) :=
  gF2 (f := Pg.b_narrowed) T.F_narrowed sc_narrowed rfl (by decide) rfl ⟨_,
    (esF_seq (esF_of (es_asg (ev_var (i := 0)) (eg_tup (egs_cons (eg_name (i := 1)) (egs_cons (eg_name (i := 2)) (egs_cons (eg_name (i := 3)) (egs_cons (eg_name (i := 4)) egs_nil)))))) nr_asg)
      (esF_seq (esF_if (et_not (et_tr (ev_var (i := 4)))) (esF_ret (evF_call (ea_cons (ev_var (i := 1)) ea_nil) (hn_cons hn_nil))) (esF_of es_next nr_next))
      (esF_seq (esF_of (es_own3 (i := 1) (j := 5) (k := 3) (ea_cons (ev_tup (ea_cons (ev_var (i := 1)) (ea_cons (ev_lc (vs := [6]) (ei_list (ev_var (i := 4))) (egv_name (i := 6) (by decide)) et_yes (ev_op o_add (ev_var (i := 2)) (ev_var (i := 6)))) (ea_cons (ev_var (i := 3)) ea_nil)))) ea_nil) (hn_cons hn_nil)) nr_own3)
      (esF_seq (esF_of (es_asg (ev_op o_add (ev_cb c_max (ea_cons (ev_op o_add (ev_lst (ea_cons (ev_un o_neg ev_int) (ea_cons (ev_op o_sub (ev_op o_ix (ev_var (i := 5)) (ev_un o_neg ev_int)) (ev_var (i := 3))) ea_nil))) (ev_slO (i := 1) (eo_some (ev_un o_neg ev_int)) eo_none)) ea_nil)) ev_int) (eg_name (i := 2))) nr_asg)
      (esF_ret (evF_tup (eaF_cons (evF_ow (i := 1)) (eaF_cons (evF_sc (ev_var (i := 2))) (eaF_cons (evF_sc (ev_var (i := 3))) (eaF_cons (evF_list (evL_lc (vs := [7]) (ei_list (ev_var (i := 5))) (egv_name (i := 7) (by decide)) et_yes (ev_op o_sub (ev_var (i := 7)) (ev_var (i := 2))))) eaF_nil)))))))))),
    fun cdv A outer s H E hA hr => (pss_cons (ps_asg (pv 0) (pg_tup rfl (pgs_cons (pg_name (i := 1) sc_narrowed.nd rfl (.inl rfl)) (pgs_cons (pg_name (i := 2) sc_narrowed.nd rfl (.inr rfl)) (pgs_cons (pg_name (i := 3) sc_narrowed.nd rfl (.inl rfl)) (pgs_cons (pg_name (i := 4) sc_narrowed.nd rfl (.inl rfl)) pgs_nil))))))
      (pss_cons (ps_if (pt_not (tr_K (K := K) rfl (pv 4))) (pss_one (ps_ret (pe_g (FnG.up (GF_ended T) (by decide)) hA hr (by rfl) T.g_ended T.F_ended.kp T.b_ended (pa_cons (pv 1) pa_nil)))) pss_nil)
      (pss_cons (ps_asg (pe_g (FnG.up (GF_shortened T) (by decide)) hA hr (by rfl) T.g_shortened T.F_shortened.kp T.b_shortened (pa_cons (pe_tup (pa_cons (pv 1) (pa_cons (pe_lc (own := [("place", 6)]) (by rfl) sc_narrowed.nd (il_K (K := K) rfl (pv 4)) (blkOk_by (own := [("place", 6)]) (N := ["told", "early", "first", "length", "found", "days", "place", "day"]) (sc := defScope s_narrowed) (by decide +kernel)) (fun _ _ _ _ _ => by exact (pg_name (i := 6) sc_narrowed.nd rfl (.inl rfl))) (fun _ _ _ _ _ => by exact pts_nil) (fun _ _ _ _ _ => by exact (pe_op op_addU (pv 2) (pv 6)))) (pa_cons (pv 3) pa_nil)))) pa_nil)) (pg_tup rfl (pgs_cons (pg_name (i := 1) sc_narrowed.nd rfl (.inl rfl)) (pgs_cons (pg_name (i := 5) sc_narrowed.nd rfl (.inl rfl)) (pgs_cons (pg_name (i := 3) sc_narrowed.nd rfl (.inl rfl)) pgs_nil)))))
      (pss_cons (ps_set (i := 2) sc_narrowed.nd rfl (.inr rfl) (pe_op op_addU (pe_callB (max_K (K := K) rfl rfl) (by rfl) T.m_max (by decide +kernel) (pa_cons (pe_op op_addU (pe_lst (pa_cons (pe_un un_neg pe_int) (pa_cons (pe_op op_sub (pe_ix (ix_K (K := K) rfl) (pv 5) (pe_un un_neg pe_int) (fun _ _ => rfl)) (pv 3)) pa_nil))) (pe_slice (sl_K (K := K) rfl) (pv 1) (po_some (pe_un un_neg pe_int)) po_none)) pa_nil)) pe_int))
      (pss_one (ps_ret (pe_tup (pa_cons (pv 1) (pa_cons (pv 2) (pa_cons (pv 3) (pa_cons (pe_lc (own := [("day", 7)]) (by rfl) sc_narrowed.nd (il_K (K := K) rfl (pv 5)) (blkOk_by (own := [("day", 7)]) (N := ["told", "early", "first", "length", "found", "days", "place", "day"]) (sc := defScope s_narrowed) (by decide +kernel)) (fun _ _ _ _ _ => by exact (pg_name (i := 7) sc_narrowed.nd rfl (.inl rfl))) (fun _ _ _ _ _ => by exact pts_nil) (fun _ _ _ _ _ => by exact (pe_op op_sub (pv 7) (pv 2)))) pa_nil)))))))))))⟩
theorem G_narrowed (T : Tx K mg) : FnG P w K mg base 4 T.f_narrowed T.d_narrowed ["told"] (spD K 1 Pg.m_narrowed) := FnG.data (GF_narrowed T)
theorem G_place_of (T : Tx K mg) : FnG P w K mg base 1 T.f_place_of T.d_place_of ["numbers", "number"] (spD K 2 Pg.m_place_of) :=
  gD2 (f := Pg.b_place_of) T.F_place_of sc_place_of rfl (by decide) rfl ⟨_,
    (es_seq (es_par (i := 2) (j := 3) (ea_cons ev_int (ea_cons (ev_cb c_len (ea_cons (ev_var (i := 0)) ea_nil)) ea_nil)))
      (es_seq (es_while (et_test (ev_op o_lt (ev_var (i := 2)) (ev_var (i := 3))))
      (es_seq (es_asg (ev_op o_fdiv (ev_op o_add (ev_var (i := 2)) (ev_var (i := 3))) ev_int) (eg_name (i := 4)))
      (es_if (et_test (ev_op o_lt (ev_op o_ix (ev_var (i := 0)) (ev_var (i := 4))) (ev_var (i := 1)))) (es_asg (ev_op o_add (ev_var (i := 4)) ev_int) (eg_name (i := 2))) (es_asg (ev_var (i := 4)) (eg_name (i := 3))))))
      (es_ret (ev_var (i := 2))))),
    fun cdv A outer s H E hA hr => (pss_cons (ps_par (i := 2) (j := 3) rfl sc_place_of.nd rfl rfl (by decide) rfl rfl (pa_cons pe_int (pa_cons (pe_callB (len_K (K := K) rfl) (by rfl) T.m_len (by decide +kernel) (pa_cons (pv 0) pa_nil)) pa_nil)) (by rfl))
      (pss_cons (ps_while PassesOwn.never (pt_cmpR op_lt (pv 2) (pv 3) (nomark _))
      (pss_cons (ps_set (i := 4) sc_place_of.nd rfl (.inl rfl) (pe_op op_fdivW (pe_op op_addU (pv 2) (pv 3)) pe_int))
      (pss_one (ps_if (pt_cmpR op_lt (pe_ix (ix_K (K := K) rfl) (pv 0) (pv 4) (fun _ _ => rfl)) (pv 1) (nomark _)) (pss_one (ps_set (i := 2) sc_place_of.nd rfl (.inl rfl) (pe_op op_addU (pv 4) pe_int))) (pss_one (ps_set (i := 3) sc_place_of.nd rfl (.inl rfl) (pv 4)))))))
      (pss_one (ps_ret (pv 2)))))⟩
theorem G_many_before (T : Tx K mg) : FnG P w K mg base 2 T.f_many_before T.d_many_before ["told", "day"] (spD K 2 Pg.m_many_before) :=
  gD2 (f := Pg.b_many_before) T.F_many_before sc_many_before rfl (by decide) rfl ⟨_,
    (es_seq (es_asg (ev_var (i := 0)) (eg_tup (egs_cons (eg_name (i := 2)) (egs_cons (eg_name (i := 3)) (egs_cons (eg_name (i := 4)) (egs_cons (eg_name (i := 5)) egs_nil))))))
      (es_seq (es_if (et_test (ev_op o_le (ev_var (i := 1)) (ev_var (i := 3)))) (es_ret (ev_call (ea_cons (ev_var (i := 2)) (ea_cons (ev_var (i := 1)) ea_nil)) (hn_cons (hn_cons hn_nil)))) es_next)
      (es_seq (es_asg (ev_cb c_divmod (ea_cons (ev_op o_sub (ev_var (i := 1)) (ev_var (i := 3))) (ea_cons (ev_var (i := 4)) ea_nil))) (eg_tup (egs_cons (eg_name (i := 6)) (egs_cons (eg_name (i := 7)) egs_nil))))
      (es_ret (ev_op o_add (ev_op o_add (ev_cb c_len (ea_cons (ev_var (i := 2)) ea_nil)) (ev_op o_mul (ev_cb c_len (ea_cons (ev_var (i := 5)) ea_nil)) (ev_var (i := 6)))) (ev_call (ea_cons (ev_var (i := 5)) (ea_cons (ev_var (i := 7)) ea_nil)) (hn_cons (hn_cons hn_nil)))))))),
    fun cdv A outer s H E hA hr => (pss_cons (ps_asg (pv 0) (pg_tup rfl (pgs_cons (pg_name (i := 2) sc_many_before.nd rfl (.inl rfl)) (pgs_cons (pg_name (i := 3) sc_many_before.nd rfl (.inl rfl)) (pgs_cons (pg_name (i := 4) sc_many_before.nd rfl (.inl rfl)) (pgs_cons (pg_name (i := 5) sc_many_before.nd rfl (.inl rfl)) pgs_nil))))))
      (pss_cons (ps_if (pt_cmpR op_le (pv 1) (pv 3) (nomark _)) (pss_one (ps_ret (pe_g (FnG.up (G_place_of T) (by decide)) hA hr (by rfl) T.g_place_of T.F_place_of.kp T.b_place_of (pa_cons (pv 2) (pa_cons (pv 1) pa_nil))))) pss_nil)
      (pss_cons (ps_asg (pe_callB call_dm (by rfl) T.m_divmod (by decide +kernel) (pa_cons (pe_op op_sub (pv 1) (pv 3)) (pa_cons (pv 4) pa_nil))) (pg_tup rfl (pgs_cons (pg_name (i := 6) sc_many_before.nd rfl (.inl rfl)) (pgs_cons (pg_name (i := 7) sc_many_before.nd rfl (.inl rfl)) pgs_nil))))
      (pss_one (ps_ret (pe_op op_addU (pe_op op_addU (pe_callB (len_K (K := K) rfl) (by rfl) T.m_len (by decide +kernel) (pa_cons (pv 2) pa_nil)) (pe_op op_mulU (pe_callB (len_K (K := K) rfl) (by rfl) T.m_len (by decide +kernel) (pa_cons (pv 5) pa_nil)) (pv 6))) (pe_g (FnG.up (G_place_of T) (by decide)) hA hr (by rfl) T.g_place_of T.F_place_of.kp T.b_place_of (pa_cons (pv 5) (pa_cons (pv 7) pa_nil)))))))))⟩
theorem G_nth_day (T : Tx K mg) : FnG P w K mg base 1 T.f_nth_day T.d_nth_day ["told", "number"] (spD K 2 Pg.m_nth_day) :=
  gD2 (f := Pg.b_nth_day) T.F_nth_day sc_nth_day rfl (by decide) rfl ⟨_,
    (es_seq (es_asg (ev_var (i := 0)) (eg_tup (egs_cons (eg_name (i := 2)) (egs_cons (eg_name (i := 3)) (egs_cons (eg_name (i := 4)) (egs_cons (eg_name (i := 5)) egs_nil))))))
      (es_seq (es_if (et_test (ev_op o_lt (ev_var (i := 1)) (ev_cb c_len (ea_cons (ev_var (i := 2)) ea_nil)))) (es_ret (ev_op o_ix (ev_var (i := 2)) (ev_var (i := 1)))) es_next)
      (es_seq (es_if (et_not (et_tr (ev_var (i := 5)))) (es_ret ev_non) es_next)
      (es_seq (es_asg (ev_cb c_divmod (ea_cons (ev_op o_sub (ev_var (i := 1)) (ev_cb c_len (ea_cons (ev_var (i := 2)) ea_nil))) (ea_cons (ev_cb c_len (ea_cons (ev_var (i := 5)) ea_nil)) ea_nil))) (eg_tup (egs_cons (eg_name (i := 6)) (egs_cons (eg_name (i := 7)) egs_nil))))
      (es_ret (ev_op o_add (ev_op o_add (ev_var (i := 3)) (ev_op o_mul (ev_var (i := 4)) (ev_var (i := 6)))) (ev_op o_ix (ev_var (i := 5)) (ev_var (i := 7))))))))),
    fun cdv A outer s H E hA hr => (pss_cons (ps_asg (pv 0) (pg_tup rfl (pgs_cons (pg_name (i := 2) sc_nth_day.nd rfl (.inl rfl)) (pgs_cons (pg_name (i := 3) sc_nth_day.nd rfl (.inl rfl)) (pgs_cons (pg_name (i := 4) sc_nth_day.nd rfl (.inl rfl)) (pgs_cons (pg_name (i := 5) sc_nth_day.nd rfl (.inl rfl)) pgs_nil))))))
      (pss_cons (ps_if (pt_cmpR op_lt (pv 1) (pe_callB (len_K (K := K) rfl) (by rfl) T.m_len (by decide +kernel) (pa_cons (pv 2) pa_nil)) (nomark _)) (pss_one (ps_ret (pe_ix (ix_K (K := K) rfl) (pv 2) (pv 1) (fun _ _ => rfl)))) pss_nil)
      (pss_cons (ps_if (pt_not (tr_K (K := K) rfl (pv 5))) (pss_one (ps_ret pe_non)) pss_nil)
      (pss_cons (ps_asg (pe_callB call_dm (by rfl) T.m_divmod (by decide +kernel) (pa_cons (pe_op op_sub (pv 1) (pe_callB (len_K (K := K) rfl) (by rfl) T.m_len (by decide +kernel) (pa_cons (pv 2) pa_nil))) (pa_cons (pe_callB (len_K (K := K) rfl) (by rfl) T.m_len (by decide +kernel) (pa_cons (pv 5) pa_nil)) pa_nil))) (pg_tup rfl (pgs_cons (pg_name (i := 6) sc_nth_day.nd rfl (.inl rfl)) (pgs_cons (pg_name (i := 7) sc_nth_day.nd rfl (.inl rfl)) pgs_nil))))
      (pss_one (ps_ret (pe_op op_addU (pe_op op_addU (pv 3) (pe_op op_mulU (pv 4) (pv 6))) (pe_ix (ix_K (K := K) rfl) (pv 5) (pv 7) (fun _ _ => rfl)))))))))⟩
theorem G_day_from (T : Tx K mg) : FnG P w K mg base 3 T.f_day_from T.d_day_from ["told", "day"] (spD K 2 Pg.m_day_from) :=
  gD2 (f := Pg.b_day_from) T.F_day_from sc_day_from rfl (by decide) rfl ⟨_,
    (es_ret (ev_call (ea_cons (ev_var (i := 0)) (ea_cons (ev_call (ea_cons (ev_var (i := 0)) (ea_cons (ev_var (i := 1)) ea_nil)) (hn_cons (hn_cons hn_nil))) ea_nil)) (hn_cons (hn_cons hn_nil)))),
    fun cdv A outer s H E hA hr => (pss_one (ps_ret (pe_g (FnG.up (G_nth_day T) (by decide)) hA hr (by rfl) T.g_nth_day T.F_nth_day.kp T.b_nth_day (pa_cons (pv 0) (pa_cons (pe_g (FnG.up (G_many_before T) (by decide)) hA hr (by rfl) T.g_many_before T.F_many_before.kp T.b_many_before (pa_cons (pv 0) (pa_cons (pv 1) pa_nil))) pa_nil)))))⟩
theorem G_holds (T : Tx K mg) : FnG P w K mg base 4 T.f_holds T.d_holds ["told", "day"] (spD K 2 Pg.m_holds) :=
  gD2 (f := Pg.b_holds) T.F_holds sc_holds rfl (by decide) rfl ⟨_,
    (es_ret (ev_op o_eq (ev_call (ea_cons (ev_var (i := 0)) (ea_cons (ev_var (i := 1)) ea_nil)) (hn_cons (hn_cons hn_nil))) (ev_var (i := 1)))),
    fun cdv A outer s H E hA hr => (pss_one (ps_ret (pe_cmpR (eq_K (K := K) rfl hr.units) (pe_g (FnG.up (G_day_from T) (by decide)) hA hr (by rfl) T.g_day_from T.F_day_from.kp T.b_day_from (pa_cons (pv 0) (pa_cons (pv 1) pa_nil))) (pv 1) (nomark _))))⟩
theorem G_has (T : Tx K mg) : FnG P w K mg base 5 T.f_has T.d_has ["told", "day"] (spD K 2 Pg.m_has) :=
  gD2 (f := Pg.b_has) T.F_has sc_has rfl (by decide) rfl ⟨_,
    (es_seq (es_drop (ev_call (ea_cons (ev_lst (ea_cons (ev_var (i := 0)) ea_nil)) ea_nil) (hn_cons hn_nil)))
      (es_seq (es_drop (ev_call (ea_cons (ev_lst (ea_cons (ev_var (i := 1)) ea_nil)) ea_nil) (hn_cons hn_nil)))
      (es_ret (ev_call (ea_cons (ev_var (i := 0)) (ea_cons (ev_var (i := 1)) ea_nil)) (hn_cons (hn_cons hn_nil)))))),
    fun cdv A outer s H E hA hr => (pss_cons (ps_expr (pe_g (FnG.up (G_check_sets T) (by decide)) hA hr (by rfl) T.g_check_sets T.F_check_sets.kp T.b_check_sets (pa_cons (pe_lst (pa_cons (pv 0) pa_nil)) pa_nil)))
      (pss_cons (ps_expr (pe_g (FnG.up (G_check_numbers T) (by decide)) hA hr (by rfl) T.g_check_numbers T.F_check_numbers.kp T.b_check_numbers (pa_cons (pe_lst (pa_cons (pv 1) pa_nil)) pa_nil)))
      (pss_one (ps_ret (pe_g (FnG.up (G_holds T) (by decide)) hA hr (by rfl) T.g_holds T.F_holds.kp T.b_holds (pa_cons (pv 0) (pa_cons (pv 1) pa_nil)))))))⟩
theorem GF_least_set (T : Tx K mg) : FnG P w K mg base 5 T.f_least_set T.d_least_set ["told"] (spF K 1 Pg.m_least_set) :=
  gF2 (f := Pg.b_least_set) T.F_least_set sc_least_set rfl (by decide) rfl ⟨_,
    (esF_seq (esF_of (es_drop (ev_call (ea_cons (ev_lst (ea_cons (ev_var (i := 0)) ea_nil)) ea_nil) (hn_cons hn_nil))) nr_drop)
      (esF_ret (evF_call (ea_cons (ev_var (i := 0)) ea_nil) (hn_cons hn_nil)))),
    fun cdv A outer s H E hA hr => (pss_cons (ps_expr (pe_g (FnG.up (G_check_sets T) (by decide)) hA hr (by rfl) T.g_check_sets T.F_check_sets.kp T.b_check_sets (pa_cons (pe_lst (pa_cons (pv 0) pa_nil)) pa_nil)))
      (pss_one (ps_ret (pe_g (FnG.up (GF_narrowed T) (by decide)) hA hr (by rfl) T.g_narrowed T.F_narrowed.kp T.b_narrowed (pa_cons (pv 0) pa_nil)))))⟩
theorem G_least_set (T : Tx K mg) : FnG P w K mg base 5 T.f_least_set T.d_least_set ["told"] (spD K 1 Pg.m_least_set) := FnG.data (GF_least_set T)
theorem GF_set_of (T : Tx K mg) : FnG P w K mg base 2 T.f_set_of T.d_set_of ["days"] (spF K 1 Pg.m_set_of) :=
  gF2 (f := Pg.b_set_of) T.F_set_of sc_set_of rfl (by decide) rfl ⟨_,
    (esF_seq (esF_of (es_drop (ev_call (ea_cons (ev_var (i := 0)) ea_nil) (hn_cons hn_nil))) nr_drop)
      (esF_ret (evF_call (ea_cons (ev_sortSet (w := w) (ea_cons (ev_var (i := 0)) ea_nil)) ea_nil) (hn_cons hn_nil)))),
    fun cdv A outer s H E hA hr => (pss_cons (ps_expr (pe_g (FnG.up (G_check_numbers T) (by decide)) hA hr (by rfl) T.g_check_numbers T.F_check_numbers.kp T.b_check_numbers (pa_cons (pv 0) pa_nil)))
      (pss_one (ps_ret (pe_g (FnG.up (GF_ended T) (by decide)) hA hr (by rfl) T.g_ended T.F_ended.kp T.b_ended (pa_cons (pe_callB (srt_K (w := w) rfl rfl) (by rfl) T.m_sorted (by decide +kernel) (pa_cons (pe_callTy (set_K (K := K) (w := w) rfl rfl rfl) (by rfl) T.m_set (by decide +kernel) (pa_cons (pv 0) pa_nil)) pa_nil)) pa_nil)))))⟩
theorem G_set_of (T : Tx K mg) : FnG P w K mg base 2 T.f_set_of T.d_set_of ["days"] (spD K 1 Pg.m_set_of) := FnG.data (GF_set_of T)
theorem GF_every (T : Tx K mg) : FnG P w K mg base 5 T.f_every T.d_every ["length", "first"] (spF K 2 Pg.m_every) :=
  gF2 (f := Pg.b_every) T.F_every sc_every rfl (by decide) rfl ⟨_,
    (esF_seq (esF_if (et_test (ev_op o_lt (ev_var (i := 0)) ev_int)) (esF_of es_never nr_never) (esF_of es_next nr_next))
      (esF_seq (esF_of (es_drop (ev_call (ea_cons (ev_lst (ea_cons (ev_var (i := 1)) ea_nil)) ea_nil) (hn_cons hn_nil))) nr_drop)
      (esF_ret (evF_call (ea_cons (ev_tup (ea_cons (ev_lst ea_nil) (ea_cons (ev_var (i := 1)) (ea_cons (ev_var (i := 0)) (ea_cons (ev_lst (ea_cons ev_int ea_nil)) ea_nil))))) ea_nil) (hn_cons hn_nil))))),
    fun cdv A outer s H E hA hr => (pss_cons (ps_if (pt_cmpR op_lt (pv 0) pe_int (nomark _)) (pss_one ps_never) pss_nil)
      (pss_cons (ps_expr (pe_g (FnG.up (G_check_numbers T) (by decide)) hA hr (by rfl) T.g_check_numbers T.F_check_numbers.kp T.b_check_numbers (pa_cons (pe_lst (pa_cons (pv 1) pa_nil)) pa_nil)))
      (pss_one (ps_ret (pe_g (FnG.up (GF_narrowed T) (by decide)) hA hr (by rfl) T.g_narrowed T.F_narrowed.kp T.b_narrowed (pa_cons (pe_tup (pa_cons (pe_lst pa_nil) (pa_cons (pv 1) (pa_cons (pv 0) (pa_cons (pe_lst (pa_cons pe_int pa_nil)) pa_nil))))) pa_nil))))))⟩
theorem G_every (T : Tx K mg) : FnG P w K mg base 5 T.f_every T.d_every ["length", "first"] (spD K 2 Pg.m_every) := FnG.data (GF_every T)
theorem G_next_day (T : Tx K mg) : FnG P w K mg base 4 T.f_next_day T.d_next_day ["told", "day"] (spD K 2 Pg.m_next_day) :=
  gD2 (f := Pg.b_next_day) T.F_next_day sc_next_day rfl (by decide) rfl ⟨_,
    (es_seq (es_drop (ev_call (ea_cons (ev_lst (ea_cons (ev_var (i := 0)) ea_nil)) ea_nil) (hn_cons hn_nil)))
      (es_seq (es_drop (ev_call (ea_cons (ev_lst (ea_cons (ev_var (i := 1)) ea_nil)) ea_nil) (hn_cons hn_nil)))
      (es_ret (ev_call (ea_cons (ev_var (i := 0)) (ea_cons (ev_var (i := 1)) ea_nil)) (hn_cons (hn_cons hn_nil)))))),
    fun cdv A outer s H E hA hr => (pss_cons (ps_expr (pe_g (FnG.up (G_check_sets T) (by decide)) hA hr (by rfl) T.g_check_sets T.F_check_sets.kp T.b_check_sets (pa_cons (pe_lst (pa_cons (pv 0) pa_nil)) pa_nil)))
      (pss_cons (ps_expr (pe_g (FnG.up (G_check_numbers T) (by decide)) hA hr (by rfl) T.g_check_numbers T.F_check_numbers.kp T.b_check_numbers (pa_cons (pe_lst (pa_cons (pv 1) pa_nil)) pa_nil)))
      (pss_one (ps_ret (pe_g (FnG.up (G_day_from T) (by decide)) hA hr (by rfl) T.g_day_from T.F_day_from.kp T.b_day_from (pa_cons (pv 0) (pa_cons (pv 1) pa_nil)))))))⟩
theorem G_gaps (T : Tx K mg) : FnG P w K mg base 4 T.f_gaps T.d_gaps ["told"] (spD K 1 Pg.m_gaps) :=
  gD2 (f := Pg.b_gaps) T.F_gaps sc_gaps rfl (by decide) rfl ⟨_,
    (es_seq (es_drop (ev_call (ea_cons (ev_lst (ea_cons (ev_var (i := 0)) ea_nil)) ea_nil) (hn_cons hn_nil)))
      (es_seq (es_asg (ev_var (i := 0)) (eg_tup (egs_cons (eg_name (i := 1)) (egs_cons (eg_name (i := 2)) (egs_cons (eg_name (i := 3)) (egs_cons (eg_name (i := 4)) egs_nil))))))
      (es_seq (es_if (et_and (et_not (et_tr (ev_var (i := 4)))) (et_test (ev_op o_lt (ev_cb c_len (ea_cons (ev_var (i := 1)) ea_nil)) ev_int))) es_never es_next)
      (es_seq (es_asg (ev_op o_add (ev_op o_add (ev_var (i := 1)) (ev_lc (vs := [7]) (ei_list (ev_var (i := 4))) (egv_name (i := 7) (by decide)) et_yes (ev_op o_add (ev_var (i := 2)) (ev_var (i := 7))))) (ev_lc (vs := [7]) (ei_list (ev_sl o_sl (ev_var (i := 4)) eo_none (eo_some ev_int))) (egv_name (i := 7) (by decide)) et_yes (ev_op o_add (ev_op o_add (ev_var (i := 2)) (ev_var (i := 3))) (ev_var (i := 7))))) (eg_name (i := 5)))
      (es_seq (es_asg (ev_lc (vs := [8, 9]) (ei_zip (ea_cons (ev_var (i := 5)) (ea_cons (ev_sl o_sl (ev_var (i := 5)) (eo_some ev_int) eo_none) ea_nil))) (egv_tup (egsv_cons (egv_name (i := 8) (by decide)) (egsv_cons (egv_name (i := 9) (by decide)) egsv_nil))) et_yes (ev_op o_sub (ev_var (i := 9)) (ev_var (i := 8)))) (eg_name (i := 6)))
      (es_ret (ev_tup (ea_cons (ev_cb c_min (ea_cons (ev_var (i := 6)) ea_nil)) (ea_cons (ev_cb c_max (ea_cons (ev_var (i := 6)) ea_nil)) ea_nil))))))))),
    fun cdv A outer s H E hA hr => (pss_cons (ps_expr (pe_g (FnG.up (G_check_sets T) (by decide)) hA hr (by rfl) T.g_check_sets T.F_check_sets.kp T.b_check_sets (pa_cons (pe_lst (pa_cons (pv 0) pa_nil)) pa_nil)))
      (pss_cons (ps_asg (pv 0) (pg_tup rfl (pgs_cons (pg_name (i := 1) sc_gaps.nd rfl (.inl rfl)) (pgs_cons (pg_name (i := 2) sc_gaps.nd rfl (.inr rfl)) (pgs_cons (pg_name (i := 3) sc_gaps.nd rfl (.inr rfl)) (pgs_cons (pg_name (i := 4) sc_gaps.nd rfl (.inl rfl)) pgs_nil))))))
      (pss_cons (ps_if (PW.pt (pw_and (pt_not (tr_K (K := K) rfl (pv 4))) (pw_and1 (pt_cmpR op_lt (pe_callB (len_K (K := K) rfl) (by rfl) T.m_len (by decide +kernel) (pa_cons (pv 1) pa_nil)) pe_int (nomark _))))) (pss_one ps_never) pss_nil)
      (pss_cons (ps_set (i := 5) sc_gaps.nd rfl (.inl rfl) (pe_op op_addU (pe_op op_addU (pv 1) (pe_lc (own := [("place", 7)]) (by rfl) sc_gaps.nd (il_K (K := K) rfl (pv 4)) (blkOk_by (own := [("place", 7)]) (N := ["told", "early", "first", "length", "found", "days", "distances", "place", "soon", "late"]) (sc := defScope s_gaps) (by decide +kernel)) (fun _ _ _ _ _ => by exact (pg_name (i := 7) sc_gaps.nd rfl (.inl rfl))) (fun _ _ _ _ _ => by exact pts_nil) (fun _ _ _ _ _ => by exact (pe_op op_addU (pv 2) (pv 7))))) (pe_lc (own := [("place", 7)]) (by rfl) sc_gaps.nd (il_K (K := K) rfl (pe_slice (sl_K (K := K) rfl) (pv 4) po_none (po_some pe_int))) (blkOk_by (own := [("place", 7)]) (N := ["told", "early", "first", "length", "found", "days", "distances", "place", "soon", "late"]) (sc := defScope s_gaps) (by decide +kernel)) (fun _ _ _ _ _ => by exact (pg_name (i := 7) sc_gaps.nd rfl (.inl rfl))) (fun _ _ _ _ _ => by exact pts_nil) (fun _ _ _ _ _ => by exact (pe_op op_addU (pe_op op_addU (pv 2) (pv 3)) (pv 7))))))
      (pss_cons (ps_setLc (i := 6) (own := [("soon", 8), ("late", 9)]) (by rfl) sc_gaps.nd rfl rfl (sw_true rfl rfl rfl (by decide +kernel)) (pi_zip (by rfl) T.m_zip (pa_cons (pv 5) (pa_cons (pe_slice (sl_K (K := K) rfl) (pv 5) (po_some pe_int) po_none) pa_nil))) (blkOk_by (own := [("soon", 8), ("late", 9)]) (N := ["told", "early", "first", "length", "found", "days", "distances", "place", "soon", "late"]) (sc := defScope s_gaps) (by decide +kernel)) (fun _ _ _ _ _ => by exact (pg_tup rfl (pgs_cons (pg_name (i := 8) sc_gaps.nd rfl (.inl rfl)) (pgs_cons (pg_name (i := 9) sc_gaps.nd rfl (.inl rfl)) pgs_nil)))) (fun _ _ _ _ _ => by exact pts_nil) (fun _ _ _ _ _ => by exact (pe_op op_sub (pv 9) (pv 8))))
      (pss_one (ps_ret (pe_tup (pa_cons (pe_callB (min_K (K := K) rfl rfl) (by rfl) T.m_min (by decide +kernel) (pa_cons (pv 6) pa_nil)) (pa_cons (pe_callB (max_K (K := K) rfl rfl) (by rfl) T.m_max (by decide +kernel) (pa_cons (pv 6) pa_nil)) pa_nil))))))))))⟩
theorem ok_sack (T : Tx K mg) : FnG P w K mg base 1 T.f__law_dl_sack T.d__law_dl_sack ["_law_script", "_law_rank"] (spSack K) := by
  refine gOf T.F__law_dl_sack sc__law_dl_sack (fun vs H Q E h => ?_) (fun cdv A outer s H vs Q E hA hr h => ?_)
  · obtain ⟨a, ns, r, rfl, _⟩ := h
    rfl
  · exact ⟨t_sack K, (pss_cons (ps_set (i := 2) sc__law_dl_sack.nd rfl (.inl rfl) (pe_ifExp (pt_cmpR op_lt (pv 1) (pe_callB (len_K (K := K) rfl) (by rfl) T.m_len (by decide +kernel) (pa_cons (pv 0) pa_nil)) (nomark _)) (pe_ix (ix_K (K := K) rfl) (pv 0) (pv 1) (fun _ _ => rfl)) pe_int))
      (pss_one (ps_ret (pe_lst (pa_cons (pe_callB (call_max2 rfl) (by rfl) T.m_max (by decide +kernel) (pa_cons pe_int (pa_cons (pe_op op_sub (pe_callB call_abs (by rfl) T.m_abs (by decide +kernel) (pa_cons (pv 2) pa_nil)) (pe_op op_powL pe_int pe_int)) pa_nil))) (pa_cons (pe_op op_mod (pe_callTy call_int1 (by rfl) T.m_int (by decide +kernel) (pa_cons (pe_op op_addU (pe_op op_addU (pe_op op_mulU (pv 2) pe_int) (pe_op op_mulU (pv 1) pe_int)) pe_int) pa_nil)) (pe_op op_addU (pe_op op_powL pe_int pe_int) pe_int)) (pa_cons pe_int pa_nil))))))), sack_read h⟩
theorem G__law_dl_pick (T : Tx K mg) : FnG P w K mg base 1 T.f__law_dl_pick T.d__law_dl_pick ["_law_sack", "_law_many"] (spO K 1 Pg.m__law_dl_pick) :=
  gO2 (f := Pg.b__law_dl_pick) T.F__law_dl_pick sc__law_dl_pick rfl (by decide) rfl ⟨_,
    (es_seq (es_if (et_test (ev_op o_gt (ev_ixO (i := 0) ev_int) ev_int)) (es_seq (es_asg (ev_op o_mod (ev_cb c_int (ea_cons (ev_ixO (i := 0) ev_int) ea_nil)) (ev_var (i := 1))) (eg_name (i := 2)))
      (es_seq (es_putO (i := 0) (ev_op o_fdiv (ev_ixO (i := 0) ev_int) (ev_var (i := 1))) ev_int)
      (es_ret (ev_var (i := 2))))) es_next)
      (es_seq (es_putO (i := 0) (ev_op o_add (ev_ixO (i := 0) ev_int) ev_int) ev_int)
      (es_seq (es_asg (ev_op o_mod (ev_op o_pow (ev_cb c_int (ea_cons (ev_op o_add (ev_ixO (i := 0) ev_int) (ev_op o_mul ev_int (ev_ixO (i := 0) ev_int))) ea_nil)) ev_int) (ev_op o_add (ev_op o_pow ev_int ev_int) ev_int)) (eg_name (i := 3)))
      (es_seq (es_asg (ev_op o_mod (ev_op o_pow (ev_cb c_int (ea_cons (ev_op o_add (ev_var (i := 3)) (ev_op o_mul ev_int (ev_ixO (i := 0) ev_int))) ea_nil)) ev_int) (ev_op o_add (ev_op o_pow ev_int ev_int) ev_int)) (eg_name (i := 3)))
      (es_ret (ev_op o_mod (ev_cb c_int (ea_cons (ev_op o_fdiv (ev_var (i := 3)) ev_int) ea_nil)) (ev_var (i := 1)))))))),
    fun cdv A outer s H E hA hr => (pss_cons (ps_if (pt_cmpR op_gt (pe_ix (ix_K (K := K) rfl) (pv 0) pe_int (fun _ _ => rfl)) pe_int (nomark _)) (pss_cons (ps_set (i := 2) sc__law_dl_pick.nd rfl (.inl rfl) (pe_op op_mod (pe_callTy call_int1 (by rfl) T.m_int (by decide +kernel) (pa_cons (pe_ix (ix_K (K := K) rfl) (pv 0) pe_int (fun _ _ => rfl)) pa_nil)) (pv 1)))
      (pss_cons (ps_asg (pe_op op_fdivW (pe_ix (ix_K (K := K) rfl) (pv 0) pe_int (fun _ _ => rfl)) (pv 1)) (pg_sub (pv 0) pe_int set_list))
      (pss_one (ps_ret (pv 2))))) pss_nil)
      (pss_cons (ps_asg (pe_op op_addU (pe_ix (ix_K (K := K) rfl) (pv 0) pe_int (fun _ _ => rfl)) pe_int) (pg_sub (pv 0) pe_int set_list))
      (pss_cons (ps_set (i := 3) sc__law_dl_pick.nd rfl (.inl rfl) (pe_op op_mod (pe_op op_powL (pe_callTy call_int1 (by rfl) T.m_int (by decide +kernel) (pa_cons (pe_op op_addU (pe_ix (ix_K (K := K) rfl) (pv 0) pe_int (fun _ _ => rfl)) (pe_op op_mulU pe_int (pe_ix (ix_K (K := K) rfl) (pv 0) pe_int (fun _ _ => rfl)))) pa_nil)) pe_int) (pe_op op_addU (pe_op op_powL pe_int pe_int) pe_int)))
      (pss_cons (ps_set (i := 3) sc__law_dl_pick.nd rfl (.inl rfl) (pe_op op_mod (pe_op op_powL (pe_callTy call_int1 (by rfl) T.m_int (by decide +kernel) (pa_cons (pe_op op_addU (pv 3) (pe_op op_mulU pe_int (pe_ix (ix_K (K := K) rfl) (pv 0) pe_int (fun _ _ => rfl)))) pa_nil)) pe_int) (pe_op op_addU (pe_op op_powL pe_int pe_int) pe_int)))
      (pss_one (ps_ret (pe_op op_mod (pe_callTy call_int1 (by rfl) T.m_int (by decide +kernel) (pa_cons (pe_op op_fdivW (pv 3) pe_int) pa_nil)) (pv 1))))))))⟩
theorem okc_copy (T : Tx K mg) : ∀ n : Nat, FnG P w K mg base n T.f__law_dl_copy T.d__law_dl_copy ["_law_thing"] (spCopy K n)
  | 0 => ⟨fun vs H Q E h => by obtain ⟨_, _, _, _, _, _, z, _⟩ := h; exact absurd z (Nat.not_lt_zero _), fun A _ o s H args us vs Q E hr he hb hv h => by obtain ⟨_, _, _, _, _, _, z, _⟩ := h; exact absurd z (Nat.not_lt_zero _)⟩
  | k + 1 => by
    have G_ := okc_copy T k
    refine gOf T.F__law_dl_copy sc__law_dl_copy (fun vs H Q E h => ?_) (fun cdv A outer s H vs Q E hA hr h => ?_)
    · obtain ⟨O, v, d, rfl, _⟩ := h
      rfl
    · obtain ⟨O, v, d, rfl, l, p, hd, hs, q⟩ := h
      exact ⟨t_copy K (spCopy K k), (pss_cons (ps_if (tr_K (K := K) rfl (pe_callB (isi_K (K := K) rfl) (by rfl) T.m_isinstance (by decide +kernel) (pa_cons (pv 0) (pa_cons (pe_bltn (v := .ty "list") (by rfl) T.m_list (by decide +kernel) rfl) pa_nil)))) (pss_one (ps_ret (pe_lc (own := [("_law_part", 1)]) (by rfl) sc__law_dl_copy.nd (il_K (K := K) rfl (pv 0)) (blkOk_by (own := [("_law_part", 1)]) (N := ["_law_thing", "_law_part"]) (sc := defScope s__law_dl_copy) (by decide +kernel)) (fun _ _ _ _ _ => by exact (pg_name (i := 1) sc__law_dl_copy.nd rfl (.inl rfl))) (fun _ _ _ _ _ => by exact pts_nil) (fun _ _ _ _ _ => by exact (pe_g G_ hA hr (by rfl) T.g__law_dl_copy T.F__law_dl_copy.kp T.b__law_dl_copy (pa_cons (pv 1) pa_nil)))))) pss_nil)
      (pss_cons (ps_if (tr_K (K := K) rfl (pe_callB (isi_K (K := K) rfl) (by rfl) T.m_isinstance (by decide +kernel) (pa_cons (pv 0) (pa_cons (pe_bltn (v := .ty "tuple") (by rfl) T.m_tuple (by decide +kernel) rfl) pa_nil)))) (pss_one (ps_ret (pe_callTy (tof_K (K := K) rfl) (by rfl) T.m_tuple (by decide +kernel) (pa_cons (pe_lc (own := [("_law_part", 1)]) (by rfl) sc__law_dl_copy.nd (it_K (K := K) rfl (pv 0)) (blkOk_by (own := [("_law_part", 1)]) (N := ["_law_thing", "_law_part"]) (sc := defScope s__law_dl_copy) (by decide +kernel)) (fun _ _ _ _ _ => by exact (pg_name (i := 1) sc__law_dl_copy.nd rfl (.inl rfl))) (fun _ _ _ _ _ => by exact pts_nil) (fun _ _ _ _ _ => by exact (pe_g G_ hA hr (by rfl) T.g__law_dl_copy T.F__law_dl_copy.kp T.b__law_dl_copy (pa_cons (pv 1) pa_nil)))) pa_nil)))) pss_nil)
      (pss_one (ps_ret (pv 0))))), copy_read l p hd hs q rfl⟩
theorem G__law_dl_copy (T : Tx K mg) : FnG P w K mg base 7 T.f__law_dl_copy T.d__law_dl_copy ["_law_thing"] (spD K 1 gCopy) := FnG.copyD (okc_copy T 7)
theorem okc_ranks (T : Tx K mg) : ∀ n : Nat, FnG P w K mg base n T.f__law_dl_ranks T.d__law_dl_ranks ["_law_thing", "_law_ranks"] (spRanks n)
  | 0 => ⟨fun vs H Q E h => by obtain ⟨_, _, _, _, _, _, _, _, _, z, _⟩ := h; exact absurd z (Nat.not_lt_zero _), fun A _ o s H args us vs Q E hr he hb hv h => by obtain ⟨_, _, _, _, _, _, _, _, _, z, _⟩ := h; exact absurd z (Nat.not_lt_zero _)⟩
  | k + 1 => by
    have G_ := okc_ranks T k
    refine gOf T.F__law_dl_ranks sc__law_dl_ranks (fun vs H Q E h => ?_) (fun cdv A outer s H vs Q E hA hr h => ?_)
    · obtain ⟨v, r, d, fp, n, rfl, _⟩ := h
      rfl
    · obtain ⟨v, r, d, fp, n, rfl, t, hR, nr, hd, hsl, q⟩ := h
      exact ⟨t_rk K (spRanks k), (pss_cons (ps_if (tr_K (K := K) rfl (pe_callB (isi_K (K := K) rfl) (by rfl) T.m_isinstance (by decide +kernel) (pa_cons (pv 0) (pa_cons (pe_tup (pa_cons (pe_bltn (v := .ty "list") (by rfl) T.m_list (by decide +kernel) rfl) (pa_cons (pe_bltn (v := .ty "tuple") (by rfl) T.m_tuple (by decide +kernel) rfl) pa_nil))) pa_nil)))) (pss_one (ps_for PassesOwn.never rfl (il_K (K := K) rfl (pe_callTy (lof_K (K := K) rfl) (by rfl) T.m_list (by decide +kernel) (pa_cons (pv 0) pa_nil))) (pg_name (i := 2) sc__law_dl_ranks.nd rfl (.inl rfl))
      (pss_one (ps_expr (pe_g G_ hA hr (by rfl) T.g__law_dl_ranks T.F__law_dl_ranks.kp T.b__law_dl_ranks (pa_cons (pv 2) (pa_cons (pv 1) pa_nil))))))) pss_nil)
      (pss_one (ps_if (tr_K (K := K) rfl (pe_callB (isi_K (K := K) rfl) (by rfl) T.m_isinstance (by decide +kernel) (pa_cons (pv 0) (pa_cons (pe_bltn (v := .ty "list") (by rfl) T.m_list (by decide +kernel) rfl) pa_nil)))) (pss_cons (ps_expr (app_K (K := K) rfl (pv 0) (pa_cons (pe_ix (ix_K (K := K) rfl) (pv 1) pe_int (fun _ _ => rfl)) pa_nil)))
      (pss_one (ps_asg (pe_op op_addU (pe_ix (ix_K (K := K) rfl) (pv 1) pe_int (fun _ _ => rfl)) pe_int) (pg_sub (pv 1) pe_int set_list)))) pss_nil))), rk_read t hR nr hd hsl q rfl⟩
theorem G__law_dl_same (T : Tx K mg) : FnG P w K mg base 8 T.f__law_dl_same T.d__law_dl_same ["_law_answer", "_law_due"] (spSame K) := by
  refine gOf T.F__law_dl_same sc__law_dl_same (fun vs H Q E h => ?_) (fun cdv A outer s H vs Q E hA hr h => ?_)
  · obtain ⟨v, u, d, fp, O, rfl, _⟩ := h
    rfl
  · obtain ⟨v, u, d, fp, O, rfl, l, t, p, ok, q⟩ := h
    exact ⟨t_same K (spCopy K 7) (spRanks 7), (pss_cons (ps_set (i := 2) sc__law_dl_same.nd rfl (.inl rfl) (pe_g (okc_copy T 7) hA hr (by rfl) T.g__law_dl_copy T.F__law_dl_copy.kp T.b__law_dl_copy (pa_cons (pv 1) pa_nil)))
      (pss_cons (ps_if (pt_cmpR (ne_K (K := K) rfl hr.units) (pe_callB (repr_K (K := K) rfl hA hr) (by rfl) T.m_repr (by decide +kernel) (pa_cons (pv 0) pa_nil)) (pe_callB (repr_K (K := K) rfl hA hr) (by rfl) T.m_repr (by decide +kernel) (pa_cons (pv 2) pa_nil)) (nomark _)) (pss_one (ps_ret pe_bl)) pss_nil)
      (pss_cons (ps_expr (pe_g (okc_ranks T 7) hA hr (by rfl) T.g__law_dl_ranks T.F__law_dl_ranks.kp T.b__law_dl_ranks (pa_cons (pv 0) (pa_cons (pe_lst (pa_cons pe_int pa_nil)) pa_nil))))
      (pss_cons (ps_expr (pe_g (okc_ranks T 7) hA hr (by rfl) T.g__law_dl_ranks T.F__law_dl_ranks.kp T.b__law_dl_ranks (pa_cons (pv 2) (pa_cons (pe_lst (pa_cons pe_int pa_nil)) pa_nil))))
      (pss_one (ps_ret (pe_cmpR (eq_K (K := K) rfl hr.units) (pe_callB (repr_K (K := K) rfl hA hr) (by rfl) T.m_repr (by decide +kernel) (pa_cons (pv 0) pa_nil)) (pe_callB (repr_K (K := K) rfl hA hr) (by rfl) T.m_repr (by decide +kernel) (pa_cons (pv 2) pa_nil)) (nomark _)))))))), same_read l t p ok q rfl⟩
theorem G__law_dl_length (T : Tx K mg) : FnG P w K mg base 2 T.f__law_dl_length T.d__law_dl_length ["_law_sack", "_law_most"] (spO K 1 Pg.m__law_dl_length) :=
  gO2 (f := Pg.b__law_dl_length) T.F__law_dl_length sc__law_dl_length rfl (by decide) rfl ⟨_,
    (es_seq (es_asg (ev_lst (ea_cons ev_int (ea_cons ev_int (ea_cons ev_int (ea_cons ev_int (ea_cons ev_int (ea_cons ev_int (ea_cons ev_int (ea_cons ev_int (ea_cons ev_int (ea_cons ev_int (ea_cons ev_int (ea_cons ev_int (ea_cons ev_int (ea_cons ev_int (ea_cons ev_int (ea_cons ev_int (ea_cons ev_int (ea_cons ev_int (ea_cons ev_int (ea_cons ev_int (ea_cons ev_int ea_nil)))))))))))))))))))))) (eg_name (i := 2)))
      (es_seq (es_asg (ev_lc (vs := [3]) (ei_list (ev_var (i := 2))) (egv_name (i := 3) (by decide)) (et_test (ev_op o_le (ev_var (i := 3)) (ev_var (i := 1)))) (ev_var (i := 3))) (eg_name (i := 2)))
      (es_ret (ev_op o_ix (ev_var (i := 2)) (ev_callO (i := 0) (ea_cons (ev_cb c_len (ea_cons (ev_var (i := 2)) ea_nil)) ea_nil) (hn_cons hn_nil)))))),
    fun cdv A outer s H E hA hr => (pss_cons (ps_set (i := 2) sc__law_dl_length.nd rfl (.inl rfl) (pe_lst (pa_cons pe_int (pa_cons pe_int (pa_cons pe_int (pa_cons pe_int (pa_cons pe_int (pa_cons pe_int (pa_cons pe_int (pa_cons pe_int (pa_cons pe_int (pa_cons pe_int (pa_cons pe_int (pa_cons pe_int (pa_cons pe_int (pa_cons pe_int (pa_cons pe_int (pa_cons pe_int (pa_cons pe_int (pa_cons pe_int (pa_cons pe_int (pa_cons pe_int (pa_cons pe_int pa_nil)))))))))))))))))))))))
      (pss_cons (ps_setLc (i := 2) (own := [("_law_number", 3)]) (by rfl) sc__law_dl_length.nd rfl rfl (sw_true rfl rfl rfl (by decide +kernel)) (il_K (K := K) rfl (pv 2)) (blkOk_by (own := [("_law_number", 3)]) (N := ["_law_sack", "_law_most", "_law_menu", "_law_number"]) (sc := defScope s__law_dl_length) (by decide +kernel)) (fun _ _ _ _ _ => by exact (pg_name (i := 3) sc__law_dl_length.nd rfl (.inl rfl))) (fun _ _ _ _ _ => by exact (pts_one (pt_cmpR op_le (pv 3) (pv 1) (nomark _)))) (fun _ _ _ _ _ => by exact (pv 3)))
      (pss_one (ps_ret (pe_ix (ix_K (K := K) rfl) (pv 2) (pe_g (FnG.up (G__law_dl_pick T) (by decide)) hA hr (by rfl) T.g__law_dl_pick T.F__law_dl_pick.kp T.b__law_dl_pick (pa_cons (pv 0) (pa_cons (pe_callB (len_K (K := K) rfl) (by rfl) T.m_len (by decide +kernel) (pa_cons (pv 2) pa_nil)) pa_nil))) (fun _ _ => rfl))))))⟩
theorem G__law_dl_set (T : Tx K mg) : FnG P w K mg base 3 T.f__law_dl_set T.d__law_dl_set ["_law_sack", "_law_most"] (spO K 1 Pg.m__law_dl_set) :=
  gO2 (f := Pg.b__law_dl_set) T.F__law_dl_set sc__law_dl_set rfl (by decide) rfl ⟨_,
    (es_seq (es_par (i := 2) (j := 3) (ea_cons (ev_callO (i := 0) (ea_cons (ev_op o_ix (ev_lst (ea_cons ev_int (ea_cons ev_int (ea_cons ev_int ea_nil)))) (ev_callO (i := 0) (ea_cons ev_int ea_nil) (hn_cons hn_nil))) ea_nil) (hn_cons hn_nil)) (ea_cons (ev_callO (i := 0) (ea_cons (ev_var (i := 1)) ea_nil) (hn_cons hn_nil)) ea_nil)))
      (es_seq (es_asg (ev_op o_add ev_int (ev_callO (i := 0) (ea_cons ev_int ea_nil) (hn_cons hn_nil))) (eg_name (i := 4)))
      (es_seq (es_asg (ev_lc (vs := [7]) (ei_rng1 (ea_cons (ev_var (i := 2)) ea_nil)) (egv_name (i := 7) (by decide)) (et_test (ev_op o_eq (ev_callO (i := 0) (ea_cons (ev_op o_add (ev_var (i := 4)) ev_int) ea_nil) (hn_cons hn_nil)) ev_int)) (ev_var (i := 7))) (eg_name (i := 5)))
      (es_seq (es_asg (ev_lc (vs := [8]) (ei_rng1 (ea_cons (ev_var (i := 3)) ea_nil)) (egv_name (i := 8) (by decide)) (et_test (ev_op o_eq (ev_callO (i := 0) (ea_cons (ev_op o_add (ev_var (i := 4)) ev_int) ea_nil) (hn_cons hn_nil)) ev_int)) (ev_var (i := 8))) (eg_name (i := 6)))
      (es_seq (es_if (et_test (ev_op o_eq (ev_callO (i := 0) (ea_cons ev_int ea_nil) (hn_cons hn_nil)) ev_int)) (es_asg (ev_lst ea_nil) (eg_name (i := 6))) es_next)
      (es_ret (ev_tup (ea_cons (ev_var (i := 5)) (ea_cons (ev_var (i := 2)) (ea_cons (ev_var (i := 3)) (ea_cons (ev_var (i := 6)) ea_nil))))))))))),
    fun cdv A outer s H E hA hr => (pss_cons (ps_par (i := 2) (j := 3) rfl sc__law_dl_set.nd rfl rfl (by decide) rfl rfl (pa_cons (pe_g (FnG.up (G__law_dl_pick T) (by decide)) hA hr (by rfl) T.g__law_dl_pick T.F__law_dl_pick.kp T.b__law_dl_pick (pa_cons (pv 0) (pa_cons (pe_ix (ix_K (K := K) rfl) (pe_lst (pa_cons pe_int (pa_cons pe_int (pa_cons pe_int pa_nil)))) (pe_g (FnG.up (G__law_dl_pick T) (by decide)) hA hr (by rfl) T.g__law_dl_pick T.F__law_dl_pick.kp T.b__law_dl_pick (pa_cons (pv 0) (pa_cons pe_int pa_nil))) (fun _ _ => rfl)) pa_nil))) (pa_cons (pe_g (FnG.up (G__law_dl_length T) (by decide)) hA hr (by rfl) T.g__law_dl_length T.F__law_dl_length.kp T.b__law_dl_length (pa_cons (pv 0) (pa_cons (pv 1) pa_nil))) pa_nil)) (by rfl))
      (pss_cons (ps_set (i := 4) sc__law_dl_set.nd rfl (.inr rfl) (pe_op op_addU pe_int (pe_g (FnG.up (G__law_dl_pick T) (by decide)) hA hr (by rfl) T.g__law_dl_pick T.F__law_dl_pick.kp T.b__law_dl_pick (pa_cons (pv 0) (pa_cons pe_int pa_nil)))))
      (pss_cons (ps_setLc (i := 5) (own := [("_law_our_day", 7)]) (by rfl) sc__law_dl_set.nd rfl rfl (sw_true rfl rfl rfl (by decide +kernel)) (pi_range1 rfl T.m_range (pa_cons (pv 2) pa_nil)) (blkOk_by (own := [("_law_our_day", 7)]) (N := ["_law_sack", "_law_most", "_law_our_first", "_law_our_length", "_law_dense", "_law_early", "_law_found", "_law_our_day", "_law_place"]) (sc := defScope s__law_dl_set) (by decide +kernel)) (fun _ _ _ _ _ => by exact (pg_name (i := 7) sc__law_dl_set.nd rfl (.inl rfl))) (fun _ _ _ _ _ => by exact (pts_one (pt_cmpR (eq_K (K := K) rfl hr.units) (pe_g (FnG.up (G__law_dl_pick T) (by decide)) hA hr (by rfl) T.g__law_dl_pick T.F__law_dl_pick.kp T.b__law_dl_pick (pa_cons (pv 0) (pa_cons (pe_op op_addU (pv 4) pe_int) pa_nil))) pe_int (nomark _)))) (fun _ _ _ _ _ => by exact (pv 7)))
      (pss_cons (ps_setLc (i := 6) (own := [("_law_place", 8)]) (by rfl) sc__law_dl_set.nd rfl rfl (sw_true rfl rfl rfl (by decide +kernel)) (pi_range1 rfl T.m_range (pa_cons (pv 3) pa_nil)) (blkOk_by (own := [("_law_place", 8)]) (N := ["_law_sack", "_law_most", "_law_our_first", "_law_our_length", "_law_dense", "_law_early", "_law_found", "_law_our_day", "_law_place"]) (sc := defScope s__law_dl_set) (by decide +kernel)) (fun _ _ _ _ _ => by exact (pg_name (i := 8) sc__law_dl_set.nd rfl (.inl rfl))) (fun _ _ _ _ _ => by exact (pts_one (pt_cmpR (eq_K (K := K) rfl hr.units) (pe_g (FnG.up (G__law_dl_pick T) (by decide)) hA hr (by rfl) T.g__law_dl_pick T.F__law_dl_pick.kp T.b__law_dl_pick (pa_cons (pv 0) (pa_cons (pe_op op_addU (pv 4) pe_int) pa_nil))) pe_int (nomark _)))) (fun _ _ _ _ _ => by exact (pv 8)))
      (pss_cons (ps_if (pt_cmpR (eq_K (K := K) rfl hr.units) (pe_g (FnG.up (G__law_dl_pick T) (by decide)) hA hr (by rfl) T.g__law_dl_pick T.F__law_dl_pick.kp T.b__law_dl_pick (pa_cons (pv 0) (pa_cons pe_int pa_nil))) pe_int (nomark _)) (pss_one (ps_set (i := 6) sc__law_dl_set.nd rfl (.inl rfl) (pe_lst pa_nil))) pss_nil)
      (pss_one (ps_ret (pe_tup (pa_cons (pv 5) (pa_cons (pv 2) (pa_cons (pv 3) (pa_cons (pv 6) pa_nil))))))))))))⟩
theorem G__law_dl_has (T : Tx K mg) : FnG P w K mg base 1 T.f__law_dl_has T.d__law_dl_has ["_law_our_told", "_law_our_day"] (spD K 2 Pg.m__law_dl_has) :=
  gD2 (f := Pg.b__law_dl_has) T.F__law_dl_has sc__law_dl_has rfl (by decide) rfl ⟨_,
    (es_seq (es_asg (ev_var (i := 0)) (eg_tup (egs_cons (eg_name (i := 2)) (egs_cons (eg_name (i := 3)) (egs_cons (eg_name (i := 4)) (egs_cons (eg_name (i := 5)) egs_nil))))))
      (es_ret (ev_if (et_test (ev_op o_lt (ev_var (i := 1)) (ev_var (i := 3)))) (ev_op o_in (ev_var (i := 1)) (ev_var (i := 2))) (ev_op o_in (ev_op o_mod (ev_cb c_int (ea_cons (ev_op o_sub (ev_var (i := 1)) (ev_var (i := 3))) ea_nil)) (ev_var (i := 4))) (ev_var (i := 5)))))),
    fun cdv A outer s H E hA hr => (pss_cons (ps_asg (pv 0) (pg_tup rfl (pgs_cons (pg_name (i := 2) sc__law_dl_has.nd rfl (.inl rfl)) (pgs_cons (pg_name (i := 3) sc__law_dl_has.nd rfl (.inl rfl)) (pgs_cons (pg_name (i := 4) sc__law_dl_has.nd rfl (.inl rfl)) (pgs_cons (pg_name (i := 5) sc__law_dl_has.nd rfl (.inl rfl)) pgs_nil))))))
      (pss_one (ps_ret (pe_ifExp (pt_cmpR op_lt (pv 1) (pv 3) (nomark _)) (pe_cmpR (in_K (K := K) rfl) (pv 1) (pv 2) (by rfl)) (pe_cmpR (in_K (K := K) rfl) (pe_op op_mod (pe_callTy call_int1 (by rfl) T.m_int (by decide +kernel) (pa_cons (pe_op op_sub (pv 1) (pv 3)) pa_nil)) (pv 4)) (pv 5) (by rfl))))))⟩
theorem G__law_dl_set_wide (T : Tx K mg) : FnG P w K mg base 2 T.f__law_dl_set_wide T.d__law_dl_set_wide ["_law_sack", "_law_our_told", "_law_top"] (spO K 2 Pg.m__law_dl_set_wide) :=
  gO2 (f := Pg.b__law_dl_set_wide) T.F__law_dl_set_wide sc__law_dl_set_wide rfl (by decide) rfl ⟨_,
    (es_seq (es_asg (ev_var (i := 1)) (eg_tup (egs_cons (eg_name (i := 3)) (egs_cons (eg_name (i := 4)) (egs_cons (eg_name (i := 5)) (egs_cons (eg_name (i := 6)) egs_nil))))))
      (es_seq (es_asg (ev_cb c_max2 (ea_cons ev_int (ea_cons (ev_op o_fdiv (ev_var (i := 2)) (ev_var (i := 5))) ea_nil))) (eg_name (i := 7)))
      (es_seq (es_asg (ev_op o_add (ev_op o_mul (ev_lst (ea_cons ev_int ea_nil)) ev_int) (ev_lst (ea_cons (ev_var (i := 7)) ea_nil))) (eg_name (i := 8)))
      (es_seq (es_asg (ev_cb c_min2 (ea_cons (ev_var (i := 7)) (ea_cons (ev_op o_add ev_int (ev_callO (i := 0) (ea_cons (ev_op o_ix (ev_var (i := 8)) (ev_callO (i := 0) (ea_cons ev_int ea_nil) (hn_cons hn_nil))) ea_nil) (hn_cons hn_nil))) ea_nil))) (eg_name (i := 9)))
      (es_seq (es_asg (ev_tup (ea_cons (ev_op o_add (ev_var (i := 4)) (ev_callO (i := 0) (ea_cons ev_int ea_nil) (hn_cons hn_nil))) (ea_cons (ev_op o_mul (ev_var (i := 5)) (ev_var (i := 9))) ea_nil))) (eg_tup (egs_cons (eg_name (i := 10)) (egs_cons (eg_name (i := 11)) egs_nil))))
      (es_seq (es_asg (ev_lc (vs := [13]) (ei_rng1 (ea_cons (ev_var (i := 10)) ea_nil)) (egv_name (i := 13) (by decide)) (et_tr (ev_call (ea_cons (ev_var (i := 1)) (ea_cons (ev_var (i := 13)) ea_nil)) (hn_cons (hn_cons hn_nil)))) (ev_var (i := 13))) (eg_name (i := 12)))
      (es_ret (ev_tup (ea_cons (ev_var (i := 12)) (ea_cons (ev_var (i := 10)) (ea_cons (ev_var (i := 11)) (ea_cons (ev_lc (vs := [14]) (ei_rng1 (ea_cons (ev_var (i := 11)) ea_nil)) (egv_name (i := 14) (by decide)) (et_tr (ev_call (ea_cons (ev_var (i := 1)) (ea_cons (ev_op o_add (ev_var (i := 10)) (ev_var (i := 14))) ea_nil)) (hn_cons (hn_cons hn_nil)))) (ev_var (i := 14))) ea_nil)))))))))))),
    fun cdv A outer s H E hA hr => (pss_cons (ps_asg (pv 1) (pg_tup rfl (pgs_cons (pg_name (i := 3) sc__law_dl_set_wide.nd rfl (.inl rfl)) (pgs_cons (pg_name (i := 4) sc__law_dl_set_wide.nd rfl (.inl rfl)) (pgs_cons (pg_name (i := 5) sc__law_dl_set_wide.nd rfl (.inl rfl)) (pgs_cons (pg_name (i := 6) sc__law_dl_set_wide.nd rfl (.inl rfl)) pgs_nil))))))
      (pss_cons (ps_set (i := 7) sc__law_dl_set_wide.nd rfl (.inl rfl) (pe_callB (call_max2 rfl) (by rfl) T.m_max (by decide +kernel) (pa_cons pe_int (pa_cons (pe_op op_fdivW (pv 2) (pv 5)) pa_nil))))
      (pss_cons (ps_set (i := 8) sc__law_dl_set_wide.nd rfl (.inl rfl) (pe_op op_addU (pe_op op_mulU (pe_lst (pa_cons pe_int pa_nil)) pe_int) (pe_lst (pa_cons (pv 7) pa_nil))))
      (pss_cons (ps_set (i := 9) sc__law_dl_set_wide.nd rfl (.inl rfl) (pe_callB (call_min2 rfl) (by rfl) T.m_min (by decide +kernel) (pa_cons (pv 7) (pa_cons (pe_op op_addU pe_int (pe_g (FnG.up (G__law_dl_pick T) (by decide)) hA hr (by rfl) T.g__law_dl_pick T.F__law_dl_pick.kp T.b__law_dl_pick (pa_cons (pv 0) (pa_cons (pe_ix (ix_K (K := K) rfl) (pv 8) (pe_g (FnG.up (G__law_dl_pick T) (by decide)) hA hr (by rfl) T.g__law_dl_pick T.F__law_dl_pick.kp T.b__law_dl_pick (pa_cons (pv 0) (pa_cons pe_int pa_nil))) (fun _ _ => rfl)) pa_nil)))) pa_nil))))
      (pss_cons (ps_asg (pe_tup (pa_cons (pe_op op_addU (pv 4) (pe_g (FnG.up (G__law_dl_pick T) (by decide)) hA hr (by rfl) T.g__law_dl_pick T.F__law_dl_pick.kp T.b__law_dl_pick (pa_cons (pv 0) (pa_cons pe_int pa_nil)))) (pa_cons (pe_op op_mulU (pv 5) (pv 9)) pa_nil))) (pg_tup rfl (pgs_cons (pg_name (i := 10) sc__law_dl_set_wide.nd rfl (.inr rfl)) (pgs_cons (pg_name (i := 11) sc__law_dl_set_wide.nd rfl (.inl rfl)) pgs_nil))))
      (pss_cons (ps_setLc (i := 12) (own := [("_law_our_day", 13)]) (by rfl) sc__law_dl_set_wide.nd rfl rfl (sw_true rfl rfl rfl (by decide +kernel)) (pi_range1 rfl T.m_range (pa_cons (pv 10) pa_nil)) (blkOk_by (own := [("_law_our_day", 13)]) (N := ["_law_sack", "_law_our_told", "_law_top", "_law_early", "_law_our_first", "_law_our_length", "_law_found", "_law_room", "_law_chances", "_law_times", "_law_begin", "_law_many", "_law_our_days", "_law_our_day", "_law_place"]) (sc := defScope s__law_dl_set_wide) (by decide +kernel)) (fun _ _ _ _ _ => by exact (pg_name (i := 13) sc__law_dl_set_wide.nd rfl (.inl rfl))) (fun _ _ _ _ _ => by exact (pts_one (tr_K (K := K) rfl (pe_g (FnG.up (G__law_dl_has T) (by decide)) hA hr (by rfl) T.g__law_dl_has T.F__law_dl_has.kp T.b__law_dl_has (pa_cons (pv 1) (pa_cons (pv 13) pa_nil)))))) (fun _ _ _ _ _ => by exact (pv 13)))
      (pss_one (ps_ret (pe_tup (pa_cons (pv 12) (pa_cons (pv 10) (pa_cons (pv 11) (pa_cons (pe_lc (own := [("_law_place", 14)]) (by rfl) sc__law_dl_set_wide.nd (pi_range1 rfl T.m_range (pa_cons (pv 11) pa_nil)) (blkOk_by (own := [("_law_place", 14)]) (N := ["_law_sack", "_law_our_told", "_law_top", "_law_early", "_law_our_first", "_law_our_length", "_law_found", "_law_room", "_law_chances", "_law_times", "_law_begin", "_law_many", "_law_our_days", "_law_our_day", "_law_place"]) (sc := defScope s__law_dl_set_wide) (by decide +kernel)) (fun _ _ _ _ _ => by exact (pg_name (i := 14) sc__law_dl_set_wide.nd rfl (.inl rfl))) (fun _ _ _ _ _ => by exact (pts_one (tr_K (K := K) rfl (pe_g (FnG.up (G__law_dl_has T) (by decide)) hA hr (by rfl) T.g__law_dl_has T.F__law_dl_has.kp T.b__law_dl_has (pa_cons (pv 1) (pa_cons (pe_op op_addU (pv 10) (pv 14)) pa_nil)))))) (fun _ _ _ _ _ => by exact (pv 14))) pa_nil)))))))))))))⟩
theorem G__law_dl_comes (T : Tx K mg) : FnG P w K mg base 1 T.f__law_dl_comes T.d__law_dl_comes ["_law_turn", "_law_rise", "_law_part"] (spD K 3 Pg.m__law_dl_comes) :=
  gD2 (f := Pg.b__law_dl_comes) T.F__law_dl_comes sc__law_dl_comes rfl (by decide) rfl ⟨_,
    (es_seq (es_asg (ev_op o_fdiv (ev_cb c_int (ea_cons (ev_op o_mul (ev_var (i := 1)) (ev_var (i := 2))) ea_nil)) (ev_cb c_len (ea_cons (ev_var (i := 0)) ea_nil))) (eg_name (i := 3)))
      (es_seq (es_if (et_test (ev_op o_ne (ev_op o_mul (ev_var (i := 3)) (ev_cb c_len (ea_cons (ev_var (i := 0)) ea_nil))) (ev_op o_mul (ev_var (i := 1)) (ev_var (i := 2))))) (es_ret ev_bl) es_next)
      (es_seq (es_for (ei_rng1 (ea_cons (ev_op o_sub (ev_cb c_len (ea_cons (ev_var (i := 0)) ea_nil)) (ev_var (i := 2))) ea_nil)) (eg_name (i := 4))
      (es_if (et_test (ev_op o_ne (ev_op o_ix (ev_var (i := 0)) (ev_op o_add (ev_var (i := 4)) (ev_var (i := 2)))) (ev_op o_add (ev_op o_ix (ev_var (i := 0)) (ev_var (i := 4))) (ev_var (i := 3))))) (es_ret ev_bl) es_next))
      (es_ret ev_bl)))),
    fun cdv A outer s H E hA hr => (pss_cons (ps_set (i := 3) sc__law_dl_comes.nd rfl (.inl rfl) (pe_op op_fdivW (pe_callTy call_int1 (by rfl) T.m_int (by decide +kernel) (pa_cons (pe_op op_mulU (pv 1) (pv 2)) pa_nil)) (pe_callB (len_K (K := K) rfl) (by rfl) T.m_len (by decide +kernel) (pa_cons (pv 0) pa_nil))))
      (pss_cons (ps_if (pt_cmpR (ne_K (K := K) rfl hr.units) (pe_op op_mulU (pv 3) (pe_callB (len_K (K := K) rfl) (by rfl) T.m_len (by decide +kernel) (pa_cons (pv 0) pa_nil))) (pe_op op_mulU (pv 1) (pv 2)) (nomark _)) (pss_one (ps_ret pe_bl)) pss_nil)
      (pss_cons (ps_for PassesOwn.never rfl (pi_range1 rfl T.m_range (pa_cons (pe_op op_sub (pe_callB (len_K (K := K) rfl) (by rfl) T.m_len (by decide +kernel) (pa_cons (pv 0) pa_nil)) (pv 2)) pa_nil)) (pg_name (i := 4) sc__law_dl_comes.nd rfl (.inl rfl))
      (pss_one (ps_if (pt_cmpR (ne_K (K := K) rfl hr.units) (pe_ix (ix_K (K := K) rfl) (pv 0) (pe_op op_addU (pv 4) (pv 2)) (fun _ _ => rfl)) (pe_op op_addU (pe_ix (ix_K (K := K) rfl) (pv 0) (pv 4) (fun _ _ => rfl)) (pv 3)) (nomark _)) (pss_one (ps_ret pe_bl)) pss_nil)))
      (pss_one (ps_ret pe_bl)))))⟩
theorem G__law_dl_least (T : Tx K mg) : FnG P w K mg base 2 T.f__law_dl_least T.d__law_dl_least ["_law_ladder"] (spD K 1 Pg.m__law_dl_least) :=
  gD2 (f := Pg.b__law_dl_least) T.F__law_dl_least sc__law_dl_least rfl (by decide) rfl ⟨_,
    (es_seq (es_asg (ev_var (i := 0)) (eg_tup (egs_cons (eg_name (i := 1)) (egs_cons (eg_name (i := 2)) (egs_cons (eg_name (i := 3)) egs_nil)))))
      (es_seq (es_par (i := 4) (j := 5) (ea_cons (ev_cb c_len (ea_cons (ev_var (i := 2)) ea_nil)) (ea_cons (ev_cb c_len (ea_cons (ev_var (i := 1)) ea_nil)) ea_nil)))
      (es_seq (es_for (ei_rngDown (ea_cons (ev_op o_sub (ev_cb c_len (ea_cons (ev_var (i := 2)) ea_nil)) ev_int) (ea_cons ev_int (ea_cons (ev_un o_neg ev_int) ea_nil)))) (eg_name (i := 6))
      (es_if (et_and (et_test (ev_op o_eq (ev_op o_mod (ev_cb c_int (ea_cons (ev_cb c_len (ea_cons (ev_var (i := 2)) ea_nil)) ea_nil)) (ev_var (i := 6))) ev_int)) (et_tr (ev_call (ea_cons (ev_var (i := 2)) (ea_cons (ev_var (i := 3)) (ea_cons (ev_var (i := 6)) ea_nil))) (hn_cons (hn_cons (hn_cons hn_nil)))))) (es_asg (ev_var (i := 6)) (eg_name (i := 4))) es_next))
      (es_seq (es_par (i := 7) (j := 8) (ea_cons (ev_op o_fdiv (ev_cb c_int (ea_cons (ev_op o_mul (ev_var (i := 3)) (ev_var (i := 4))) ea_nil)) (ev_cb c_len (ea_cons (ev_var (i := 2)) ea_nil))) (ea_cons (ev_op o_add (ev_var (i := 1)) (ev_var (i := 2))) ea_nil)))
      (es_seq (es_while (et_and (et_test (ev_op o_gt (ev_var (i := 5)) ev_int)) (et_test (ev_op o_eq (ev_op o_add (ev_op o_ix (ev_var (i := 8)) (ev_op o_sub (ev_var (i := 5)) ev_int)) (ev_var (i := 7))) (ev_op o_ix (ev_var (i := 8)) (ev_op o_add (ev_op o_sub (ev_var (i := 5)) ev_int) (ev_var (i := 4)))))))
      (es_asg (ev_op o_sub (ev_var (i := 5)) ev_int) (eg_name (i := 5))))
      (es_ret (ev_tup (ea_cons (ev_sl o_sl (ev_var (i := 8)) eo_none (eo_some (ev_var (i := 5)))) (ea_cons (ev_sl o_sl (ev_var (i := 8)) (eo_some (ev_var (i := 5))) (eo_some (ev_op o_add (ev_var (i := 5)) (ev_var (i := 4))))) (ea_cons (ev_var (i := 7)) ea_nil)))))))))),
    fun cdv A outer s H E hA hr => (pss_cons (ps_asg (pv 0) (pg_tup rfl (pgs_cons (pg_name (i := 1) sc__law_dl_least.nd rfl (.inl rfl)) (pgs_cons (pg_name (i := 2) sc__law_dl_least.nd rfl (.inl rfl)) (pgs_cons (pg_name (i := 3) sc__law_dl_least.nd rfl (.inl rfl)) pgs_nil)))))
      (pss_cons (ps_par (i := 4) (j := 5) rfl sc__law_dl_least.nd rfl rfl (by decide) rfl rfl (pa_cons (pe_callB (len_K (K := K) rfl) (by rfl) T.m_len (by decide +kernel) (pa_cons (pv 2) pa_nil)) (pa_cons (pe_callB (len_K (K := K) rfl) (by rfl) T.m_len (by decide +kernel) (pa_cons (pv 1) pa_nil)) pa_nil)) (by rfl))
      (pss_cons (ps_for PassesOwn.never rfl (pi_range3 rfl T.m_range (pa_cons (pe_op op_sub (pe_callB (len_K (K := K) rfl) (by rfl) T.m_len (by decide +kernel) (pa_cons (pv 2) pa_nil)) pe_int) (pa_cons pe_int (pa_cons (pe_un un_neg pe_int) pa_nil)))) (pg_name (i := 6) sc__law_dl_least.nd rfl (.inl rfl))
      (pss_one (ps_if (PW.pt (pw_and (pt_cmpR (eq_K (K := K) rfl hr.units) (pe_op op_mod (pe_callTy call_int1 (by rfl) T.m_int (by decide +kernel) (pa_cons (pe_callB (len_K (K := K) rfl) (by rfl) T.m_len (by decide +kernel) (pa_cons (pv 2) pa_nil)) pa_nil)) (pv 6)) pe_int (nomark _)) (pw_and1 (tr_K (K := K) rfl (pe_g (FnG.up (G__law_dl_comes T) (by decide)) hA hr (by rfl) T.g__law_dl_comes T.F__law_dl_comes.kp T.b__law_dl_comes (pa_cons (pv 2) (pa_cons (pv 3) (pa_cons (pv 6) pa_nil)))))))) (pss_one (ps_set (i := 4) sc__law_dl_least.nd rfl (.inl rfl) (pv 6))) pss_nil)))
      (pss_cons (ps_par (i := 7) (j := 8) rfl sc__law_dl_least.nd rfl rfl (by decide) rfl rfl (pa_cons (pe_op op_fdivW (pe_callTy call_int1 (by rfl) T.m_int (by decide +kernel) (pa_cons (pe_op op_mulU (pv 3) (pv 4)) pa_nil)) (pe_callB (len_K (K := K) rfl) (by rfl) T.m_len (by decide +kernel) (pa_cons (pv 2) pa_nil))) (pa_cons (pe_op op_addU (pv 1) (pv 2)) pa_nil)) (by rfl))
      (pss_cons (ps_while PassesOwn.never (PW.pt (pw_and (pt_cmpR op_gt (pv 5) pe_int (nomark _)) (pw_and1 (pt_cmpR (eq_K (K := K) rfl hr.units) (pe_op op_addU (pe_ix (ix_K (K := K) rfl) (pv 8) (pe_op op_sub (pv 5) pe_int) (fun _ _ => rfl)) (pv 7)) (pe_ix (ix_K (K := K) rfl) (pv 8) (pe_op op_addU (pe_op op_sub (pv 5) pe_int) (pv 4)) (fun _ _ => rfl)) (nomark _)))))
      (pss_one (ps_set (i := 5) sc__law_dl_least.nd rfl (.inl rfl) (pe_op op_sub (pv 5) pe_int))))
      (pss_one (ps_ret (pe_tup (pa_cons (pe_slice (sl_K (K := K) rfl) (pv 8) po_none (po_some (pv 5))) (pa_cons (pe_slice (sl_K (K := K) rfl) (pv 8) (po_some (pv 5)) (po_some (pe_op op_addU (pv 5) (pv 4)))) (pa_cons (pv 7) pa_nil)))))))))))⟩
theorem G__law_dl_set_of (T : Tx K mg) : FnG P w K mg base 3 T.f__law_dl_set_of T.d__law_dl_set_of ["_law_bits", "_law_our_first"] (spD K 2 Pg.m__law_dl_set_of) :=
  gD2 (f := Pg.b__law_dl_set_of) T.F__law_dl_set_of sc__law_dl_set_of rfl (by decide) rfl ⟨_,
    (es_seq (es_asg (ev_call (ea_cons (ev_tup (ea_cons (ev_sl o_sl (ev_var (i := 0)) eo_none (eo_some (ev_var (i := 1)))) (ea_cons (ev_sl o_sl (ev_var (i := 0)) (eo_some (ev_var (i := 1))) eo_none) (ea_cons ev_int ea_nil)))) ea_nil) (hn_cons hn_nil)) (eg_tup (egs_cons (eg_name (i := 2)) (egs_cons (eg_name (i := 3)) (egs_cons (eg_name (i := 4)) egs_nil)))))
      (es_seq (es_asg (ev_lc (vs := [6, 7]) (ei_enum (ea_cons (ev_var (i := 2)) ea_nil)) (egv_tup (egsv_cons (egv_name (i := 6) (by decide)) (egsv_cons (egv_name (i := 7) (by decide)) egsv_nil))) (et_test (ev_op o_eq (ev_var (i := 7)) ev_int)) (ev_var (i := 6))) (eg_name (i := 5)))
      (es_ret (ev_tup (ea_cons (ev_var (i := 5)) (ea_cons (ev_cb c_len (ea_cons (ev_var (i := 2)) ea_nil)) (ea_cons (ev_cb c_len (ea_cons (ev_var (i := 3)) ea_nil)) (ea_cons (ev_lc (vs := [8, 7]) (ei_enum (ea_cons (ev_var (i := 3)) ea_nil)) (egv_tup (egsv_cons (egv_name (i := 8) (by decide)) (egsv_cons (egv_name (i := 7) (by decide)) egsv_nil))) (et_test (ev_op o_eq (ev_var (i := 7)) ev_int)) (ev_var (i := 8))) ea_nil)))))))),
    fun cdv A outer s H E hA hr => (pss_cons (ps_asg (pe_g (FnG.up (G__law_dl_least T) (by decide)) hA hr (by rfl) T.g__law_dl_least T.F__law_dl_least.kp T.b__law_dl_least (pa_cons (pe_tup (pa_cons (pe_slice (sl_K (K := K) rfl) (pv 0) po_none (po_some (pv 1))) (pa_cons (pe_slice (sl_K (K := K) rfl) (pv 0) (po_some (pv 1)) po_none) (pa_cons pe_int pa_nil)))) pa_nil)) (pg_tup rfl (pgs_cons (pg_name (i := 2) sc__law_dl_set_of.nd rfl (.inl rfl)) (pgs_cons (pg_name (i := 3) sc__law_dl_set_of.nd rfl (.inl rfl)) (pgs_cons (pg_name (i := 4) sc__law_dl_set_of.nd rfl (.inl rfl)) pgs_nil)))))
      (pss_cons (ps_setLc (i := 5) (own := [("_law_our_day", 6), ("_law_bit", 7)]) (by rfl) sc__law_dl_set_of.nd rfl rfl (sw_true rfl rfl rfl (by decide +kernel)) (pi_enum (by rfl) T.m_enumerate (pa_cons (pv 2) pa_nil)) (blkOk_by (own := [("_law_our_day", 6), ("_law_bit", 7)]) (N := ["_law_bits", "_law_our_first", "_law_begun", "_law_again", "_law_rise", "_law_our_days", "_law_our_day", "_law_bit", "_law_place"]) (sc := defScope s__law_dl_set_of) (by decide +kernel)) (fun _ _ _ _ _ => by exact (pg_tup rfl (pgs_cons (pg_name (i := 6) sc__law_dl_set_of.nd rfl (.inl rfl)) (pgs_cons (pg_name (i := 7) sc__law_dl_set_of.nd rfl (.inl rfl)) pgs_nil)))) (fun _ _ _ _ _ => by exact (pts_one (pt_cmpR (eq_K (K := K) rfl hr.units) (pv 7) pe_int (nomark _)))) (fun _ _ _ _ _ => by exact (pv 6)))
      (pss_one (ps_ret (pe_tup (pa_cons (pv 5) (pa_cons (pe_callB (len_K (K := K) rfl) (by rfl) T.m_len (by decide +kernel) (pa_cons (pv 2) pa_nil)) (pa_cons (pe_callB (len_K (K := K) rfl) (by rfl) T.m_len (by decide +kernel) (pa_cons (pv 3) pa_nil)) (pa_cons (pe_lc (own := [("_law_place", 8), ("_law_bit", 7)]) (by rfl) sc__law_dl_set_of.nd (pi_enum (by rfl) T.m_enumerate (pa_cons (pv 3) pa_nil)) (blkOk_by (own := [("_law_place", 8), ("_law_bit", 7)]) (N := ["_law_bits", "_law_our_first", "_law_begun", "_law_again", "_law_rise", "_law_our_days", "_law_our_day", "_law_bit", "_law_place"]) (sc := defScope s__law_dl_set_of) (by decide +kernel)) (fun _ _ _ _ _ => by exact (pg_tup rfl (pgs_cons (pg_name (i := 8) sc__law_dl_set_of.nd rfl (.inl rfl)) (pgs_cons (pg_name (i := 7) sc__law_dl_set_of.nd rfl (.inl rfl)) pgs_nil)))) (fun _ _ _ _ _ => by exact (pts_one (pt_cmpR (eq_K (K := K) rfl hr.units) (pv 7) pe_int (nomark _)))) (fun _ _ _ _ _ => by exact (pv 8))) pa_nil)))))))))⟩
theorem G__law_dl_set_least (T : Tx K mg) : FnG P w K mg base 4 T.f__law_dl_set_least T.d__law_dl_set_least ["_law_our_told"] (spD K 1 Pg.m__law_dl_set_least) :=
  gD2 (f := Pg.b__law_dl_set_least) T.F__law_dl_set_least sc__law_dl_set_least rfl (by decide) rfl ⟨_,
    (es_seq (es_asg (ev_lc (vs := [2]) (ei_rng1 (ea_cons (ev_op o_add (ev_op o_ix (ev_var (i := 0)) ev_int) (ev_op o_ix (ev_var (i := 0)) ev_int)) ea_nil)) (egv_name (i := 2) (by decide)) et_yes (ev_cb c_int (ea_cons (ev_call (ea_cons (ev_var (i := 0)) (ea_cons (ev_var (i := 2)) ea_nil)) (hn_cons (hn_cons hn_nil))) ea_nil))) (eg_name (i := 1)))
      (es_ret (ev_call (ea_cons (ev_var (i := 1)) (ea_cons (ev_op o_ix (ev_var (i := 0)) ev_int) ea_nil)) (hn_cons (hn_cons hn_nil))))),
    fun cdv A outer s H E hA hr => (pss_cons (ps_setLc (i := 1) (own := [("_law_our_day", 2)]) (by rfl) sc__law_dl_set_least.nd rfl rfl (sw_true rfl rfl rfl (by decide +kernel)) (pi_range1 rfl T.m_range (pa_cons (pe_op op_addU (pe_ix (ix_K (K := K) rfl) (pv 0) pe_int (fun _ _ => rfl)) (pe_ix (ix_K (K := K) rfl) (pv 0) pe_int (fun _ _ => rfl))) pa_nil)) (blkOk_by (own := [("_law_our_day", 2)]) (N := ["_law_our_told", "_law_bits", "_law_our_day"]) (sc := defScope s__law_dl_set_least) (by decide +kernel)) (fun _ _ _ _ _ => by exact (pg_name (i := 2) sc__law_dl_set_least.nd rfl (.inl rfl))) (fun _ _ _ _ _ => by exact pts_nil) (fun _ _ _ _ _ => by exact (pe_callTy call_int1 (by rfl) T.m_int (by decide +kernel) (pa_cons (pe_g (FnG.up (G__law_dl_has T) (by decide)) hA hr (by rfl) T.g__law_dl_has T.F__law_dl_has.kp T.b__law_dl_has (pa_cons (pv 0) (pa_cons (pv 2) pa_nil))) pa_nil))))
      (pss_one (ps_ret (pe_g (FnG.up (G__law_dl_set_of T) (by decide)) hA hr (by rfl) T.g__law_dl_set_of T.F__law_dl_set_of.kp T.b__law_dl_set_of (pa_cons (pv 1) (pa_cons (pe_ix (ix_K (K := K) rfl) (pv 0) pe_int (fun _ _ => rfl)) pa_nil))))))⟩
theorem G__law_dl_days_to (T : Tx K mg) : FnG P w K mg base 2 T.f__law_dl_days_to T.d__law_dl_days_to ["_law_our_told", "_law_many"] (spD K 2 Pg.m__law_dl_days_to) :=
  gD2 (f := Pg.b__law_dl_days_to) T.F__law_dl_days_to sc__law_dl_days_to rfl (by decide) rfl ⟨_,
    (es_ret (ev_lc (vs := [2]) (ei_rng1 (ea_cons (ev_var (i := 1)) ea_nil)) (egv_name (i := 2) (by decide)) (et_tr (ev_call (ea_cons (ev_var (i := 0)) (ea_cons (ev_var (i := 2)) ea_nil)) (hn_cons (hn_cons hn_nil)))) (ev_var (i := 2)))),
    fun cdv A outer s H E hA hr => (pss_one (ps_ret (pe_lc (own := [("_law_our_day", 2)]) (by rfl) sc__law_dl_days_to.nd (pi_range1 rfl T.m_range (pa_cons (pv 1) pa_nil)) (blkOk_by (own := [("_law_our_day", 2)]) (N := ["_law_our_told", "_law_many", "_law_our_day"]) (sc := defScope s__law_dl_days_to) (by decide +kernel)) (fun _ _ _ _ _ => by exact (pg_name (i := 2) sc__law_dl_days_to.nd rfl (.inl rfl))) (fun _ _ _ _ _ => by exact (pts_one (tr_K (K := K) rfl (pe_g (FnG.up (G__law_dl_has T) (by decide)) hA hr (by rfl) T.g__law_dl_has T.F__law_dl_has.kp T.b__law_dl_has (pa_cons (pv 0) (pa_cons (pv 2) pa_nil)))))) (fun _ _ _ _ _ => by exact (pv 2)))))⟩
theorem G__law_dl_ahead (T : Tx K mg) : FnG P w K mg base 2 T.f__law_dl_ahead T.d__law_dl_ahead ["_law_our_told", "_law_our_day"] (spD K 2 Pg.m__law_dl_ahead) :=
  gD2 (f := Pg.b__law_dl_ahead) T.F__law_dl_ahead sc__law_dl_ahead rfl (by decide) rfl ⟨_,
    (es_seq (es_for (ei_rng1 (ea_cons (ev_op o_add (ev_op o_add (ev_op o_ix (ev_var (i := 0)) ev_int) (ev_op o_mul ev_int (ev_op o_ix (ev_var (i := 0)) ev_int))) ev_int) ea_nil)) (eg_name (i := 2))
      (es_if (et_tr (ev_call (ea_cons (ev_var (i := 0)) (ea_cons (ev_op o_add (ev_var (i := 1)) (ev_var (i := 2))) ea_nil)) (hn_cons (hn_cons hn_nil)))) (es_ret (ev_op o_add (ev_var (i := 1)) (ev_var (i := 2)))) es_next))
      (es_ret ev_non)),
    fun cdv A outer s H E hA hr => (pss_cons (ps_for PassesOwn.never rfl (pi_range1 rfl T.m_range (pa_cons (pe_op op_addU (pe_op op_addU (pe_ix (ix_K (K := K) rfl) (pv 0) pe_int (fun _ _ => rfl)) (pe_op op_mulU pe_int (pe_ix (ix_K (K := K) rfl) (pv 0) pe_int (fun _ _ => rfl)))) pe_int) pa_nil)) (pg_name (i := 2) sc__law_dl_ahead.nd rfl (.inl rfl))
      (pss_one (ps_if (tr_K (K := K) rfl (pe_g (FnG.up (G__law_dl_has T) (by decide)) hA hr (by rfl) T.g__law_dl_has T.F__law_dl_has.kp T.b__law_dl_has (pa_cons (pv 0) (pa_cons (pe_op op_addU (pv 1) (pv 2)) pa_nil)))) (pss_one (ps_ret (pe_op op_addU (pv 1) (pv 2)))) pss_nil)))
      (pss_one (ps_ret pe_non)))⟩
theorem G__law_dl_asked_right (T : Tx K mg) : FnG P w K mg base 6 T.f__law_dl_asked_right T.d__law_dl_asked_right ["_law_sack", "_law_our_told", "_law_wide"] (spO K 2 Pg.m__law_dl_asked_right) :=
  gO2 (f := Pg.b__law_dl_asked_right) T.F__law_dl_asked_right sc__law_dl_asked_right rfl (by decide) rfl ⟨_,
    (es_seq (es_asg (ev_callO (i := 0) (ea_cons (ev_op o_pow ev_int ev_int) ea_nil) (hn_cons hn_nil)) (eg_name (i := 3)))
      (es_seq (es_asg (ev_op o_add (ev_op o_sub (ev_op o_add (ev_op o_ix (ev_var (i := 1)) ev_int) (ev_op o_ix (ev_var (i := 1)) ev_int)) ev_int) (ev_op o_mul (ev_op o_ix (ev_var (i := 1)) ev_int) (ev_op o_fdiv (ev_var (i := 3)) (ev_op o_pow ev_int ev_int)))) (eg_name (i := 4)))
      (es_seq (es_for (ei_list (ev_lst (ea_cons ev_int (ea_cons (ev_var (i := 3)) (ea_cons (ev_op o_ix (ev_var (i := 1)) ev_int) (ea_cons (ev_callO (i := 0) (ea_cons ev_int ea_nil) (hn_cons hn_nil)) (ea_cons (ev_var (i := 4)) ea_nil))))))) (eg_name (i := 5))
      (es_seq (es_asg (ev_call (ea_cons (ev_var (i := 1)) (ea_cons (ev_var (i := 5)) ea_nil)) (hn_cons (hn_cons hn_nil))) (eg_name (i := 6)))
      (es_seq (es_if (et_or (et_test (ev_op o_ne (ev_cb c_repr (ea_cons (ev_call (ea_cons (ev_var (i := 1)) (ea_cons (ev_var (i := 5)) ea_nil)) (hn_cons (hn_cons hn_nil))) ea_nil)) (ev_cb c_repr (ea_cons (ev_var (i := 6)) ea_nil)))) (et_test (ev_op o_ne (ev_cb c_repr (ea_cons (ev_kw2r (g := Pg.m_has) (ea_cons (ev_var (i := 5)) (ea_cons (ev_var (i := 2)) ea_nil))) ea_nil)) (ev_cb c_repr (ea_cons (ev_var (i := 6)) ea_nil))))) (es_ret ev_bl) es_next)
      (es_seq (es_asg (ev_call (ea_cons (ev_var (i := 1)) (ea_cons (ev_var (i := 5)) ea_nil)) (hn_cons (hn_cons hn_nil))) (eg_name (i := 6)))
      (es_if (et_or (et_test (ev_op o_ne (ev_cb c_repr (ea_cons (ev_call (ea_cons (ev_var (i := 2)) (ea_cons (ev_var (i := 5)) ea_nil)) (hn_cons (hn_cons hn_nil))) ea_nil)) (ev_cb c_repr (ea_cons (ev_var (i := 6)) ea_nil)))) (et_test (ev_op o_ne (ev_cb c_repr (ea_cons (ev_kw2r (g := Pg.m_next_day) (ea_cons (ev_var (i := 5)) (ea_cons (ev_var (i := 1)) ea_nil))) ea_nil)) (ev_cb c_repr (ea_cons (ev_var (i := 6)) ea_nil))))) (es_ret ev_bl) es_next)))))
      (es_ret ev_bl)))),
    fun cdv A outer s H E hA hr => (pss_cons (ps_set (i := 3) sc__law_dl_asked_right.nd rfl (.inl rfl) (pe_g (FnG.up (G__law_dl_pick T) (by decide)) hA hr (by rfl) T.g__law_dl_pick T.F__law_dl_pick.kp T.b__law_dl_pick (pa_cons (pv 0) (pa_cons (pe_op op_powL pe_int pe_int) pa_nil))))
      (pss_cons (ps_set (i := 4) sc__law_dl_asked_right.nd rfl (.inl rfl) (pe_op op_addU (pe_op op_sub (pe_op op_addU (pe_ix (ix_K (K := K) rfl) (pv 1) pe_int (fun _ _ => rfl)) (pe_ix (ix_K (K := K) rfl) (pv 1) pe_int (fun _ _ => rfl))) pe_int) (pe_op op_mulU (pe_ix (ix_K (K := K) rfl) (pv 1) pe_int (fun _ _ => rfl)) (pe_op op_fdivW (pv 3) (pe_op op_powL pe_int pe_int)))))
      (pss_cons (ps_for PassesOwn.never rfl (il_K (K := K) rfl (pe_lst (pa_cons pe_int (pa_cons (pv 3) (pa_cons (pe_ix (ix_K (K := K) rfl) (pv 1) pe_int (fun _ _ => rfl)) (pa_cons (pe_g (FnG.up (G__law_dl_pick T) (by decide)) hA hr (by rfl) T.g__law_dl_pick T.F__law_dl_pick.kp T.b__law_dl_pick (pa_cons (pv 0) (pa_cons pe_int pa_nil))) (pa_cons (pv 4) pa_nil))))))) (pg_name (i := 5) sc__law_dl_asked_right.nd rfl (.inl rfl))
      (pss_cons (ps_set (i := 6) sc__law_dl_asked_right.nd rfl (.inl rfl) (pe_g (FnG.up (G__law_dl_has T) (by decide)) hA hr (by rfl) T.g__law_dl_has T.F__law_dl_has.kp T.b__law_dl_has (pa_cons (pv 1) (pa_cons (pv 5) pa_nil))))
      (pss_cons (ps_if (PW.pt (pw_or (pt_cmpR (ne_K (K := K) rfl hr.units) (pe_callB (repr_K (K := K) rfl hA hr) (by rfl) T.m_repr (by decide +kernel) (pa_cons (pe_g (FnG.up (G_has T) (by decide)) hA hr (by rfl) T.g_has T.F_has.kp T.b_has (pa_cons (pv 1) (pa_cons (pv 5) pa_nil))) pa_nil)) (pe_callB (repr_K (K := K) rfl hA hr) (by rfl) T.m_repr (by decide +kernel) (pa_cons (pv 6) pa_nil)) (nomark _)) (pw_or1 (pt_cmpR (ne_K (K := K) rfl hr.units) (pe_callB (repr_K (K := K) rfl hA hr) (by rfl) T.m_repr (by decide +kernel) (pa_cons (pe_gk0 (FnG.up (G_has T) (by decide)) hA hr (by rfl) T.g_has T.F_has.kp T.kw2r_has (pk_cons (pv 5) (pk_cons (pv 2) pk_nil))) pa_nil)) (pe_callB (repr_K (K := K) rfl hA hr) (by rfl) T.m_repr (by decide +kernel) (pa_cons (pv 6) pa_nil)) (nomark _))))) (pss_one (ps_ret pe_bl)) pss_nil)
      (pss_cons (ps_set (i := 6) sc__law_dl_asked_right.nd rfl (.inl rfl) (pe_g (FnG.up (G__law_dl_ahead T) (by decide)) hA hr (by rfl) T.g__law_dl_ahead T.F__law_dl_ahead.kp T.b__law_dl_ahead (pa_cons (pv 1) (pa_cons (pv 5) pa_nil))))
      (pss_one (ps_if (PW.pt (pw_or (pt_cmpR (ne_K (K := K) rfl hr.units) (pe_callB (repr_K (K := K) rfl hA hr) (by rfl) T.m_repr (by decide +kernel) (pa_cons (pe_g (FnG.up (G_next_day T) (by decide)) hA hr (by rfl) T.g_next_day T.F_next_day.kp T.b_next_day (pa_cons (pv 2) (pa_cons (pv 5) pa_nil))) pa_nil)) (pe_callB (repr_K (K := K) rfl hA hr) (by rfl) T.m_repr (by decide +kernel) (pa_cons (pv 6) pa_nil)) (nomark _)) (pw_or1 (pt_cmpR (ne_K (K := K) rfl hr.units) (pe_callB (repr_K (K := K) rfl hA hr) (by rfl) T.m_repr (by decide +kernel) (pa_cons (pe_gk0 (FnG.up (G_next_day T) (by decide)) hA hr (by rfl) T.g_next_day T.F_next_day.kp T.kw2r_next_day (pk_cons (pv 5) (pk_cons (pv 1) pk_nil))) pa_nil)) (pe_callB (repr_K (K := K) rfl hA hr) (by rfl) T.m_repr (by decide +kernel) (pa_cons (pv 6) pa_nil)) (nomark _))))) (pss_one (ps_ret pe_bl)) pss_nil))))))
      (pss_one (ps_ret pe_bl)))))⟩
theorem G__law_dl_gaps_right (T : Tx K mg) : FnG P w K mg base 5 T.f__law_dl_gaps_right T.d__law_dl_gaps_right ["_law_our_told", "_law_wide"] (spD K 2 Pg.m__law_dl_gaps_right) :=
  gD2 (f := Pg.b__law_dl_gaps_right) T.F__law_dl_gaps_right sc__law_dl_gaps_right rfl (by decide) rfl ⟨_,
    (es_seq (es_asg (ev_call (ea_cons (ev_var (i := 0)) (ea_cons (ev_op o_add (ev_op o_ix (ev_var (i := 0)) ev_int) (ev_op o_mul ev_int (ev_op o_ix (ev_var (i := 0)) ev_int))) ea_nil)) (hn_cons (hn_cons hn_nil))) (eg_name (i := 2)))
      (es_seq (es_if (et_test (ev_op o_lt (ev_cb c_len (ea_cons (ev_var (i := 2)) ea_nil)) ev_int)) (es_ret ev_bl) es_next)
      (es_seq (es_asg (ev_lc (vs := [5]) (ei_rng1 (ea_cons (ev_op o_sub (ev_cb c_len (ea_cons (ev_var (i := 2)) ea_nil)) ev_int) ea_nil)) (egv_name (i := 5) (by decide)) et_yes (ev_op o_sub (ev_op o_ix (ev_var (i := 2)) (ev_op o_add (ev_var (i := 5)) ev_int)) (ev_op o_ix (ev_var (i := 2)) (ev_var (i := 5))))) (eg_name (i := 3)))
      (es_seq (es_asg (ev_cb c_repr (ea_cons (ev_tup (ea_cons (ev_cb c_min (ea_cons (ev_var (i := 3)) ea_nil)) (ea_cons (ev_cb c_max (ea_cons (ev_var (i := 3)) ea_nil)) ea_nil))) ea_nil)) (eg_name (i := 4)))
      (es_ret (ev_andV (ev_op o_eq (ev_cb c_repr (ea_cons (ev_call (ea_cons (ev_var (i := 0)) ea_nil) (hn_cons hn_nil)) ea_nil)) (ev_var (i := 4))) (ev_op o_eq (ev_cb c_repr (ea_cons (ev_kw1 (g := Pg.m_gaps) (ea_cons (ev_var (i := 1)) ea_nil)) ea_nil)) (ev_var (i := 4))))))))),
    fun cdv A outer s H E hA hr => (pss_cons (ps_set (i := 2) sc__law_dl_gaps_right.nd rfl (.inr rfl) (pe_g (FnG.up (G__law_dl_days_to T) (by decide)) hA hr (by rfl) T.g__law_dl_days_to T.F__law_dl_days_to.kp T.b__law_dl_days_to (pa_cons (pv 0) (pa_cons (pe_op op_addU (pe_ix (ix_K (K := K) rfl) (pv 0) pe_int (fun _ _ => rfl)) (pe_op op_mulU pe_int (pe_ix (ix_K (K := K) rfl) (pv 0) pe_int (fun _ _ => rfl)))) pa_nil))))
      (pss_cons (ps_if (pt_cmpR op_lt (pe_callB (len_K (K := K) rfl) (by rfl) T.m_len (by decide +kernel) (pa_cons (pv 2) pa_nil)) pe_int (nomark _)) (pss_one (ps_ret pe_bl)) pss_nil)
      (pss_cons (ps_setLc (i := 3) (own := [("_law_spot", 5)]) (by rfl) sc__law_dl_gaps_right.nd rfl rfl (sw_true rfl rfl rfl (by decide +kernel)) (pi_range1 rfl T.m_range (pa_cons (pe_op op_sub (pe_callB (len_K (K := K) rfl) (by rfl) T.m_len (by decide +kernel) (pa_cons (pv 2) pa_nil)) pe_int) pa_nil)) (blkOk_by (own := [("_law_spot", 5)]) (N := ["_law_our_told", "_law_wide", "_law_our_days", "_law_distances", "_law_due", "_law_spot"]) (sc := defScope s__law_dl_gaps_right) (by decide +kernel)) (fun _ _ _ _ _ => by exact (pg_name (i := 5) sc__law_dl_gaps_right.nd rfl (.inl rfl))) (fun _ _ _ _ _ => by exact pts_nil) (fun _ _ _ _ _ => by exact (pe_op op_sub (pe_ix (ix_K (K := K) rfl) (pv 2) (pe_op op_addU (pv 5) pe_int) (fun _ _ => rfl)) (pe_ix (ix_K (K := K) rfl) (pv 2) (pv 5) (fun _ _ => rfl)))))
      (pss_cons (ps_set (i := 4) sc__law_dl_gaps_right.nd rfl (.inl rfl) (pe_callB (repr_K (K := K) rfl hA hr) (by rfl) T.m_repr (by decide +kernel) (pa_cons (pe_tup (pa_cons (pe_callB (min_K (K := K) rfl rfl) (by rfl) T.m_min (by decide +kernel) (pa_cons (pv 3) pa_nil)) (pa_cons (pe_callB (max_K (K := K) rfl rfl) (by rfl) T.m_max (by decide +kernel) (pa_cons (pv 3) pa_nil)) pa_nil))) pa_nil)))
      (pss_one (ps_ret (pe_and (pe_cmpR (eq_K (K := K) rfl hr.units) (pe_callB (repr_K (K := K) rfl hA hr) (by rfl) T.m_repr (by decide +kernel) (pa_cons (pe_g (FnG.up (G_gaps T) (by decide)) hA hr (by rfl) T.g_gaps T.F_gaps.kp T.b_gaps (pa_cons (pv 0) pa_nil)) pa_nil)) (pv 4) (nomark _)) (pe_one (pe_cmpR (eq_K (K := K) rfl hr.units) (pe_callB (repr_K (K := K) rfl hA hr) (by rfl) T.m_repr (by decide +kernel) (pa_cons (pe_gk0 (FnG.up (G_gaps T) (by decide)) hA hr (by rfl) T.g_gaps T.F_gaps.kp T.kw1_gaps (pk_cons (pv 1) pk_nil)) pa_nil)) (pv 4) (nomark _))))))))))⟩
theorem G__law_dl_made_right (T : Tx K mg) : FnG P w K mg base 9 T.f__law_dl_made_right T.d__law_dl_made_right ["_law_sack"] (spO K 0 Pg.m__law_dl_made_right) :=
  gO2 (f := Pg.b__law_dl_made_right) T.F__law_dl_made_right sc__law_dl_made_right rfl (by decide) rfl ⟨_,
    (es_seq (es_asg (ev_op o_ix (ev_lst (ea_cons ev_int (ea_cons ev_int (ea_cons ev_int ea_nil)))) (ev_callO (i := 0) (ea_cons ev_int ea_nil) (hn_cons hn_nil))) (eg_name (i := 1)))
      (es_seq (es_asg (ev_lc (vs := [8]) (ei_rng1 (ea_cons (ev_callO (i := 0) (ea_cons ev_int ea_nil) (hn_cons hn_nil)) ea_nil)) (egv_name (i := 8) (by decide)) et_yes (ev_callO (i := 0) (ea_cons (ev_var (i := 1)) ea_nil) (hn_cons hn_nil))) (eg_name (i := 2)))
      (es_seq (es_asg (ev_cb c_listOf (ea_cons (ev_var (i := 2)) ea_nil)) (eg_name (i := 3)))
      (es_seq (es_asg (ev_call (ea_cons (ev_op o_add (ev_lc (vs := [9]) (ei_rng1 (ea_cons (ev_var (i := 1)) ea_nil)) (egv_name (i := 9) (by decide)) et_yes (ev_cb c_int (ea_cons (ev_op o_in (ev_var (i := 9)) (ev_var (i := 2))) ea_nil))) (ev_lst (ea_cons ev_int ea_nil))) (ea_cons (ev_var (i := 1)) ea_nil)) (hn_cons (hn_cons hn_nil))) (eg_name (i := 4)))
      (es_seq (es_if (et_or (et_not (et_tr (ev_same (evG_call (ea_cons (ev_var (i := 3)) ea_nil) (hn_cons hn_nil)) (ev_var (i := 4))))) (et_or (et_test (ev_op o_ne (ev_var (i := 3)) (ev_var (i := 2)))) (et_not (et_tr (ev_same (evG_kw1 (g := Pg.m_set_of) (ea_cons (ev_var (i := 3)) ea_nil)) (ev_var (i := 4))))))) (es_ret ev_bl) es_next)
      (es_seq (es_asg (ev_op o_add ev_int (ev_callO (i := 0) (ea_cons (ev_op o_ix (ev_lst (ea_cons ev_int (ea_cons ev_int ea_nil))) (ev_callO (i := 0) (ea_cons ev_int ea_nil) (hn_cons hn_nil))) ea_nil) (hn_cons hn_nil))) (eg_name (i := 5)))
      (es_seq (es_asg (ev_callO (i := 0) (ea_cons (ev_op o_ix (ev_lst (ea_cons ev_int (ea_cons ev_int (ea_cons ev_int ea_nil)))) (ev_callO (i := 0) (ea_cons ev_int ea_nil) (hn_cons hn_nil))) ea_nil) (hn_cons hn_nil)) (eg_name (i := 6)))
      (es_seq (es_asg (ev_op o_add (ev_var (i := 6)) (ev_var (i := 5))) (eg_name (i := 1)))
      (es_seq (es_asg (ev_lc (vs := [10]) (ei_rng1 (ea_cons (ev_var (i := 1)) ea_nil)) (egv_name (i := 10) (by decide)) et_yes (ev_cb c_int (ea_cons (ev_andV (ev_op o_ge (ev_var (i := 10)) (ev_var (i := 6))) (ev_op o_eq (ev_op o_mod (ev_cb c_int (ea_cons (ev_op o_sub (ev_var (i := 10)) (ev_var (i := 6))) ea_nil)) (ev_var (i := 5))) ev_int)) ea_nil))) (eg_name (i := 7)))
      (es_seq (es_asg (ev_call (ea_cons (ev_var (i := 7)) (ea_cons (ev_var (i := 6)) ea_nil)) (hn_cons (hn_cons hn_nil))) (eg_name (i := 4)))
      (es_ret (ev_andV (ev_same (evG_call (ea_cons (ev_var (i := 5)) (ea_cons (ev_var (i := 6)) ea_nil)) (hn_cons (hn_cons hn_nil))) (ev_var (i := 4))) (ev_same (evG_kw2r (g := Pg.m_every) (ea_cons (ev_var (i := 6)) (ea_cons (ev_var (i := 5)) ea_nil))) (ev_var (i := 4))))))))))))))),
    fun cdv A outer s H E hA hr => (pss_cons (ps_set (i := 1) sc__law_dl_made_right.nd rfl (.inr rfl) (pe_ix (ix_K (K := K) rfl) (pe_lst (pa_cons pe_int (pa_cons pe_int (pa_cons pe_int pa_nil)))) (pe_g (FnG.up (G__law_dl_pick T) (by decide)) hA hr (by rfl) T.g__law_dl_pick T.F__law_dl_pick.kp T.b__law_dl_pick (pa_cons (pv 0) (pa_cons pe_int pa_nil))) (fun _ _ => rfl)))
      (pss_cons (ps_set (i := 2) sc__law_dl_made_right.nd rfl (.inr rfl) (pe_lc (own := [("_law_turn", 8)]) (by rfl) sc__law_dl_made_right.nd (pi_range1 rfl T.m_range (pa_cons (pe_g (FnG.up (G__law_dl_pick T) (by decide)) hA hr (by rfl) T.g__law_dl_pick T.F__law_dl_pick.kp T.b__law_dl_pick (pa_cons (pv 0) (pa_cons pe_int pa_nil))) pa_nil)) (blkOk_by (own := [("_law_turn", 8)]) (N := ["_law_sack", "_law_top", "_law_our_days", "_law_given", "_law_due", "_law_our_length", "_law_our_first", "_law_bits", "_law_turn", "_law_our_day", "_law_spot"]) (sc := defScope s__law_dl_made_right) (by decide +kernel)) (fun _ _ _ _ _ => by exact (pg_name (i := 8) sc__law_dl_made_right.nd rfl (.inl rfl))) (fun _ _ _ _ _ => by exact pts_nil) (fun _ _ _ _ _ => by exact (pe_g (FnG.up (G__law_dl_pick T) (by decide)) hA hr (by rfl) T.g__law_dl_pick T.F__law_dl_pick.kp T.b__law_dl_pick (pa_cons (pv 0) (pa_cons (pv 1) pa_nil))))))
      (pss_cons (ps_set (i := 3) sc__law_dl_made_right.nd rfl (.inl rfl) (pe_callTy (lof_K (K := K) rfl) (by rfl) T.m_list (by decide +kernel) (pa_cons (pv 2) pa_nil)))
      (pss_cons (ps_set (i := 4) sc__law_dl_made_right.nd rfl (.inl rfl) (pe_g (FnG.up (G__law_dl_set_of T) (by decide)) hA hr (by rfl) T.g__law_dl_set_of T.F__law_dl_set_of.kp T.b__law_dl_set_of (pa_cons (pe_op op_addU (pe_lc (own := [("_law_our_day", 9)]) (by rfl) sc__law_dl_made_right.nd (pi_range1 rfl T.m_range (pa_cons (pv 1) pa_nil)) (blkOk_by (own := [("_law_our_day", 9)]) (N := ["_law_sack", "_law_top", "_law_our_days", "_law_given", "_law_due", "_law_our_length", "_law_our_first", "_law_bits", "_law_turn", "_law_our_day", "_law_spot"]) (sc := defScope s__law_dl_made_right) (by decide +kernel)) (fun _ _ _ _ _ => by exact (pg_name (i := 9) sc__law_dl_made_right.nd rfl (.inl rfl))) (fun _ _ _ _ _ => by exact pts_nil) (fun _ _ _ _ _ => by exact (pe_callTy call_int1 (by rfl) T.m_int (by decide +kernel) (pa_cons (pe_cmpR (in_K (K := K) rfl) (pv 9) (pv 2) (by rfl)) pa_nil)))) (pe_lst (pa_cons pe_int pa_nil))) (pa_cons (pv 1) pa_nil))))
      (pss_cons (ps_if (PW.pt (pw_or (pt_not (tr_K (K := K) rfl (pe_g (FnG.up (G__law_dl_same T) (by decide)) hA hr (by rfl) T.g__law_dl_same T.F__law_dl_same.kp T.b__law_dl_same (pa_cons (pe_g (FnG.up (GF_set_of T) (by decide)) hA hr (by rfl) T.g_set_of T.F_set_of.kp T.b_set_of (pa_cons (pv 3) pa_nil)) (pa_cons (pv 4) pa_nil))))) (pw_or (pt_cmpR (ne_K (K := K) rfl hr.units) (pv 3) (pv 2) (nomark _)) (pw_or1 (pt_not (tr_K (K := K) rfl (pe_g (FnG.up (G__law_dl_same T) (by decide)) hA hr (by rfl) T.g__law_dl_same T.F__law_dl_same.kp T.b__law_dl_same (pa_cons (pe_gk0 (FnG.up (GF_set_of T) (by decide)) hA hr (by rfl) T.g_set_of T.F_set_of.kp T.kw1_set_of (pk_cons (pv 3) pk_nil)) (pa_cons (pv 4) pa_nil))))))))) (pss_one (ps_ret pe_bl)) pss_nil)
      (pss_cons (ps_set (i := 5) sc__law_dl_made_right.nd rfl (.inr rfl) (pe_op op_addU pe_int (pe_g (FnG.up (G__law_dl_pick T) (by decide)) hA hr (by rfl) T.g__law_dl_pick T.F__law_dl_pick.kp T.b__law_dl_pick (pa_cons (pv 0) (pa_cons (pe_ix (ix_K (K := K) rfl) (pe_lst (pa_cons pe_int (pa_cons pe_int pa_nil))) (pe_g (FnG.up (G__law_dl_pick T) (by decide)) hA hr (by rfl) T.g__law_dl_pick T.F__law_dl_pick.kp T.b__law_dl_pick (pa_cons (pv 0) (pa_cons pe_int pa_nil))) (fun _ _ => rfl)) pa_nil)))))
      (pss_cons (ps_set (i := 6) sc__law_dl_made_right.nd rfl (.inr rfl) (pe_g (FnG.up (G__law_dl_pick T) (by decide)) hA hr (by rfl) T.g__law_dl_pick T.F__law_dl_pick.kp T.b__law_dl_pick (pa_cons (pv 0) (pa_cons (pe_ix (ix_K (K := K) rfl) (pe_lst (pa_cons pe_int (pa_cons pe_int (pa_cons pe_int pa_nil)))) (pe_g (FnG.up (G__law_dl_pick T) (by decide)) hA hr (by rfl) T.g__law_dl_pick T.F__law_dl_pick.kp T.b__law_dl_pick (pa_cons (pv 0) (pa_cons pe_int pa_nil))) (fun _ _ => rfl)) pa_nil))))
      (pss_cons (ps_set (i := 1) sc__law_dl_made_right.nd rfl (.inr rfl) (pe_op op_addU (pv 6) (pv 5)))
      (pss_cons (ps_setLc (i := 7) (own := [("_law_spot", 10)]) (by rfl) sc__law_dl_made_right.nd rfl rfl (sw_true rfl rfl rfl (by decide +kernel)) (pi_range1 rfl T.m_range (pa_cons (pv 1) pa_nil)) (blkOk_by (own := [("_law_spot", 10)]) (N := ["_law_sack", "_law_top", "_law_our_days", "_law_given", "_law_due", "_law_our_length", "_law_our_first", "_law_bits", "_law_turn", "_law_our_day", "_law_spot"]) (sc := defScope s__law_dl_made_right) (by decide +kernel)) (fun _ _ _ _ _ => by exact (pg_name (i := 10) sc__law_dl_made_right.nd rfl (.inl rfl))) (fun _ _ _ _ _ => by exact pts_nil) (fun _ _ _ _ _ => by exact (pe_callTy call_int1 (by rfl) T.m_int (by decide +kernel) (pa_cons (pe_and (pe_cmpR op_ge (pv 10) (pv 6) (nomark _)) (pe_one (pe_cmpR (eq_K (K := K) rfl hr.units) (pe_op op_mod (pe_callTy call_int1 (by rfl) T.m_int (by decide +kernel) (pa_cons (pe_op op_sub (pv 10) (pv 6)) pa_nil)) (pv 5)) pe_int (nomark _)))) pa_nil))))
      (pss_cons (ps_set (i := 4) sc__law_dl_made_right.nd rfl (.inl rfl) (pe_g (FnG.up (G__law_dl_set_of T) (by decide)) hA hr (by rfl) T.g__law_dl_set_of T.F__law_dl_set_of.kp T.b__law_dl_set_of (pa_cons (pv 7) (pa_cons (pv 6) pa_nil))))
      (pss_one (ps_ret (pe_and (pe_g (FnG.up (G__law_dl_same T) (by decide)) hA hr (by rfl) T.g__law_dl_same T.F__law_dl_same.kp T.b__law_dl_same (pa_cons (pe_g (FnG.up (GF_every T) (by decide)) hA hr (by rfl) T.g_every T.F_every.kp T.b_every (pa_cons (pv 5) (pa_cons (pv 6) pa_nil))) (pa_cons (pv 4) pa_nil))) (pe_one (pe_g (FnG.up (G__law_dl_same T) (by decide)) hA hr (by rfl) T.g__law_dl_same T.F__law_dl_same.kp T.b__law_dl_same (pa_cons (pe_gk0 (FnG.up (GF_every T) (by decide)) hA hr (by rfl) T.g_every T.F_every.kp T.kw2r_every (pk_cons (pv 6) (pk_cons (pv 5) pk_nil))) (pa_cons (pv 4) pa_nil)))))))))))))))))⟩
theorem G__law_right (T : Tx K mg) : FnG P w K mg base 10 T.f__law_right T.d__law_right ["_law_sack"] (spO K 0 Pg.m__law_right) :=
  gO2 (f := Pg.b__law_right) T.F__law_right sc__law_right rfl (by decide) rfl ⟨_,
    (es_seq (es_asg (ev_callO (i := 0) (ea_cons ev_int ea_nil) (hn_cons hn_nil)) (eg_name (i := 1)))
      (es_seq (es_par (i := 2) (j := 3) (ea_cons (ev_callO (i := 0) (ea_cons (ev_var (i := 1)) (ea_cons ev_int ea_nil)) (hn_cons (hn_cons hn_nil))) (ea_cons (ev_call (ea_cons (ev_var (i := 1)) ea_nil) (hn_cons hn_nil)) ea_nil)))
      (es_seq (es_asg (ev_lst (ea_cons (ev_call (ea_cons (ev_var (i := 1)) ea_nil) (hn_cons hn_nil)) (ea_cons (ev_call (ea_cons (ev_var (i := 2)) ea_nil) (hn_cons hn_nil)) ea_nil))) (eg_name (i := 4)))
      (es_seq (es_if (et_not (et_tr (ev_callO (i := 0) (ea_cons (ev_op o_ix (ev_var (i := 4)) ev_int) (ea_cons (ev_op o_ix (ev_var (i := 4)) ev_int) ea_nil)) (hn_cons (hn_cons hn_nil))))) (es_ret ev_bl) es_next)
      (es_seq (es_if (et_not (et_tr (ev_call (ea_cons (ev_op o_ix (ev_var (i := 4)) ev_int) (ea_cons (ev_callO (i := 0) (ea_cons (ev_var (i := 1)) (ea_cons ev_int ea_nil)) (hn_cons (hn_cons hn_nil))) ea_nil)) (hn_cons (hn_cons hn_nil))))) (es_ret ev_bl) es_next)
      (es_seq (es_for (ei_rng1 (ea_cons ev_int ea_nil)) (eg_name (i := 5))
      (es_same (i := 6) (t0 := _) (evG_if (et_test (ev_op o_eq (ev_var (i := 5)) ev_int)) (evG_call (ea_cons (ev_op o_ix (ev_var (i := 4)) (ev_var (i := 5))) ea_nil) (hn_cons hn_nil)) (evG_kw1 (g := Pg.m_least_set) (ea_cons (ev_op o_ix (ev_var (i := 4)) (ev_var (i := 5))) ea_nil))) (ev_var (i := 3))))
      (es_seq (es_if (et_or (et_test (ev_op o_ne (ev_cb c_repr (ea_cons (ev_var (i := 4)) ea_nil)) (ev_cb c_repr (ea_cons (ev_lst (ea_cons (ev_var (i := 1)) (ea_cons (ev_var (i := 2)) ea_nil))) ea_nil)))) (et_not (et_tr (ev_same (evG_call (ea_cons (ev_var (i := 3)) ea_nil) (hn_cons hn_nil)) (ev_var (i := 3)))))) (es_ret ev_bl) es_next)
      (es_ret (ev_callO (i := 0) ea_nil hn_nil))))))))),
    fun cdv A outer s H E hA hr => (pss_cons (ps_set (i := 1) sc__law_right.nd rfl (.inl rfl) (pe_g (FnG.up (G__law_dl_set T) (by decide)) hA hr (by rfl) T.g__law_dl_set T.F__law_dl_set.kp T.b__law_dl_set (pa_cons (pv 0) (pa_cons pe_int pa_nil))))
      (pss_cons (ps_par (i := 2) (j := 3) rfl sc__law_right.nd rfl rfl (by decide) rfl rfl (pa_cons (pe_g (FnG.up (G__law_dl_set_wide T) (by decide)) hA hr (by rfl) T.g__law_dl_set_wide T.F__law_dl_set_wide.kp T.b__law_dl_set_wide (pa_cons (pv 0) (pa_cons (pv 1) (pa_cons pe_int pa_nil)))) (pa_cons (pe_g (FnG.up (G__law_dl_set_least T) (by decide)) hA hr (by rfl) T.g__law_dl_set_least T.F__law_dl_set_least.kp T.b__law_dl_set_least (pa_cons (pv 1) pa_nil)) pa_nil)) (by rfl))
      (pss_cons (ps_set (i := 4) sc__law_right.nd rfl (.inl rfl) (pe_lst (pa_cons (pe_g (FnG.up (G__law_dl_copy T) (by decide)) hA hr (by rfl) T.g__law_dl_copy T.F__law_dl_copy.kp T.b__law_dl_copy (pa_cons (pv 1) pa_nil)) (pa_cons (pe_g (FnG.up (G__law_dl_copy T) (by decide)) hA hr (by rfl) T.g__law_dl_copy T.F__law_dl_copy.kp T.b__law_dl_copy (pa_cons (pv 2) pa_nil)) pa_nil))))
      (pss_cons (ps_if (pt_not (tr_K (K := K) rfl (pe_g (FnG.up (G__law_dl_asked_right T) (by decide)) hA hr (by rfl) T.g__law_dl_asked_right T.F__law_dl_asked_right.kp T.b__law_dl_asked_right (pa_cons (pv 0) (pa_cons (pe_ix (ix_K (K := K) rfl) (pv 4) pe_int (fun _ _ => rfl)) (pa_cons (pe_ix (ix_K (K := K) rfl) (pv 4) pe_int (fun _ _ => rfl)) pa_nil)))))) (pss_one (ps_ret pe_bl)) pss_nil)
      (pss_cons (ps_if (pt_not (tr_K (K := K) rfl (pe_g (FnG.up (G__law_dl_gaps_right T) (by decide)) hA hr (by rfl) T.g__law_dl_gaps_right T.F__law_dl_gaps_right.kp T.b__law_dl_gaps_right (pa_cons (pe_ix (ix_K (K := K) rfl) (pv 4) pe_int (fun _ _ => rfl)) (pa_cons (pe_g (FnG.up (G__law_dl_set_wide T) (by decide)) hA hr (by rfl) T.g__law_dl_set_wide T.F__law_dl_set_wide.kp T.b__law_dl_set_wide (pa_cons (pv 0) (pa_cons (pv 1) (pa_cons pe_int pa_nil)))) pa_nil))))) (pss_one (ps_ret pe_bl)) pss_nil)
      (pss_cons (ps_for PassesOwn.never rfl (pi_range1 rfl T.m_range (pa_cons pe_int pa_nil)) (pg_name (i := 5) sc__law_right.nd rfl (.inl rfl))
      (pss_cons (ps_set (i := 6) sc__law_right.nd rfl (.inl rfl) (pe_ifExp (pt_cmpR (eq_K (K := K) rfl hr.units) (pv 5) pe_int (nomark _)) (pe_g (FnG.up (GF_least_set T) (by decide)) hA hr (by rfl) T.g_least_set T.F_least_set.kp T.b_least_set (pa_cons (pe_ix (ix_K (K := K) rfl) (pv 4) (pv 5) (fun _ _ => rfl)) pa_nil)) (pe_gk0 (FnG.up (GF_least_set T) (by decide)) hA hr (by rfl) T.g_least_set T.F_least_set.kp T.kw1_least_set (pk_cons (pe_ix (ix_K (K := K) rfl) (pv 4) (pv 5) (fun _ _ => rfl)) pk_nil))))
      (pss_one (ps_if (pt_not (tr_K (K := K) rfl (pe_g (FnG.up (G__law_dl_same T) (by decide)) hA hr (by rfl) T.g__law_dl_same T.F__law_dl_same.kp T.b__law_dl_same (pa_cons (pv 6) (pa_cons (pv 3) pa_nil))))) (pss_one (ps_ret pe_bl)) pss_nil))))
      (pss_cons (ps_if (PW.pt (pw_or (pt_cmpR (ne_K (K := K) rfl hr.units) (pe_callB (repr_K (K := K) rfl hA hr) (by rfl) T.m_repr (by decide +kernel) (pa_cons (pv 4) pa_nil)) (pe_callB (repr_K (K := K) rfl hA hr) (by rfl) T.m_repr (by decide +kernel) (pa_cons (pe_lst (pa_cons (pv 1) (pa_cons (pv 2) pa_nil))) pa_nil)) (nomark _)) (pw_or1 (pt_not (tr_K (K := K) rfl (pe_g (FnG.up (G__law_dl_same T) (by decide)) hA hr (by rfl) T.g__law_dl_same T.F__law_dl_same.kp T.b__law_dl_same (pa_cons (pe_g (FnG.up (GF_least_set T) (by decide)) hA hr (by rfl) T.g_least_set T.F_least_set.kp T.b_least_set (pa_cons (pv 3) pa_nil)) (pa_cons (pv 3) pa_nil)))))))) (pss_one (ps_ret pe_bl)) pss_nil)
      (pss_one (ps_ret (pe_g (FnG.up (G__law_dl_made_right T) (by decide)) hA hr (by rfl) T.g__law_dl_made_right T.F__law_dl_made_right.kp T.b__law_dl_made_right (pa_cons (pv 0) pa_nil)))))))))))⟩
theorem ok_law (T : Tx K mg) (hm : ∀ ds : List D, SackD 0 ds → ∃ es, Pg.m__law_right ds [] = some (.bool true, es)) : FnG P w K mg base 11 T.f_law T.d_law ["_law_script"] (spLaw K) := by
  refine gOf T.F_law sc_law (fun vs H Q E h => ?_) (fun cdv A outer s H vs Q E hA hr h => ?_)
  · obtain ⟨a, ns, rfl, _⟩ := h
    rfl
  · exact ⟨t_law K 4, (pss_cons (ps_for PassesOwn.never rfl (pi_range1 rfl T.m_range (pa_cons (pe_callB (call_max2 rfl) (by rfl) T.m_max (by decide +kernel) (pa_cons pe_int (pa_cons (pe_callB (call_min2 rfl) (by rfl) T.m_min (by decide +kernel) (pa_cons pe_int (pa_cons (pe_callB (len_K (K := K) rfl) (by rfl) T.m_len (by decide +kernel) (pa_cons (pv 0) pa_nil)) pa_nil))) pa_nil))) pa_nil)) (pg_name (i := 1) sc_law.nd rfl (.inl rfl))
      (pss_one (ps_if (pt_not (tr_K (K := K) rfl (pe_g (FnG.up (FnG.right hm (G__law_right T)) (by decide)) hA hr (by rfl) T.g__law_right T.F__law_right.kp T.b__law_right (pa_cons (pe_g (FnG.up (ok_sack T) (by decide)) hA hr (by rfl) T.g__law_dl_sack T.F__law_dl_sack.kp T.b__law_dl_sack (pa_cons (pv 0) (pa_cons (pv 1) pa_nil))) pa_nil)))) (pss_one (ps_ret pe_bl)) pss_nil)))
      (pss_one (ps_ret pe_bl))), law_read (by decide) (by decide) h⟩
end
-- level 11
end K01

namespace K01
open PySem PySem.Spec PyProof.Rows L2 Ly
theorem hm : ∀ ds : List D, SackD 0 ds → ∃ es, Pg.m__law_right ds [] = some (.bool true, es) := fun ds h => Pg.m__law_right_ok h (Nat.zero_le _)
end K01

set_option Elab.async false
set_option linter.all false
set_option maxRecDepth 100000
set_option maxHeartbeats 1000000
namespace K01
open PySem PySem.Spec PyProof.Rows L2 Ly
theorem all_mk {P : Program} {w : World} {K : PySem.W.Frag} {h : Heap} {mg : Str → Option Value} {fa : Addr} (X : K.In h) (G : h.Ns mainGlobals mg) (hfa : mg "law" = some (.ref fa))
    {f_ascends : Addr} {od_ascends an_ascends : Option Addr} {sl_ascends : Array (Option Value)} {oc_ascends kV_ascends dc_ascends pm_ascends cd_ascends ct_ascends : Value}
    {f_is_set : Addr} {od_is_set an_is_set : Option Addr} {sl_is_set : Array (Option Value)} {oc_is_set kV_is_set dc_is_set pm_is_set cd_is_set ct_is_set : Value}
    {f_check_sets : Addr} {od_check_sets an_check_sets : Option Addr} {sl_check_sets : Array (Option Value)} {oc_check_sets kV_check_sets dc_check_sets pm_check_sets cd_check_sets ct_check_sets : Value}
    {f_check_numbers : Addr} {od_check_numbers an_check_numbers : Option Addr} {sl_check_numbers : Array (Option Value)} {oc_check_numbers kV_check_numbers dc_check_numbers pm_check_numbers cd_check_numbers ct_check_numbers : Value}
    {f_repeats : Addr} {od_repeats an_repeats : Option Addr} {sl_repeats : Array (Option Value)} {oc_repeats kV_repeats dc_repeats pm_repeats cd_repeats ct_repeats : Value}
    {f_shortest_turn : Addr} {od_shortest_turn an_shortest_turn : Option Addr} {sl_shortest_turn : Array (Option Value)} {oc_shortest_turn kV_shortest_turn dc_shortest_turn pm_shortest_turn cd_shortest_turn ct_shortest_turn : Value}
    {f_shortened : Addr} {od_shortened an_shortened : Option Addr} {sl_shortened : Array (Option Value)} {oc_shortened kV_shortened dc_shortened pm_shortened cd_shortened ct_shortened : Value}
    {f_ended : Addr} {od_ended an_ended : Option Addr} {sl_ended : Array (Option Value)} {oc_ended kV_ended dc_ended pm_ended cd_ended ct_ended : Value}
    {f_narrowed : Addr} {od_narrowed an_narrowed : Option Addr} {sl_narrowed : Array (Option Value)} {oc_narrowed kV_narrowed dc_narrowed pm_narrowed cd_narrowed ct_narrowed : Value}
    {f_place_of : Addr} {od_place_of an_place_of : Option Addr} {sl_place_of : Array (Option Value)} {oc_place_of kV_place_of dc_place_of pm_place_of cd_place_of ct_place_of : Value}
    {f_many_before : Addr} {od_many_before an_many_before : Option Addr} {sl_many_before : Array (Option Value)} {oc_many_before kV_many_before dc_many_before pm_many_before cd_many_before ct_many_before : Value}
    {f_nth_day : Addr} {od_nth_day an_nth_day : Option Addr} {sl_nth_day : Array (Option Value)} {oc_nth_day kV_nth_day dc_nth_day pm_nth_day cd_nth_day ct_nth_day : Value}
    {f_day_from : Addr} {od_day_from an_day_from : Option Addr} {sl_day_from : Array (Option Value)} {oc_day_from kV_day_from dc_day_from pm_day_from cd_day_from ct_day_from : Value}
    {f_holds : Addr} {od_holds an_holds : Option Addr} {sl_holds : Array (Option Value)} {oc_holds kV_holds dc_holds pm_holds cd_holds ct_holds : Value}
    {f_has : Addr} {od_has an_has : Option Addr} {sl_has : Array (Option Value)} {oc_has kV_has dc_has pm_has cd_has ct_has : Value}
    {f_least_set : Addr} {od_least_set an_least_set : Option Addr} {sl_least_set : Array (Option Value)} {oc_least_set kV_least_set dc_least_set pm_least_set cd_least_set ct_least_set : Value}
    {f_set_of : Addr} {od_set_of an_set_of : Option Addr} {sl_set_of : Array (Option Value)} {oc_set_of kV_set_of dc_set_of pm_set_of cd_set_of ct_set_of : Value}
    {f_every : Addr} {od_every an_every : Option Addr} {sl_every : Array (Option Value)} {oc_every kV_every dc_every pm_every cd_every ct_every : Value}
    {f_next_day : Addr} {od_next_day an_next_day : Option Addr} {sl_next_day : Array (Option Value)} {oc_next_day kV_next_day dc_next_day pm_next_day cd_next_day ct_next_day : Value}
    {f_gaps : Addr} {od_gaps an_gaps : Option Addr} {sl_gaps : Array (Option Value)} {oc_gaps kV_gaps dc_gaps pm_gaps cd_gaps ct_gaps : Value}
    {f__law_dl_sack : Addr} {od__law_dl_sack an__law_dl_sack : Option Addr} {sl__law_dl_sack : Array (Option Value)} {oc__law_dl_sack kV__law_dl_sack dc__law_dl_sack pm__law_dl_sack cd__law_dl_sack ct__law_dl_sack : Value}
    {f__law_dl_pick : Addr} {od__law_dl_pick an__law_dl_pick : Option Addr} {sl__law_dl_pick : Array (Option Value)} {oc__law_dl_pick kV__law_dl_pick dc__law_dl_pick pm__law_dl_pick cd__law_dl_pick ct__law_dl_pick : Value}
    {f__law_dl_copy : Addr} {od__law_dl_copy an__law_dl_copy : Option Addr} {sl__law_dl_copy : Array (Option Value)} {oc__law_dl_copy kV__law_dl_copy dc__law_dl_copy pm__law_dl_copy cd__law_dl_copy ct__law_dl_copy : Value}
    {f__law_dl_ranks : Addr} {od__law_dl_ranks an__law_dl_ranks : Option Addr} {sl__law_dl_ranks : Array (Option Value)} {oc__law_dl_ranks kV__law_dl_ranks dc__law_dl_ranks pm__law_dl_ranks cd__law_dl_ranks ct__law_dl_ranks : Value}
    {f__law_dl_same : Addr} {od__law_dl_same an__law_dl_same : Option Addr} {sl__law_dl_same : Array (Option Value)} {oc__law_dl_same kV__law_dl_same dc__law_dl_same pm__law_dl_same cd__law_dl_same ct__law_dl_same : Value}
    {f__law_dl_length : Addr} {od__law_dl_length an__law_dl_length : Option Addr} {sl__law_dl_length : Array (Option Value)} {oc__law_dl_length kV__law_dl_length dc__law_dl_length pm__law_dl_length cd__law_dl_length ct__law_dl_length : Value}
    {f__law_dl_set : Addr} {od__law_dl_set an__law_dl_set : Option Addr} {sl__law_dl_set : Array (Option Value)} {oc__law_dl_set kV__law_dl_set dc__law_dl_set pm__law_dl_set cd__law_dl_set ct__law_dl_set : Value}
    {f__law_dl_has : Addr} {od__law_dl_has an__law_dl_has : Option Addr} {sl__law_dl_has : Array (Option Value)} {oc__law_dl_has kV__law_dl_has dc__law_dl_has pm__law_dl_has cd__law_dl_has ct__law_dl_has : Value}
    {f__law_dl_set_wide : Addr} {od__law_dl_set_wide an__law_dl_set_wide : Option Addr} {sl__law_dl_set_wide : Array (Option Value)} {oc__law_dl_set_wide kV__law_dl_set_wide dc__law_dl_set_wide pm__law_dl_set_wide cd__law_dl_set_wide ct__law_dl_set_wide : Value}
    {f__law_dl_comes : Addr} {od__law_dl_comes an__law_dl_comes : Option Addr} {sl__law_dl_comes : Array (Option Value)} {oc__law_dl_comes kV__law_dl_comes dc__law_dl_comes pm__law_dl_comes cd__law_dl_comes ct__law_dl_comes : Value}
    {f__law_dl_least : Addr} {od__law_dl_least an__law_dl_least : Option Addr} {sl__law_dl_least : Array (Option Value)} {oc__law_dl_least kV__law_dl_least dc__law_dl_least pm__law_dl_least cd__law_dl_least ct__law_dl_least : Value}
    {f__law_dl_set_of : Addr} {od__law_dl_set_of an__law_dl_set_of : Option Addr} {sl__law_dl_set_of : Array (Option Value)} {oc__law_dl_set_of kV__law_dl_set_of dc__law_dl_set_of pm__law_dl_set_of cd__law_dl_set_of ct__law_dl_set_of : Value}
    {f__law_dl_set_least : Addr} {od__law_dl_set_least an__law_dl_set_least : Option Addr} {sl__law_dl_set_least : Array (Option Value)} {oc__law_dl_set_least kV__law_dl_set_least dc__law_dl_set_least pm__law_dl_set_least cd__law_dl_set_least ct__law_dl_set_least : Value}
    {f__law_dl_days_to : Addr} {od__law_dl_days_to an__law_dl_days_to : Option Addr} {sl__law_dl_days_to : Array (Option Value)} {oc__law_dl_days_to kV__law_dl_days_to dc__law_dl_days_to pm__law_dl_days_to cd__law_dl_days_to ct__law_dl_days_to : Value}
    {f__law_dl_ahead : Addr} {od__law_dl_ahead an__law_dl_ahead : Option Addr} {sl__law_dl_ahead : Array (Option Value)} {oc__law_dl_ahead kV__law_dl_ahead dc__law_dl_ahead pm__law_dl_ahead cd__law_dl_ahead ct__law_dl_ahead : Value}
    {f__law_dl_asked_right : Addr} {od__law_dl_asked_right an__law_dl_asked_right : Option Addr} {sl__law_dl_asked_right : Array (Option Value)} {oc__law_dl_asked_right kV__law_dl_asked_right dc__law_dl_asked_right pm__law_dl_asked_right cd__law_dl_asked_right ct__law_dl_asked_right : Value}
    {f__law_dl_gaps_right : Addr} {od__law_dl_gaps_right an__law_dl_gaps_right : Option Addr} {sl__law_dl_gaps_right : Array (Option Value)} {oc__law_dl_gaps_right kV__law_dl_gaps_right dc__law_dl_gaps_right pm__law_dl_gaps_right cd__law_dl_gaps_right ct__law_dl_gaps_right : Value}
    {f__law_dl_made_right : Addr} {od__law_dl_made_right an__law_dl_made_right : Option Addr} {sl__law_dl_made_right : Array (Option Value)} {oc__law_dl_made_right kV__law_dl_made_right dc__law_dl_made_right pm__law_dl_made_right cd__law_dl_made_right ct__law_dl_made_right : Value}
    {f__law_right : Addr} {od__law_right an__law_right : Option Addr} {sl__law_right : Array (Option Value)} {oc__law_right kV__law_right dc__law_right pm__law_right cd__law_right ct__law_right : Value}
    {f_law : Addr} {od_law an_law : Option Addr} {sl_law : Array (Option Value)} {oc_law kV_law dc_law pm_law cd_law ct_law : Value}
    (z_all : PySem.W.nsIn K mainGlobals "all" = some none)
    (z_zip : PySem.W.nsIn K mainGlobals "zip" = some none)
    (z_len : PySem.W.nsIn K mainGlobals "len" = some none)
    (z_list : PySem.W.nsIn K mainGlobals "list" = some none)
    (z_max : PySem.W.nsIn K mainGlobals "max" = some none)
    (z_divmod : PySem.W.nsIn K mainGlobals "divmod" = some none)
    (z_sorted : PySem.W.nsIn K mainGlobals "sorted" = some none)
    (z_set : PySem.W.nsIn K mainGlobals "set" = some none)
    (z_min : PySem.W.nsIn K mainGlobals "min" = some none)
    (z_abs : PySem.W.nsIn K mainGlobals "abs" = some none)
    (z_int : PySem.W.nsIn K mainGlobals "int" = some none)
    (z_isinstance : PySem.W.nsIn K mainGlobals "isinstance" = some none)
    (z_tuple : PySem.W.nsIn K mainGlobals "tuple" = some none)
    (z_repr : PySem.W.nsIn K mainGlobals "repr" = some none)
    (z_range : PySem.W.nsIn K mainGlobals "range" = some none)
    (z_enumerate : PySem.W.nsIn K mainGlobals "enumerate" = some none)
    (a_ascends : PySem.W.nsIn K mainGlobals "ascends" = some (some (.ref f_ascends)))
    (l_ascends : K.lookup f_ascends = some ⟨oc_ascends, od_ascends, .func (PySem.W.fnOf "ascends" "ascends" (defArgs s_ascends) (defBody s_ascends) (defScope s_ascends) .none kV_ascends dc_ascends pm_ascends an_ascends cd_ascends ct_ascends), sl_ascends⟩)
    (c_ascends : PySem.W.codeIn K cd_ascends "ascends" = true) (k_ascends : PySem.W.keepIn K (.ref f_ascends) = true)
    (a_is_set : PySem.W.nsIn K mainGlobals "is_set" = some (some (.ref f_is_set)))
    (l_is_set : K.lookup f_is_set = some ⟨oc_is_set, od_is_set, .func (PySem.W.fnOf "is_set" "is_set" (defArgs s_is_set) (defBody s_is_set) (defScope s_is_set) .none kV_is_set dc_is_set pm_is_set an_is_set cd_is_set ct_is_set), sl_is_set⟩)
    (c_is_set : PySem.W.codeIn K cd_is_set "is_set" = true) (k_is_set : PySem.W.keepIn K (.ref f_is_set) = true)
    (a_check_sets : PySem.W.nsIn K mainGlobals "check_sets" = some (some (.ref f_check_sets)))
    (l_check_sets : K.lookup f_check_sets = some ⟨oc_check_sets, od_check_sets, .func (PySem.W.fnOf "check_sets" "check_sets" (defArgs s_check_sets) (defBody s_check_sets) (defScope s_check_sets) .none kV_check_sets dc_check_sets pm_check_sets an_check_sets cd_check_sets ct_check_sets), sl_check_sets⟩)
    (c_check_sets : PySem.W.codeIn K cd_check_sets "check_sets" = true) (k_check_sets : PySem.W.keepIn K (.ref f_check_sets) = true)
    (a_check_numbers : PySem.W.nsIn K mainGlobals "check_numbers" = some (some (.ref f_check_numbers)))
    (l_check_numbers : K.lookup f_check_numbers = some ⟨oc_check_numbers, od_check_numbers, .func (PySem.W.fnOf "check_numbers" "check_numbers" (defArgs s_check_numbers) (defBody s_check_numbers) (defScope s_check_numbers) .none kV_check_numbers dc_check_numbers pm_check_numbers an_check_numbers cd_check_numbers ct_check_numbers), sl_check_numbers⟩)
    (c_check_numbers : PySem.W.codeIn K cd_check_numbers "check_numbers" = true) (k_check_numbers : PySem.W.keepIn K (.ref f_check_numbers) = true)
    (a_repeats : PySem.W.nsIn K mainGlobals "repeats" = some (some (.ref f_repeats)))
    (l_repeats : K.lookup f_repeats = some ⟨oc_repeats, od_repeats, .func (PySem.W.fnOf "repeats" "repeats" (defArgs s_repeats) (defBody s_repeats) (defScope s_repeats) .none kV_repeats dc_repeats pm_repeats an_repeats cd_repeats ct_repeats), sl_repeats⟩)
    (c_repeats : PySem.W.codeIn K cd_repeats "repeats" = true) (k_repeats : PySem.W.keepIn K (.ref f_repeats) = true)
    (a_shortest_turn : PySem.W.nsIn K mainGlobals "shortest_turn" = some (some (.ref f_shortest_turn)))
    (l_shortest_turn : K.lookup f_shortest_turn = some ⟨oc_shortest_turn, od_shortest_turn, .func (PySem.W.fnOf "shortest_turn" "shortest_turn" (defArgs s_shortest_turn) (defBody s_shortest_turn) (defScope s_shortest_turn) .none kV_shortest_turn dc_shortest_turn pm_shortest_turn an_shortest_turn cd_shortest_turn ct_shortest_turn), sl_shortest_turn⟩)
    (c_shortest_turn : PySem.W.codeIn K cd_shortest_turn "shortest_turn" = true) (k_shortest_turn : PySem.W.keepIn K (.ref f_shortest_turn) = true)
    (a_shortened : PySem.W.nsIn K mainGlobals "shortened" = some (some (.ref f_shortened)))
    (l_shortened : K.lookup f_shortened = some ⟨oc_shortened, od_shortened, .func (PySem.W.fnOf "shortened" "shortened" (defArgs s_shortened) (defBody s_shortened) (defScope s_shortened) .none kV_shortened dc_shortened pm_shortened an_shortened cd_shortened ct_shortened), sl_shortened⟩)
    (c_shortened : PySem.W.codeIn K cd_shortened "shortened" = true) (k_shortened : PySem.W.keepIn K (.ref f_shortened) = true)
    (a_ended : PySem.W.nsIn K mainGlobals "ended" = some (some (.ref f_ended)))
    (l_ended : K.lookup f_ended = some ⟨oc_ended, od_ended, .func (PySem.W.fnOf "ended" "ended" (defArgs s_ended) (defBody s_ended) (defScope s_ended) .none kV_ended dc_ended pm_ended an_ended cd_ended ct_ended), sl_ended⟩)
    (c_ended : PySem.W.codeIn K cd_ended "ended" = true) (k_ended : PySem.W.keepIn K (.ref f_ended) = true)
    (a_narrowed : PySem.W.nsIn K mainGlobals "narrowed" = some (some (.ref f_narrowed)))
    (l_narrowed : K.lookup f_narrowed = some ⟨oc_narrowed, od_narrowed, .func (PySem.W.fnOf "narrowed" "narrowed" (defArgs s_narrowed) (defBody s_narrowed) (defScope s_narrowed) .none kV_narrowed dc_narrowed pm_narrowed an_narrowed cd_narrowed ct_narrowed), sl_narrowed⟩)
    (c_narrowed : PySem.W.codeIn K cd_narrowed "narrowed" = true) (k_narrowed : PySem.W.keepIn K (.ref f_narrowed) = true)
    (a_place_of : PySem.W.nsIn K mainGlobals "place_of" = some (some (.ref f_place_of)))
    (l_place_of : K.lookup f_place_of = some ⟨oc_place_of, od_place_of, .func (PySem.W.fnOf "place_of" "place_of" (defArgs s_place_of) (defBody s_place_of) (defScope s_place_of) .none kV_place_of dc_place_of pm_place_of an_place_of cd_place_of ct_place_of), sl_place_of⟩)
    (c_place_of : PySem.W.codeIn K cd_place_of "place_of" = true) (k_place_of : PySem.W.keepIn K (.ref f_place_of) = true)
    (a_many_before : PySem.W.nsIn K mainGlobals "many_before" = some (some (.ref f_many_before)))
    (l_many_before : K.lookup f_many_before = some ⟨oc_many_before, od_many_before, .func (PySem.W.fnOf "many_before" "many_before" (defArgs s_many_before) (defBody s_many_before) (defScope s_many_before) .none kV_many_before dc_many_before pm_many_before an_many_before cd_many_before ct_many_before), sl_many_before⟩)
    (c_many_before : PySem.W.codeIn K cd_many_before "many_before" = true) (k_many_before : PySem.W.keepIn K (.ref f_many_before) = true)
    (a_nth_day : PySem.W.nsIn K mainGlobals "nth_day" = some (some (.ref f_nth_day)))
    (l_nth_day : K.lookup f_nth_day = some ⟨oc_nth_day, od_nth_day, .func (PySem.W.fnOf "nth_day" "nth_day" (defArgs s_nth_day) (defBody s_nth_day) (defScope s_nth_day) .none kV_nth_day dc_nth_day pm_nth_day an_nth_day cd_nth_day ct_nth_day), sl_nth_day⟩)
    (c_nth_day : PySem.W.codeIn K cd_nth_day "nth_day" = true) (k_nth_day : PySem.W.keepIn K (.ref f_nth_day) = true)
    (a_day_from : PySem.W.nsIn K mainGlobals "day_from" = some (some (.ref f_day_from)))
    (l_day_from : K.lookup f_day_from = some ⟨oc_day_from, od_day_from, .func (PySem.W.fnOf "day_from" "day_from" (defArgs s_day_from) (defBody s_day_from) (defScope s_day_from) .none kV_day_from dc_day_from pm_day_from an_day_from cd_day_from ct_day_from), sl_day_from⟩)
    (c_day_from : PySem.W.codeIn K cd_day_from "day_from" = true) (k_day_from : PySem.W.keepIn K (.ref f_day_from) = true)
    (a_holds : PySem.W.nsIn K mainGlobals "holds" = some (some (.ref f_holds)))
    (l_holds : K.lookup f_holds = some ⟨oc_holds, od_holds, .func (PySem.W.fnOf "holds" "holds" (defArgs s_holds) (defBody s_holds) (defScope s_holds) .none kV_holds dc_holds pm_holds an_holds cd_holds ct_holds), sl_holds⟩)
    (c_holds : PySem.W.codeIn K cd_holds "holds" = true) (k_holds : PySem.W.keepIn K (.ref f_holds) = true)
    (a_has : PySem.W.nsIn K mainGlobals "has" = some (some (.ref f_has)))
    (l_has : K.lookup f_has = some ⟨oc_has, od_has, .func (PySem.W.fnOf "has" "has" (defArgs s_has) (defBody s_has) (defScope s_has) .none kV_has dc_has pm_has an_has cd_has ct_has), sl_has⟩)
    (c_has : PySem.W.codeIn K cd_has "has" = true) (k_has : PySem.W.keepIn K (.ref f_has) = true)
    (a_least_set : PySem.W.nsIn K mainGlobals "least_set" = some (some (.ref f_least_set)))
    (l_least_set : K.lookup f_least_set = some ⟨oc_least_set, od_least_set, .func (PySem.W.fnOf "least_set" "least_set" (defArgs s_least_set) (defBody s_least_set) (defScope s_least_set) .none kV_least_set dc_least_set pm_least_set an_least_set cd_least_set ct_least_set), sl_least_set⟩)
    (c_least_set : PySem.W.codeIn K cd_least_set "least_set" = true) (k_least_set : PySem.W.keepIn K (.ref f_least_set) = true)
    (a_set_of : PySem.W.nsIn K mainGlobals "set_of" = some (some (.ref f_set_of)))
    (l_set_of : K.lookup f_set_of = some ⟨oc_set_of, od_set_of, .func (PySem.W.fnOf "set_of" "set_of" (defArgs s_set_of) (defBody s_set_of) (defScope s_set_of) .none kV_set_of dc_set_of pm_set_of an_set_of cd_set_of ct_set_of), sl_set_of⟩)
    (c_set_of : PySem.W.codeIn K cd_set_of "set_of" = true) (k_set_of : PySem.W.keepIn K (.ref f_set_of) = true)
    (a_every : PySem.W.nsIn K mainGlobals "every" = some (some (.ref f_every)))
    (l_every : K.lookup f_every = some ⟨oc_every, od_every, .func (PySem.W.fnOf "every" "every" (defArgs s_every) (defBody s_every) (defScope s_every) .none kV_every dc_every pm_every an_every cd_every ct_every), sl_every⟩)
    (c_every : PySem.W.codeIn K cd_every "every" = true) (k_every : PySem.W.keepIn K (.ref f_every) = true)
    (a_next_day : PySem.W.nsIn K mainGlobals "next_day" = some (some (.ref f_next_day)))
    (l_next_day : K.lookup f_next_day = some ⟨oc_next_day, od_next_day, .func (PySem.W.fnOf "next_day" "next_day" (defArgs s_next_day) (defBody s_next_day) (defScope s_next_day) .none kV_next_day dc_next_day pm_next_day an_next_day cd_next_day ct_next_day), sl_next_day⟩)
    (c_next_day : PySem.W.codeIn K cd_next_day "next_day" = true) (k_next_day : PySem.W.keepIn K (.ref f_next_day) = true)
    (a_gaps : PySem.W.nsIn K mainGlobals "gaps" = some (some (.ref f_gaps)))
    (l_gaps : K.lookup f_gaps = some ⟨oc_gaps, od_gaps, .func (PySem.W.fnOf "gaps" "gaps" (defArgs s_gaps) (defBody s_gaps) (defScope s_gaps) .none kV_gaps dc_gaps pm_gaps an_gaps cd_gaps ct_gaps), sl_gaps⟩)
    (c_gaps : PySem.W.codeIn K cd_gaps "gaps" = true) (k_gaps : PySem.W.keepIn K (.ref f_gaps) = true)
    (a__law_dl_sack : PySem.W.nsIn K mainGlobals "_law_dl_sack" = some (some (.ref f__law_dl_sack)))
    (l__law_dl_sack : K.lookup f__law_dl_sack = some ⟨oc__law_dl_sack, od__law_dl_sack, .func (PySem.W.fnOf "_law_dl_sack" "_law_dl_sack" (defArgs s__law_dl_sack) (defBody s__law_dl_sack) (defScope s__law_dl_sack) .none kV__law_dl_sack dc__law_dl_sack pm__law_dl_sack an__law_dl_sack cd__law_dl_sack ct__law_dl_sack), sl__law_dl_sack⟩)
    (c__law_dl_sack : PySem.W.codeIn K cd__law_dl_sack "_law_dl_sack" = true) (k__law_dl_sack : PySem.W.keepIn K (.ref f__law_dl_sack) = true)
    (a__law_dl_pick : PySem.W.nsIn K mainGlobals "_law_dl_pick" = some (some (.ref f__law_dl_pick)))
    (l__law_dl_pick : K.lookup f__law_dl_pick = some ⟨oc__law_dl_pick, od__law_dl_pick, .func (PySem.W.fnOf "_law_dl_pick" "_law_dl_pick" (defArgs s__law_dl_pick) (defBody s__law_dl_pick) (defScope s__law_dl_pick) .none kV__law_dl_pick dc__law_dl_pick pm__law_dl_pick an__law_dl_pick cd__law_dl_pick ct__law_dl_pick), sl__law_dl_pick⟩)
    (c__law_dl_pick : PySem.W.codeIn K cd__law_dl_pick "_law_dl_pick" = true) (k__law_dl_pick : PySem.W.keepIn K (.ref f__law_dl_pick) = true)
    (a__law_dl_copy : PySem.W.nsIn K mainGlobals "_law_dl_copy" = some (some (.ref f__law_dl_copy)))
    (l__law_dl_copy : K.lookup f__law_dl_copy = some ⟨oc__law_dl_copy, od__law_dl_copy, .func (PySem.W.fnOf "_law_dl_copy" "_law_dl_copy" (defArgs s__law_dl_copy) (defBody s__law_dl_copy) (defScope s__law_dl_copy) .none kV__law_dl_copy dc__law_dl_copy pm__law_dl_copy an__law_dl_copy cd__law_dl_copy ct__law_dl_copy), sl__law_dl_copy⟩)
    (c__law_dl_copy : PySem.W.codeIn K cd__law_dl_copy "_law_dl_copy" = true) (k__law_dl_copy : PySem.W.keepIn K (.ref f__law_dl_copy) = true)
    (a__law_dl_ranks : PySem.W.nsIn K mainGlobals "_law_dl_ranks" = some (some (.ref f__law_dl_ranks)))
    (l__law_dl_ranks : K.lookup f__law_dl_ranks = some ⟨oc__law_dl_ranks, od__law_dl_ranks, .func (PySem.W.fnOf "_law_dl_ranks" "_law_dl_ranks" (defArgs s__law_dl_ranks) (defBody s__law_dl_ranks) (defScope s__law_dl_ranks) .none kV__law_dl_ranks dc__law_dl_ranks pm__law_dl_ranks an__law_dl_ranks cd__law_dl_ranks ct__law_dl_ranks), sl__law_dl_ranks⟩)
    (c__law_dl_ranks : PySem.W.codeIn K cd__law_dl_ranks "_law_dl_ranks" = true) (k__law_dl_ranks : PySem.W.keepIn K (.ref f__law_dl_ranks) = true)
    (a__law_dl_same : PySem.W.nsIn K mainGlobals "_law_dl_same" = some (some (.ref f__law_dl_same)))
    (l__law_dl_same : K.lookup f__law_dl_same = some ⟨oc__law_dl_same, od__law_dl_same, .func (PySem.W.fnOf "_law_dl_same" "_law_dl_same" (defArgs s__law_dl_same) (defBody s__law_dl_same) (defScope s__law_dl_same) .none kV__law_dl_same dc__law_dl_same pm__law_dl_same an__law_dl_same cd__law_dl_same ct__law_dl_same), sl__law_dl_same⟩)
    (c__law_dl_same : PySem.W.codeIn K cd__law_dl_same "_law_dl_same" = true) (k__law_dl_same : PySem.W.keepIn K (.ref f__law_dl_same) = true)
    (a__law_dl_length : PySem.W.nsIn K mainGlobals "_law_dl_length" = some (some (.ref f__law_dl_length)))
    (l__law_dl_length : K.lookup f__law_dl_length = some ⟨oc__law_dl_length, od__law_dl_length, .func (PySem.W.fnOf "_law_dl_length" "_law_dl_length" (defArgs s__law_dl_length) (defBody s__law_dl_length) (defScope s__law_dl_length) .none kV__law_dl_length dc__law_dl_length pm__law_dl_length an__law_dl_length cd__law_dl_length ct__law_dl_length), sl__law_dl_length⟩)
    (c__law_dl_length : PySem.W.codeIn K cd__law_dl_length "_law_dl_length" = true) (k__law_dl_length : PySem.W.keepIn K (.ref f__law_dl_length) = true)
    (a__law_dl_set : PySem.W.nsIn K mainGlobals "_law_dl_set" = some (some (.ref f__law_dl_set)))
    (l__law_dl_set : K.lookup f__law_dl_set = some ⟨oc__law_dl_set, od__law_dl_set, .func (PySem.W.fnOf "_law_dl_set" "_law_dl_set" (defArgs s__law_dl_set) (defBody s__law_dl_set) (defScope s__law_dl_set) .none kV__law_dl_set dc__law_dl_set pm__law_dl_set an__law_dl_set cd__law_dl_set ct__law_dl_set), sl__law_dl_set⟩)
    (c__law_dl_set : PySem.W.codeIn K cd__law_dl_set "_law_dl_set" = true) (k__law_dl_set : PySem.W.keepIn K (.ref f__law_dl_set) = true)
    (a__law_dl_has : PySem.W.nsIn K mainGlobals "_law_dl_has" = some (some (.ref f__law_dl_has)))
    (l__law_dl_has : K.lookup f__law_dl_has = some ⟨oc__law_dl_has, od__law_dl_has, .func (PySem.W.fnOf "_law_dl_has" "_law_dl_has" (defArgs s__law_dl_has) (defBody s__law_dl_has) (defScope s__law_dl_has) .none kV__law_dl_has dc__law_dl_has pm__law_dl_has an__law_dl_has cd__law_dl_has ct__law_dl_has), sl__law_dl_has⟩)
    (c__law_dl_has : PySem.W.codeIn K cd__law_dl_has "_law_dl_has" = true) (k__law_dl_has : PySem.W.keepIn K (.ref f__law_dl_has) = true)
    (a__law_dl_set_wide : PySem.W.nsIn K mainGlobals "_law_dl_set_wide" = some (some (.ref f__law_dl_set_wide)))
    (l__law_dl_set_wide : K.lookup f__law_dl_set_wide = some ⟨oc__law_dl_set_wide, od__law_dl_set_wide, .func (PySem.W.fnOf "_law_dl_set_wide" "_law_dl_set_wide" (defArgs s__law_dl_set_wide) (defBody s__law_dl_set_wide) (defScope s__law_dl_set_wide) .none kV__law_dl_set_wide dc__law_dl_set_wide pm__law_dl_set_wide an__law_dl_set_wide cd__law_dl_set_wide ct__law_dl_set_wide), sl__law_dl_set_wide⟩)
    (c__law_dl_set_wide : PySem.W.codeIn K cd__law_dl_set_wide "_law_dl_set_wide" = true) (k__law_dl_set_wide : PySem.W.keepIn K (.ref f__law_dl_set_wide) = true)
    (a__law_dl_comes : PySem.W.nsIn K mainGlobals "_law_dl_comes" = some (some (.ref f__law_dl_comes)))
    (l__law_dl_comes : K.lookup f__law_dl_comes = some ⟨oc__law_dl_comes, od__law_dl_comes, .func (PySem.W.fnOf "_law_dl_comes" "_law_dl_comes" (defArgs s__law_dl_comes) (defBody s__law_dl_comes) (defScope s__law_dl_comes) .none kV__law_dl_comes dc__law_dl_comes pm__law_dl_comes an__law_dl_comes cd__law_dl_comes ct__law_dl_comes), sl__law_dl_comes⟩)
    (c__law_dl_comes : PySem.W.codeIn K cd__law_dl_comes "_law_dl_comes" = true) (k__law_dl_comes : PySem.W.keepIn K (.ref f__law_dl_comes) = true)
    (a__law_dl_least : PySem.W.nsIn K mainGlobals "_law_dl_least" = some (some (.ref f__law_dl_least)))
    (l__law_dl_least : K.lookup f__law_dl_least = some ⟨oc__law_dl_least, od__law_dl_least, .func (PySem.W.fnOf "_law_dl_least" "_law_dl_least" (defArgs s__law_dl_least) (defBody s__law_dl_least) (defScope s__law_dl_least) .none kV__law_dl_least dc__law_dl_least pm__law_dl_least an__law_dl_least cd__law_dl_least ct__law_dl_least), sl__law_dl_least⟩)
    (c__law_dl_least : PySem.W.codeIn K cd__law_dl_least "_law_dl_least" = true) (k__law_dl_least : PySem.W.keepIn K (.ref f__law_dl_least) = true)
    (a__law_dl_set_of : PySem.W.nsIn K mainGlobals "_law_dl_set_of" = some (some (.ref f__law_dl_set_of)))
    (l__law_dl_set_of : K.lookup f__law_dl_set_of = some ⟨oc__law_dl_set_of, od__law_dl_set_of, .func (PySem.W.fnOf "_law_dl_set_of" "_law_dl_set_of" (defArgs s__law_dl_set_of) (defBody s__law_dl_set_of) (defScope s__law_dl_set_of) .none kV__law_dl_set_of dc__law_dl_set_of pm__law_dl_set_of an__law_dl_set_of cd__law_dl_set_of ct__law_dl_set_of), sl__law_dl_set_of⟩)
    (c__law_dl_set_of : PySem.W.codeIn K cd__law_dl_set_of "_law_dl_set_of" = true) (k__law_dl_set_of : PySem.W.keepIn K (.ref f__law_dl_set_of) = true)
    (a__law_dl_set_least : PySem.W.nsIn K mainGlobals "_law_dl_set_least" = some (some (.ref f__law_dl_set_least)))
    (l__law_dl_set_least : K.lookup f__law_dl_set_least = some ⟨oc__law_dl_set_least, od__law_dl_set_least, .func (PySem.W.fnOf "_law_dl_set_least" "_law_dl_set_least" (defArgs s__law_dl_set_least) (defBody s__law_dl_set_least) (defScope s__law_dl_set_least) .none kV__law_dl_set_least dc__law_dl_set_least pm__law_dl_set_least an__law_dl_set_least cd__law_dl_set_least ct__law_dl_set_least), sl__law_dl_set_least⟩)
    (c__law_dl_set_least : PySem.W.codeIn K cd__law_dl_set_least "_law_dl_set_least" = true) (k__law_dl_set_least : PySem.W.keepIn K (.ref f__law_dl_set_least) = true)
    (a__law_dl_days_to : PySem.W.nsIn K mainGlobals "_law_dl_days_to" = some (some (.ref f__law_dl_days_to)))
    (l__law_dl_days_to : K.lookup f__law_dl_days_to = some ⟨oc__law_dl_days_to, od__law_dl_days_to, .func (PySem.W.fnOf "_law_dl_days_to" "_law_dl_days_to" (defArgs s__law_dl_days_to) (defBody s__law_dl_days_to) (defScope s__law_dl_days_to) .none kV__law_dl_days_to dc__law_dl_days_to pm__law_dl_days_to an__law_dl_days_to cd__law_dl_days_to ct__law_dl_days_to), sl__law_dl_days_to⟩)
    (c__law_dl_days_to : PySem.W.codeIn K cd__law_dl_days_to "_law_dl_days_to" = true) (k__law_dl_days_to : PySem.W.keepIn K (.ref f__law_dl_days_to) = true)
    (a__law_dl_ahead : PySem.W.nsIn K mainGlobals "_law_dl_ahead" = some (some (.ref f__law_dl_ahead)))
    (l__law_dl_ahead : K.lookup f__law_dl_ahead = some ⟨oc__law_dl_ahead, od__law_dl_ahead, .func (PySem.W.fnOf "_law_dl_ahead" "_law_dl_ahead" (defArgs s__law_dl_ahead) (defBody s__law_dl_ahead) (defScope s__law_dl_ahead) .none kV__law_dl_ahead dc__law_dl_ahead pm__law_dl_ahead an__law_dl_ahead cd__law_dl_ahead ct__law_dl_ahead), sl__law_dl_ahead⟩)
    (c__law_dl_ahead : PySem.W.codeIn K cd__law_dl_ahead "_law_dl_ahead" = true) (k__law_dl_ahead : PySem.W.keepIn K (.ref f__law_dl_ahead) = true)
    (a__law_dl_asked_right : PySem.W.nsIn K mainGlobals "_law_dl_asked_right" = some (some (.ref f__law_dl_asked_right)))
    (l__law_dl_asked_right : K.lookup f__law_dl_asked_right = some ⟨oc__law_dl_asked_right, od__law_dl_asked_right, .func (PySem.W.fnOf "_law_dl_asked_right" "_law_dl_asked_right" (defArgs s__law_dl_asked_right) (defBody s__law_dl_asked_right) (defScope s__law_dl_asked_right) .none kV__law_dl_asked_right dc__law_dl_asked_right pm__law_dl_asked_right an__law_dl_asked_right cd__law_dl_asked_right ct__law_dl_asked_right), sl__law_dl_asked_right⟩)
    (c__law_dl_asked_right : PySem.W.codeIn K cd__law_dl_asked_right "_law_dl_asked_right" = true) (k__law_dl_asked_right : PySem.W.keepIn K (.ref f__law_dl_asked_right) = true)
    (a__law_dl_gaps_right : PySem.W.nsIn K mainGlobals "_law_dl_gaps_right" = some (some (.ref f__law_dl_gaps_right)))
    (l__law_dl_gaps_right : K.lookup f__law_dl_gaps_right = some ⟨oc__law_dl_gaps_right, od__law_dl_gaps_right, .func (PySem.W.fnOf "_law_dl_gaps_right" "_law_dl_gaps_right" (defArgs s__law_dl_gaps_right) (defBody s__law_dl_gaps_right) (defScope s__law_dl_gaps_right) .none kV__law_dl_gaps_right dc__law_dl_gaps_right pm__law_dl_gaps_right an__law_dl_gaps_right cd__law_dl_gaps_right ct__law_dl_gaps_right), sl__law_dl_gaps_right⟩)
    (c__law_dl_gaps_right : PySem.W.codeIn K cd__law_dl_gaps_right "_law_dl_gaps_right" = true) (k__law_dl_gaps_right : PySem.W.keepIn K (.ref f__law_dl_gaps_right) = true)
    (a__law_dl_made_right : PySem.W.nsIn K mainGlobals "_law_dl_made_right" = some (some (.ref f__law_dl_made_right)))
    (l__law_dl_made_right : K.lookup f__law_dl_made_right = some ⟨oc__law_dl_made_right, od__law_dl_made_right, .func (PySem.W.fnOf "_law_dl_made_right" "_law_dl_made_right" (defArgs s__law_dl_made_right) (defBody s__law_dl_made_right) (defScope s__law_dl_made_right) .none kV__law_dl_made_right dc__law_dl_made_right pm__law_dl_made_right an__law_dl_made_right cd__law_dl_made_right ct__law_dl_made_right), sl__law_dl_made_right⟩)
    (c__law_dl_made_right : PySem.W.codeIn K cd__law_dl_made_right "_law_dl_made_right" = true) (k__law_dl_made_right : PySem.W.keepIn K (.ref f__law_dl_made_right) = true)
    (a__law_right : PySem.W.nsIn K mainGlobals "_law_right" = some (some (.ref f__law_right)))
    (l__law_right : K.lookup f__law_right = some ⟨oc__law_right, od__law_right, .func (PySem.W.fnOf "_law_right" "_law_right" (defArgs s__law_right) (defBody s__law_right) (defScope s__law_right) .none kV__law_right dc__law_right pm__law_right an__law_right cd__law_right ct__law_right), sl__law_right⟩)
    (c__law_right : PySem.W.codeIn K cd__law_right "_law_right" = true) (k__law_right : PySem.W.keepIn K (.ref f__law_right) = true)
    (a_law : PySem.W.nsIn K mainGlobals "law" = some (some (.ref f_law)))
    (l_law : K.lookup f_law = some ⟨oc_law, od_law, .func (PySem.W.fnOf "law" "law" (defArgs s_law) (defBody s_law) (defScope s_law) .none kV_law dc_law pm_law an_law cd_law ct_law), sl_law⟩)
    (c_law : PySem.W.codeIn K cd_law "law" = true) (k_law : PySem.W.keepIn K (.ref f_law) = true)
    : ∃ fd : FuncData, (∀ (s : Shared) (v : Value), BindsTo s fd ⟨[v], []⟩ [("_law_script", v)]) ∧ ∀ base : Heap, K.In base → base.Ns mainGlobals mg → FnG P w K mg base 11 fa fd ["_law_script"] (spLaw K) := by
  have e0 := hfa.symm.trans (PySem.W.mg_of X G a_law)
  cases e0
  have F_ascends := fun_mk (st := s_ascends) l_ascends c_ascends k_ascends
  have b_ascends := F_ascends.binds (ps := ["numbers"]) fun _ _ _ _ _ _ us hl => match us, hl with | [_], _ => rfl
  have F_is_set := fun_mk (st := s_is_set) l_is_set c_is_set k_is_set
  have b_is_set := F_is_set.binds (ps := ["told"]) fun _ _ _ _ _ _ us hl => match us, hl with | [_], _ => rfl
  have F_check_sets := fun_mk (st := s_check_sets) l_check_sets c_check_sets k_check_sets
  have b_check_sets := F_check_sets.binds (ps := ["sets"]) fun _ _ _ _ _ _ us hl => match us, hl with | [_], _ => rfl
  have F_check_numbers := fun_mk (st := s_check_numbers) l_check_numbers c_check_numbers k_check_numbers
  have b_check_numbers := F_check_numbers.binds (ps := ["numbers"]) fun _ _ _ _ _ _ us hl => match us, hl with | [_], _ => rfl
  have F_repeats := fun_mk (st := s_repeats) l_repeats c_repeats k_repeats
  have b_repeats := F_repeats.binds (ps := ["turn", "rise", "parts"]) fun _ _ _ _ _ _ us hl => match us, hl with | [_, _, _], _ => rfl
  have F_shortest_turn := fun_mk (st := s_shortest_turn) l_shortest_turn c_shortest_turn k_shortest_turn
  have b_shortest_turn := F_shortest_turn.binds (ps := ["turn", "rise"]) fun _ _ _ _ _ _ us hl => match us, hl with | [_, _], _ => rfl
  have F_shortened := fun_mk (st := s_shortened) l_shortened c_shortened k_shortened
  have b_shortened := F_shortened.binds (ps := ["ladder"]) fun _ _ _ _ _ _ us hl => match us, hl with | [_], _ => rfl
  have F_ended := fun_mk (st := s_ended) l_ended c_ended k_ended
  have b_ended := F_ended.binds (ps := ["days"]) fun _ _ _ _ _ _ us hl => match us, hl with | [_], _ => rfl
  have F_narrowed := fun_mk (st := s_narrowed) l_narrowed c_narrowed k_narrowed
  have b_narrowed := F_narrowed.binds (ps := ["told"]) fun _ _ _ _ _ _ us hl => match us, hl with | [_], _ => rfl
  have F_place_of := fun_mk (st := s_place_of) l_place_of c_place_of k_place_of
  have b_place_of := F_place_of.binds (ps := ["numbers", "number"]) fun _ _ _ _ _ _ us hl => match us, hl with | [_, _], _ => rfl
  have F_many_before := fun_mk (st := s_many_before) l_many_before c_many_before k_many_before
  have b_many_before := F_many_before.binds (ps := ["told", "day"]) fun _ _ _ _ _ _ us hl => match us, hl with | [_, _], _ => rfl
  have F_nth_day := fun_mk (st := s_nth_day) l_nth_day c_nth_day k_nth_day
  have b_nth_day := F_nth_day.binds (ps := ["told", "number"]) fun _ _ _ _ _ _ us hl => match us, hl with | [_, _], _ => rfl
  have F_day_from := fun_mk (st := s_day_from) l_day_from c_day_from k_day_from
  have b_day_from := F_day_from.binds (ps := ["told", "day"]) fun _ _ _ _ _ _ us hl => match us, hl with | [_, _], _ => rfl
  have F_holds := fun_mk (st := s_holds) l_holds c_holds k_holds
  have b_holds := F_holds.binds (ps := ["told", "day"]) fun _ _ _ _ _ _ us hl => match us, hl with | [_, _], _ => rfl
  have F_has := fun_mk (st := s_has) l_has c_has k_has
  have b_has := F_has.binds (ps := ["told", "day"]) fun _ _ _ _ _ _ us hl => match us, hl with | [_, _], _ => rfl
  have F_least_set := fun_mk (st := s_least_set) l_least_set c_least_set k_least_set
  have b_least_set := F_least_set.binds (ps := ["told"]) fun _ _ _ _ _ _ us hl => match us, hl with | [_], _ => rfl
  have F_set_of := fun_mk (st := s_set_of) l_set_of c_set_of k_set_of
  have b_set_of := F_set_of.binds (ps := ["days"]) fun _ _ _ _ _ _ us hl => match us, hl with | [_], _ => rfl
  have F_every := fun_mk (st := s_every) l_every c_every k_every
  have b_every := F_every.binds (ps := ["length", "first"]) fun _ _ _ _ _ _ us hl => match us, hl with | [_, _], _ => rfl
  have F_next_day := fun_mk (st := s_next_day) l_next_day c_next_day k_next_day
  have b_next_day := F_next_day.binds (ps := ["told", "day"]) fun _ _ _ _ _ _ us hl => match us, hl with | [_, _], _ => rfl
  have F_gaps := fun_mk (st := s_gaps) l_gaps c_gaps k_gaps
  have b_gaps := F_gaps.binds (ps := ["told"]) fun _ _ _ _ _ _ us hl => match us, hl with | [_], _ => rfl
  have F__law_dl_sack := fun_mk (st := s__law_dl_sack) l__law_dl_sack c__law_dl_sack k__law_dl_sack
  have b__law_dl_sack := F__law_dl_sack.binds (ps := ["_law_script", "_law_rank"]) fun _ _ _ _ _ _ us hl => match us, hl with | [_, _], _ => rfl
  have F__law_dl_pick := fun_mk (st := s__law_dl_pick) l__law_dl_pick c__law_dl_pick k__law_dl_pick
  have b__law_dl_pick := F__law_dl_pick.binds (ps := ["_law_sack", "_law_many"]) fun _ _ _ _ _ _ us hl => match us, hl with | [_, _], _ => rfl
  have F__law_dl_copy := fun_mk (st := s__law_dl_copy) l__law_dl_copy c__law_dl_copy k__law_dl_copy
  have b__law_dl_copy := F__law_dl_copy.binds (ps := ["_law_thing"]) fun _ _ _ _ _ _ us hl => match us, hl with | [_], _ => rfl
  have F__law_dl_ranks := fun_mk (st := s__law_dl_ranks) l__law_dl_ranks c__law_dl_ranks k__law_dl_ranks
  have b__law_dl_ranks := F__law_dl_ranks.binds (ps := ["_law_thing", "_law_ranks"]) fun _ _ _ _ _ _ us hl => match us, hl with | [_, _], _ => rfl
  have F__law_dl_same := fun_mk (st := s__law_dl_same) l__law_dl_same c__law_dl_same k__law_dl_same
  have b__law_dl_same := F__law_dl_same.binds (ps := ["_law_answer", "_law_due"]) fun _ _ _ _ _ _ us hl => match us, hl with | [_, _], _ => rfl
  have F__law_dl_length := fun_mk (st := s__law_dl_length) l__law_dl_length c__law_dl_length k__law_dl_length
  have b__law_dl_length := F__law_dl_length.binds (ps := ["_law_sack", "_law_most"]) fun _ _ _ _ _ _ us hl => match us, hl with | [_, _], _ => rfl
  have F__law_dl_set := fun_mk (st := s__law_dl_set) l__law_dl_set c__law_dl_set k__law_dl_set
  have b__law_dl_set := F__law_dl_set.binds (ps := ["_law_sack", "_law_most"]) fun _ _ _ _ _ _ us hl => match us, hl with | [_, _], _ => rfl
  have F__law_dl_has := fun_mk (st := s__law_dl_has) l__law_dl_has c__law_dl_has k__law_dl_has
  have b__law_dl_has := F__law_dl_has.binds (ps := ["_law_our_told", "_law_our_day"]) fun _ _ _ _ _ _ us hl => match us, hl with | [_, _], _ => rfl
  have F__law_dl_set_wide := fun_mk (st := s__law_dl_set_wide) l__law_dl_set_wide c__law_dl_set_wide k__law_dl_set_wide
  have b__law_dl_set_wide := F__law_dl_set_wide.binds (ps := ["_law_sack", "_law_our_told", "_law_top"]) fun _ _ _ _ _ _ us hl => match us, hl with | [_, _, _], _ => rfl
  have F__law_dl_comes := fun_mk (st := s__law_dl_comes) l__law_dl_comes c__law_dl_comes k__law_dl_comes
  have b__law_dl_comes := F__law_dl_comes.binds (ps := ["_law_turn", "_law_rise", "_law_part"]) fun _ _ _ _ _ _ us hl => match us, hl with | [_, _, _], _ => rfl
  have F__law_dl_least := fun_mk (st := s__law_dl_least) l__law_dl_least c__law_dl_least k__law_dl_least
  have b__law_dl_least := F__law_dl_least.binds (ps := ["_law_ladder"]) fun _ _ _ _ _ _ us hl => match us, hl with | [_], _ => rfl
  have F__law_dl_set_of := fun_mk (st := s__law_dl_set_of) l__law_dl_set_of c__law_dl_set_of k__law_dl_set_of
  have b__law_dl_set_of := F__law_dl_set_of.binds (ps := ["_law_bits", "_law_our_first"]) fun _ _ _ _ _ _ us hl => match us, hl with | [_, _], _ => rfl
  have F__law_dl_set_least := fun_mk (st := s__law_dl_set_least) l__law_dl_set_least c__law_dl_set_least k__law_dl_set_least
  have b__law_dl_set_least := F__law_dl_set_least.binds (ps := ["_law_our_told"]) fun _ _ _ _ _ _ us hl => match us, hl with | [_], _ => rfl
  have F__law_dl_days_to := fun_mk (st := s__law_dl_days_to) l__law_dl_days_to c__law_dl_days_to k__law_dl_days_to
  have b__law_dl_days_to := F__law_dl_days_to.binds (ps := ["_law_our_told", "_law_many"]) fun _ _ _ _ _ _ us hl => match us, hl with | [_, _], _ => rfl
  have F__law_dl_ahead := fun_mk (st := s__law_dl_ahead) l__law_dl_ahead c__law_dl_ahead k__law_dl_ahead
  have b__law_dl_ahead := F__law_dl_ahead.binds (ps := ["_law_our_told", "_law_our_day"]) fun _ _ _ _ _ _ us hl => match us, hl with | [_, _], _ => rfl
  have F__law_dl_asked_right := fun_mk (st := s__law_dl_asked_right) l__law_dl_asked_right c__law_dl_asked_right k__law_dl_asked_right
  have b__law_dl_asked_right := F__law_dl_asked_right.binds (ps := ["_law_sack", "_law_our_told", "_law_wide"]) fun _ _ _ _ _ _ us hl => match us, hl with | [_, _, _], _ => rfl
  have F__law_dl_gaps_right := fun_mk (st := s__law_dl_gaps_right) l__law_dl_gaps_right c__law_dl_gaps_right k__law_dl_gaps_right
  have b__law_dl_gaps_right := F__law_dl_gaps_right.binds (ps := ["_law_our_told", "_law_wide"]) fun _ _ _ _ _ _ us hl => match us, hl with | [_, _], _ => rfl
  have F__law_dl_made_right := fun_mk (st := s__law_dl_made_right) l__law_dl_made_right c__law_dl_made_right k__law_dl_made_right
  have b__law_dl_made_right := F__law_dl_made_right.binds (ps := ["_law_sack"]) fun _ _ _ _ _ _ us hl => match us, hl with | [_], _ => rfl
  have F__law_right := fun_mk (st := s__law_right) l__law_right c__law_right k__law_right
  have b__law_right := F__law_right.binds (ps := ["_law_sack"]) fun _ _ _ _ _ _ us hl => match us, hl with | [_], _ => rfl
  have F_law := fun_mk (st := s_law) l_law c_law k_law
  have b_law := F_law.binds (ps := ["_law_script"]) fun _ _ _ _ _ _ us hl => match us, hl with | [_], _ => rfl
  let T : Tx K mg := {
    m_all := PySem.W.mg_none_of X G z_all
    m_zip := PySem.W.mg_none_of X G z_zip
    m_len := PySem.W.mg_none_of X G z_len
    m_list := PySem.W.mg_none_of X G z_list
    m_max := PySem.W.mg_none_of X G z_max
    m_divmod := PySem.W.mg_none_of X G z_divmod
    m_sorted := PySem.W.mg_none_of X G z_sorted
    m_set := PySem.W.mg_none_of X G z_set
    m_min := PySem.W.mg_none_of X G z_min
    m_abs := PySem.W.mg_none_of X G z_abs
    m_int := PySem.W.mg_none_of X G z_int
    m_isinstance := PySem.W.mg_none_of X G z_isinstance
    m_tuple := PySem.W.mg_none_of X G z_tuple
    m_repr := PySem.W.mg_none_of X G z_repr
    m_range := PySem.W.mg_none_of X G z_range
    m_enumerate := PySem.W.mg_none_of X G z_enumerate
    f_ascends := f_ascends, d_ascends := _, F_ascends := F_ascends, g_ascends := PySem.W.mg_of X G a_ascends, b_ascends := b_ascends
    f_is_set := f_is_set, d_is_set := _, F_is_set := F_is_set, g_is_set := PySem.W.mg_of X G a_is_set, b_is_set := b_is_set
    f_check_sets := f_check_sets, d_check_sets := _, F_check_sets := F_check_sets, g_check_sets := PySem.W.mg_of X G a_check_sets, b_check_sets := b_check_sets
    f_check_numbers := f_check_numbers, d_check_numbers := _, F_check_numbers := F_check_numbers, g_check_numbers := PySem.W.mg_of X G a_check_numbers, b_check_numbers := b_check_numbers
    f_repeats := f_repeats, d_repeats := _, F_repeats := F_repeats, g_repeats := PySem.W.mg_of X G a_repeats, b_repeats := b_repeats
    f_shortest_turn := f_shortest_turn, d_shortest_turn := _, F_shortest_turn := F_shortest_turn, g_shortest_turn := PySem.W.mg_of X G a_shortest_turn, b_shortest_turn := b_shortest_turn
    f_shortened := f_shortened, d_shortened := _, F_shortened := F_shortened, g_shortened := PySem.W.mg_of X G a_shortened, b_shortened := b_shortened
    f_ended := f_ended, d_ended := _, F_ended := F_ended, g_ended := PySem.W.mg_of X G a_ended, b_ended := b_ended
    f_narrowed := f_narrowed, d_narrowed := _, F_narrowed := F_narrowed, g_narrowed := PySem.W.mg_of X G a_narrowed, b_narrowed := b_narrowed
    f_place_of := f_place_of, d_place_of := _, F_place_of := F_place_of, g_place_of := PySem.W.mg_of X G a_place_of, b_place_of := b_place_of
    f_many_before := f_many_before, d_many_before := _, F_many_before := F_many_before, g_many_before := PySem.W.mg_of X G a_many_before, b_many_before := b_many_before
    f_nth_day := f_nth_day, d_nth_day := _, F_nth_day := F_nth_day, g_nth_day := PySem.W.mg_of X G a_nth_day, b_nth_day := b_nth_day
    f_day_from := f_day_from, d_day_from := _, F_day_from := F_day_from, g_day_from := PySem.W.mg_of X G a_day_from, b_day_from := b_day_from
    f_holds := f_holds, d_holds := _, F_holds := F_holds, g_holds := PySem.W.mg_of X G a_holds, b_holds := b_holds
    f_has := f_has, d_has := _, F_has := F_has, g_has := PySem.W.mg_of X G a_has, b_has := b_has
    f_least_set := f_least_set, d_least_set := _, F_least_set := F_least_set, g_least_set := PySem.W.mg_of X G a_least_set, b_least_set := b_least_set
    f_set_of := f_set_of, d_set_of := _, F_set_of := F_set_of, g_set_of := PySem.W.mg_of X G a_set_of, b_set_of := b_set_of
    f_every := f_every, d_every := _, F_every := F_every, g_every := PySem.W.mg_of X G a_every, b_every := b_every
    f_next_day := f_next_day, d_next_day := _, F_next_day := F_next_day, g_next_day := PySem.W.mg_of X G a_next_day, b_next_day := b_next_day
    f_gaps := f_gaps, d_gaps := _, F_gaps := F_gaps, g_gaps := PySem.W.mg_of X G a_gaps, b_gaps := b_gaps
    f__law_dl_sack := f__law_dl_sack, d__law_dl_sack := _, F__law_dl_sack := F__law_dl_sack, g__law_dl_sack := PySem.W.mg_of X G a__law_dl_sack, b__law_dl_sack := b__law_dl_sack
    f__law_dl_pick := f__law_dl_pick, d__law_dl_pick := _, F__law_dl_pick := F__law_dl_pick, g__law_dl_pick := PySem.W.mg_of X G a__law_dl_pick, b__law_dl_pick := b__law_dl_pick
    f__law_dl_copy := f__law_dl_copy, d__law_dl_copy := _, F__law_dl_copy := F__law_dl_copy, g__law_dl_copy := PySem.W.mg_of X G a__law_dl_copy, b__law_dl_copy := b__law_dl_copy
    f__law_dl_ranks := f__law_dl_ranks, d__law_dl_ranks := _, F__law_dl_ranks := F__law_dl_ranks, g__law_dl_ranks := PySem.W.mg_of X G a__law_dl_ranks, b__law_dl_ranks := b__law_dl_ranks
    f__law_dl_same := f__law_dl_same, d__law_dl_same := _, F__law_dl_same := F__law_dl_same, g__law_dl_same := PySem.W.mg_of X G a__law_dl_same, b__law_dl_same := b__law_dl_same
    f__law_dl_length := f__law_dl_length, d__law_dl_length := _, F__law_dl_length := F__law_dl_length, g__law_dl_length := PySem.W.mg_of X G a__law_dl_length, b__law_dl_length := b__law_dl_length
    f__law_dl_set := f__law_dl_set, d__law_dl_set := _, F__law_dl_set := F__law_dl_set, g__law_dl_set := PySem.W.mg_of X G a__law_dl_set, b__law_dl_set := b__law_dl_set
    f__law_dl_has := f__law_dl_has, d__law_dl_has := _, F__law_dl_has := F__law_dl_has, g__law_dl_has := PySem.W.mg_of X G a__law_dl_has, b__law_dl_has := b__law_dl_has
    f__law_dl_set_wide := f__law_dl_set_wide, d__law_dl_set_wide := _, F__law_dl_set_wide := F__law_dl_set_wide, g__law_dl_set_wide := PySem.W.mg_of X G a__law_dl_set_wide, b__law_dl_set_wide := b__law_dl_set_wide
    f__law_dl_comes := f__law_dl_comes, d__law_dl_comes := _, F__law_dl_comes := F__law_dl_comes, g__law_dl_comes := PySem.W.mg_of X G a__law_dl_comes, b__law_dl_comes := b__law_dl_comes
    f__law_dl_least := f__law_dl_least, d__law_dl_least := _, F__law_dl_least := F__law_dl_least, g__law_dl_least := PySem.W.mg_of X G a__law_dl_least, b__law_dl_least := b__law_dl_least
    f__law_dl_set_of := f__law_dl_set_of, d__law_dl_set_of := _, F__law_dl_set_of := F__law_dl_set_of, g__law_dl_set_of := PySem.W.mg_of X G a__law_dl_set_of, b__law_dl_set_of := b__law_dl_set_of
    f__law_dl_set_least := f__law_dl_set_least, d__law_dl_set_least := _, F__law_dl_set_least := F__law_dl_set_least, g__law_dl_set_least := PySem.W.mg_of X G a__law_dl_set_least, b__law_dl_set_least := b__law_dl_set_least
    f__law_dl_days_to := f__law_dl_days_to, d__law_dl_days_to := _, F__law_dl_days_to := F__law_dl_days_to, g__law_dl_days_to := PySem.W.mg_of X G a__law_dl_days_to, b__law_dl_days_to := b__law_dl_days_to
    f__law_dl_ahead := f__law_dl_ahead, d__law_dl_ahead := _, F__law_dl_ahead := F__law_dl_ahead, g__law_dl_ahead := PySem.W.mg_of X G a__law_dl_ahead, b__law_dl_ahead := b__law_dl_ahead
    f__law_dl_asked_right := f__law_dl_asked_right, d__law_dl_asked_right := _, F__law_dl_asked_right := F__law_dl_asked_right, g__law_dl_asked_right := PySem.W.mg_of X G a__law_dl_asked_right, b__law_dl_asked_right := b__law_dl_asked_right
    f__law_dl_gaps_right := f__law_dl_gaps_right, d__law_dl_gaps_right := _, F__law_dl_gaps_right := F__law_dl_gaps_right, g__law_dl_gaps_right := PySem.W.mg_of X G a__law_dl_gaps_right, b__law_dl_gaps_right := b__law_dl_gaps_right
    f__law_dl_made_right := f__law_dl_made_right, d__law_dl_made_right := _, F__law_dl_made_right := F__law_dl_made_right, g__law_dl_made_right := PySem.W.mg_of X G a__law_dl_made_right, b__law_dl_made_right := b__law_dl_made_right
    f__law_right := f__law_right, d__law_right := _, F__law_right := F__law_right, g__law_right := PySem.W.mg_of X G a__law_right, b__law_right := b__law_right
    f_law := _, d_law := _, F_law := F_law, g_law := PySem.W.mg_of X G a_law, b_law := b_law
    kw2r_every := KBinds.mk (fun s us ws _ hl => match us, ws, hl with | [], [_, _], _ => .of_eq rfl) kw2r_rel
    kw1_gaps := KBinds.mk (fun s us ws _ hl => match us, ws, hl with | [], [_], _ => .of_eq rfl) kw1_rel
    kw2r_has := KBinds.mk (fun s us ws _ hl => match us, ws, hl with | [], [_, _], _ => .of_eq rfl) kw2r_rel
    kw1_least_set := KBinds.mk (fun s us ws _ hl => match us, ws, hl with | [], [_], _ => .of_eq rfl) kw1_rel
    kw2r_next_day := KBinds.mk (fun s us ws _ hl => match us, ws, hl with | [], [_, _], _ => .of_eq rfl) kw2r_rel
    kw1_set_of := KBinds.mk (fun s us ws _ hl => match us, ws, hl with | [], [_], _ => .of_eq rfl) kw1_rel
  }
  exact ⟨_, fun s v => .of_eq rfl, fun base _ _ => ok_law T hm⟩
end K01
open PySem PySem.W PyProof.Rows
set_option maxHeartbeats 0 in
theorem PySem.Challenge.cw_ladderdays_k01_sets_and_their_days_holds : PySem.Challenge.rw_ladderdays_k01_sets_and_their_days.Holds := by
  w_on; o_law; k_head; (case hw => w_witness2)
  k_fill
  refine Ly.walkG (l := PySem.Challenge.rw_ladderdays_k01_sets_and_their_days) (n := 63) (k := 11) (x := "_law_script") (sp := Ly.spLaw) rfl (by decide) rfl ⟨rfl, by decide, by decide⟩ (fun w h Y => PySem.W.kIn_of Y) ?F (fun _ _ a ns hl _ _ hS => ⟨a, ns, rfl, hS, hl, fun _ => rfl⟩)
  case F =>
    intro w mg fa h KX G hmg
    refine' K01.all_mk KX G hmg ?z_all ?z_zip ?z_len ?z_list ?z_max ?z_divmod ?z_sorted ?z_set ?z_min ?z_abs ?z_int ?z_isinstance ?z_tuple ?z_repr ?z_range ?z_enumerate ?a_ascends ?l_ascends ?c_ascends ?k_ascends ?a_is_set ?l_is_set ?c_is_set ?k_is_set ?a_check_sets ?l_check_sets ?c_check_sets ?k_check_sets ?a_check_numbers ?l_check_numbers ?c_check_numbers ?k_check_numbers ?a_repeats ?l_repeats ?c_repeats ?k_repeats ?a_shortest_turn ?l_shortest_turn ?c_shortest_turn ?k_shortest_turn ?a_shortened ?l_shortened ?c_shortened ?k_shortened ?a_ended ?l_ended ?c_ended ?k_ended ?a_narrowed ?l_narrowed ?c_narrowed ?k_narrowed ?a_place_of ?l_place_of ?c_place_of ?k_place_of ?a_many_before ?l_many_before ?c_many_before ?k_many_before ?a_nth_day ?l_nth_day ?c_nth_day ?k_nth_day ?a_day_from ?l_day_from ?c_day_from ?k_day_from ?a_holds ?l_holds ?c_holds ?k_holds ?a_has ?l_has ?c_has ?k_has ?a_least_set ?l_least_set ?c_least_set ?k_least_set ?a_set_of ?l_set_of ?c_set_of ?k_set_of ?a_every ?l_every ?c_every ?k_every ?a_next_day ?l_next_day ?c_next_day ?k_next_day ?a_gaps ?l_gaps ?c_gaps ?k_gaps ?a__law_dl_sack ?l__law_dl_sack ?c__law_dl_sack ?k__law_dl_sack ?a__law_dl_pick ?l__law_dl_pick ?c__law_dl_pick ?k__law_dl_pick ?a__law_dl_copy ?l__law_dl_copy ?c__law_dl_copy ?k__law_dl_copy ?a__law_dl_ranks ?l__law_dl_ranks ?c__law_dl_ranks ?k__law_dl_ranks ?a__law_dl_same ?l__law_dl_same ?c__law_dl_same ?k__law_dl_same ?a__law_dl_length ?l__law_dl_length ?c__law_dl_length ?k__law_dl_length ?a__law_dl_set ?l__law_dl_set ?c__law_dl_set ?k__law_dl_set ?a__law_dl_has ?l__law_dl_has ?c__law_dl_has ?k__law_dl_has ?a__law_dl_set_wide ?l__law_dl_set_wide ?c__law_dl_set_wide ?k__law_dl_set_wide ?a__law_dl_comes ?l__law_dl_comes ?c__law_dl_comes ?k__law_dl_comes ?a__law_dl_least ?l__law_dl_least ?c__law_dl_least ?k__law_dl_least ?a__law_dl_set_of ?l__law_dl_set_of ?c__law_dl_set_of ?k__law_dl_set_of ?a__law_dl_set_least ?l__law_dl_set_least ?c__law_dl_set_least ?k__law_dl_set_least ?a__law_dl_days_to ?l__law_dl_days_to ?c__law_dl_days_to ?k__law_dl_days_to ?a__law_dl_ahead ?l__law_dl_ahead ?c__law_dl_ahead ?k__law_dl_ahead ?a__law_dl_asked_right ?l__law_dl_asked_right ?c__law_dl_asked_right ?k__law_dl_asked_right ?a__law_dl_gaps_right ?l__law_dl_gaps_right ?c__law_dl_gaps_right ?k__law_dl_gaps_right ?a__law_dl_made_right ?l__law_dl_made_right ?c__law_dl_made_right ?k__law_dl_made_right ?a__law_right ?l__law_right ?c__law_right ?k__law_right ?a_law ?l_law ?c_law ?k_law
    (case z_all => k_is)
    (case z_zip => k_is)
    (case z_len => k_is)
    (case z_list => k_is)
    (case z_max => k_is)
    (case z_divmod => k_is)
    (case z_sorted => k_is)
    (case z_set => k_is)
    (case z_min => k_is)
    (case z_abs => k_is)
    (case z_int => k_is)
    (case z_isinstance => k_is)
    (case z_tuple => k_is)
    (case z_repr => k_is)
    (case z_range => k_is)
    (case z_enumerate => k_is)
    (case a_ascends => k_is)
    (case l_ascends => k_is)
    (case c_ascends => k_is)
    (case k_ascends => k_is)
    (case a_is_set => k_is)
    (case l_is_set => k_is)
    (case c_is_set => k_is)
    (case k_is_set => k_is)
    (case a_check_sets => k_is)
    (case l_check_sets => k_is)
    (case c_check_sets => k_is)
    (case k_check_sets => k_is)
    (case a_check_numbers => k_is)
    (case l_check_numbers => k_is)
    (case c_check_numbers => k_is)
    (case k_check_numbers => k_is)
    (case a_repeats => k_is)
    (case l_repeats => k_is)
    (case c_repeats => k_is)
    (case k_repeats => k_is)
    (case a_shortest_turn => k_is)
    (case l_shortest_turn => k_is)
    (case c_shortest_turn => k_is)
    (case k_shortest_turn => k_is)
    (case a_shortened => k_is)
    (case l_shortened => k_is)
    (case c_shortened => k_is)
    (case k_shortened => k_is)
    (case a_ended => k_is)
    (case l_ended => k_is)
    (case c_ended => k_is)
    (case k_ended => k_is)
    (case a_narrowed => k_is)
    (case l_narrowed => k_is)
    (case c_narrowed => k_is)
    (case k_narrowed => k_is)
    (case a_place_of => k_is)
    (case l_place_of => k_is)
    (case c_place_of => k_is)
    (case k_place_of => k_is)
    (case a_many_before => k_is)
    (case l_many_before => k_is)
    (case c_many_before => k_is)
    (case k_many_before => k_is)
    (case a_nth_day => k_is)
    (case l_nth_day => k_is)
    (case c_nth_day => k_is)
    (case k_nth_day => k_is)
    (case a_day_from => k_is)
    (case l_day_from => k_is)
    (case c_day_from => k_is)
    (case k_day_from => k_is)
    (case a_holds => k_is)
    (case l_holds => k_is)
    (case c_holds => k_is)
    (case k_holds => k_is)
    (case a_has => k_is)
    (case l_has => k_is)
    (case c_has => k_is)
    (case k_has => k_is)
    (case a_least_set => k_is)
    (case l_least_set => k_is)
    (case c_least_set => k_is)
    (case k_least_set => k_is)
    (case a_set_of => k_is)
    (case l_set_of => k_is)
    (case c_set_of => k_is)
    (case k_set_of => k_is)
    (case a_every => k_is)
    (case l_every => k_is)
    (case c_every => k_is)
    (case k_every => k_is)
    (case a_next_day => k_is)
    (case l_next_day => k_is)
    (case c_next_day => k_is)
    (case k_next_day => k_is)
    (case a_gaps => k_is)
    (case l_gaps => k_is)
    (case c_gaps => k_is)
    (case k_gaps => k_is)
    (case a__law_dl_sack => k_is)
    (case l__law_dl_sack => k_is)
    (case c__law_dl_sack => k_is)
    (case k__law_dl_sack => k_is)
    (case a__law_dl_pick => k_is)
    (case l__law_dl_pick => k_is)
    (case c__law_dl_pick => k_is)
    (case k__law_dl_pick => k_is)
    (case a__law_dl_copy => k_is)
    (case l__law_dl_copy => k_is)
    (case c__law_dl_copy => k_is)
    (case k__law_dl_copy => k_is)
    (case a__law_dl_ranks => k_is)
    (case l__law_dl_ranks => k_is)
    (case c__law_dl_ranks => k_is)
    (case k__law_dl_ranks => k_is)
    (case a__law_dl_same => k_is)
    (case l__law_dl_same => k_is)
    (case c__law_dl_same => k_is)
    (case k__law_dl_same => k_is)
    (case a__law_dl_length => k_is)
    (case l__law_dl_length => k_is)
    (case c__law_dl_length => k_is)
    (case k__law_dl_length => k_is)
    (case a__law_dl_set => k_is)
    (case l__law_dl_set => k_is)
    (case c__law_dl_set => k_is)
    (case k__law_dl_set => k_is)
    (case a__law_dl_has => k_is)
    (case l__law_dl_has => k_is)
    (case c__law_dl_has => k_is)
    (case k__law_dl_has => k_is)
    (case a__law_dl_set_wide => k_is)
    (case l__law_dl_set_wide => k_is)
    (case c__law_dl_set_wide => k_is)
    (case k__law_dl_set_wide => k_is)
    (case a__law_dl_comes => k_is)
    (case l__law_dl_comes => k_is)
    (case c__law_dl_comes => k_is)
    (case k__law_dl_comes => k_is)
    (case a__law_dl_least => k_is)
    (case l__law_dl_least => k_is)
    (case c__law_dl_least => k_is)
    (case k__law_dl_least => k_is)
    (case a__law_dl_set_of => k_is)
    (case l__law_dl_set_of => k_is)
    (case c__law_dl_set_of => k_is)
    (case k__law_dl_set_of => k_is)
    (case a__law_dl_set_least => k_is)
    (case l__law_dl_set_least => k_is)
    (case c__law_dl_set_least => k_is)
    (case k__law_dl_set_least => k_is)
    (case a__law_dl_days_to => k_is)
    (case l__law_dl_days_to => k_is)
    (case c__law_dl_days_to => k_is)
    (case k__law_dl_days_to => k_is)
    (case a__law_dl_ahead => k_is)
    (case l__law_dl_ahead => k_is)
    (case c__law_dl_ahead => k_is)
    (case k__law_dl_ahead => k_is)
    (case a__law_dl_asked_right => k_is)
    (case l__law_dl_asked_right => k_is)
    (case c__law_dl_asked_right => k_is)
    (case k__law_dl_asked_right => k_is)
    (case a__law_dl_gaps_right => k_is)
    (case l__law_dl_gaps_right => k_is)
    (case c__law_dl_gaps_right => k_is)
    (case k__law_dl_gaps_right => k_is)
    (case a__law_dl_made_right => k_is)
    (case l__law_dl_made_right => k_is)
    (case c__law_dl_made_right => k_is)
    (case k__law_dl_made_right => k_is)
    (case a__law_right => k_is)
    (case l__law_right => k_is)
    (case c__law_right => k_is)
    (case k__law_right => k_is)
    (case a_law => k_is)
    (case l_law => k_is)
    (case c_law => k_is)
    (case k_law => k_is)
