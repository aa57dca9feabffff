import PyProof.Rows.All
import HandS.ForMost
import HandS.ForExc
import HandS.TupAny
import HandS.Wide
import HandS.Deep
import HandS.Conv
import HandS.IsInst
import HandS.Style
import HandS.Flow
import HandS.More
import HandS.RaiseMore
import HandS.ExcIs
import HandS.Ends
import HandS.NoneIn
import KE.GoesEnum
import KE.Datum
import PyProof.ReprLen
import PyProof.P3Eq
import PySem.Challenge.RW_cancelsback_k06_whole_merges_and_cuts
set_option Elab.async false
set_option maxRecDepth 100000
set_option maxHeartbeats 4000000
/-! A layer of values over the abstract heap: what a reading does to plain data. -/
namespace VL
open PySem PySem.Spec PyProof.Rows L2

/-! ### defs that are called where no repr is under way -/
structure FnG (P : Program) (w : World) (K : PySem.W.Frag) (mg : Str → Option Value) (base : Heap) (k : Nat) (f : Addr) (fd : FuncData) (ps : List Str) (sp : Sp) : Prop where
  len : ∀ vs H Q E, sp vs H Q E → vs.length = ps.length
  go : ∀ (A : Around) (outer : List Env) (s : Shared) (H : Hp) (args : Args) (us : List Value) (vs : List V) (Q : VK) (E : XK), A.guards = some [] → Room k A → Env0 P w K mg base A outer s H →
    BindsTo s fd args (ps.zip us) → Vals vs us → sp vs H Q E → codeAny (model P w) A (.call (.ref f) args) (CR (L2.CX P w) outer P w H s Q E) s
theorem FnG.up {P : Program} {w : World} {K : PySem.W.Frag} {mg : Str → Option Value} {base : Heap} {j k : Nat} {f : Addr} {fd : FuncData} {ps : List Str} {sp : Sp} (F : FnG P w K mg base j f fd ps sp) (h : j ≤ k) :
    FnG P w K mg base k f fd ps sp := ⟨F.len, fun A o s H a us vs Q E hg hr => F.go A o s H a us vs Q E hg (hr.mono h)⟩

section
variable {P : Program} {w : World} {K : PySem.W.Frag} {mg : Str → Option Value} {base : Heap}
/-- a def of the text, by its body -/
theorem fng_of {x qual : Str} {st : Stmt} {f : Addr} {fd : FuncData} {N ps : List Str} {k : Nat} {sp : Sp} (F : Fun K x qual st f fd) (S : FnScope N ps (defScope st)) (len : ∀ vs H Q E, sp vs H Q E → vs.length = ps.length)
    (body : ∀ (cd : Value) (A : Around) (o : List Env) (s : Shared) (H : Hp) (vs : List V) (Q : VK) (E : XK), A.guards = some [] → Room k (A.deeper (envOfC qual (defScope st) s.heap.objs.size f cd)) → sp vs H Q E →
      ∃ t, PSs (cxOf (L2.CX P w) P w K mg base N qual (defScope st) f cd A o s H E) (defBody st) t ∧ t { nx := fun _ G => Q .non G, rt := Q } (start N vs) H) : FnG P w K mg base (k + 1) f fd ps sp := by
  obtain ⟨oc, od, kV, doc, pm, an, cd, ct, osl, rfl, lk, hcd⟩ := F.ex
  refine ⟨len, fun A o s H args us vs Q E hg hr e0 hb rv hsp => ?_⟩
  have hl := len _ _ _ _ hsp
  have old : ∀ b u, base.get? b = some u → s.heap.get? b = some u := fun b u e => (e0.bs b u e).1
  have KX : K.In s.heap := e0.mod.kin.keeps old
  have lim : s.heap.NoLimit := e0.mod.nolimit.keeps old
  refine codeAny_call_function hr.depth (KX _ _ lk) rfl S.co S.gen rfl (PySem.W.codeRec_of KX hcd) (hb _ _ _ _ ?_)
  refine wpAny_newFunctionEnv_cells S.kind (fun ⟨n, v⟩ hy => ?_) fun env he s1 x => ?_
  · rcases S.par n (List.of_mem_zip hy).1 with q | q
    · exact .inl q
    · exact .inr ⟨q, PySem.W.cellsFrom_some _ _ _ (.inl q)⟩
  · subst he
    refine ⟨lim.keeps x.toInCall.keep, codeAny_func ?_⟩
    obtain ⟨t, ht, hq⟩ := body cd A o s H vs Q E hg (hr.deeper _) hsp
    have I := inv_start (CX := L2.CX P w) (P := P) (w := w) (K := K) (mg := mg) (A := A) (E := E) S hr.hd e0 hl rv x
    refine wpAny_mono (ht.run [] s1 (start N vs) H _ I hq) (fun fl s2 q => ?_) fun _ _ q => q
    cases fl with
    | ret u => obtain ⟨v, τ, G, J, ru, q⟩ := q; exact ⟨v, G, J.os, J.bare, J.base, J.hok, ru, q⟩
    | next => obtain ⟨τ, G, J, q⟩ := q; exact ⟨V.non, G, J.os, J.bare, J.base, J.hok, rfl, q⟩
    | brk => obtain ⟨_, _, _, q⟩ := q; exact q.elim
    | cont => obtain ⟨_, _, _, q⟩ := q; exact q.elim
end

/-- f(e, ..): what is raised is wished for at the caller's slots -/
def tCl (sp : Sp) (E : L2.St → XK) (t : TA) : TE := fun σ H Q => t σ H fun vs H1 => sp vs H1 Q (E σ)
/-- f(e, .., k = e, ..): g puts the values in the parameters' order -/
def tClK (sp : Sp) (E : L2.St → XK) (g : List V → List V → List V) (t tk : TA) : TE := fun σ H Q => t σ H fun vs H1 => tk σ H1 fun zs H2 => sp (g vs zs) H2 Q (E σ)
section
variable {X : Cx} {k : Nat} {f : Addr} {fd : FuncData} {ps : List Str} {sp : Sp} {E : L2.St → XK} {x : Str} {p pos : Pos} {e : Expr} {es : List Expr} {t tk : TA}
theorem cr_end {pins : List (Addr × Obj)} {σ : L2.St} {H : Hp} {s : Shared} {Q : VK} (I : Inv X pins σ H s) (hx : ∀ σ, PassesAt (L2.CX X.prog X.w) X σ (E σ)) {r : Result} {s2 : Shared}
    (q : CR (L2.CX X.prog X.w) X.stack X.prog X.w H s Q (E σ) r s2) : ∀ u, r = .ok (.ret u) → EP X pins σ Q u s2 := fun u e => by subst e; exact I.after q
theorem pe_cl (F : FnG X.prog X.w X.K X.mg X.base k f fd ps sp) (gd : X.A.guards = some []) (hr : Room k X.A) (hg : Gl X x) (hm : X.mg x = some (.ref f)) (hk : PySem.W.keepIn X.K (.ref f) = true) (hb : Binds X.K fd ps [])
    (hx : ∀ σ, PassesAt (L2.CX X.prog X.w) X σ (E σ)) (ha : PA X (e :: es) t) (hd : (x == ("__debug__" : Str)) = false := by decide) (he : starEach (e :: es) X.env = (false, eval e X.env) :: starEach es X.env := by rfl)
    (hp : (backTo pos (starEach es X.env)).any (·.1) = false := by rfl) : PE X (.Call (.Name x p) (e :: es) [] pos) (tCl sp E t) := by
  refine ⟨fun pins s σ H Q I h => wpAny_Call_Name_kw (ld_glob I hg hm ?_ hd)⟩
  refine PySem.W.callWith_K (h₀ := X.base) I.ok.mod.kin hk (thn (ha.run pos pins s σ H _ I h) fun us s1 ⟨vs, H1, I1, r, q⟩ => ⟨I1.kIn, ?_⟩) he hp
  have hl : us.length = ps.length := by rw [← r.length]; exact F.len _ _ _ _ q
  have b := hb s1 us I1.kIn (by rw [List.append_nil]; exact hl)
  rw [List.append_nil] at b
  refine wpAny_call (codeAny_mono (F.go X.A X.stack s1 H1 ⟨us, []⟩ us vs Q (E σ) gd hr I1.env0 b r q) fun r s2 hq => ?_)
  cases r with
  | error e => exact hx σ pins H1 s1 e s2 I1 hq
  | ok fl => cases fl with
    | ret u => exact I1.after hq
    | next => exact False.elim hq
    | brk => exact False.elim hq
    | cont => exact False.elim hq
variable {ks : List Str} {kws : List Keyword} {g : List Value → List Value → List Value} {gV : List V → List V → List V}
theorem run_clK {pins : List (Addr × Obj)} {σ : L2.St} {H : Hp} {s : Shared} {Q : VK} {us ws : List Value} {vs zs : List V} (F : FnG X.prog X.w X.K X.mg X.base k f fd ps sp) (gd : X.A.guards = some []) (hr : Room k X.A) (hb : KBinds X.K fd ps ks g gV)
    (hx : ∀ σ, PassesAt (L2.CX X.prog X.w) X σ (E σ)) (I : Inv X pins σ H s) (r : Vals vs us) (rz : Vals zs ws) (h : sp (gV vs zs) H Q (E σ)) : wpAny (model X.prog X.w) X.A (call (.ref f) us (ks.zip ws)) (EP X pins σ Q) X.xe s := by
  have r2 := hb.rel r rz
  have hl : (g us ws).length = ps.length := by rw [← r2.length]; exact F.len _ _ _ _ h
  refine wpAny_call (codeAny_mono (F.go X.A X.stack s H ⟨us, ks.zip ws⟩ (g us ws) (gV vs zs) Q (E σ) gd hr I.env0 (hb.to s us ws I.kIn hl) r2 h) fun r s2 hq => ?_)
  cases r with
  | error e => exact hx σ pins H s e s2 I hq
  | ok fl => cases fl with
    | ret u => exact I.after hq
    | next => exact False.elim hq
    | brk => exact False.elim hq
    | cont => exact False.elim hq
theorem pe_clK (F : FnG X.prog X.w X.K X.mg X.base k f fd ps sp) (gd : X.A.guards = some []) (hr : Room k X.A) (hg : Gl X x) (hm : X.mg x = some (.ref f)) (hk : PySem.W.keepIn X.K (.ref f) = true) (hb : KBinds X.K fd ps ks g gV)
    (hx : ∀ σ, PassesAt (L2.CX X.prog X.w) X σ (E σ)) (ha : PA X (e :: es) t) (hkw : PK X kws tk) (hall : (backToKw pos (keywordEach kws X.env)).all (·.1.isSome) = true := by rfl) (hks : (backToKw pos (keywordEach kws X.env)).filterMap (·.1) = ks := by rfl)
    (hd : (x == ("__debug__" : Str)) = false := by decide) (he : starEach (e :: es) X.env = (false, eval e X.env) :: starEach es X.env := by rfl)
    (hp : ((backTo pos (starEach (e :: es) X.env)).any (·.1) || (backToKw pos (keywordEach kws X.env)).any (·.1.isNone)) = false := by rfl) : PE X (.Call (.Name x p) (e :: es) kws pos) (tClK sp E gV t tk) := by
  refine ⟨fun pins s σ H Q I h => wpAny_Call_Name_kw (ld_glob I hg hm ?_ hd)⟩
  refine PySem.W.callWith_KW (h₀ := X.base) I.ok.mod.kin hk hall (thn (ha.run pos pins s σ H _ I h) fun us s1 ⟨vs, H1, I1, r, q⟩ => ?_) hp he
  refine thn (hkw.run pos pins s1 σ H1 _ I1 q) fun ws s2 ⟨zs, H2, I2, rz, q2⟩ => ⟨I2.kIn, ?_⟩
  rw [hks]
  exact run_clK F gd hr hb hx I2 r rz q2
theorem pe_clK0 (F : FnG X.prog X.w X.K X.mg X.base k f fd ps sp) (gd : X.A.guards = some []) (hr : Room k X.A) (hg : Gl X x) (hm : X.mg x = some (.ref f)) (hk : PySem.W.keepIn X.K (.ref f) = true) (hb : KBinds X.K fd ps ks g gV)
    (hx : ∀ σ, PassesAt (L2.CX X.prog X.w) X σ (E σ)) (hkw : PK X kws tk) (hall : (backToKw pos (keywordEach kws X.env)).all (·.1.isSome) = true := by rfl) (hks : (backToKw pos (keywordEach kws X.env)).filterMap (·.1) = ks := by rfl)
    (hd : (x == ("__debug__" : Str)) = false := by decide) (hp : ((backTo pos (starEach [] X.env)).any (·.1) || (backToKw pos (keywordEach kws X.env)).any (·.1.isNone)) = false := by rfl) : PE X (.Call (.Name x p) [] kws pos) (tClK sp E gV tNil tk) := by
  refine ⟨fun pins s σ H Q I h => wpAny_Call_Name_kw (ld_glob I hg hm ?_ hd)⟩
  refine PySem.W.callWith_KW0 (h₀ := X.base) I.ok.mod.kin hk hall (thn (hkw.run pos pins s σ H _ I h) fun ws s2 ⟨zs, H2, I2, rz, q2⟩ => ⟨I2.kIn, ?_⟩) hp
  rw [hks]
  exact run_clK (us := []) F gd hr hb hx I2 .nil rz q2
end
end VL

namespace VL
open PySem PySem.Spec PyProof.Rows L2
abbrev D := PyData
abbrev Sg := L2.St

/-! ### the state as data -/
/-- a slot: not assigned; data; a list of its own (pinned: a parameter that the caller's slot owns); an exception -/
inductive Sl where
  | un
  | im (d : D)
  | ow (pin : Bool) (ds : List D)
  | xn (tag : Nat) (d : D)
  | fv (k : Nat)
abbrev Rho := List Sl
/-- a value: data; a new list; the list that a slot owns -/
inductive Rs where
  | im (d : D)
  | fr (ds : List D)
  | sl (i : Nat)
inductive Ou (α : Type) where
  | bad
  | ok (a : α) (r : Rho)
  | ex (tag : Nat) (d : D) (r : Rho)
/-- what is fixed through a body: the written part, the classes of errors, the pinned addresses, the exception that the suite holds -/
structure Pm where
  K : PySem.W.Frag
  xc : Nat → Addr
  pin : Nat → V
  xa : Addr
  xcl : Value
  xd : Option Addr
abbrev As := Addr → Prop
abbrev atS : Str := Str.ofString "at"

/-- what a slot is fixed to: the list that the caller owns; a def of the text, by its number -/
def fx (p : Pm) (i : Nat) : Sl → Option V
  | .ow true _ => some (p.pin i)
  | .fv k => some (.ref (p.xc (1000 + k)))
  | _ => none
structure Stt (p : Pm) (R H : Hp) (O : As) (σ : Sg) (ρ : Rho) : Prop where
  sub : ∀ b o, R b = some o → H b = some o
  dis : ∀ b, O b → R b = none
  al : ∀ b, O b → H b ≠ none
  len : ρ.length = σ.length
  im : ∀ (i : Nat) d, ρ[i]? = some (.im d) → ∃ v, σ[i]? = some (some v) ∧ Dp p.K R v d
  ow : ∀ (i : Nat) b ds, ρ[i]? = some (.ow b ds) → ∃ a vs, σ[i]? = some (some (.ref a)) ∧ O a ∧ H a = some (.lst vs) ∧ DpAll p.K R vs ds
  pn : ∀ (i : Nat) y v, ρ[i]? = some y → fx p i y = some v → σ[i]? = some (some v)
  inj : ∀ (i j : Nat) b c ds es a, ρ[i]? = some (.ow b ds) → ρ[j]? = some (.ow c es) → σ[i]? = some (some (.ref a)) → σ[j]? = some (some (.ref a)) → i = j
  xn : ∀ (i : Nat) tag d, ρ[i]? = some (.xn tag d) → σ[i]? = some (some (.ref p.xa)) ∧ p.xcl = .ref (p.xc tag) ∧ ∃ dd v, p.xd = some dd ∧ ¬ O dd ∧ H dd = some (.xd [(atS, v)]) ∧ Dp p.K R v d

theorem Stt.pn1 {p : Pm} {R H : Hp} {O : As} {σ : Sg} {ρ : Rho} (S : Stt p R H O σ ρ) (i : Nat) (ds : List D) (e : ρ[i]? = some (.ow true ds)) : σ[i]? = some (some (p.pin i)) := S.pn i _ _ e rfl
structure Tr (R H : Hp) (O : As) (R' H' : Hp) (O' : As) : Prop where
  r : ∀ b o, R b = some o → R' b = some o
  h : ∀ b o, H b = some o → ¬ O b → H' b = some o
  nw : ∀ b, R' b ≠ none → R b ≠ none ∨ H b = none ∨ O b
  o : ∀ b, O' b → O b ∨ H b = none
  k : ∀ b, H b ≠ none → H' b ≠ none
theorem Tr.refl {R H : Hp} {O : As} : Tr R H O R H O := ⟨fun _ _ e => e, fun _ _ e _ => e, fun _ e => .inl e, fun _ e => .inl e, fun _ e => e⟩
theorem Tr.trans {R H R1 H1 R2 H2 : Hp} {O O1 O2 : As} (a : Tr R H O R1 H1 O1) (b : Tr R1 H1 O1 R2 H2 O2) : Tr R H O R2 H2 O2 := by
  have fr : ∀ c, H1 c = none → H c = none ∨ O c := fun c e => by
    by_cases z : O c
    · exact .inr z
    · cases q : H c with
      | none => exact .inl rfl
      | some u => have := a.h c u q z; rw [e] at this; cases this
  refine ⟨fun c o e => b.r c o (a.r c o e), fun c o e n => b.h c o (a.h c o e n) fun z => ?_, fun c e => ?_, fun c e => ?_, fun c e => b.k c (a.k c e)⟩
  · rcases a.o c z with y | y
    · exact n y
    · rw [e] at y; cases y
  · rcases b.nw c e with z | z | z
    · exact a.nw c z
    · exact .inr (fr c z)
    · rcases a.o c z with y | y
      · exact .inr (.inr y)
      · exact .inr (.inl y)
  · rcases b.o c e with z | z
    · exact a.o c z
    · exact (fr c z).symm
theorem Tr.more {R H R' H' : Hp} {O P O' : As} (a : Tr R H P R' H' O') (hp : ∀ b, P b → O b) : Tr R H O R' H' (fun b => O b ∨ O' b) :=
  ⟨a.r, fun b o e n => a.h b o e fun z => n (hp b z), fun b e => (a.nw b e).imp id (Or.imp id (hp b)), fun b e => e.elim .inl fun z => (a.o b z).imp (hp b) id, a.k⟩

theorem Tr.fresh {R H R' H' : Hp} {O O' : As} (T : Tr R H O R' H' O') {b : Addr} (f : H' b = none) : H b = none := by
  cases q : H b with
  | none => rfl
  | some u => exact (T.k b (by rw [q]; exact fun z => nomatch z) f).elim

/-! ### data under growth -/
theorem sqL_mono {K : PySem.W.Frag} {R R' : Hp} {a : Addr} {xs : List V} (m : ∀ b o, R b = some o → R' b = some o) (h : SqL K R a xs) : SqL K R' a xs := by
  rcases h with (h | ⟨o, h⟩) | h
  · exact .inl (.inl (m _ _ h))
  · exact .inl (.inr ⟨o, m _ _ h⟩)
  · exact .inr h
theorem sqT_mono {K : PySem.W.Frag} {R R' : Hp} {a : Addr} {xs : List V} (m : ∀ b o, R b = some o → R' b = some o) (h : SqT K R a xs) : SqT K R' a xs := by
  rcases h with (h | ⟨o, h⟩) | h
  · exact .inl (.inl (m _ _ h))
  · exact .inl (.inr ⟨o, m _ _ h⟩)
  · exact .inr h
mutual
theorem dp_mono {K : PySem.W.Frag} {R R' : Hp} (m : ∀ b o, R b = some o → R' b = some o) : ∀ (d : D) (v : V), Dp K R v d → Dp K R' v d
  | .none, _, h => by cases h; exact .non
  | .bool b, _, h => by cases h; exact .bl b
  | .int i, _, h => by cases h; exact .int i
  | .str x, _, h => by cases h; exact .str x
  | .list ds, _, h => by cases h with | lst hs ha => exact .lst (sqL_mono m hs) (dpAll_mono m ds _ ha)
  | .tuple ds, _, h => by cases h with | tup hs ha => exact .tup (sqT_mono m hs) (dpAll_mono m ds _ ha)
  | .dict _, _, h => by cases h
theorem dpAll_mono {K : PySem.W.Frag} {R R' : Hp} (m : ∀ b o, R b = some o → R' b = some o) : ∀ (ds : List D) (vs : List V), DpAll K R vs ds → DpAll K R' vs ds
  | [], _, h => by cases h; exact .nil
  | d :: ds, _, h => by cases h with | cons h1 h2 => exact .cons (dp_mono m d _ h1) (dpAll_mono m ds _ h2)
end
theorem Tr.dp {K : PySem.W.Frag} {R H R' H' : Hp} {O O' : As} (t : Tr R H O R' H' O') {v : V} {d : D} (h : Dp K R v d) : Dp K R' v d := dp_mono t.r d v h
theorem Tr.dps {K : PySem.W.Frag} {R H R' H' : Hp} {O O' : As} (t : Tr R H O R' H' O') {v : List V} {d : List D} (h : DpAll K R v d) : DpAll K R' v d := dpAll_mono t.r d v h
section
variable {K : PySem.W.Frag} {R : Hp}
theorem dpAll_len : ∀ {vs : List V} {ds : List D}, DpAll K R vs ds → vs.length = ds.length
  | _, _, .nil => rfl
  | _, _, .cons _ t => by rw [List.length_cons, List.length_cons, dpAll_len t]
theorem dpAll_get : ∀ {vs : List V} {ds : List D} {i : Nat} {d : D}, DpAll K R vs ds → ds[i]? = some d → ∃ v, vs[i]? = some v ∧ Dp K R v d
  | _, _, _, _, .nil, e => by simp at e
  | _, _, 0, _, .cons h _, e => by simp at e; subst e; exact ⟨_, rfl, h⟩
  | _, _, i + 1, _, .cons _ t, e => by
    obtain ⟨v, e1, h⟩ := dpAll_get (i := i) t (by simpa using e)
    exact ⟨v, by simpa using e1, h⟩
theorem dpAll_getV : ∀ {vs : List V} {ds : List D} {i : Nat} {v : V}, DpAll K R vs ds → vs[i]? = some v → ∃ d, ds[i]? = some d ∧ Dp K R v d
  | _, _, _, _, .nil, e => by simp at e
  | _, _, 0, _, .cons h _, e => by simp at e; subst e; exact ⟨_, rfl, h⟩
  | _, _, i + 1, _, .cons _ t, e => by
    obtain ⟨v, e1, h⟩ := dpAll_getV (i := i) t (by simpa using e)
    exact ⟨v, by simpa using e1, h⟩
theorem dpAll_app : ∀ {vs ws : List V} {ds es : List D}, DpAll K R vs ds → DpAll K R ws es → DpAll K R (vs ++ ws) (ds ++ es)
  | _, _, _, _, .nil, h => h
  | _, _, _, _, .cons h t, g => .cons h (dpAll_app t g)
theorem dpAll_take : ∀ {vs : List V} {ds : List D} (n : Nat), DpAll K R vs ds → DpAll K R (vs.take n) (ds.take n)
  | _, _, 0, _ => .nil
  | _, _, _ + 1, .nil => .nil
  | _, _, n + 1, .cons h t => .cons h (dpAll_take n t)
theorem dpAll_drop : ∀ {vs : List V} {ds : List D} (n : Nat), DpAll K R vs ds → DpAll K R (vs.drop n) (ds.drop n)
  | _, _, 0, h => h
  | _, _, _ + 1, .nil => .nil
  | _, _, n + 1, .cons _ t => dpAll_drop n t
theorem dpAll_set {v : V} {d : D} (r : Dp K R v d) : ∀ {vs : List V} {ds : List D} (n : Nat), DpAll K R vs ds → DpAll K R (vs.set n v) (ds.set n d)
  | _, _, _, .nil => .nil
  | _, _, 0, .cons _ t => .cons r t
  | _, _, n + 1, .cons h t => .cons h (dpAll_set r n t)
theorem dpAll_rev : ∀ {vs : List V} {ds : List D}, DpAll K R vs ds → DpAll K R vs.reverse ds.reverse
  | _, _, .nil => .nil
  | _, _, .cons h t => by rw [List.reverse_cons, List.reverse_cons]; exact dpAll_app (dpAll_rev t) (.cons h .nil)
theorem dpAll_erase : ∀ {vs : List V} {ds : List D} (n : Nat), DpAll K R vs ds → DpAll K R (vs.eraseIdx n) (ds.eraseIdx n)
  | _, _, _, .nil => .nil
  | _, _, 0, .cons _ t => t
  | _, _, n + 1, .cons h t => .cons h (dpAll_erase n t)
theorem dpAll_dropLast {vs : List V} {ds : List D} (h : DpAll K R vs ds) : DpAll K R vs.dropLast ds.dropLast := by
  rw [List.dropLast_eq_take, List.dropLast_eq_take, dpAll_len h]; exact dpAll_take _ h
end

/-! ### what a value is -/
/-- as it is read: a list may be a slot's own -/
def Vr (K : PySem.W.Frag) (R H : Hp) (v : V) : D → Prop
  | .list ds => ∃ a vs, v = .ref a ∧ SqL K H a vs ∧ DpAll K R vs ds
  | d => Dp K R v d
theorem Vr.of {K : PySem.W.Frag} {R H : Hp} {v : V} {d : D} (m : ∀ b o, R b = some o → H b = some o) (h : Dp K R v d) : Vr K R H v d := by
  cases d with
  | list ds => cases h with | lst hs ha => exact ⟨_, _, rfl, sqL_mono m hs, ha⟩
  | none => exact h
  | bool b => exact h
  | int i => exact h
  | str x => exact h
  | tuple ds => exact h
  | dict k => exact h
theorem Vr.dp {K : PySem.W.Frag} {R H : Hp} {v : V} {d : D} (m : ∀ b o, R b = some o → H b = some o) (h : Vr K R H v d) : Dp K H v d := by
  cases d with
  | list ds => obtain ⟨a, vs, rfl, hs, ha⟩ := h; exact .lst hs (dpAll_mono m ds vs ha)
  | none => exact dp_mono m _ _ h
  | bool b => exact dp_mono m _ _ h
  | int i => exact dp_mono m _ _ h
  | str x => exact dp_mono m _ _ h
  | tuple ds => exact dp_mono m _ _ h
  | dict k => exact dp_mono m _ _ h

/-- a result -/
def Rr (K : PySem.W.Frag) (R H : Hp) (O : As) (σ : Sg) (ρ : Rho) (v : V) : Rs → Prop
  | .im d => Dp K R v d
  | .fr ds => ∃ a vs, v = .ref a ∧ O a ∧ H a = some (.lst vs) ∧ DpAll K R vs ds ∧ ∀ (i : Nat) b es, ρ[i]? = some (.ow b es) → σ[i]? ≠ some (some (.ref a))
  | .sl i => ∃ b ds, ρ[i]? = some (.ow b ds) ∧ σ[i]? = some (some v)
/-- a pending operand: data, or a slot's list (or what has become of it) -/
def Op (K : PySem.W.Frag) (R : Hp) (σ : Sg) (v : V) : Rs → Prop
  | .im d => Dp K R v d
  | .fr _ => False
  | .sl i => σ[i]? = some (some v)
def dr (ρ : Rho) : Rs → Option D
  | .im d => some d
  | .fr _ => none
  | .sl i => match ρ[i]? with
    | some (.ow _ ds) => some (.list ds)
    | some (.im d) => some d
    | _ => none
theorem op_vr {p : Pm} {R H : Hp} {O : As} {σ : Sg} {ρ : Rho} (S : Stt p R H O σ ρ) {v : V} {r : Rs} {d : D} (h : Op p.K R σ v r) (e : dr ρ r = some d) : Vr p.K R H v d := by
  cases r with
  | im d' =>
    have e' : d' = d := Option.some.inj e
    subst e'; exact .of S.sub h
  | fr ds => cases h
  | sl i =>
    unfold dr at e
    dsimp only at e
    split at e
    · rename_i b ds q
      cases e
      obtain ⟨a, vs, e1, _, e3, e4⟩ := S.ow i b ds q
      have h' : σ[i]? = some (some v) := h
      rw [e1] at h'; cases h'
      exact ⟨a, vs, rfl, .inl (.inl e3), e4⟩
    · rename_i d' q
      have e7 : d' = d := Option.some.inj e
      subst e7
      obtain ⟨u, e1, e2⟩ := S.im i d' q
      have h' : σ[i]? = some (some v) := h
      rw [e1] at h'; cases h'
      exact .of S.sub e2
    · cases e
theorem Tr.op {K : PySem.W.Frag} {R H R' H' : Hp} {O O' : As} (t : Tr R H O R' H' O') {σ : Sg} {v : V} {r : Rs} (h : Op K R σ v r) : Op K R' σ v r := by
  cases r with
  | im d => exact t.dp h
  | fr _ => exact h
  | sl i => exact h

/-! ### judgements of readings -/
def Good {α β : Type} (p : Pm) (EX : WX) (rel : Hp → Hp → As → Sg → Rho → β → α → Prop) (R H : Hp) (O : As) (σ : Sg) (Q : β → Hp → Prop) : Ou α → Prop
  | .bad => False
  | .ok a ρ' => ∀ b R' H' O', Stt p R' H' O' σ ρ' → Tr R H O R' H' O' → rel R' H' O' σ ρ' b a → Q b H'
  | .ex tag d ρ' => ∀ dx v R' H' O', Stt p R' H' O' σ ρ' → Tr R H O R' H' O' → H dx = none → H' dx = some (.xd [(atS, v)]) → ¬ O' dx → Dp p.K R' v d → EX (.ref (p.xc tag)) (some dx) σ H'
def Sem {α β : Type} (p : Pm) (EX : WX) (rel : Hp → Hp → As → Sg → Rho → β → α → Prop) (t : Sg → Hp → (β → Hp → Prop) → Prop) (F : Rho → Ou α) : Prop :=
  ∀ (R H : Hp) (O : As) (σ : Sg) (ρ : Rho) (Q : β → Hp → Prop), Stt p R H O σ ρ → Good p EX rel R H O σ Q (F ρ) → t σ H Q
abbrev SemE (p : Pm) (EX : WX) : TE → (Rho → Ou Rs) → Prop := Sem p EX (Rr p.K)
abbrev SemP (p : Pm) (EX : WX) : TE → (Rho → Ou Rs) → Prop := Sem p EX (fun R _ _ σ _ v r => Op p.K R σ v r)
abbrev SemT (p : Pm) (EX : WX) : TT → (Rho → Ou Bool) → Prop := Sem p EX (fun _ _ _ _ _ b c => b = c)
def Ops (K : PySem.W.Frag) (R : Hp) (σ : Sg) : List V → List Rs → Prop
  | [], [] => True
  | v :: vs, r :: rs => Op K R σ v r ∧ Ops K R σ vs rs
  | _, _ => False
abbrev SemA (p : Pm) (EX : WX) : TA → (Rho → Ou (List Rs)) → Prop := Sem p EX (fun R _ _ σ _ v r => Ops p.K R σ v r)

def bd {α β : Type} (o : Ou α) (f : α → Rho → Ou β) : Ou β := match o with
  | .bad => .bad
  | .ok a ρ => f a ρ
  | .ex t d ρ => .ex t d ρ
/-- one after the other -/
theorem Sem.bind {α β γ δ : Type} {p : Pm} {EX : WX} {rel : Hp → Hp → As → Sg → Rho → β → α → Prop} {rel2 : Hp → Hp → As → Sg → Rho → δ → γ → Prop} {t : Sg → Hp → (β → Hp → Prop) → Prop} {F : Rho → Ou α}
    {k : β → Sg → Hp → (δ → Hp → Prop) → Prop} {G : α → Rho → Ou γ} (h : Sem p EX rel t F)
    (hk : ∀ R H O σ ρ b a Q, Stt p R H O σ ρ → rel R H O σ ρ b a → Good p EX rel2 R H O σ Q (G a ρ) → k b σ H Q) :
    Sem p EX rel2 (fun σ H Q => t σ H fun b H1 => k b σ H1 Q) (fun ρ => bd (F ρ) G) := by
  intro R H O σ ρ Q S g
  refine h R H O σ ρ _ S ?_
  have g : Good p EX rel2 R H O σ Q (bd (F ρ) G) := g
  cases e : F ρ with
  | bad => rw [e] at g; exact g
  | ok a ρ' =>
    rw [e] at g
    intro b R' H' O' S' T' r'
    refine hk R' H' O' σ ρ' b a Q S' r' ?_
    have g : Good p EX rel2 R H O σ Q (G a ρ') := g
    cases e2 : G a ρ' with
    | bad => rw [e2] at g; exact g
    | ok c ρ2 => rw [e2] at g; exact fun b R2 H2 O2 S2 T2 r2 => g b R2 H2 O2 S2 (T'.trans T2) r2
    | ex tag d ρ2 => rw [e2] at g; exact fun dx v R2 H2 O2 S2 T2 f => g dx v R2 H2 O2 S2 (T'.trans T2) (T'.fresh f)
  | ex tag d ρ' => rw [e] at g; exact g

/-! ### freezing -/
/-- the list at a becomes data -/
theorem freeze {p : Pm} {R H : Hp} {O : As} {σ : Sg} {ρ : Rho} (S : Stt p R H O σ ρ) {a : Addr} {vs : List V} {ds : List D} (oa : O a) (ha : H a = some (.lst vs)) (hd : DpAll p.K R vs ds)
    (un : ∀ (i : Nat) b es, ρ[i]? = some (.ow b es) → σ[i]? ≠ some (some (.ref a))) :
    Stt p (upd R a (.lst vs)) H (fun b => O b ∧ b ≠ a) σ ρ ∧ Tr R H O (upd R a (.lst vs)) H (fun b => O b ∧ b ≠ a) ∧ Dp p.K (upd R a (.lst vs)) (.ref a) (.list ds) := by
  have na : R a = none := S.dis a oa
  have m : ∀ b o, R b = some o → upd R a (.lst vs) b = some o := fun b o e => by rw [upd_ne (ne_of_none e na)]; exact e
  refine ⟨⟨fun b o e => ?_, fun b ob => ?_, fun b ob => S.al b ob.1, S.len, fun i d e => ?_, fun i b es e => ?_, S.pn, S.inj, fun i tag d e => ?_⟩, ⟨m, fun _ _ e _ => e, fun b e => ?_, fun b ob => .inl ob.1, fun _ e => e⟩, .lst (.inl (.inl upd_same)) (dpAll_mono m ds vs hd)⟩
  · by_cases hb : b = a
    · subst hb; rw [upd_same] at e; cases e; exact ha
    · rw [upd_ne hb] at e; exact S.sub b o e
  · rw [upd_ne ob.2]; exact S.dis b ob.1
  · obtain ⟨v, e1, e2⟩ := S.im i d e; exact ⟨v, e1, dp_mono m d v e2⟩
  · obtain ⟨c, ws, e1, e2, e3, e4⟩ := S.ow i b es e
    refine ⟨c, ws, e1, ⟨e2, fun z => ?_⟩, e3, dpAll_mono m es ws e4⟩
    subst z; exact un i b es e e1
  · obtain ⟨e1, e2, dd, v, e3, e4, e5, e6⟩ := S.xn i tag d e
    exact ⟨e1, e2, dd, v, e3, fun z => e4 z.1, e5, dp_mono m d v e6⟩
  · by_cases hb : b = a
    · subst hb; exact .inr (.inr oa)
    · rw [upd_ne hb] at e; exact .inl e
/-- a new list becomes data; the others stay pending -/
def frz (o : Ou Rs) : Ou Rs := bd o fun r ρ => match r with
  | .fr ds => .ok (.im (.list ds)) ρ
  | r => .ok r ρ
theorem SemE.op {p : Pm} {EX : WX} {t : TE} {F : Rho → Ou Rs} (h : SemE p EX t F) : SemP p EX t (fun ρ => frz (F ρ)) := by
  refine Sem.bind (k := fun b _ H Q => Q b H) h fun R H O σ ρ b a Q S r g => ?_
  cases a with
  | im d => exact g b R H O S .refl r
  | fr ds =>
    obtain ⟨a, vs, rfl, oa, ha, hd, un⟩ := r
    obtain ⟨S', T', d'⟩ := freeze S oa ha hd un
    exact g _ _ _ _ S' T' d'
  | sl i => obtain ⟨c, ds, _, e⟩ := r; exact g b R H O S .refl e
/-- a slot's list becomes data -/
def thaw (i : Nat) (ρ : Rho) : Ou D := match ρ[i]? with
  | some (.ow false ds) => .ok (.list ds) (ρ.set i (.im (.list ds)))
  | some (.im d) => .ok d ρ
  | _ => .bad
theorem set_get {α : Type} {l : List α} {i j : Nat} {x y : α} (h : (l.set i x)[j]? = some y) : (i = j ∧ x = y) ∨ (i ≠ j ∧ l[j]? = some y) := by
  by_cases e : i = j
  · subst e
    rw [List.getElem?_set_self'] at h
    cases q : l[i]? with
    | none => rw [q] at h; cases h
    | some z => rw [q] at h; exact .inl ⟨rfl, Option.some.inj h⟩
  · rw [List.getElem?_set_ne e] at h; exact .inr ⟨e, h⟩
/-- a slot forgotten, or made data -/
theorem Stt.put {p : Pm} {R H : Hp} {O : As} {σ : Sg} {ρ : Rho} (S : Stt p R H O σ ρ) {i : Nat} {x : Sl} (hx : x = .un ∨ ∃ d v, x = .im d ∧ σ[i]? = some (some v) ∧ Dp p.K R v d) : Stt p R H O σ (ρ.set i x) := by
  refine ⟨S.sub, S.dis, S.al, by rw [List.length_set]; exact S.len, fun j d e => ?_, fun j b ds e => ?_, fun j y w e hw => ?_, fun j k b c ds es a e1 e2 => ?_, fun j tag d e => ?_⟩
  · rcases set_get e with ⟨rfl, z⟩ | ⟨_, z⟩
    · rcases hx with rfl | ⟨d', v, rfl, h1, h2⟩
      · cases z
      · cases z; exact ⟨v, h1, h2⟩
    · exact S.im j d z
  · rcases set_get e with ⟨rfl, z⟩ | ⟨_, z⟩
    · rcases hx with rfl | ⟨d', v, rfl, _⟩ <;> cases z
    · exact S.ow j b ds z
  · rcases set_get e with ⟨rfl, z⟩ | ⟨_, z⟩
    · rcases hx with rfl | ⟨d', v, rfl, _⟩ <;> (subst z; cases hw)
    · exact S.pn j y w z hw
  · rcases set_get e1 with ⟨rfl, z⟩ | ⟨_, z⟩
    · rcases hx with rfl | ⟨d', v, rfl, _⟩ <;> cases z
    · rcases set_get e2 with ⟨rfl, y⟩ | ⟨_, y⟩
      · rcases hx with rfl | ⟨d', v, rfl, _⟩ <;> cases y
      · exact S.inj j k b c ds es a z y
  · rcases set_get e with ⟨rfl, z⟩ | ⟨_, z⟩
    · rcases hx with rfl | ⟨d', v, rfl, _⟩ <;> cases z
    · exact S.xn j tag d z
theorem thaw_ok {p : Pm} {R H : Hp} {O : As} {σ : Sg} {ρ ρ' : Rho} {i : Nat} {d : D} {v : V} (S : Stt p R H O σ ρ) (e : thaw i ρ = .ok d ρ') (hv : σ[i]? = some (some v)) :
    ∃ R' O', Stt p R' H O' σ ρ' ∧ Tr R H O R' H O' ∧ Dp p.K R' v d := by
  unfold thaw at e
  split at e
  · rename_i ds q
    cases e
    obtain ⟨a, vs, e1, oa, ha, hd⟩ := S.ow i false ds q
    rw [e1] at hv; cases hv
    have S1 : Stt p R H O σ (ρ.set i .un) := S.put (.inl rfl)
    obtain ⟨S', T', d'⟩ := freeze S1 oa ha hd fun j b es z => by
      rcases set_get z with ⟨_, y⟩ | ⟨n, y⟩
      · cases y
      · exact fun z => n (S.inj i j _ _ _ _ a q y e1 z)
    have S2 := S'.put (i := i) (x := .im (.list ds)) (.inr ⟨_, _, rfl, e1, d'⟩)
    rw [List.set_set] at S2
    exact ⟨_, _, S2, T', d'⟩
  · rename_i d' q
    cases e
    obtain ⟨u, e1, e2⟩ := S.im i d q
    rw [e1] at hv; cases hv
    exact ⟨R, O, S, .refl, e2⟩
  · cases e
/-- data for good -/
def dat (r : Rs) (ρ : Rho) : Ou D := match r with
  | .im d => .ok d ρ
  | .fr ds => .bad
  | .sl i => thaw i ρ
abbrev SemD (p : Pm) (EX : WX) : TE → (Rho → Ou D) → Prop := Sem p EX (fun R _ _ _ _ v d => Dp p.K R v d)
theorem thaw_ex {i : Nat} {ρ ρ' : Rho} {t : Nat} {d : D} : thaw i ρ ≠ .ex t d ρ' := by
  unfold thaw; split <;> exact fun z => nomatch z
theorem SemP.dat {p : Pm} {EX : WX} {t : TE} {F : Rho → Ou Rs} (h : SemP p EX t F) : SemD p EX t (fun ρ => bd (F ρ) VL.dat) := by
  refine Sem.bind (k := fun b _ H Q => Q b H) h fun R H O σ ρ b a Q S r g => ?_
  cases a with
  | im d => exact g b R H O S .refl r
  | fr ds => exact r.elim
  | sl i =>
    have g : Good p EX _ R H O σ Q (thaw i ρ) := g
    cases e : thaw i ρ with
    | bad => rw [e] at g; exact g.elim
    | ex t d ρ' => exact (thaw_ex e).elim
    | ok d ρ' =>
      rw [e] at g
      obtain ⟨R', O', S', T', d'⟩ := thaw_ok S e r
      exact g b R' H O' S' T' d'
end VL

namespace VL
open PySem PySem.Spec PyProof.Rows L2

/-! ### growth -/
structure Grow (R H R' H' : Hp) : Prop where
  r : ∀ b o, R b = some o → R' b = some o
  h : ∀ b o, H b = some o → H' b = some o
  s : ∀ b o, R' b = some o → H' b = some o
  n : ∀ b, R' b ≠ none → R b ≠ none ∨ H b = none
theorem Grow.refl {R H : Hp} (m : ∀ b o, R b = some o → H b = some o) : Grow R H R H := ⟨fun _ _ e => e, fun _ _ e => e, m, fun _ e => .inl e⟩
theorem Grow.tup {R H : Hp} {a : Addr} {vs : List V} (m : ∀ b o, R b = some o → H b = some o) (ha : H a = none) : Grow R H (upd R a (.tup vs)) (upd H a (.tup vs)) := by
  have na : R a = none := by
    cases e : R a with
    | none => rfl
    | some o => have := m a o e; rw [ha] at this; cases this
  refine ⟨fun b o e => by rw [upd_ne (ne_of_none e na)]; exact e, fun b o e => by rw [upd_ne (ne_of_none e ha)]; exact e, fun b o e => ?_, fun b e => ?_⟩
  · by_cases hb : b = a
    · subst hb; rw [upd_same] at e ⊢; exact e
    · rw [upd_ne hb] at e ⊢; exact m b o e
  · by_cases hb : b = a
    · subst hb; exact .inr ha
    · rw [upd_ne hb] at e; exact .inl e
theorem Grow.trans {R H R1 H1 R2 H2 : Hp} (a : Grow R H R1 H1) (b : Grow R1 H1 R2 H2) : Grow R H R2 H2 :=
  ⟨fun c o e => b.r c o (a.r c o e), fun c o e => b.h c o (a.h c o e), b.s, fun c e => (b.n c e).elim (a.n c) fun z => .inr (by
    cases q : H c with
    | none => rfl
    | some o => have := a.h c o q; rw [z] at this; cases this)⟩
theorem Stt.grow {p : Pm} {R H R' H' : Hp} {O : As} {σ : Sg} {ρ : Rho} (S : Stt p R H O σ ρ) (g : Grow R H R' H') : Stt p R' H' O σ ρ ∧ Tr R H O R' H' O := by
  refine ⟨⟨g.s, fun b ob => ?_, fun b ob e => ?_, S.len, fun i d e => ?_, fun i b ds e => ?_, S.pn, S.inj, fun i tag d e => ?_⟩, ⟨g.r, fun b o e _ => g.h b o e, fun b e => (g.n b e).imp id .inl, fun b e => .inl e, fun b e z => ?_⟩⟩
  · cases q : R' b with
    | none => rfl
    | some o => exact ((g.n b (by rw [q]; exact fun z => nomatch z)).elim (fun z => z (S.dis b ob)) fun z => S.al b ob z).elim
  · cases q : H b with
    | none => exact S.al b ob q
    | some o => have := g.h b o q; rw [e] at this; cases this
  · obtain ⟨v, e1, e2⟩ := S.im i d e; exact ⟨v, e1, dp_mono g.r d v e2⟩
  · obtain ⟨a, vs, e1, e2, e3, e4⟩ := S.ow i b ds e; exact ⟨a, vs, e1, e2, g.h _ _ e3, dpAll_mono g.r ds vs e4⟩
  · obtain ⟨e1, e2, dd, v, e3, e4, e5, e6⟩ := S.xn i tag d e
    exact ⟨e1, e2, dd, v, e3, e4, g.h _ _ e5, dp_mono g.r d v e6⟩
  · cases q : H b with
    | none => exact e q
    | some o => have := g.h b o q; rw [z] at this; cases this
/-- a new list is laid -/
theorem Stt.laid {p : Pm} {R H : Hp} {O : As} {σ : Sg} {ρ : Rho} (S : Stt p R H O σ ρ) {a : Addr} {o : HO} (ha : H a = none) : Stt p R (upd H a o) (fun b => O b ∨ b = a) σ ρ ∧ Tr R H O R (upd H a o) (fun b => O b ∨ b = a) := by
  have na : R a = none := by
    cases e : R a with
    | none => rfl
    | some o => have := S.sub a o e; rw [ha] at this; cases this
  have k : ∀ b u, H b = some u → upd H a o b = some u := fun b u e => by rw [upd_ne (ne_of_none e ha)]; exact e
  have kn : ∀ b, H b ≠ none → upd H a o b ≠ none := fun b e => by
    cases q : H b with
    | none => exact absurd q e
    | some u => rw [k b u q]; exact fun z => nomatch z
  refine ⟨⟨fun b u e => k b u (S.sub b u e), fun b ob => ?_, fun b ob => ?_, S.len, S.im, fun i b ds e => ?_, S.pn, S.inj, fun i tag d e => ?_⟩, ⟨fun _ _ e => e, fun b u e _ => k b u e, fun b e => .inl e, fun b ob => ob.imp id fun z => by subst z; exact ha, kn⟩⟩
  · rcases ob with ob | rfl
    · exact S.dis b ob
    · exact na
  · rcases ob with ob | rfl
    · exact kn b (S.al b ob)
    · rw [upd_same]; exact fun z => nomatch z
  · obtain ⟨c, vs, e1, e2, e3, e4⟩ := S.ow i b ds e; exact ⟨c, vs, e1, .inl e2, k _ _ e3, e4⟩
  · obtain ⟨e1, e2, dd, v, e3, e4, e5, e6⟩ := S.xn i tag d e
    exact ⟨e1, e2, dd, v, e3, (fun z => z.elim e4 (fun z => by subst z; rw [ha] at e5; cases e5)), k _ _ e5, e6⟩
/-- what comes of an operation: data, or a new list -/
def Out (K : PySem.W.Frag) (R H : Hp) (Q : VK) : Rs → Prop
  | .im d => ∀ v R' H', Grow R H R' H' → Dp K R' v d → Q v H'
  | .fr ds => ∀ a vs, H a = none → DpAll K R vs ds → Q (.ref a) (upd H a (.lst vs))
  | .sl _ => False
theorem out_of {p : Pm} {EX : WX} {R H : Hp} {O : As} {σ : Sg} {ρ : Rho} {Q : VK} {z : Rs} (S : Stt p R H O σ ρ) (hz : ∀ i, z ≠ .sl i) (g : Good p EX (Rr p.K) R H O σ Q (.ok z ρ)) : Out p.K R H Q z := by
  cases z with
  | im d =>
    intro v R' H' gr h
    obtain ⟨S', T'⟩ := S.grow gr
    exact g v R' H' O S' T' h
  | fr ds =>
    intro a vs ha hd
    obtain ⟨S', T'⟩ := S.laid (o := .lst vs) ha
    refine g _ _ _ _ S' T' ⟨a, vs, rfl, .inr rfl, upd_same, hd, fun i b es e e2 => ?_⟩
    obtain ⟨c, ws, e1, e3, e4, _⟩ := S.ow i b es e
    rw [e1] at e2; cases e2
    rw [ha] at e4; cases e4
  | sl i => exact absurd rfl (hz i)

/-! ### names, constants -/
def varF (i : Nat) : Rho → Ou Rs := fun ρ => match ρ[i]? with
  | some (.im d) => .ok (.im d) ρ
  | some (.ow _ _) => .ok (.sl i) ρ
  | _ => .bad
theorem sem_var {p : Pm} {EX : WX} (i : Nat) : SemE p EX (tVar i) (varF i) := by
  intro R H O σ ρ Q S g
  unfold varF at g
  split at g
  · rename_i d e
    obtain ⟨v, e1, h⟩ := S.im i d e
    exact ⟨v, e1, g v R H O S .refl h⟩
  · rename_i b ds e
    obtain ⟨a, vs, e1, _⟩ := S.ow i b ds e
    exact ⟨_, e1, g _ R H O S .refl ⟨b, ds, e, e1⟩⟩
  · exact g.elim
def cF (d : D) : Rho → Ou Rs := fun ρ => .ok (.im d) ρ
theorem sem_c {p : Pm} {EX : WX} {v : V} {d : D} (h : ∀ R, Dp p.K R v d) : SemE p EX (tC v) (cF d) := fun R H O σ ρ Q S g => g v R H O S .refl (h R)
theorem sem_int {p : Pm} {EX : WX} (i : Int) : SemE p EX (tC (.int i)) (cF (.int i)) := sem_c fun _ => .int i
theorem sem_bl {p : Pm} {EX : WX} (b : Bool) : SemE p EX (tC (.bl b)) (cF (.bool b)) := sem_c fun _ => .bl b
theorem sem_non {p : Pm} {EX : WX} : SemE p EX (tC .non) (cF .none) := sem_c fun _ => .non
theorem sem_str {p : Pm} {EX : WX} (x : Str) : SemE p EX (tC (.str x)) (cF (.str x)) := sem_c fun _ => .str x

/-! ### operations by values -/
def OpV (K : PySem.W.Frag) (r : R2) (f : D → D → Option Rs) : Prop := ∀ (R H : Hp) (v u : V) (d e : D) (z : Rs) (Q : VK), (∀ b o, R b = some o → H b = some o) → Vr K R H v d → Vr K R H u e → f d e = some z → Out K R H Q z → r v u H Q
def UnV (K : PySem.W.Frag) (r : V → Hp → VK → Prop) (f : D → Option Rs) : Prop := ∀ (R H : Hp) (v : V) (d : D) (z : Rs) (Q : VK), (∀ b o, R b = some o → H b = some o) → Vr K R H v d → f d = some z → Out K R H Q z → r v H Q
def Vrs (K : PySem.W.Frag) (R H : Hp) : List V → List D → Prop
  | [], [] => True
  | v :: vs, d :: ds => Vr K R H v d ∧ Vrs K R H vs ds
  | _, _ => False
def CallV (K : PySem.W.Frag) (r : List V → Hp → VK → Prop) (f : List D → Option Rs) : Prop := ∀ (R H : Hp) (vs : List V) (ds : List D) (z : Rs) (Q : VK), (∀ b o, R b = some o → H b = some o) → Vrs K R H vs ds → f ds = some z → Out K R H Q z → r vs H Q
/-- an operation's end: never a slot -/
def fin (z : Option Rs) (ρ : Rho) : Ou Rs := match z with
  | some (.im d) => .ok (.im d) ρ
  | some (.fr ds) => .ok (.fr ds) ρ
  | _ => .bad
theorem fin_ok {p : Pm} {EX : WX} {R H : Hp} {O : As} {σ : Sg} {ρ : Rho} {Q : VK} {z : Option Rs} (S : Stt p R H O σ ρ) (g : Good p EX (Rr p.K) R H O σ Q (fin z ρ)) : ∃ y, z = some y ∧ Out p.K R H Q y := by
  unfold fin at g
  split at g
  · exact ⟨_, rfl, out_of S (fun _ z => nomatch z) g⟩
  · exact ⟨_, rfl, out_of S (fun _ z => nomatch z) g⟩
  · exact g.elim
def op2 (f : D → D → Option Rs) (r1 r2 : Rs) (ρ : Rho) : Ou Rs := match dr ρ r1, dr ρ r2 with
  | some d, some e => fin (f d e) ρ
  | _, _ => .bad
def opF (f : D → D → Option Rs) (Fa Fb : Rho → Ou Rs) : Rho → Ou Rs := fun ρ => bd (frz (Fa ρ)) fun r1 ρ1 => bd (frz (Fb ρ1)) fun r2 ρ2 => op2 f r1 r2 ρ2
theorem sem_op {p : Pm} {EX : WX} {ta tb : TE} {Fa Fb : Rho → Ou Rs} {r : R2} {f : D → D → Option Rs} (hf : OpV p.K r f) (ha : SemE p EX ta Fa) (hb : SemE p EX tb Fb) : SemE p EX (tOp r ta tb) (opF f Fa Fb) := by
  refine Sem.bind (k := fun x σ H Q => tb σ H fun y H2 => r x y H2 Q) (G := fun r1 ρ1 => bd (frz (Fb ρ1)) fun r2 ρ2 => op2 f r1 r2 ρ2) ha.op fun R H O σ ρ v a Q S hv g => ?_
  have hb' := hb.op R H O σ ρ (fun y H2 => r v y H2 Q) S
  refine hb' ?_
  show Good p EX _ R H O σ _ (frz (Fb ρ))
  have g : Good p EX (Rr p.K) R H O σ Q (bd (frz (Fb ρ)) fun r2 ρ2 => op2 f a r2 ρ2) := g
  cases e : frz (Fb ρ) with
  | bad => rw [e] at g; exact g
  | ex t d ρ' => rw [e] at g; exact g
  | ok c ρ2 =>
    rw [e] at g
    intro u R2 H2 O2 S2 T2 hu
    have g : Good p EX (Rr p.K) R H O σ Q (op2 f a c ρ2) := g
    unfold op2 at g
    split at g
    · rename_i d1 d2 e1 e2
      have g2 : Good p EX (Rr p.K) R2 H2 O2 σ Q (fin (f d1 d2) ρ2) := by
        cases q : fin (f d1 d2) ρ2 with
        | bad => rw [q] at g; exact g
        | ok z ρ3 => rw [q] at g; exact fun b R3 H3 O3 S3 T3 h3 => g b R3 H3 O3 S3 (T2.trans T3) h3
        | ex t d ρ3 => rw [q] at g; exact fun dx w R3 H3 O3 S3 T3 f => g dx w R3 H3 O3 S3 (T2.trans T3) (T2.fresh f)
      obtain ⟨z, ez, oz⟩ := fin_ok S2 g2
      exact hf R2 H2 v u d1 d2 z Q S2.sub (op_vr S2 (T2.op hv) e1) (op_vr S2 hu e2) ez oz
    · exact g.elim
def op1 (f : D → Option Rs) (r1 : Rs) (ρ : Rho) : Ou Rs := match dr ρ r1 with
  | some d => fin (f d) ρ
  | _ => .bad
def unF (f : D → Option Rs) (Fa : Rho → Ou Rs) : Rho → Ou Rs := fun ρ => bd (frz (Fa ρ)) (op1 f)
theorem sem_un {p : Pm} {EX : WX} {ta : TE} {Fa : Rho → Ou Rs} {r : V → Hp → VK → Prop} {f : D → Option Rs} (hf : UnV p.K r f) (ha : SemE p EX ta Fa) : SemE p EX (fun σ H Q => ta σ H fun x H1 => r x H1 Q) (unF f Fa) := by
  refine Sem.bind (k := fun x σ H Q => r x H Q) (G := op1 f) ha.op fun R H O σ ρ v a Q S hv g => ?_
  unfold op1 at g
  split at g
  · rename_i d e
    obtain ⟨z, ez, oz⟩ := fin_ok S g
    exact hf R H v d z Q S.sub (op_vr S hv e) ez oz
  · exact g.elim

/-! ### argument lists -/
def nilF : Rho → Ou (List Rs) := fun ρ => .ok [] ρ
def consF (Fa : Rho → Ou Rs) (Fr : Rho → Ou (List Rs)) : Rho → Ou (List Rs) := fun ρ => bd (frz (Fa ρ)) fun r1 ρ1 => bd (Fr ρ1) fun rs ρ2 => .ok (r1 :: rs) ρ2
theorem Good.tr {α β : Type} {p : Pm} {EX : WX} {rel : Hp → Hp → As → Sg → Rho → β → α → Prop} {R H R2 H2 : Hp} {O O2 : As} {σ : Sg} {Q : β → Hp → Prop} {o : Ou α} (T : Tr R H O R2 H2 O2) (g : Good p EX rel R H O σ Q o) : Good p EX rel R2 H2 O2 σ Q o := by
  cases o with
  | bad => exact g
  | ok a ρ => exact fun b R3 H3 O3 S3 T3 h3 => g b R3 H3 O3 S3 (T.trans T3) h3
  | ex t d ρ => exact fun dx w R3 H3 O3 S3 T3 f => g dx w R3 H3 O3 S3 (T.trans T3) (T.fresh f)
theorem sem_nil {p : Pm} {EX : WX} : SemA p EX tNil nilF := fun R H O σ ρ Q S g => g [] R H O S .refl True.intro
theorem ops_tr {K : PySem.W.Frag} {R H R' H' : Hp} {O O' : As} (t : Tr R H O R' H' O') {σ : Sg} : ∀ {vs : List V} {rs : List Rs}, Ops K R σ vs rs → Ops K R' σ vs rs
  | [], [], _ => True.intro
  | _ :: _, _ :: _, h => ⟨t.op h.1, ops_tr t h.2⟩
  | [], _ :: _, h => h.elim
  | _ :: _, [], h => h.elim
theorem sem_cons {p : Pm} {EX : WX} {ta : TE} {tr : TA} {Fa : Rho → Ou Rs} {Fr : Rho → Ou (List Rs)} (ha : SemE p EX ta Fa) (hr : SemA p EX tr Fr) : SemA p EX (tCons ta tr) (consF Fa Fr) := by
  refine Sem.bind (k := fun x σ H Q => tr σ H fun xs H2 => Q (x :: xs) H2) (G := fun r1 ρ1 => bd (Fr ρ1) fun rs ρ2 => .ok (r1 :: rs) ρ2) ha.op fun R H O σ ρ v a Q S hv g => ?_
  refine hr R H O σ ρ _ S ?_
  have g : Good p EX _ R H O σ Q (bd (Fr ρ) fun rs ρ2 => .ok (a :: rs) ρ2) := g
  cases e : Fr ρ with
  | bad => rw [e] at g; exact g
  | ex t d ρ' => rw [e] at g; exact g
  | ok rs ρ2 => rw [e] at g; exact fun vs R2 H2 O2 S2 T2 h2 => g (v :: vs) R2 H2 O2 S2 T2 ⟨T2.op hv, h2⟩
def drs (ρ : Rho) : List Rs → Option (List D)
  | [] => some []
  | r :: rs => match dr ρ r, drs ρ rs with
    | some d, some ds => some (d :: ds)
    | _, _ => none
theorem ops_vrs {p : Pm} {R H : Hp} {O : As} {σ : Sg} {ρ : Rho} (S : Stt p R H O σ ρ) : ∀ {vs : List V} {rs : List Rs} {ds : List D}, Ops p.K R σ vs rs → drs ρ rs = some ds → Vrs p.K R H vs ds
  | [], [], ds, _, e => by cases Option.some.inj e; exact True.intro
  | v :: vs, r :: rs, ds, h, e => by
    unfold drs at e
    split at e
    · rename_i d es e1 e2
      cases Option.some.inj e
      exact ⟨op_vr S h.1 e1, ops_vrs S h.2 e2⟩
    · cases e
  | [], _ :: _, _, h, _ => h.elim
  | _ :: _, [], _, h, _ => h.elim
def call1 (f : List D → Option Rs) (rs : List Rs) (ρ : Rho) : Ou Rs := match drs ρ rs with
  | some ds => fin (f ds) ρ
  | none => .bad
def callF (f : List D → Option Rs) (F : Rho → Ou (List Rs)) : Rho → Ou Rs := fun ρ => bd (F ρ) (call1 f)
theorem sem_call {p : Pm} {EX : WX} {t : TA} {F : Rho → Ou (List Rs)} {r : List V → Hp → VK → Prop} {f : List D → Option Rs} (hf : CallV p.K r f) (h : SemA p EX t F) : SemE p EX (tCB r t) (callF f F) := by
  refine Sem.bind (k := fun vs σ H Q => r vs H Q) (G := call1 f) h fun R H O σ ρ v a Q S hv g => ?_
  unfold call1 at g
  split at g
  · rename_i ds e
    obtain ⟨z, ez, oz⟩ := fin_ok S g
    exact hf R H v ds z Q S.sub (ops_vrs S hv e) ez oz
  · exact g.elim
/-- arguments as data for good -/
abbrev SemAD (p : Pm) (EX : WX) : TA → (Rho → Ou (List D)) → Prop := Sem p EX (fun R _ _ _ _ vs ds => DpAll p.K R vs ds)
def consD (Fa : Rho → Ou Rs) (Fr : Rho → Ou (List D)) : Rho → Ou (List D) := fun ρ => bd (bd (frz (Fa ρ)) dat) fun d ρ1 => bd (Fr ρ1) fun ds ρ2 => .ok (d :: ds) ρ2
def nilD : Rho → Ou (List D) := fun ρ => .ok [] ρ
theorem sem_nilD {p : Pm} {EX : WX} : SemAD p EX tNil nilD := fun R H O σ ρ Q S g => g [] R H O S .refl .nil
theorem sem_consD {p : Pm} {EX : WX} {ta : TE} {tr : TA} {Fa : Rho → Ou Rs} {Fr : Rho → Ou (List D)} (ha : SemE p EX ta Fa) (hr : SemAD p EX tr Fr) : SemAD p EX (tCons ta tr) (consD Fa Fr) := by
  refine Sem.bind (k := fun x σ H Q => tr σ H fun xs H2 => Q (x :: xs) H2) (G := fun r1 ρ1 => bd (Fr ρ1) fun rs ρ2 => .ok (r1 :: rs) ρ2) ha.op.dat fun R H O σ ρ v a Q S hv g => ?_
  refine hr R H O σ ρ _ S ?_
  have g : Good p EX _ R H O σ Q (bd (Fr ρ) fun rs ρ2 => .ok (a :: rs) ρ2) := g
  cases e : Fr ρ with
  | bad => rw [e] at g; exact g
  | ex t d ρ' => rw [e] at g; exact g
  | ok rs ρ2 => rw [e] at g; exact fun vs R2 H2 O2 S2 T2 h2 => g (v :: vs) R2 H2 O2 S2 T2 (.cons (T2.dp hv) h2)
/-- displays -/
def tupD (ds : List D) (ρ : Rho) : Ou Rs := if ds.length ≤ sizeLine then .ok (.im (.tuple ds)) ρ else .bad
def lstD (ds : List D) (ρ : Rho) : Ou Rs := if ds.length ≤ sizeLine then .ok (.fr ds) ρ else .bad
def tupF (F : Rho → Ou (List D)) : Rho → Ou Rs := fun ρ => bd (F ρ) tupD
def lstF (F : Rho → Ou (List D)) : Rho → Ou Rs := fun ρ => bd (F ρ) lstD
theorem sem_tup {p : Pm} {EX : WX} {t : TA} {F : Rho → Ou (List D)} (h : SemAD p EX t F) : SemE p EX (tTup t) (tupF F) := by
  refine Sem.bind (k := fun xs σ H (Q : VK) => xs.length ≤ sizeLine ∧ ∀ a, H a = none → Q (V.ref a) (upd H a (.tup xs))) (G := tupD) h fun R H O σ ρ vs ds Q S hv g => ?_
  unfold tupD at g
  split at g
  · rename_i hz
    refine ⟨by rw [dpAll_len hv]; exact hz, fun a ha => ?_⟩
    exact out_of (z := .im (.tuple ds)) S (fun _ z => nomatch z) g _ _ _ (.tup S.sub ha) (.tup (.inl (.inl upd_same)) (dpAll_mono (Grow.tup S.sub ha).r ds vs hv))
  · exact g.elim
theorem sem_lst {p : Pm} {EX : WX} {t : TA} {F : Rho → Ou (List D)} (h : SemAD p EX t F) : SemE p EX (tLst t) (lstF F) := by
  refine Sem.bind (k := fun xs σ H (Q : VK) => xs.length ≤ sizeLine ∧ ∀ a, H a = none → Q (V.ref a) (upd H a (.lst xs))) (G := lstD) h fun R H O σ ρ vs ds Q S hv g => ?_
  unfold lstD at g
  split at g
  · rename_i hz
    exact ⟨by rw [dpAll_len hv]; exact hz, fun a ha => out_of (z := .fr ds) S (fun _ z => nomatch z) g a vs ha hv⟩
  · exact g.elim

/-! ### tests -/
def blO (r : Rs) (ρ : Rho) : Ou Bool := match r with
  | .im (.bool b) => .ok b ρ
  | _ => .bad
def tstF (F : Rho → Ou Rs) : Rho → Ou Bool := fun ρ => bd (F ρ) blO
theorem sem_tst {p : Pm} {EX : WX} {t : TE} {F : Rho → Ou Rs} (h : SemE p EX t F) : SemT p EX (fun σ H Q => t σ H fun x H' => ∃ k, x = .bl k ∧ Q k H') (tstF F) := by
  refine Sem.bind (k := fun x σ H Q => ∃ k, x = .bl k ∧ Q k H) (G := blO) h fun R H O σ ρ v a Q S hv g => ?_
  unfold blO at g
  split at g
  · rename_i b
    have hv : Dp p.K R v (.bool b) := hv
    cases hv
    exact ⟨b, rfl, g b R H O S .refl rfl⟩
  · exact g.elim
def tru : D → Option Bool
  | .none => some false
  | .bool b => some b
  | .int i => some (i != 0)
  | .str x => if x.length ≤ sizeLine then some ((x.length : Int) != 0) else none
  | .list ds => some (!ds.isEmpty)
  | .tuple ds => some (!ds.isEmpty)
  | .dict _ => none
theorem isE {K : PySem.W.Frag} {R : Hp} : ∀ {vs : List V} {ds : List D}, DpAll K R vs ds → vs.isEmpty = ds.isEmpty
  | _, _, .nil => rfl
  | _, _, .cons _ _ => rfl
theorem tru_v {K : PySem.W.Frag} {R H : Hp} {v : V} {d : D} {b : Bool} (m : ∀ b o, R b = some o → H b = some o) (h : Vr K R H v d) (e : tru d = some b) : TruV K v H b := by
  cases d with
  | none => cases h; exact (Option.some.inj e).symm
  | bool c => cases h; exact (Option.some.inj e).symm
  | int i => cases h; exact (Option.some.inj e).symm
  | str x =>
    cases h
    unfold tru at e
    dsimp only at e
    split at e
    · rename_i hz; exact ⟨hz, (Option.some.inj e).symm⟩
    · cases e
  | list ds =>
    obtain ⟨a, vs, rfl, hs, hd⟩ := h
    exact .inl ⟨vs, hs, by rw [isE hd]; exact (Option.some.inj e).symm⟩
  | tuple ds =>
    have h : Dp K R v (.tuple ds) := h
    cases h with
    | tup hs hd => exact .inr (.inl ⟨_, sqT_mono m hs, by rw [isE hd]; exact (Option.some.inj e).symm⟩)
  | dict k => cases e
def truO (r : Rs) (ρ : Rho) : Ou Bool := match (dr ρ r).bind tru with
  | some b => .ok b ρ
  | none => .bad
def truF (F : Rho → Ou Rs) : Rho → Ou Bool := fun ρ => bd (frz (F ρ)) truO
theorem sem_tru {p : Pm} {EX : WX} {t : TE} {F : Rho → Ou Rs} (h : SemE p EX t F) : SemT p EX (fun σ H Q => t σ H fun x H' => ∃ k, TruV p.K x H' k ∧ Q k H') (truF F) := by
  refine Sem.bind (k := fun x σ H Q => ∃ k, TruV p.K x H k ∧ Q k H) (G := truO) h.op fun R H O σ ρ v a Q S hv g => ?_
  unfold truO at g
  split at g
  · rename_i b e
    obtain ⟨d, e1, e2⟩ := Option.bind_eq_some_iff.mp e
    exact ⟨b, tru_v S.sub (op_vr S hv e1) e2, g b R H O S .refl rfl⟩
  · exact g.elim
def andF (F G : Rho → Ou Bool) : Rho → Ou Bool := fun ρ => bd (F ρ) fun b ρ1 => if b = true then G ρ1 else .ok false ρ1
def orF (F G : Rho → Ou Bool) : Rho → Ou Bool := fun ρ => bd (F ρ) fun b ρ1 => if b = true then .ok true ρ1 else G ρ1
def notF (F : Rho → Ou Bool) : Rho → Ou Bool := fun ρ => bd (F ρ) fun b ρ1 => .ok (!b) ρ1
theorem sem_and {p : Pm} {EX : WX} {t u : TT} {F G : Rho → Ou Bool} (h : SemT p EX t F) (k : SemT p EX u G) : SemT p EX (tAnd t u) (andF F G) := by
  refine Sem.bind (k := fun c σ H Q => if c = true then u σ H Q else Q false H) (G := fun b ρ1 => if b = true then G ρ1 else .ok false ρ1) h fun R H O σ ρ v a Q S hv g => ?_
  subst hv
  cases v with
  | true => exact k R H O σ ρ Q S g
  | false => exact g false R H O S .refl rfl
theorem sem_or {p : Pm} {EX : WX} {t u : TT} {F G : Rho → Ou Bool} (h : SemT p EX t F) (k : SemT p EX u G) : SemT p EX (tOr t u) (orF F G) := by
  refine Sem.bind (k := fun c σ H Q => if c = true then Q true H else u σ H Q) (G := fun b ρ1 => if b = true then .ok true ρ1 else G ρ1) h fun R H O σ ρ v a Q S hv g => ?_
  subst hv
  cases v with
  | false => exact k R H O σ ρ Q S g
  | true => exact g true R H O S .refl rfl
theorem sem_not {p : Pm} {EX : WX} {t : TT} {F : Rho → Ou Bool} (h : SemT p EX t F) : SemT p EX (tNot t) (notF F) := by
  refine Sem.bind (k := fun c σ H Q => Q (!c) H) (G := fun b ρ1 => .ok (!b) ρ1) h fun R H O σ ρ v a Q S hv g => ?_
  subst hv
  exact g (!v) R H O S .refl rfl
/-- tests as values -/
def andV (F G : Rho → Ou Rs) : Rho → Ou Rs := fun ρ => bd (tstF F ρ) fun b ρ1 => if b = true then G ρ1 else .ok (.im (.bool false)) ρ1
def orV (F G : Rho → Ou Rs) : Rho → Ou Rs := fun ρ => bd (tstF F ρ) fun b ρ1 => if b = true then .ok (.im (.bool true)) ρ1 else G ρ1
def notV (F : Rho → Ou Rs) : Rho → Ou Rs := fun ρ => bd (tstF F ρ) fun b ρ1 => .ok (.im (.bool (!b))) ρ1
theorem tst_k {t : TE} {σ : Sg} {H : Hp} {Q : VK} {k : Bool → Sg → Hp → VK → Prop} (h : (fun σ H (Q : Bool → Hp → Prop) => t σ H fun x H' => ∃ k, x = .bl k ∧ Q k H') σ H (fun b H1 => k b σ H1 Q)) : t σ H fun x H1 => ∃ c, x = .bl c ∧ k c σ H1 Q := h
theorem sem_andV {p : Pm} {EX : WX} {t u : TE} {F G : Rho → Ou Rs} (h : SemE p EX t F) (k : SemE p EX u G) : SemE p EX (tAndV t u) (andV F G) := by
  refine Sem.bind (k := fun c σ H (Q : VK) => if c = true then u σ H Q else Q (V.bl false) H) (G := fun b ρ1 => if b = true then G ρ1 else .ok (.im (.bool false)) ρ1) (sem_tst h) fun R H O σ ρ v a Q S hv g => ?_
  subst hv
  cases v with
  | true => exact k R H O σ ρ Q S g
  | false => exact g _ R H O S .refl (.bl false)
theorem sem_orV {p : Pm} {EX : WX} {t u : TE} {F G : Rho → Ou Rs} (h : SemE p EX t F) (k : SemE p EX u G) : SemE p EX (tOrV t u) (orV F G) := by
  refine Sem.bind (k := fun c σ H (Q : VK) => if c = true then Q (V.bl true) H else u σ H Q) (G := fun b ρ1 => if b = true then .ok (.im (.bool true)) ρ1 else G ρ1) (sem_tst h) fun R H O σ ρ v a Q S hv g => ?_
  subst hv
  cases v with
  | false => exact k R H O σ ρ Q S g
  | true => exact g _ R H O S .refl (.bl true)
theorem sem_notV {p : Pm} {EX : WX} {t : TE} {F : Rho → Ou Rs} (h : SemE p EX t F) : SemE p EX (tNotV t) (notV F) := by
  refine Sem.bind (k := fun c σ H (Q : VK) => Q (V.bl (!c)) H) (G := fun b ρ1 => .ok (Rs.im (.bool (!b))) ρ1) (sem_tst h) fun R H O σ ρ v a Q S hv g => ?_
  subst hv
  exact g _ R H O S .refl (.bl (!v))
def ifF (C : Rho → Ou Bool) (F G : Rho → Ou Rs) : Rho → Ou Rs := fun ρ => bd (C ρ) fun b ρ1 => if b = true then F ρ1 else G ρ1
theorem sem_if {p : Pm} {EX : WX} {c : TT} {t u : TE} {C : Rho → Ou Bool} {F G : Rho → Ou Rs} (hc : SemT p EX c C) (h : SemE p EX t F) (k : SemE p EX u G) : SemE p EX (tIf c t u) (ifF C F G) := by
  refine Sem.bind (k := fun c σ H Q => if c = true then t σ H Q else u σ H Q) (G := fun b ρ1 => if b = true then F ρ1 else G ρ1) hc fun R H O σ ρ v a Q S hv g => ?_
  subst hv
  cases v with
  | true => exact h R H O σ ρ Q S g
  | false => exact k R H O σ ρ Q S g
/-- x is None -/
def isNon : D → Bool
  | .none => true
  | _ => false
theorem non_iff {K : PySem.W.Frag} {R H : Hp} {v : V} {d : D} (h : Vr K R H v d) : decide (v = .non) = isNon d := by
  cases d with
  | none => cases h; rfl
  | bool c => cases h; rfl
  | int i => cases h; rfl
  | str x => cases h; rfl
  | list ds => obtain ⟨a, vs, rfl, _⟩ := h; rfl
  | tuple ds => have h : Dp K R v (.tuple ds) := h; cases h; rfl
  | dict k => have h : Dp K R v (.dict k) := h; cases h
def isnD (neg : Bool) (d : D) : Option Rs := some (.im (.bool (if neg then !isNon d else isNon d)))
theorem sem_isN {p : Pm} {EX : WX} {t : TE} {F : Rho → Ou Rs} (h : SemE p EX t F) : SemE p EX (tIsN t) (unF (isnD false) F) :=
  sem_un (r := fun x H Q => Q (.bl (decide (x = .non))) H) (fun R H v d z Q m hv e o => by
    cases Option.some.inj e
    rw [non_iff hv]
    exact o _ R H (.refl m) (.bl _)) h
theorem sem_notN {p : Pm} {EX : WX} {t : TE} {F : Rho → Ou Rs} (h : SemE p EX t F) : SemE p EX (tNotN t) (unF (isnD true) F) :=
  sem_un (r := fun x H Q => Q (.bl (!decide (x = .non))) H) (fun R H v d z Q m hv e o => by
    cases Option.some.inj e
    rw [non_iff hv]
    exact o _ R H (.refl m) (.bl _)) h
end VL

namespace VL
open PySem PySem.Spec PyProof.Rows L2

/-! ### statements -/
inductive So where
  | bad
  | nx (r : Rho)
  | rt (v : Rs) (r : Rho)
  | bk (r : Rho)
  | ct (r : Rho)
  | ex (tag : Nat) (d : D) (r : Rho)
def GoodS (p : Pm) (EX : WX) (R H : Hp) (O : As) (E : Ends) : So → Prop
  | .bad => False
  | .nx ρ' => ∀ σ' R' H' O', Stt p R' H' O' σ' ρ' → Tr R H O R' H' O' → E.nx σ' H'
  | .rt r ρ' => ∀ v σ' R' H' O', Stt p R' H' O' σ' ρ' → Tr R H O R' H' O' → Rr p.K R' H' O' σ' ρ' v r → E.rt v H'
  | .bk ρ' => ∀ σ' R' H' O', Stt p R' H' O' σ' ρ' → Tr R H O R' H' O' → E.bk σ' H'
  | .ct ρ' => ∀ σ' R' H' O', Stt p R' H' O' σ' ρ' → Tr R H O R' H' O' → E.ct σ' H'
  | .ex tag d ρ' => ∀ dx v σ' R' H' O', Stt p R' H' O' σ' ρ' → Tr R H O R' H' O' → H dx = none → H' dx = some (.xd [(atS, v)]) → ¬ O' dx → Dp p.K R' v d → EX (.ref (p.xc tag)) (some dx) σ' H'
theorem GoodS.tr {p : Pm} {EX : WX} {R H R2 H2 : Hp} {O O2 : As} {E : Ends} {o : So} (T : Tr R H O R2 H2 O2) (g : GoodS p EX R H O E o) : GoodS p EX R2 H2 O2 E o := by
  cases o with
  | bad => exact g
  | nx ρ => exact fun σ' R3 H3 O3 S3 T3 => g σ' R3 H3 O3 S3 (T.trans T3)
  | rt r ρ => exact fun v σ' R3 H3 O3 S3 T3 => g v σ' R3 H3 O3 S3 (T.trans T3)
  | bk ρ => exact fun σ' R3 H3 O3 S3 T3 => g σ' R3 H3 O3 S3 (T.trans T3)
  | ct ρ => exact fun σ' R3 H3 O3 S3 T3 => g σ' R3 H3 O3 S3 (T.trans T3)
  | ex t d ρ => exact fun dx w σ' R3 H3 O3 S3 T3 f => g dx w σ' R3 H3 O3 S3 (T.trans T3) (T.fresh f)
def SemS (p : Pm) (EX : WX) (t : TS) (G : Rho → So) : Prop := ∀ (R H : Hp) (O : As) (σ : Sg) (ρ : Rho) (E : Ends), Stt p R H O σ ρ → GoodS p EX R H O E (G ρ) → t E σ H
/-- from an expression to a statement -/
def bs {α : Type} (o : Ou α) (f : α → Rho → So) : So := match o with
  | .bad => .bad
  | .ok a ρ => f a ρ
  | .ex t d ρ => .ex t d ρ
theorem Sem.stm {α β : Type} {p : Pm} {EX : WX} {rel : Hp → Hp → As → Sg → Rho → β → α → Prop} {t : Sg → Hp → (β → Hp → Prop) → Prop} {F : Rho → Ou α} {k : β → TS} {G : α → Rho → So} (h : Sem p EX rel t F)
    (hk : ∀ R H O σ ρ b a E, Stt p R H O σ ρ → rel R H O σ ρ b a → GoodS p EX R H O E (G a ρ) → k b E σ H) : SemS p EX (fun E σ H => t σ H fun b H1 => k b E σ H1) (fun ρ => bs (F ρ) G) := by
  intro R H O σ ρ E S g
  refine h R H O σ ρ _ S ?_
  have g : GoodS p EX R H O E (bs (F ρ) G) := g
  cases e : F ρ with
  | bad => rw [e] at g; exact g
  | ok a ρ' => rw [e] at g; exact fun b R' H' O' S' T' r' => hk R' H' O' σ ρ' b a E S' r' (g.tr T')
  | ex tag d ρ' => rw [e] at g; exact fun dx v R2 H2 O2 S2 T2 => g dx v σ R2 H2 O2 S2 T2
def seqS (F G : Rho → So) : Rho → So := fun ρ => match F ρ with
  | .nx ρ' => G ρ'
  | o => o
theorem sem_seq {p : Pm} {EX : WX} {t u : TS} {F G : Rho → So} (h : SemS p EX t F) (k : SemS p EX u G) : SemS p EX (tSeq t u) (seqS F G) := by
  intro R H O σ ρ E S g
  refine h R H O σ ρ _ S ?_
  have g : GoodS p EX R H O E (match F ρ with | .nx ρ' => G ρ' | o => o) := g
  cases e : F ρ with
  | nx ρ' => rw [e] at g; exact fun σ' R' H' O' S' T' => k R' H' O' σ' ρ' E S' (g.tr T')
  | bad => rw [e] at g; exact g
  | rt r ρ' => rw [e] at g; exact g
  | bk ρ' => rw [e] at g; exact g
  | ct ρ' => rw [e] at g; exact g
  | ex t d ρ' => rw [e] at g; exact g
def nxS : Rho → So := fun ρ => .nx ρ
theorem sem_next {p : Pm} {EX : WX} : SemS p EX tNext nxS := fun R H O σ ρ E S g => g σ R H O S .refl
theorem sem_break {p : Pm} {EX : WX} : SemS p EX tBreak (fun ρ => .bk ρ) := fun R H O σ ρ E S g => g σ R H O S .refl
theorem sem_cont {p : Pm} {EX : WX} : SemS p EX tCont (fun ρ => .ct ρ) := fun R H O σ ρ E S g => g σ R H O S .refl
def retS (F : Rho → Ou Rs) : Rho → So := fun ρ => bs (F ρ) fun r ρ' => .rt r ρ'
theorem sem_ret {p : Pm} {EX : WX} {t : TE} {F : Rho → Ou Rs} (h : SemE p EX t F) : SemS p EX (tRet t) (retS F) :=
  Sem.stm (k := fun b E σ H => E.rt b H) h fun R H O σ ρ b a E S r g => g b σ R H O S .refl r
theorem sem_retN {p : Pm} {EX : WX} : SemS p EX tRetN (fun ρ => .rt (.im .none) ρ) := fun R H O σ ρ E S g => g .non σ R H O S .refl .non
def dropS {α : Type} (F : Rho → Ou α) : Rho → So := fun ρ => bs (F ρ) fun _ ρ' => .nx ρ'
theorem sem_drop {p : Pm} {EX : WX} {t : TE} {F : Rho → Ou Rs} (h : SemE p EX t F) : SemS p EX (tDrop t) (dropS F) :=
  Sem.stm (k := fun b E σ H => E.nx σ H) h fun R H O σ ρ b a E S r g => g σ R H O S .refl
def iteS (C : Rho → Ou Bool) (F G : Rho → So) : Rho → So := fun ρ => bs (C ρ) fun b ρ1 => if b = true then F ρ1 else G ρ1
theorem sem_ite {p : Pm} {EX : WX} {c : TT} {t u : TS} {C : Rho → Ou Bool} {F G : Rho → So} (hc : SemT p EX c C) (h : SemS p EX t F) (k : SemS p EX u G) : SemS p EX (tIfS c t u) (iteS C F G) := by
  refine Sem.stm (k := fun b E σ H => if b = true then t E σ H else u E σ H) (G := fun b ρ1 => if b = true then F ρ1 else G ρ1) hc fun R H O σ ρ v a E S hv g => ?_
  subst hv
  cases v with
  | true => exact h R H O σ ρ E S g
  | false => exact k R H O σ ρ E S g

/-! ### targets -/
def pinned (ρ : Rho) (i : Nat) : Bool := match ρ[i]? with
  | some (.ow true _) => true
  | _ => false
theorem Stt.store {p : Pm} {R H : Hp} {O : As} {σ : Sg} {ρ : Rho} (S : Stt p R H O σ ρ) {i : Nat} {v : V} {x : Sl} (np : pinned ρ i = false)
    (hx : (∃ d, x = .im d ∧ Dp p.K R v d) ∨ (∃ a vs ds, x = .ow false ds ∧ v = .ref a ∧ O a ∧ H a = some (.lst vs) ∧ DpAll p.K R vs ds ∧ ∀ (j : Nat) b es, ρ[j]? = some (.ow b es) → σ[j]? ≠ some (some (.ref a)))) :
    Stt p R H O (σ.set i (some v)) (ρ.set i x) := by
  have hi : ∀ {y}, (ρ.set i x)[i]? = some y → i < σ.length := fun {y} e => by
    have h1 : i < (ρ.set i x).length := (List.getElem?_eq_some_iff.mp e).1
    rw [List.length_set] at h1; rw [← S.len]; exact h1
  have self : i < σ.length → (σ.set i (some v))[i]? = some (some v) := fun h => by rw [List.getElem?_set_self h]
  have other : ∀ {j}, i ≠ j → (σ.set i (some v))[j]? = σ[j]? := fun h => List.getElem?_set_ne h
  refine ⟨S.sub, S.dis, S.al, by rw [List.length_set, List.length_set]; exact S.len, fun j d e => ?_, fun j b ds e => ?_, fun j y w e hw => ?_, fun j k b c ds es a e1 e2 q1 q2 => ?_, fun j tag d e => ?_⟩
  · rcases set_get e with ⟨rfl, z⟩ | ⟨n, z⟩
    · rcases hx with ⟨d', rfl, h⟩ | ⟨a, vs, ds, rfl, _⟩
      · cases z; exact ⟨v, self (hi e), h⟩
      · cases z
    · obtain ⟨u, e1, e2⟩ := S.im j d z
      exact ⟨u, by rw [other n]; exact e1, e2⟩
  · rcases set_get e with ⟨rfl, z⟩ | ⟨n, z⟩
    · rcases hx with ⟨d', rfl, h⟩ | ⟨a, vs, ds', rfl, rfl, h1, h2, h3, _⟩
      · cases z
      · cases z; exact ⟨a, vs, self (hi e), h1, h2, h3⟩
    · obtain ⟨a, vs, e1, e2⟩ := S.ow j b ds z
      exact ⟨a, vs, by rw [other n]; exact e1, e2⟩
  · rcases set_get e with ⟨rfl, z⟩ | ⟨n, z⟩
    · rcases hx with ⟨d', rfl, h⟩ | ⟨a, vs, ds', rfl, _⟩ <;> (subst z; cases hw)
    · rw [other n]; exact S.pn j y w z hw
  · rcases set_get e1 with ⟨rfl, z1⟩ | ⟨n1, z1⟩
    · rcases hx with ⟨d', rfl, h⟩ | ⟨a', vs, ds', rfl, rfl, h1, h2, h3, h4⟩
      · cases z1
      · rcases set_get e2 with ⟨rfl, z2⟩ | ⟨n2, z2⟩
        · rfl
        · rw [self (hi e1)] at q1; cases q1
          rw [other n2] at q2
          exact (h4 k c es z2 q2).elim
    · rcases set_get e2 with ⟨rfl, z2⟩ | ⟨n2, z2⟩
      · rcases hx with ⟨d', rfl, h⟩ | ⟨a', vs, ds', rfl, rfl, h1, h2, h3, h4⟩
        · cases z2
        · rw [self (hi e2)] at q2; cases q2
          rw [other n1] at q1
          exact (h4 j b ds z1 q1).elim
      · rw [other n1] at q1; rw [other n2] at q2
        exact S.inj j k b c ds es a z1 z2 q1 q2
  · rcases set_get e with ⟨rfl, z⟩ | ⟨n, z⟩
    · rcases hx with ⟨d', rfl, h⟩ | ⟨a, vs, ds', rfl, _⟩ <;> cases z
    · rw [other n]; exact S.xn j tag d z
/-- name = value -/
def setN (i : Nat) (r : Rs) (ρ : Rho) : So := if pinned ρ i = true then .bad else match r with
  | .im d => .nx (ρ.set i (.im d))
  | .fr ds => .nx (ρ.set i (.ow false ds))
  | .sl j => bs (thaw j ρ) fun d ρ' => if pinned ρ' i = true then .bad else .nx (ρ'.set i (.im d))
def asgS (i : Nat) (F : Rho → Ou Rs) : Rho → So := fun ρ => bs (F ρ) (setN i)
theorem sem_asg {p : Pm} {EX : WX} {t : TE} {F : Rho → Ou Rs} {i : Nat} (h : SemE p EX t F) : SemS p EX (tAsg t (gName i)) (asgS i F) := by
  refine Sem.stm (k := fun x E σ H => E.nx (σ.set i (some x)) H) (G := setN i) h fun R H O σ ρ v a E S hv g => ?_
  unfold setN at g
  split at g
  · exact g.elim
  · rename_i np
    have np : pinned ρ i = false := by simpa using np
    cases a with
    | im d => exact g _ R H O (S.store np (.inl ⟨d, rfl, hv⟩)) .refl
    | fr ds =>
      obtain ⟨a, vs, rfl, oa, ha, hd, un⟩ := hv
      exact g _ R H O (S.store np (.inr ⟨a, vs, ds, rfl, rfl, oa, ha, hd, un⟩)) .refl
    | sl j =>
      obtain ⟨b, ds, _, e1⟩ := hv
      have g : GoodS p EX R H O E (bs (thaw j ρ) fun d ρ' => if pinned ρ' i = true then .bad else .nx (ρ'.set i (.im d))) := g
      cases q : thaw j ρ with
      | bad => rw [q] at g; exact g.elim
      | ex t d ρ' => exact (thaw_ex q).elim
      | ok d ρ' =>
        rw [q] at g
        obtain ⟨R', O', S', T', d'⟩ := thaw_ok S q e1
        have g : GoodS p EX R H O E (if pinned ρ' i = true then .bad else .nx (ρ'.set i (.im d))) := g
        split at g
        · exact g.elim
        · rename_i np'
          exact g _ R' H O' (S'.store (by simpa using np') (.inl ⟨d, rfl, d'⟩)) T'
abbrev Tg := D → Rho → Option Rho
abbrev Tgs := List D → Rho → Option Rho
/-- but for these slots the same -/
def But (ks : List Nat) (σ σ' : Sg) : Prop := σ'.length = σ.length ∧ ∀ j, j ∉ ks → σ'[j]? = σ[j]?
theorem But.trans {ks ls : List Nat} {σ σ1 σ2 : Sg} (a : But ks σ σ1) (b : But ls σ1 σ2) : But (ks ++ ls) σ σ2 :=
  ⟨b.1.trans a.1, fun j n => (b.2 j fun z => n (List.mem_append_right _ z)).trans (a.2 j fun z => n (List.mem_append_left _ z))⟩
def SemG (p : Pm) (ks : List Nat) (g : TG) (T : Tg) : Prop := ∀ (R H : Hp) (O : As) (σ : Sg) (ρ ρ' : Rho) (v : V) (d : D) (Q : Sg → Hp → Prop), Stt p R H O σ ρ → Dp p.K R v d → T d ρ = some ρ' → (∀ σ', Stt p R H O σ' ρ' → But ks σ σ' → Q σ' H) → g v σ H Q
def SemGs (p : Pm) (ks : List Nat) (g : TGs) (T : Tgs) : Prop := ∀ (R H : Hp) (O : As) (σ : Sg) (ρ ρ' : Rho) (vs : List V) (ds : List D) (Q : Sg → Hp → Prop), Stt p R H O σ ρ → DpAll p.K R vs ds → T ds ρ = some ρ' → (∀ σ', Stt p R H O σ' ρ' → But ks σ σ' → Q σ' H) → g vs σ H Q
def nameT (i : Nat) : Tg := fun d ρ => if pinned ρ i = true then none else some (ρ.set i (.im d))
theorem sem_name {p : Pm} {i : Nat} : SemG p [i] (gName i) (nameT i) := by
  intro R H O σ ρ ρ' v d Q S hv e q
  unfold nameT at e
  split at e
  · cases e
  · rename_i np
    cases Option.some.inj e
    exact q _ (S.store (by simpa using np) (.inl ⟨d, rfl, hv⟩)) ⟨by rw [List.length_set], fun j n => List.getElem?_set_ne fun z => n (by rw [z]; exact List.mem_cons_self)⟩
def nilT : Tgs := fun ds ρ => match ds with
  | [] => some ρ
  | _ => none
def consT (T : Tg) (U : Tgs) : Tgs := fun ds ρ => match ds with
  | d :: r => (T d ρ).bind (U r)
  | [] => none
def tupT (n : Nat) (U : Tgs) : Tg := fun d ρ => match d with
  | .tuple ds => if ds.length = n then U ds ρ else none
  | _ => none
theorem sem_gnil {p : Pm} : SemGs p [] gNil nilT := by
  intro R H O σ ρ ρ' vs ds Q S hv e q
  cases hv with
  | nil => cases Option.some.inj e; exact ⟨rfl, q σ S ⟨rfl, fun _ _ => rfl⟩⟩
  | cons _ _ => cases e
theorem sem_gcons {p : Pm} {ks ls : List Nat} {g : TG} {gs : TGs} {T : Tg} {U : Tgs} (h : SemG p ks g T) (k : SemGs p ls gs U) : SemGs p (ks ++ ls) (gCons g gs) (consT T U) := by
  intro R H O σ ρ ρ' vs ds Q S hv e q
  cases hv with
  | nil => cases e
  | cons h1 h2 =>
    obtain ⟨ρ1, e1, e2⟩ := Option.bind_eq_some_iff.mp e
    exact ⟨_, _, rfl, h R H O σ ρ ρ1 _ _ _ S h1 e1 fun σ' S' b1 => k R H O σ' ρ1 ρ' _ _ Q S' h2 e2 fun σ2 S2 b2 => q σ2 S2 (b1.trans b2)⟩
theorem sem_gtup {p : Pm} {ks : List Nat} {n : Nat} {gs : TGs} {U : Tgs} (k : SemGs p ks gs U) : SemG p ks (gTup p.K n gs) (tupT n U) := by
  intro R H O σ ρ ρ' v d Q S hv e q
  cases d with
  | tuple ds =>
    cases hv with
    | tup hs hd =>
      have e : (if ds.length = n then U ds ρ else none) = some ρ' := e
      split at e
      · rename_i hn
        exact ⟨_, _, rfl, sqT_mono S.sub hs, by rw [dpAll_len hd]; exact hn, k R H O σ ρ ρ' _ _ Q S hd e q⟩
      · cases e
  | none => cases e
  | bool _ => cases e
  | int _ => cases e
  | str _ => cases e
  | list _ => cases e
  | dict _ => cases e
/-- targets that take data -/
def tgS (T : Tg) (F : Rho → Ou Rs) : Rho → So := fun ρ => bs (bd (frz (F ρ)) dat) fun d ρ' => match T d ρ' with
  | some ρ2 => .nx ρ2
  | none => .bad
theorem sem_tg {p : Pm} {EX : WX} {t : TE} {F : Rho → Ou Rs} {ks : List Nat} {g : TG} {T : Tg} (hg : SemG p ks g T) (h : SemE p EX t F) : SemS p EX (tAsg t g) (tgS T F) := by
  refine Sem.stm (k := fun x E σ H => g x σ H E.nx) (G := fun d ρ' => match T d ρ' with | some ρ2 => .nx ρ2 | none => .bad) h.op.dat fun R H O σ ρ v a E S hv q => ?_
  cases e : T a ρ with
  | none =>
    have q : GoodS p EX R H O E (match T a ρ with | some ρ2 => .nx ρ2 | none => .bad) := q
    rw [e] at q; exact q.elim
  | some ρ2 =>
    have q : GoodS p EX R H O E (match T a ρ with | some ρ2 => .nx ρ2 | none => .bad) := q
    rw [e] at q
    exact hg R H O σ ρ ρ2 v a _ S hv e fun σ' S' _ => q σ' R H O S' .refl

/-! ### a list kept while more is done -/
theorem Stt.less {p : Pm} {R H : Hp} {O : As} {σ : Sg} {ρ : Rho} (S : Stt p R H O σ ρ) {a : Addr} (un : ∀ (i : Nat) b es, ρ[i]? = some (.ow b es) → σ[i]? ≠ some (some (.ref a))) : Stt p R H (fun b => O b ∧ b ≠ a) σ ρ :=
  ⟨S.sub, fun b ob => S.dis b ob.1, fun b ob => S.al b ob.1, S.len, S.im, fun i b ds e => by
    obtain ⟨c, vs, e1, e2, e3⟩ := S.ow i b ds e
    exact ⟨c, vs, e1, ⟨e2, fun z => by subst z; exact un i b ds e e1⟩, e3⟩, S.pn, S.inj, fun i tag d e => by
    obtain ⟨e1, e2, dd, v, e3, e4, e5⟩ := S.xn i tag d e
    exact ⟨e1, e2, dd, v, e3, fun z => e4 z.1, e5⟩⟩
/-- a list that was kept aside comes back -/
theorem Stt.back {p : Pm} {R H R2 H2 : Hp} {O O1 O2 : As} {σ : Sg} {ρ : Rho} {a : Addr} {vs : List V} {u : HO} (S2 : Stt p R2 H2 O2 σ ρ) (T : Tr R H O1 R2 H2 O2) (ha : H a = some u) (na : R a = none) (n1 : ¬ O1 a) (nx : ∀ w, u ≠ .xd w) (le : ∀ b, O1 b → O b) (oa : O a) :
    Stt p R2 H2 (fun b => O2 b ∨ b = a) σ ρ ∧ Tr R H O R2 H2 (fun b => O2 b ∨ b = a) ∧ H2 a = some u ∧ R2 a = none ∧ ¬ O2 a := by
  have h2 : H2 a = some u := T.h a u ha n1
  have r2 : R2 a = none := by
    cases q : R2 a with
    | none => rfl
    | some o =>
      rcases T.nw a (by rw [q]; exact fun z => nomatch z) with z | z | z
      · exact (z na).elim
      · rw [ha] at z; cases z
      · exact (n1 z).elim
  have o2 : ¬ O2 a := fun z => (T.o a z).elim n1 fun z => by rw [ha] at z; cases z
  refine ⟨⟨S2.sub, fun b ob => ?_, fun b ob => ?_, S2.len, S2.im, fun i b ds e => ?_, S2.pn, S2.inj, fun i tag d e => ?_⟩, ⟨T.r, fun b o e n => T.h b o e fun z => n (le b z), fun b e => (T.nw b e).imp id (Or.imp id (le b)), fun b ob => ?_, T.k⟩, h2, r2, o2⟩
  · rcases ob with ob | rfl
    · exact S2.dis b ob
    · exact r2
  · rcases ob with ob | rfl
    · exact S2.al b ob
    · rw [h2]; exact fun z => nomatch z
  · obtain ⟨c, ws, e1, e2, e3⟩ := S2.ow i b ds e; exact ⟨c, ws, e1, .inl e2, e3⟩
  · obtain ⟨e1, e2, dd, v, e3, e4, e5, e6⟩ := S2.xn i tag d e
    refine ⟨e1, e2, dd, v, e3, fun z => z.elim e4 fun z => ?_, e5, e6⟩
    subst z; rw [h2] at e5; exact nx _ (Option.some.inj e5)
  · rcases ob with ob | rfl
    · exact (T.o b ob).imp (le b) id
    · exact .inl oa

/-! ### loops -/
/-- what is walked gives these data, whatever grows -/
def ItOk (p : Pm) (R : Hp) (J : It) (ds : List D) : Prop := ∀ R1 H1, (∀ b o, R b = some o → R1 b = some o) → (∀ b o, R1 b = some o → H1 b = some o) →
  (∀ i d, ds[i]? = some d → J.go i H1 ∧ ∀ x H2, J.yld i H1 x H2 → ∃ R2, Grow R1 H1 R2 H2 ∧ Dp p.K R2 x d) ∧ (∀ i, ds.length ≤ i → J.stop i H1)
abbrev SemI (p : Pm) (EX : WX) : TI → (Rho → Ou (List D)) → Prop := Sem p EX (fun R _ _ _ _ J ds => ItOk p R J ds)
def forL (T : Tg) (B : Rho → So) : List D → Rho → So
  | [], ρ => .nx ρ
  | d :: ds, ρ => match T d ρ with
    | none => .bad
    | some ρ1 => match B ρ1 with
      | .nx ρ2 => forL T B ds ρ2
      | .ct ρ2 => forL T B ds ρ2
      | .bk ρ2 => .nx ρ2
      | o => o
def forS (I : Rho → Ou (List D)) (T : Tg) (B : Rho → So) : Rho → So := fun ρ => bs (I ρ) (forL T B)
theorem sem_for {p : Pm} {EX : WX} {wi : TI} {I : Rho → Ou (List D)} {ks : List Nat} {g : TG} {T : Tg} {tb : TS} {B : Rho → So} (hi : SemI p EX wi I) (hg : SemG p ks g T) (hb : SemS p EX tb B) : SemS p EX (tFor wi g tb) (forS I T B) := by
  refine Sem.stm (k := fun J E σ H1 => ∃ W : Nat → Nat → Sg → Hp → Prop, (∃ m, W 0 m σ H1) ∧ ∀ i m σ H, W i m σ H →
    (J.stop i H ∧ E.nx σ H) ∨ (J.go i H ∧ ∃ N : Sg → Hp → Prop, (∀ σ' H', N σ' H' → ∃ m', m' < m ∧ W (i + 1) m' σ' H') ∧ ∀ x H', J.yld i H x H' → g x σ H' fun σ2 H2 => tb { E with nx := N, ct := N, bk := E.nx } σ2 H2))
    (G := forL T B) hi fun R0 H0 O0 σ0 ρ0 J ds E S0 hJ g0 => ?_
  refine ⟨fun i m σ H => m + i = ds.length ∧ i ≤ ds.length ∧ ∃ R O ρ, Stt p R H O σ ρ ∧ Tr R0 H0 O0 R H O ∧ GoodS p EX R H O E (forL T B (ds.drop i) ρ),
    ⟨ds.length, by omega, Nat.zero_le _, R0, O0, ρ0, S0, .refl, g0⟩, fun i m σ H hW => ?_⟩
  obtain ⟨em, hi, R, O, ρ, S, T0, g1⟩ := hW
  obtain ⟨j1, j2⟩ := hJ R H T0.r S.sub
  by_cases hl : i < ds.length
  · have ed : ds[i]? = some ds[i] := List.getElem?_eq_getElem hl
    obtain ⟨jg, jy⟩ := j1 i _ ed
    rw [List.drop_eq_getElem_cons hl] at g1
    refine .inr ⟨jg, fun σ' H' => ∃ R' O' ρ', Stt p R' H' O' σ' ρ' ∧ Tr R0 H0 O0 R' H' O' ∧ GoodS p EX R' H' O' E (forL T B (ds.drop (i + 1)) ρ'), fun σ' H' hN => ⟨m - 1, by omega, by omega, hl, hN⟩, fun x H' hy => ?_⟩
    obtain ⟨R2, gr, dx⟩ := jy x H' hy
    obtain ⟨S2, T2⟩ := S.grow gr
    have g2 := GoodS.tr T2 g1
    unfold forL at g2
    split at g2
    · exact g2.elim
    · rename_i ρ1 e1
      refine hg R2 H' O σ ρ ρ1 x _ _ S2 dx e1 fun σ' S' _ => ?_
      refine hb R2 H' O σ' ρ1 _ S' ?_
      have T3 := T0.trans T2
      cases q : B ρ1 with
      | bad => rw [q] at g2; exact g2
      | nx ρ2 => rw [q] at g2; exact fun σ3 R3 H3 O3 S3 T4 => ⟨R3, O3, ρ2, S3, T3.trans T4, g2.tr T4⟩
      | ct ρ2 => rw [q] at g2; exact fun σ3 R3 H3 O3 S3 T4 => ⟨R3, O3, ρ2, S3, T3.trans T4, g2.tr T4⟩
      | bk ρ2 => rw [q] at g2; exact g2
      | rt r ρ2 => rw [q] at g2; exact g2
      | ex t d ρ2 => rw [q] at g2; exact g2
  · have e : ds.drop i = [] := List.drop_eq_nil_of_le (by omega)
    rw [e] at g1
    exact .inl ⟨j2 i (by omega), g1 σ R H O S .refl⟩
/-- a list or a tuple that is data -/
def itD (d : D) (ρ : Rho) : Ou (List D) := match d with
  | .list ds => .ok ds ρ
  | .tuple ds => .ok ds ρ
  | _ => .bad
def seqI (F : Rho → Ou Rs) : Rho → Ou (List D) := fun ρ => bd (bd (frz (F ρ)) dat) itD
theorem dpAll_none {K : PySem.W.Frag} {R : Hp} {vs : List V} {ds : List D} (h : DpAll K R vs ds) {i : Nat} (e : ds.length ≤ i) : vs.length ≤ i := by rw [dpAll_len h]; exact e
theorem it_list {p : Pm} {R : Hp} {a : Addr} {vs : List V} {ds : List D} (hs : SqL p.K R a vs) (hd : DpAll p.K R vs ds) : ItOk p R (Itl p.K a) ds := by
  intro R1 H1 m1 m2
  have h1 : SqL p.K H1 a vs := sqL_mono m2 (sqL_mono m1 hs)
  refine ⟨fun i d e => ?_, fun i e => ⟨vs, h1, dpAll_none hd e⟩⟩
  obtain ⟨v, ev, hv⟩ := dpAll_get hd e
  refine ⟨⟨vs, v, h1, ev⟩, fun x H2 hy => ?_⟩
  obtain ⟨rfl, q⟩ := hy
  have := q vs h1
  rw [ev] at this; cases this
  exact ⟨R1, .refl m2, dp_mono m1 d v hv⟩
theorem it_tup {p : Pm} {R : Hp} {a : Addr} {vs : List V} {ds : List D} (hs : SqT p.K R a vs) (hd : DpAll p.K R vs ds) : ItOk p R (Itt p.K a) ds := by
  intro R1 H1 m1 m2
  have h1 : SqT p.K H1 a vs := sqT_mono m2 (sqT_mono m1 hs)
  refine ⟨fun i d e => ?_, fun i e => ⟨vs, h1, dpAll_none hd e⟩⟩
  obtain ⟨v, ev, hv⟩ := dpAll_get hd e
  refine ⟨⟨vs, v, h1, ev⟩, fun x H2 hy => ?_⟩
  obtain ⟨rfl, q⟩ := hy
  have := q vs h1
  rw [ev] at this; cases this
  exact ⟨R1, .refl m2, dp_mono m1 d v hv⟩
def iSq (K : PySem.W.Frag) (t : TE) : TI := fun σ H R => iList K t σ H R ∨ iTup K t σ H R
theorem pi_sq {X : Cx} {tg l : Expr} {t : TE} (h : PE X l t) : PI X tg l (iSq X.K t) := ⟨fun pins s σ H R I q => q.elim ((pi_list h).run pins s σ H R I) ((pi_tup h).run pins s σ H R I)⟩
theorem sem_sq {p : Pm} {EX : WX} {t : TE} {F : Rho → Ou Rs} (h : SemE p EX t F) : SemI p EX (iSq p.K t) (seqI F) := by
  intro R H O σ ρ Q S g
  have hd := h.op.dat R H O σ ρ
  have g : Good p EX _ R H O σ Q (bd (bd (frz (F ρ)) dat) itD) := g
  cases e : bd (frz (F ρ)) dat with
  | bad => rw [e] at g; exact g.elim
  | ex t2 d ρ2 => rw [e] at g; exact .inl (hd _ S (by show Good p EX _ R H O σ _ (bd (frz (F ρ)) dat); rw [e]; exact g))
  | ok d ρ2 =>
    rw [e] at g
    cases d with
    | list ds =>
      refine .inl (hd (fun x H1 => ∃ a, x = .ref a ∧ (∃ xs, SqL p.K H1 a xs) ∧ Q (Itl p.K a) H1) S ?_)
      show Good p EX _ R H O σ _ (bd (frz (F ρ)) dat)
      rw [e]
      intro v R2 H2 O2 S2 T2 hv
      have hv : Dp p.K R2 v (.list ds) := hv
      cases hv with
      | lst hs ha => exact ⟨_, rfl, ⟨_, sqL_mono S2.sub hs⟩, g _ R2 H2 O2 S2 T2 (it_list hs ha)⟩
    | tuple ds =>
      refine .inr (hd (fun x H1 => ∃ a, x = .ref a ∧ (∃ xs, SqT p.K H1 a xs) ∧ Q (Itt p.K a) H1) S ?_)
      show Good p EX _ R H O σ _ (bd (frz (F ρ)) dat)
      rw [e]
      intro v R2 H2 O2 S2 T2 hv
      have hv : Dp p.K R2 v (.tuple ds) := hv
      cases hv with
      | tup hs ha => exact ⟨_, rfl, ⟨_, sqT_mono S2.sub hs⟩, g _ R2 H2 O2 S2 T2 (it_tup hs ha)⟩
    | none => exact g.elim
    | bool _ => exact g.elim
    | int _ => exact g.elim
    | str _ => exact g.elim
    | dict _ => exact g.elim
/-- range -/
def rngD (lo hi : Int) : List D := (List.range (hi - lo).toNat).map fun i => .int (lo + (i : Nat))
theorem it_rng {p : Pm} {R : Hp} {lo : Int} {n : Nat} : ItOk p R (Itr lo n) ((List.range n).map fun i => .int (lo + (i : Nat))) := by
  intro R1 H1 m1 m2
  refine ⟨fun i d e => ?_, fun i e => by rw [List.length_map, List.length_range] at e; exact e⟩
  rw [List.getElem?_map] at e
  by_cases hi : i < n
  · rw [List.getElem?_range hi] at e
    cases Option.some.inj e
    refine ⟨hi, fun x H2 hy => ?_⟩
    obtain ⟨rfl, rfl⟩ := hy
    exact ⟨R1, .refl m2, .int _⟩
  · rw [List.getElem?_eq_none (by rw [List.length_range]; omega)] at e; cases e
def rng1O (j : D) (ρ : Rho) : Ou (List D) := match j with
  | .int j => if -(2 ^ 62) ≤ j ∧ j < 2 ^ 62 then .ok (rngD 0 j) ρ else .bad
  | _ => .bad
def rng1I (F : Rho → Ou Rs) : Rho → Ou (List D) := fun ρ => bd (bd (frz (F ρ)) dat) rng1O
theorem sem_rng1 {p : Pm} {EX : WX} {t : TE} {F : Rho → Ou Rs} (h : SemE p EX t F) : SemI p EX (iRng1 (tCons t tNil)) (rng1I F) := by
  refine Sem.bind (k := fun v σ H R => ∃ j : Int, [v] = [V.int j] ∧ -(2 ^ 62) ≤ j ∧ j < 2 ^ 62 ∧ R (Itr 0 j.toNat) H) (G := rng1O) h.op.dat fun R H O σ ρ v a Q S hv g => ?_
  unfold rng1O at g
  split at g
  · rename_i j
    split at g
    · rename_i hb
      cases hv
      refine ⟨j, rfl, hb.1, hb.2, g _ R H O S .refl ?_⟩
      unfold rngD
      rw [Int.sub_zero]
      exact it_rng
    · exact g.elim
  · exact g.elim
def rng2O (ds : List D) (ρ : Rho) : Ou (List D) := match ds with
  | [.int i, .int j] => if -(2 ^ 62) ≤ i ∧ i < 2 ^ 62 ∧ -(2 ^ 62) ≤ j ∧ j < 2 ^ 62 then .ok (rngD i j) ρ else .bad
  | _ => .bad
def rng2I (F : Rho → Ou (List D)) : Rho → Ou (List D) := fun ρ => bd (F ρ) rng2O
theorem sem_rng2 {p : Pm} {EX : WX} {t : TA} {F : Rho → Ou (List D)} (h : SemAD p EX t F) : SemI p EX (iRng2 t) (rng2I F) := by
  refine Sem.bind (k := fun vs σ H R => ∃ i j : Int, vs = [.int i, .int j] ∧ (-(2 ^ 62) ≤ i ∧ i < 2 ^ 62 ∧ -(2 ^ 62) ≤ j ∧ j < 2 ^ 62) ∧ R (Itr i (j - i).toNat) H) (G := rng2O) h fun R H O σ ρ vs a Q S hv g => ?_
  unfold rng2O at g
  split at g
  · rename_i i j
    split at g
    · rename_i hb
      cases hv with
      | cons h1 h2 => cases h1; cases h2 with
        | cons h3 h4 => cases h3; cases h4; exact ⟨i, j, rfl, hb, g _ R H O S .refl it_rng⟩
    · exact g.elim
  · exact g.elim

/-! ### comprehensions -/
def wipeR (ρ : Rho) : List Nat → Rho
  | [] => ρ
  | v :: vs => (wipeR ρ vs).set v .un
theorem set_none {p : Pm} {R H : Hp} {O : As} {σ : Sg} {ρ : Rho} {i : Nat} (S : Stt p R H O σ ρ) (hi : pinned ρ i = false) : Stt p R H O (σ.set i none) (ρ.set i .un) := by
  have other : ∀ {j : Nat}, i ≠ j → (σ.set i none)[j]? = σ[j]? := fun h => List.getElem?_set_ne h
  refine ⟨S.sub, S.dis, S.al, by rw [List.length_set, List.length_set]; exact S.len, fun j d e => ?_, fun j b ds e => ?_, fun j y w e hw => ?_, fun j k b c ds es a e1 e2 q1 q2 => ?_, fun j tag d e => ?_⟩
  · rcases set_get e with ⟨rfl, z⟩ | ⟨n, z⟩
    · cases z
    · rw [other n]; exact S.im j d z
  · rcases set_get e with ⟨rfl, z⟩ | ⟨n, z⟩
    · cases z
    · rw [other n]; exact S.ow j b ds z
  · rcases set_get e with ⟨rfl, z⟩ | ⟨n, z⟩
    · subst z; cases hw
    · rw [other n]; exact S.pn j y w z hw
  · rcases set_get e1 with ⟨rfl, z1⟩ | ⟨n1, z1⟩
    · cases z1
    · rcases set_get e2 with ⟨rfl, z2⟩ | ⟨n2, z2⟩
      · cases z2
      · rw [other n1] at q1; rw [other n2] at q2; exact S.inj j k b c ds es a z1 z2 q1 q2
  · rcases set_get e with ⟨rfl, z⟩ | ⟨n, z⟩
    · cases z
    · rw [other n]; exact S.xn j tag d z
/-- no slot of these holds a list of its own, nor an error -/
def plainAt (ρ : Rho) (vs : List Nat) : Bool := vs.all fun i => match ρ[i]? with
  | some .un => true
  | some (.im _) => true
  | _ => false
theorem pinned_of_plain {ρ : Rho} {i : Nat} (h : (match ρ[i]? with | some .un => true | some (.im _) => true | _ => false) = true) : pinned ρ i = false := by
  unfold pinned
  split at h
  · rename_i e; rw [e]
  · rename_i e; rw [e]
  · cases h
theorem wipe_at {ρ : Rho} : ∀ {vs : List Nat} {i : Nat}, (wipeR ρ vs)[i]? = ρ[i]? ∨ (i ∈ vs ∧ (wipeR ρ vs)[i]? = some .un) ∨ ρ[i]? = none
  | [], i => .inl rfl
  | v :: vs, i => by
    unfold wipeR
    by_cases e : v = i
    · subst e
      rw [List.getElem?_set_self']
      cases q : (wipeR ρ vs)[v]? with
      | some z => exact .inr (.inl ⟨List.mem_cons_self, rfl⟩)
      | none =>
        rcases wipe_at (ρ := ρ) (vs := vs) (i := v) with z | ⟨_, z⟩ | z
        · rw [q] at z; exact .inr (.inr z.symm)
        · rw [q] at z; cases z
        · exact .inr (.inr z)
    · rw [List.getElem?_set_ne e]
      rcases wipe_at (ρ := ρ) (vs := vs) (i := i) with z | ⟨m, z⟩ | z
      · exact .inl z
      · exact .inr (.inl ⟨List.mem_cons_of_mem _ m, z⟩)
      · exact .inr (.inr z)
theorem wipe_ok {p : Pm} {R H : Hp} {O : As} {σ : Sg} {ρ : Rho} (S : Stt p R H O σ ρ) : ∀ (vs : List Nat), plainAt ρ vs = true → Stt p R H O (wipe σ vs) (wipeR ρ vs)
  | [], _ => S
  | v :: vs, h => by
    unfold plainAt at h
    rw [List.all_cons, Bool.and_eq_true] at h
    have ih := wipe_ok S vs h.2
    refine set_none ih ?_
    rcases wipe_at (ρ := ρ) (vs := vs) (i := v) with z | ⟨_, z⟩ | z
    · have := pinned_of_plain h.1
      unfold pinned at this ⊢
      rw [z]; exact this
    · unfold pinned; rw [z]
    · have h1 := h.1
      rw [z] at h1; cases h1
/-- a comprehension's slots after it: data stays, the rest of the state is what it has become -/
def unwipe (ρ0 ρ : Rho) : List Nat → Rho
  | [] => ρ
  | v :: vs => match ρ0[v]? with
    | some (.im d) => (unwipe ρ0 ρ vs).set v (.im d)
    | _ => (unwipe ρ0 ρ vs).set v .un
theorem wipe_get {σ : Sg} : ∀ {vs : List Nat} {i : Nat}, i ∉ vs → (wipe σ vs)[i]? = σ[i]?
  | [], _, _ => rfl
  | v :: vs, i, h => by
    unfold wipe
    rw [List.getElem?_set_ne fun z => h (by rw [z]; exact List.mem_cons_self)]
    exact wipe_get fun z => h (List.mem_cons_of_mem _ z)
theorem wipeR_none {ρ : Rho} : ∀ {vs : List Nat} {i : Nat}, i ∈ vs → (wipeR ρ vs)[i]? = none ∨ (wipeR ρ vs)[i]? = some .un
  | v :: vs, i, h => by
    unfold wipeR
    by_cases e : v = i
    · subst e
      rw [List.getElem?_set_self']
      cases (wipeR ρ vs)[v]? with
      | none => exact .inl rfl
      | some z => exact .inr rfl
    · rw [List.getElem?_set_ne e]
      exact wipeR_none ((List.mem_cons.mp h).resolve_left fun z => e z.symm)
/-- from the wiped slots back to all -/
theorem wide {p : Pm} {R H : Hp} {O : As} {σ : Sg} {ρ : Rho} {vs : List Nat} (S : Stt p R H O (wipe σ vs) ρ) (hl : ρ.length = σ.length) (hu : ∀ i ∈ vs, ρ[i]? = none ∨ ρ[i]? = some .un) : Stt p R H O σ ρ := by
  have ni : ∀ {i : Nat} {y : Sl}, ρ[i]? = some y → y ≠ .un → i ∉ vs := fun {i y} e n m => by
    rcases hu i m with z | z
    · rw [z] at e; cases e
    · rw [z] at e; exact n (Option.some.inj e).symm
  have g : ∀ {i : Nat} {y : Sl}, ρ[i]? = some y → y ≠ .un → (wipe σ vs)[i]? = σ[i]? := fun e n => wipe_get (ni e n)
  refine ⟨S.sub, S.dis, S.al, hl, fun j d e => ?_, fun j b ds e => ?_, fun j y w e hw => ?_, fun j k b c ds es a e1 e2 q1 q2 => ?_, fun j tag d e => ?_⟩
  · rw [← g e (fun z => nomatch z)]; exact S.im j d e
  · rw [← g e (fun z => nomatch z)]; exact S.ow j b ds e
  · rw [← g e (fun z => by subst z; cases hw)]; exact S.pn j y w e hw
  · rw [← g e1 (fun z => nomatch z)] at q1; rw [← g e2 (fun z => nomatch z)] at q2; exact S.inj j k b c ds es a e1 e2 q1 q2
  · rw [← g e (fun z => nomatch z)]; exact S.xn j tag d e
theorem unwipe_ok {p : Pm} {R0 H0 R H : Hp} {O0 O : As} {σ : Sg} {ρ0 ρ : Rho} (S0 : Stt p R0 H0 O0 σ ρ0) (T : Tr R0 H0 O0 R H O) (S : Stt p R H O σ ρ) : ∀ (vs : List Nat), Stt p R H O σ (unwipe ρ0 ρ vs)
  | [] => S
  | v :: vs => by
    unfold unwipe
    split
    · rename_i d e
      obtain ⟨u, e1, e2⟩ := S0.im v d e
      exact (unwipe_ok S0 T S vs).put (.inr ⟨d, u, rfl, e1, T.dp e2⟩)
    · exact (unwipe_ok S0 T S vs).put (.inl rfl)
theorem wipe_len (σ : Sg) : ∀ vs : List Nat, (wipe σ vs).length = σ.length := wipe_length σ
theorem wipe_in {σ : Sg} : ∀ {vs : List Nat} {i : Nat}, i ∈ vs → i < σ.length → (wipe σ vs)[i]? = some none
  | v :: vs, i, h, hl => by
    unfold wipe
    by_cases e : v = i
    · subst e; rw [List.getElem?_set_self (by rw [wipe_length]; exact hl)]
    · rw [List.getElem?_set_ne e]; exact wipe_in ((List.mem_cons.mp h).resolve_left fun z => e z.symm) hl
theorem wipe_ext {σ τ : Sg} {vs : List Nat} (hl : σ.length = τ.length) (h : ∀ j, j ∉ vs → σ[j]? = τ[j]?) : wipe σ vs = wipe τ vs := by
  refine List.ext_getElem? fun i => ?_
  by_cases m : i ∈ vs
  · by_cases hi : i < σ.length
    · rw [wipe_in m hi, wipe_in m (by omega)]
    · rw [List.getElem?_eq_none (by rw [wipe_length]; omega), List.getElem?_eq_none (by rw [wipe_length]; omega)]
  · rw [wipe_get m, wipe_get m]; exact h i m
theorem wipe_but {σ τ : Sg} {vs ks : List Nat} (b : But ks (wipe σ vs) τ) (hk : ∀ k ∈ ks, k ∈ vs) : wipe τ vs = wipe σ vs := by
  refine (wipe_ext (by rw [b.1, wipe_length]) fun j n => ?_)
  rw [b.2 j fun z => n (hk j z), wipe_get n]
/-- no error leaves these -/
def bdn {α β : Type} (o : Ou α) (f : α → Rho → Ou β) : Ou β := match o with
  | .ok a ρ => f a ρ
  | _ => .bad
abbrev EX0 : WX := fun _ _ _ _ => False
def lcL (T : Tg) (C : Rho → Ou Bool) (E : Rho → Ou Rs) (vs : List Nat) : List D → List D → Rho → Ou (List D)
  | [], acc, ρ => .ok acc ρ
  | d :: ds, acc, ρ => match T d ρ with
    | none => .bad
    | some ρ1 => bdn (C ρ1) fun b ρ2 => if b = true then bdn (bd (frz (E ρ2)) dat) fun e ρ3 => if acc.length < sizeLine ∧ plainAt ρ3 vs = true then lcL T C E vs ds (acc ++ [e]) (wipeR ρ3 vs) else .bad
      else if plainAt ρ2 vs = true then lcL T C E vs ds acc (wipeR ρ2 vs) else .bad
def lcF (I : Rho → Ou (List D)) (T : Tg) (C : Rho → Ou Bool) (E : Rho → Ou Rs) (vs : List Nat) : Rho → Ou Rs := fun ρ => bd (I ρ) fun ds ρ1 =>
  if plainAt ρ1 vs = true then bd (lcL T C E vs ds [] (wipeR ρ1 vs)) fun es ρ2 => .ok (.fr es) (unwipe ρ1 ρ2 vs) else .bad
/-- a list aside is written -/
theorem Stt.aside {p : Pm} {R H : Hp} {O : As} {σ : Sg} {ρ : Rho} (S : Stt p R H O σ ρ) {a : Addr} {vs : List V} (o : HO) (na : R a = none) (no : ¬ O a) (ha : H a = some (.lst vs)) : Stt p R (upd H a o) O σ ρ := by
  refine ⟨fun b u e => ?_, S.dis, fun b ob => ?_, S.len, S.im, fun i b ds e => ?_, S.pn, S.inj, fun i tag d e => ?_⟩
  · rw [upd_ne (ne_of_none e na)]; exact S.sub b u e
  · rw [upd_ne (show b ≠ a from fun z => by subst z; exact no ob)]; exact S.al b ob
  · obtain ⟨c, ws, e1, e2, e3, e4⟩ := S.ow i b ds e
    exact ⟨c, ws, e1, e2, by rw [upd_ne (show c ≠ a from fun z => by subst z; exact no e2)]; exact e3, e4⟩
  · obtain ⟨e1, e2, dd, v, e3, e4, e5, e6⟩ := S.xn i tag d e
    exact ⟨e1, e2, dd, v, e3, e4, by rw [upd_ne (ne_of e5 ha (by intro z; cases z))]; exact e5, e6⟩
theorem Tr.aside {R0 H0 R H : Hp} {O0 O : As} (T : Tr R0 H0 O0 R H O) {a : Addr} (o : HO) (ha : H0 a = none) : Tr R0 H0 O0 R (upd H a o) O :=
  ⟨T.r, fun b u e n => by rw [upd_ne (ne_of_none e ha)]; exact T.h b u e n, T.nw, T.o, fun b e => by
    by_cases z : b = a
    · subst z; rw [upd_same]; exact fun z => nomatch z
    · rw [upd_ne z]; exact T.k b e⟩
theorem Tr.keep {R H R' H' : Hp} {O O' : As} (T : Tr R H O R' H' O') {a : Addr} {u : HO} (ha : H a = some u) (na : R a = none) (no : ¬ O a) : H' a = some u ∧ R' a = none ∧ ¬ O' a := by
  refine ⟨T.h a u ha no, ?_, fun z => (T.o a z).elim no fun z => by rw [ha] at z; cases z⟩
  cases q : R' a with
  | none => rfl
  | some o => exact ((T.nw a (by rw [q]; exact fun z => nomatch z)).elim (fun z => z na) fun z => z.elim (fun z => by rw [ha] at z; cases z) no).elim
theorem wipeR_un {ρ : Rho} {vs : List Nat} : ∀ i ∈ vs, (wipeR ρ vs)[i]? = none ∨ (wipeR ρ vs)[i]? = some .un := fun i h => wipeR_none h
theorem wipeR_len (ρ : Rho) : ∀ vs : List Nat, (wipeR ρ vs).length = ρ.length
  | [] => rfl
  | v :: vs => by unfold wipeR; rw [List.length_set, wipeR_len ρ vs]
theorem sem_lc {p : Pm} {EX : WX} {wi : TI} {I : Rho → Ou (List D)} {ks : List Nat} {g : TG} {T : Tg} {tt : TT} {C : Rho → Ou Bool} {te : TE} {E : Rho → Ou Rs} {vs : List Nat} (hi : SemI p EX wi I) (hg : SemG p ks g T) (ht : SemT p EX0 tt C) (he : SemE p EX0 te E)
    (hk : ∀ k ∈ ks, k ∈ vs) : SemE p EX (tLc wi g tt te vs) (lcF I T C E vs) := by
  refine Sem.bind (k := fun J σ H1 (Q : VK) => ∀ L, H1 L = none → ∃ W : Nat → Nat → Hp → Prop, (∃ m, W 0 m (upd H1 L (.lst []))) ∧ ∀ i m H, W i m H →
    (J.stop i H ∧ Q (.ref L) H) ∨ (J.go i H ∧ ∃ Nx : Hp → Prop, (∀ H', Nx H' → ∃ m', m' < m ∧ W (i + 1) m' H') ∧ ∀ x H', J.yld i H x H' → g x (wipe σ vs) H' fun σ2 H2 => wipe σ2 vs = wipe σ vs ∧ tt σ2 H2 fun b H3 =>
      if b = true then te σ2 H3 fun y H4 => ∃ acc, H4 L = some (.lst acc) ∧ acc.length < sizeLine ∧ Nx (upd H4 L (.lst (acc ++ [y]))) else Nx H3))
    (G := fun ds ρ1 => if plainAt ρ1 vs = true then bd (lcL T C E vs ds [] (wipeR ρ1 vs)) fun es ρ2 => .ok (Rs.fr es) (unwipe ρ1 ρ2 vs) else .bad) hi fun R0 H0 O0 σ ρ0 J ds Q S0 hJ g0 => ?_
  split at g0
  · rename_i pl
    intro L hL
    have rL : R0 L = none := by
      cases e : R0 L with
      | none => rfl
      | some o => have := S0.sub L o e; rw [hL] at this; cases this
    have oL : ¬ O0 L := fun z => S0.al L z hL
    let Fin : List D → Rho → Ou Rs := fun es ρ2 => .ok (.fr es) (unwipe ρ0 ρ2 vs)
    refine ⟨fun i m H => m + i = ds.length ∧ i ≤ ds.length ∧ ∃ R O ρ acc es, Stt p R H O (wipe σ vs) ρ ∧ (ρ.length = σ.length ∧ ∀ i ∈ vs, ρ[i]? = none ∨ ρ[i]? = some .un) ∧ Tr R0 H0 O0 R H O ∧ H L = some (.lst acc) ∧ R L = none ∧ ¬ O L ∧ DpAll p.K R acc es ∧
      Good p EX (Rr p.K) R0 H0 O0 σ Q (bd (lcL T C E vs (ds.drop i) es ρ) Fin), ⟨ds.length, by omega, Nat.zero_le _, R0, O0, wipeR ρ0 vs, [], [], ?_, ⟨by rw [wipeR_len]; exact S0.len, wipeR_un⟩, ?_, upd_same, rL, oL, .nil, g0⟩, fun i m H hW => ?_⟩
    · exact (wipe_ok ⟨(S0.laid (o := .lst []) hL).1.sub, S0.dis, fun b ob => by rw [upd_ne (show b ≠ L from fun z => by subst z; exact oL ob)]; exact S0.al b ob, S0.len, S0.im, fun i b es e => by
        obtain ⟨c, ws, e1, e2, e3, e4⟩ := S0.ow i b es e
        exact ⟨c, ws, e1, e2, by rw [upd_ne (ne_of_none e3 hL)]; exact e3, e4⟩, S0.pn, S0.inj, fun i tag d e => by
        obtain ⟨e1, e2, dd, v, e3, e4, e5, e6⟩ := S0.xn i tag d e
        exact ⟨e1, e2, dd, v, e3, e4, by rw [upd_ne (ne_of_none e5 hL)]; exact e5, e6⟩⟩ vs pl)
    · exact Tr.refl.aside _ hL
    obtain ⟨em, hi, R, O, ρ, acc, es, S, ⟨hl0, hun⟩, T0, hL1, rL1, oL1, dL, g1⟩ := hW
    obtain ⟨j1, j2⟩ := hJ R H T0.r S.sub
    by_cases hl : i < ds.length
    · obtain ⟨jg, jy⟩ := j1 i _ (List.getElem?_eq_getElem hl)
      rw [List.drop_eq_getElem_cons hl] at g1
      refine .inr ⟨jg, fun H' => ∃ R' O' ρ' acc' es', Stt p R' H' O' (wipe σ vs) ρ' ∧ (ρ'.length = σ.length ∧ ∀ i ∈ vs, ρ'[i]? = none ∨ ρ'[i]? = some .un) ∧ Tr R0 H0 O0 R' H' O' ∧ H' L = some (.lst acc') ∧ R' L = none ∧ ¬ O' L ∧ DpAll p.K R' acc' es' ∧
        Good p EX (Rr p.K) R0 H0 O0 σ Q (bd (lcL T C E vs (ds.drop (i + 1)) es' ρ') Fin), fun H' hN => ⟨m - 1, by omega, by omega, hl, hN⟩, fun x H' hy => ?_⟩
      obtain ⟨R2, gr, dx⟩ := jy x H' hy
      obtain ⟨S2, T2⟩ := S.grow gr
      obtain ⟨hL2, rL2, oL2⟩ := T2.keep hL1 rL1 oL1
      unfold lcL at g1
      split at g1
      · exact g1.elim
      · rename_i ρ1 e1
        refine hg R2 H' O _ ρ ρ1 x _ _ S2 dx e1 fun σ2 S3 bt => ⟨wipe_but bt hk, ?_⟩
        have lw : σ2.length = σ.length := by rw [bt.1, wipe_length]
        have T3 := T0.trans T2
        have wσ : wipe σ2 vs = wipe σ vs := wipe_but bt hk
        refine ht R2 H' O σ2 ρ1 _ S3 ?_
        cases qc : C ρ1 with
        | bad => rw [qc] at g1; exact g1
        | ex t d ρ' => rw [qc] at g1; exact g1.elim
        | ok b ρ2 =>
          rw [qc] at g1
          intro b' R4 H4 O4 S4 T4 hb'
          subst hb'
          obtain ⟨hL4, rL4, oL4⟩ := T4.keep hL2 rL2 oL2
          have g1 : Good p EX (Rr p.K) R0 H0 O0 σ Q (bd (if b' = true then bdn (bd (frz (E ρ2)) dat) fun e ρ3 => if es.length < sizeLine ∧ plainAt ρ3 vs = true then lcL T C E vs (ds.drop (i + 1)) (es ++ [e]) (wipeR ρ3 vs) else .bad
            else if plainAt ρ2 vs = true then lcL T C E vs (ds.drop (i + 1)) es (wipeR ρ2 vs) else .bad) Fin) := g1
          cases b' with
          | false =>
            show ∃ R' O' ρ' acc' es', _
            rw [if_neg Bool.false_ne_true] at g1
            split at g1
            · rename_i pl2
              have S5 := wipe_ok S4 vs pl2
              rw [wσ] at S5
              exact ⟨R4, O4, _, acc, es, S5, ⟨by rw [wipeR_len, S4.len]; exact lw, wipeR_un⟩, T3.trans T4, hL4, rL4, oL4, dpAll_mono (fun b o e => T4.r b o (T2.r b o e)) _ _ dL, g1⟩
            · exact g1.elim
          | true =>
            show te σ2 H4 _
            rw [if_pos rfl] at g1
            refine (he.op.dat) R4 H4 O4 σ2 ρ2 _ S4 ?_
            show Good p EX0 _ R4 H4 O4 σ2 _ (bd (frz (E ρ2)) dat)
            cases qe : bd (frz (E ρ2)) dat with
            | bad => rw [qe] at g1; exact g1
            | ex t d ρ' => rw [qe] at g1; exact g1.elim
            | ok e ρ3 =>
              rw [qe] at g1
              intro y R5 H5 O5 S5 T5 hy'
              obtain ⟨hL5, rL5, oL5⟩ := T5.keep hL4 rL4 oL4
              have g1 : Good p EX (Rr p.K) R0 H0 O0 σ Q (bd (if es.length < sizeLine ∧ plainAt ρ3 vs = true then lcL T C E vs (ds.drop (i + 1)) (es ++ [e]) (wipeR ρ3 vs) else .bad) Fin) := g1
              split at g1
              · rename_i hz
                have dL5 : DpAll p.K R5 acc es := dpAll_mono (fun b o e => T5.r b o (T4.r b o (T2.r b o e))) _ _ dL
                have S6 := wipe_ok (S5.aside (.lst (acc ++ [y])) rL5 oL5 hL5) vs hz.2
                rw [wσ] at S6
                exact ⟨acc, hL5, by rw [dpAll_len dL5]; exact hz.1, R5, O5, _, acc ++ [y], es ++ [e], S6, ⟨by rw [wipeR_len, S5.len]; exact lw, wipeR_un⟩, ((T3.trans T4).trans T5).aside _ hL, upd_same, rL5, oL5, dpAll_app dL5 (.cons hy' .nil), g1⟩
              · exact g1.elim
    · rw [List.drop_eq_nil_of_le (by omega)] at g1
      refine .inl ⟨j2 i (by omega), ?_⟩
      have S6 := wide S hl0 hun
      have S9 := unwipe_ok S0 T0 S6 vs
      have S7 : Stt p R H (fun b => O b ∨ b = L) σ ρ := by
        exact ⟨S6.sub, fun b ob => ob.elim (S6.dis b) (fun z => by subst z; exact rL1), fun b ob => ob.elim (S6.al b) (fun z => by subst z; rw [hL1]; exact (fun z => nomatch z)), S6.len, S6.im, fun i b ds e => by
          obtain ⟨c, ws, e1, e2, e3⟩ := S6.ow i b ds e
          exact ⟨c, ws, e1, .inl e2, e3⟩, S6.pn, S6.inj, fun i tag d e => by
          obtain ⟨e1, e2, dd, v, e3, e4, e5, e6⟩ := S6.xn i tag d e
          exact ⟨e1, e2, dd, v, e3, (fun z => z.elim e4 (fun z => by subst z; rw [hL1] at e5; cases e5)), e5, e6⟩⟩
      have T7 : Tr R0 H0 O0 R H (fun b => O b ∨ b = L) := ⟨T0.r, T0.h, T0.nw, fun b ob => ob.elim (T0.o b) fun z => by subst z; exact .inr hL, T0.k⟩
      have S8 := unwipe_ok S0 T7 S7 vs
      refine g1 _ R H _ S8 T7 ⟨L, acc, rfl, .inr rfl, hL1, dL, fun i b es e e2 => ?_⟩
      obtain ⟨c, ws, e1, e3, e4, _⟩ := S9.ow i b es e
      rw [e1] at e2; cases e2
      exact oL1 e3
  · exact g0.elim
end VL

namespace VL
open PySem PySem.Spec PyProof.Rows L2

/-! ### what a def does to data -/
inductive Fo where
  | bad
  | rt (v : Rs) (as : List Sl)
  | ex (tag : Nat) (d : D) (as : List Sl)
def pinOf (vs : List V) : Nat → V := fun i => (vs[i]?).getD .non
def pmF (K : PySem.W.Frag) (xc : Nat → Addr) (vs : List V) : Pm := ⟨K, xc, pinOf vs, 0, .none, none⟩
def GoodF (K : PySem.W.Frag) (xc : Nat → Addr) (R H : Hp) (O : As) (vs : List V) (Q : VK) (E : XK) : Fo → Prop
  | .bad => False
  | .rt r as => ∀ v R' H' O', Stt (pmF K xc vs) R' H' O' (vs.map some) as → Tr R H O R' H' O' → Rr K R' H' O' (vs.map some) as v r → Q v H'
  | .ex tag d as => ∀ dx v R' H' O', Stt (pmF K xc vs) R' H' O' (vs.map some) as → Tr R H O R' H' O' → H dx = none → H' dx = some (.xd [(atS, v)]) → ¬ O' dx → Dp K R' v d → E (.ref (xc tag)) (some dx) H'
def spF (n : Nat) (K : PySem.W.Frag) (xc : Nat → Addr) (m : List Sl → Fo) : Sp := fun vs H Q E => vs.length = n ∧ ∃ R O args, Stt (pmF K xc vs) R H O (vs.map some) args ∧ GoodF K xc R H O vs Q E (m args)
def keepPin : Option Sl → Sl
  | some (.ow true ds) => .ow true ds
  | _ => .un
def outA (n : Nat) (ρ : Rho) : List Sl := (List.range n).map fun i => keepPin ρ[i]?
/-- a body's end as the def's -/
def retV (ρ : Rho) (r : Rs) : Option Rs := match r with
  | .im d => some (.im d)
  | .fr ds => some (.fr ds)
  | .sl i => match ρ[i]? with
    | some (.ow false ds) => some (.fr ds)
    | _ => none
def ofSo (n : Nat) : So → Fo
  | .nx ρ => .rt (.im .none) (outA n ρ)
  | .rt r ρ => match retV ρ r with
    | some r' => .rt r' (outA n ρ)
    | none => .bad
  | .ex tag d ρ => .ex tag d (outA n ρ)
  | _ => .bad
def unS (k : Nat) : List Sl := List.replicate k .un
def mF (n k : Nat) (G : Rho → So) : List Sl → Fo := fun args => ofSo n (G (args ++ unS k))

theorem get_app_un {args : List Sl} {k i : Nat} {y : Sl} (h : (args ++ unS k)[i]? = some y) (hy : y ≠ .un) : args[i]? = some y ∧ i < args.length := by
  by_cases hi : i < args.length
  · rw [List.getElem?_append_left hi] at h; exact ⟨h, hi⟩
  · rw [List.getElem?_append_right (by omega)] at h
    unfold unS at h
    rw [List.getElem?_replicate] at h
    split at h
    · exact absurd (Option.some.inj h).symm hy
    · cases h
theorem stt_start {p : Pm} {R H : Hp} {O : As} {vs : List V} {args : List Sl} {N : List Str} {k : Nat} (S : Stt p R H O (vs.map some) args) (hk : N.length - vs.length = k) : Stt p R H O (L2.start N vs) (args ++ unS k) := by
  have hl : args.length = vs.length := by have := S.len; rw [List.length_map] at this; exact this
  have g : ∀ {i : Nat}, i < args.length → (L2.start N vs)[i]? = (vs.map some)[i]? := fun {i} hi => by
    unfold L2.start; rw [List.getElem?_append_left (by rw [List.length_map]; omega)]
  refine ⟨S.sub, S.dis, S.al, ?_, fun i d e => ?_, fun i b ds e => ?_, fun i y w e hw => ?_, fun i j b c ds es a e1 e2 q1 q2 => ?_, fun i tag d e => ?_⟩
  · unfold L2.start unS
    rw [List.length_append, List.length_append, List.length_replicate, List.length_replicate, List.length_map, hl, hk]
  · obtain ⟨e, hi⟩ := get_app_un e (fun z => nomatch z); rw [g hi]; exact S.im i d e
  · obtain ⟨e, hi⟩ := get_app_un e (fun z => nomatch z); rw [g hi]; exact S.ow i b ds e
  · obtain ⟨e, hi⟩ := get_app_un e (fun z => by subst z; cases hw); rw [g hi]; exact S.pn i y w e hw
  · obtain ⟨e1, h1⟩ := get_app_un e1 (fun z => nomatch z)
    obtain ⟨e2, h2⟩ := get_app_un e2 (fun z => nomatch z)
    rw [g h1] at q1; rw [g h2] at q2; exact S.inj i j b c ds es a e1 e2 q1 q2
  · obtain ⟨e, hi⟩ := get_app_un e (fun z => nomatch z); rw [g hi]; exact S.xn i tag d e
theorem get_kp {ρ : Rho} {n i : Nat} {y : Sl} (h : (outA n ρ)[i]? = some y) (hy : y ≠ .un) : ∃ ds, y = .ow true ds ∧ ρ[i]? = some (.ow true ds) ∧ i < n := by
  unfold outA at h
  rw [List.getElem?_map] at h
  by_cases hi : i < n
  · rw [List.getElem?_range hi] at h
    have h : keepPin ρ[i]? = y := Option.some.inj h
    unfold keepPin at h
    split at h
    · rename_i ds e; exact ⟨ds, h.symm, e, hi⟩
    · exact (hy h.symm).elim
  · rw [List.getElem?_eq_none (by rw [List.length_range]; omega)] at h; cases h
theorem stt_end {K : PySem.W.Frag} {xc : Nat → Addr} {R H : Hp} {O : As} {vs : List V} {σ : Sg} {ρ : Rho} (S : Stt (pmF K xc vs) R H O σ ρ) : Stt (pmF K xc vs) R H O (vs.map some) (outA vs.length ρ) := by
  have pg : ∀ {i : Nat}, i < vs.length → (vs.map some)[i]? = some (some (pinOf vs i)) := fun {i} hi => by
    rw [List.getElem?_map, List.getElem?_eq_getElem hi]
    unfold pinOf
    rw [List.getElem?_eq_getElem hi]; rfl
  refine ⟨S.sub, S.dis, S.al, by unfold outA; rw [List.length_map, List.length_range, List.length_map], fun i d e => ?_, fun i b ds e => ?_, fun i y w e hw => ?_, fun i j b c ds es a e1 e2 q1 q2 => ?_, fun i tag d e => ?_⟩
  · obtain ⟨ds, z, _⟩ := get_kp e (fun z => nomatch z); cases z
  · obtain ⟨ds', z, e1, hi⟩ := get_kp e (fun z => nomatch z)
    cases z
    obtain ⟨a, ws, q1, q2⟩ := S.ow i true ds e1
    have q3 := S.pn1 i ds e1
    rw [q1] at q3
    exact ⟨a, ws, by rw [pg hi]; exact q3.symm, q2⟩
  · obtain ⟨ds', z, e1, hi⟩ := get_kp e (fun z => by subst z; cases hw)
    subst z
    cases hw
    exact pg hi
  · obtain ⟨ds', z1, f1, hi⟩ := get_kp e1 (fun z => nomatch z)
    obtain ⟨ds2, z2, f2, hj⟩ := get_kp e2 (fun z => nomatch z)
    cases z1; cases z2
    have p1 := S.pn1 i ds f1
    have p2 := S.pn1 j es f2
    rw [pg hi] at q1; rw [pg hj] at q2
    exact S.inj i j true true ds es a f1 f2 (p1.trans q1) (p2.trans q2)
  · obtain ⟨ds, z, _⟩ := get_kp e (fun z => nomatch z); cases z
/-- what the body's reading wants, from what the def's end is worth -/
theorem goodS_of {K : PySem.W.Frag} {xc : Nat → Addr} {R H : Hp} {O : As} {vs : List V} {Q : VK} {E : XK} {o : So} (g : GoodF K xc R H O vs Q E (ofSo vs.length o)) : GoodS (pmF K xc vs) (fun cls d _ H => E cls d H) R H O { nx := fun _ H' => Q .non H', rt := Q } o := by
  cases o with
  | bad => exact g
  | bk ρ => exact g.elim
  | ct ρ => exact g.elim
  | nx ρ => exact fun σ' R' H' O' S' T' => g .non R' H' O' (stt_end S') T' .non
  | ex t d ρ => exact fun dx v σ' R' H' O' S' T' => g dx v R' H' O' (stt_end S') T'
  | rt r ρ =>
    intro v σ' R' H' O' S' T' hr
    have Se := stt_end S'
    have g : GoodF K xc R H O vs Q E (match retV ρ r with | some r' => .rt r' (outA vs.length ρ) | none => .bad) := g
    have apart : ∀ {a : Addr}, (∀ (i : Nat) es, ρ[i]? = some (.ow true es) → σ'[i]? ≠ some (some (.ref a))) → ∀ (i : Nat) b es, (outA vs.length ρ)[i]? = some (.ow b es) → (vs.map some)[i]? ≠ some (some (.ref a)) := fun {a} h i b es e q => by
      obtain ⟨ds, z, e1, hi⟩ := get_kp e (fun z => nomatch z)
      have p1 := S'.pn1 i ds e1
      obtain ⟨c, ws, q1, _⟩ := Se.ow i b es e
      rw [q1] at q; cases q
      have p2 := Se.pn1 i ds (by rw [← z]; exact e)
      rw [q1] at p2
      exact h i ds e1 (p1.trans p2.symm)
    cases r with
    | im d => exact g v R' H' O' Se T' hr
    | fr ds =>
      obtain ⟨a, ws, rfl, oa, ha, hd, un⟩ := hr
      exact g _ R' H' O' Se T' ⟨a, ws, rfl, oa, ha, hd, apart fun i es e => un i true es e⟩
    | sl i =>
      unfold retV at g
      dsimp only at g
      split at g
      · rename_i r' er
        split at er
        · rename_i ds e
          cases Option.some.inj er
          obtain ⟨b, ds', _, e1⟩ := hr
          obtain ⟨a, ws, q1, oa, ha, hd⟩ := S'.ow i false ds e
          rw [q1] at e1
          cases Option.some.inj (Option.some.inj e1)
          refine g _ R' H' O' Se T' ⟨a, ws, rfl, oa, ha, hd, apart fun j es e2 q2 => ?_⟩
          have := S'.inj i j false true ds es a e e2 q1 q2
          subst this
          rw [e] at e2; cases e2
        · cases er
      · exact g.elim
section
variable {P : Program} {w : World} {K : PySem.W.Frag} {mg : Str → Option Value} {base : Heap}
/-- a def by its body's reading -/
theorem fn_sem {x qual : Str} {st : Stmt} {f : Addr} {fd : FuncData} {N ps : List Str} {k n u : Nat} {xc : Nat → Addr} {G : Rho → So} (F : Fun K x qual st f fd) (S : FnScope N ps (defScope st)) (hn : ps.length = n) (hu : N.length - n = u)
    (body : ∀ (cd : Value) (A : Around) (o : List Env) (s : Shared) (H : Hp) (E : XK), A.guards = some [] → Room k (A.deeper (envOfC qual (defScope st) s.heap.objs.size f cd)) →
      ∃ t, PSs (cxOf (L2.CX P w) P w K mg base N qual (defScope st) f cd A o s H E) (defBody st) t ∧ ∀ vs, SemS (pmF K xc vs) (fun cls d _ H => E cls d H) t G) : FnG P w K mg base (k + 1) f fd ps (spF n K xc (mF n u G)) := by
  refine fng_of F S (fun vs H Q E h => h.1.trans hn.symm) fun cd A o s H vs Q E hg hr h => ?_
  obtain ⟨hl, R, O, args, S0, g⟩ := h
  obtain ⟨t, ht, hs⟩ := body cd A o s H E hg hr
  refine ⟨t, ht, ?_⟩
  have Ss := stt_start (N := N) (k := u) S0 (by rw [hl]; exact hu)
  refine hs vs R H O _ _ _ Ss (goodS_of (by rw [hl]; exact g))
end

/-! ### calls -/
theorem stt_args {K : PySem.W.Frag} {xc : Nat → Addr} {R H : Hp} (m : ∀ b o, R b = some o → H b = some o) : ∀ {vs : List V} {ds : List D}, DpAll K R vs ds → Stt (pmF K xc vs) R H (fun _ => False) (vs.map some) (ds.map .im) := by
  intro vs ds h
  have hl := dpAll_len h
  refine ⟨m, fun _ z => z.elim, fun _ z => z.elim, by rw [List.length_map, List.length_map]; exact hl.symm, fun i d e => ?_, fun i b es e => ?_, fun i y w e hw => ?_, fun i j b c ds' es a e1 _ _ _ => ?_, fun i tag d e => ?_⟩
  · rw [List.getElem?_map] at e
    cases q : ds[i]? with
    | none => rw [q] at e; cases e
    | some d' =>
      rw [q] at e
      cases Option.some.inj e
      obtain ⟨v, e1, h1⟩ := dpAll_get h q
      exact ⟨v, by rw [List.getElem?_map, e1]; rfl, h1⟩
  all_goals
    first
      | (rw [List.getElem?_map] at e; cases q : ds[i]? with
          | none => rw [q] at e; cases e
          | some d' => rw [q] at e; cases Option.some.inj e; first | done | cases hw)
      | (rw [List.getElem?_map] at e1; cases q : ds[i]? with
          | none => rw [q] at e1; cases e1
          | some d' => rw [q] at e1; cases Option.some.inj e1)
/-- the caller's state behind a call that owned Oc -/
theorem Stt.behind {p : Pm} {R H R' H' : Hp} {O Oc O' : As} {σ : Sg} {ρ : Rho} (S : Stt p R H O σ ρ) (le : ∀ b, Oc b → O b) (T : Tr R H Oc R' H' O') (dis : ∀ b, O' b → R' b = none) (al : ∀ b, O' b → H' b ≠ none) (sub : ∀ b o, R' b = some o → H' b = some o) (hOc : ∀ b, Oc b → O' b)
    (hd : ∀ (i : Nat) b ds a, ρ[i]? = some (.ow b ds) → σ[i]? = some (some (.ref a)) → Oc a → (∃ vs, H' a = some (.lst vs) ∧ DpAll p.K R' vs ds ∧ O' a)) : Stt p R' H' (fun b => O b ∨ O' b) σ ρ := by
  have dOc : ∀ b, Oc b → ¬ O' b → H' b ≠ none := fun b ob _ => T.k b (S.al b (le b ob))
  refine ⟨sub, fun b ob => ?_, fun b ob => ob.elim (fun z => T.k b (S.al b z)) (al b), S.len, fun i d e => ?_, fun i b ds e => ?_, S.pn, S.inj, fun i tag d e => ?_⟩
  · rcases ob with ob | ob
    · by_cases hc : O' b
      · exact dis b hc
      · cases q : R' b with
        | none => rfl
        | some o =>
          rcases T.nw b (by rw [q]; exact fun z => nomatch z) with z | z | z
          · exact (z (S.dis b ob)).elim
          · exact (S.al b ob z).elim
          · exact (hc (hOc b z)).elim
    · exact dis b ob
  · obtain ⟨v, e1, e2⟩ := S.im i d e; exact ⟨v, e1, T.dp e2⟩
  · obtain ⟨a, vs, e1, e2, e3, e4⟩ := S.ow i b ds e
    by_cases hc : Oc a
    · obtain ⟨ws, q1, q2, q3⟩ := hd i b ds a e e1 hc
      exact ⟨a, ws, e1, .inl e2, q1, q2⟩
    · exact ⟨a, vs, e1, .inl e2, T.h a _ e3 hc, T.dps e4⟩
  · obtain ⟨e1, e2, dd, v, e3, e4, e5, e6⟩ := S.xn i tag d e
    refine ⟨e1, e2, dd, v, e3, fun z => z.elim e4 fun z => ?_, T.h dd _ e5 fun z => e4 (le dd z), T.dp e6⟩
    rcases T.o dd z with y | y
    · exact e4 (le dd y)
    · rw [e5] at y; cases y
/-- a def's end in the caller -/
def foE (n : Nat) (m : List Sl → Fo) (ds : List D) (ρ : Rho) : Ou Rs := if ds.length = n then match m (ds.map .im) with
  | .rt (.im d) _ => .ok (.im d) ρ
  | .rt (.fr es) _ => .ok (.fr es) ρ
  | .ex tag d _ => .ex tag d ρ
  | _ => .bad else .bad
theorem call_d {p : Pm} {EX : WX} {n : Nat} {m : List Sl → Fo} {R H : Hp} {O : As} {σ : Sg} {ρ : Rho} {vs : List V} {ds : List D} {Q : VK} (S : Stt p R H O σ ρ) (hv : DpAll p.K R vs ds) (g : Good p EX (Rr p.K) R H O σ Q (foE n m ds ρ)) :
    spF n p.K p.xc m vs H Q (fun cls d G => EX cls d σ G) := by
  unfold foE at g
  split at g
  · rename_i hn
    refine ⟨by rw [dpAll_len hv]; exact hn, R, fun _ => False, ds.map .im, stt_args S.sub hv, ?_⟩
    have back : ∀ {R' H' : Hp} {O' : As} {as : List Sl}, Stt (pmF p.K p.xc vs) R' H' O' (vs.map some) as → Tr R H (fun _ => False) R' H' O' → Stt p R' H' (fun b => O b ∨ O' b) σ ρ ∧ Tr R H O R' H' (fun b => O b ∨ O' b) := fun {R' H' O' as} S' T' =>
      ⟨S.behind (fun _ z => z.elim) T' S'.dis S'.al S'.sub (fun _ z => z.elim) fun _ _ _ _ _ _ z => z.elim, T'.more fun _ z => z.elim⟩
    cases e : m (ds.map .im) with
    | bad => rw [e] at g; exact g.elim
    | ex tag d as =>
      rw [e] at g
      intro dx v R' H' O' S' T' fx hx no hd
      obtain ⟨S2, T2⟩ := back S' T'
      exact g dx v R' H' _ S2 T2 fx hx (fun z => z.elim (fun z => S.al dx z fx) no) hd
    | rt r as =>
      rw [e] at g
      cases r with
      | sl i => exact g.elim
      | im d =>
        intro v R' H' O' S' T' hr
        obtain ⟨S2, T2⟩ := back S' T'
        exact g v R' H' _ S2 T2 hr
      | fr es =>
        intro v R' H' O' S' T' hr
        obtain ⟨S2, T2⟩ := back S' T'
        obtain ⟨a, ws, rfl, oa, ha, hd, _⟩ := hr
        refine g _ R' H' _ S2 T2 ⟨a, ws, rfl, .inr oa, ha, hd, fun i b es' e1 e2 => ?_⟩
        obtain ⟨c, ys, q1, q2, q3, _⟩ := S.ow i b es' e1
        rw [q1] at e2; cases e2
        rcases T'.o a oa with z | z
        · exact z
        · rw [q3] at z; cases z
  · exact g.elim
end VL

namespace VL
open PySem PySem.Spec PyProof.Rows L2
/-- what is raised is wished for at the slots -/
abbrev atE (EX : WX) : Sg → XK := fun σ cls d G => EX cls d σ G
def clF (n : Nat) (m : List Sl → Fo) (F : Rho → Ou (List D)) : Rho → Ou Rs := fun ρ => bd (F ρ) (foE n m)
theorem sem_cl {p : Pm} {EX : WX} {n : Nat} {m : List Sl → Fo} {t : TA} {F : Rho → Ou (List D)} (h : SemAD p EX t F) : SemE p EX (tCl (spF n p.K p.xc m) (atE EX) t) (clF n m F) :=
  Sem.bind (k := fun vs σ H Q => spF n p.K p.xc m vs H Q (fun cls d G => EX cls d σ G)) h fun R H O σ ρ vs ds Q S hv g => call_d S hv g
/-- in another order -/
def gP {α : Type} (π : List Nat) (np nk : Nat) (us ws : List α) : List α := if us.length = np ∧ ws.length = nk then π.filterMap fun i => (us ++ ws)[i]? else []
theorem gP_rel {α β : Type} {r : List α → List β → Prop} (rn : r [] []) {one : α → β → Prop} (rc : ∀ a b as bs, one a b → r as bs → r (a :: as) (b :: bs)) {us : List α} {xs : List β}
    (hg : ∀ (i : Nat), us[i]? = none ∧ xs[i]? = none ∨ ∃ a b, us[i]? = some a ∧ xs[i]? = some b ∧ one a b) : ∀ π : List Nat, r (π.filterMap fun i => us[i]?) (π.filterMap fun i => xs[i]?)
  | [] => rn
  | i :: π => by
    have ih := gP_rel rn rc hg π
    rcases hg i with ⟨e1, e2⟩ | ⟨a, b, e1, e2, h⟩
    · rw [List.filterMap_cons_none e1, List.filterMap_cons_none e2]; exact ih
    · rw [List.filterMap_cons_some e1, List.filterMap_cons_some e2]; exact rc _ _ _ _ h ih
theorem gP_dp {K : PySem.W.Frag} {R : Hp} {us ws : List V} {xs ys : List D} (π : List Nat) (np nk : Nat) (h : DpAll K R us xs) (k : DpAll K R ws ys) : DpAll K R (gP π np nk us ws) (gP π np nk xs ys) := by
  have hh := dpAll_app h k
  unfold gP
  rw [dpAll_len h, dpAll_len k]
  split
  · refine gP_rel (r := DpAll K R) (one := Dp K R) .nil (fun _ _ _ _ a b => .cons a b) (fun i => ?_) π
    cases e : (us ++ ws)[i]? with
    | none => exact .inl ⟨rfl, List.getElem?_eq_none (by rw [← dpAll_len hh]; exact List.getElem?_eq_none_iff.mp e)⟩
    | some v => obtain ⟨d, e1, e2⟩ := dpAll_getV hh e; exact .inr ⟨v, d, rfl, e1, e2⟩
  · exact .nil
theorem gP_vals {us ws : List V} {xs ys : List Value} (π : List Nat) (np nk : Nat) (h : Vals us xs) (k : Vals ws ys) : Vals (gP π np nk us ws) (gP π np nk xs ys) := by
  have hh := h.append k
  unfold gP
  rw [h.length, k.length]
  split
  · refine gP_rel (r := Vals) (one := RelV) .nil (fun _ _ _ _ a b => .cons a b) (fun i => ?_) π
    cases e : (us ++ ws)[i]? with
    | none => exact .inl ⟨rfl, Vals.none_of hh e⟩
    | some v => obtain ⟨d, e1, e2⟩ := Vals.get hh e; exact .inr ⟨v, d, rfl, e1, e2⟩
  · exact .nil
theorem kb_of {K : PySem.W.Frag} {x qual : Str} {st : Stmt} {f : Addr} {fd : FuncData} {ps ks : List Str} (F : Fun K x qual st f fd) (π : List Nat) (np nk : Nat) (hp : 0 < ps.length)
    (h : ∀ (kV doc pm : Value) (an : Option Addr) (cdv ct : Value) (us ws : List Value), us.length = np → ws.length = nk → bindArgs (PySem.W.fnOf x qual (defArgs st) (defBody st) (defScope st) .none kV doc pm an cdv ct) ⟨us, ks.zip ws⟩ = pure (ps.zip (π.filterMap fun i => (us ++ ws)[i]?))) :
    KBinds K fd ps ks (gP π np nk) (gP π np nk) := by
  obtain ⟨oc, od, kV, doc, pm, an, cdv, ct, osl, rfl, lk, hcd⟩ := F.ex
  refine ⟨fun s us ws X hl => ?_, fun a b => gP_vals π np nk a b⟩
  unfold gP at hl ⊢
  split at hl
  · rename_i hh
    rw [if_pos hh]
    exact BindsTo.of_eq (h kV doc pm an cdv ct us ws hh.1 hh.2)
  · rw [List.length_nil] at hl; omega
def clKF (n : Nat) (m : List Sl → Fo) (π : List Nat) (np nk : Nat) (F G : Rho → Ou (List D)) : Rho → Ou Rs := fun ρ => bd (F ρ) fun ds ρ1 => bd (G ρ1) fun es ρ2 => foE n m (gP π np nk ds es) ρ2
theorem Sem.use {α β : Type} {p : Pm} {EX : WX} {rel : Hp → Hp → As → Sg → Rho → β → α → Prop} {t : Sg → Hp → (β → Hp → Prop) → Prop} {F : Rho → Ou α} (h : Sem p EX rel t F) {γ δ : Type} {rel2 : Hp → Hp → As → Sg → Rho → δ → γ → Prop} {G : α → Rho → Ou γ}
    {R H : Hp} {O : As} {σ : Sg} {ρ : Rho} {Q : δ → Hp → Prop} {k : β → Hp → Prop} (S : Stt p R H O σ ρ) (g : Good p EX rel2 R H O σ Q (bd (F ρ) G))
    (hk : ∀ R' H' O' ρ' b a, Stt p R' H' O' σ ρ' → Tr R H O R' H' O' → rel R' H' O' σ ρ' b a → Good p EX rel2 R' H' O' σ Q (G a ρ') → k b H') : t σ H k := by
  refine h R H O σ ρ k S ?_
  cases e : F ρ with
  | bad => rw [e] at g; exact g.elim
  | ok a ρ' => rw [e] at g; exact fun b R' H' O' S' T' r' => hk R' H' O' ρ' b a S' T' r' (Good.tr T' g)
  | ex tag d ρ' => rw [e] at g; exact g
theorem Sem.useS {α β : Type} {p : Pm} {EX : WX} {rel : Hp → Hp → As → Sg → Rho → β → α → Prop} {t : Sg → Hp → (β → Hp → Prop) → Prop} {F : Rho → Ou α} (h : Sem p EX rel t F) {G : α → Rho → So}
    {R H : Hp} {O : As} {σ : Sg} {ρ : Rho} {E : Ends} {k : β → Hp → Prop} (S : Stt p R H O σ ρ) (g : GoodS p EX R H O E (bs (F ρ) G))
    (hk : ∀ R' H' O' ρ' b a, Stt p R' H' O' σ ρ' → Tr R H O R' H' O' → rel R' H' O' σ ρ' b a → GoodS p EX R' H' O' E (G a ρ') → k b H') : t σ H k := by
  refine h R H O σ ρ k S ?_
  cases e : F ρ with
  | bad => rw [e] at g; exact g.elim
  | ok a ρ' => rw [e] at g; exact fun b R' H' O' S' T' r' => hk R' H' O' ρ' b a S' T' r' (GoodS.tr T' g)
  | ex tag d ρ' => rw [e] at g; exact fun dx v R' H' O' => g dx v σ R' H' O'
theorem sem_clK {p : Pm} {EX : WX} {n : Nat} {m : List Sl → Fo} {π : List Nat} {np nk : Nat} {t u : TA} {F G : Rho → Ou (List D)} (h : SemAD p EX t F) (k : SemAD p EX u G) : SemE p EX (tClK (spF n p.K p.xc m) (atE EX) (gP π np nk) t u) (clKF n m π np nk F G) :=
  fun R H O σ ρ Q S g => h.use (G := fun ds ρ1 => bd (G ρ1) fun es ρ2 => foE n m (gP π np nk ds es) ρ2) S g fun R1 H1 O1 ρ1 vs ds S1 T1 hv g1 =>
    k.use (G := fun es ρ2 => foE n m (gP π np nk ds es) ρ2) S1 g1 fun R2 H2 O2 ρ2 ws es S2 T2 hw g2 => call_d S2 (gP_dp π np nk (T2.dps hv) hw) g2

/-! ### a slot's list given over, changed -/
theorem Stt.reown {p : Pm} {R H : Hp} {O : As} {σ : Sg} {ρ : Rho} {i : Nat} {b : Bool} {a : Addr} {ws : List V} {ys : List D} (S : Stt p R H O σ (ρ.set i .un)) (hi : σ[i]? = some (some (.ref a))) (oa : O a) (ha : H a = some (.lst ws)) (hd : DpAll p.K R ws ys)
    (un : ∀ (j : Nat) c es, (ρ.set i .un)[j]? = some (.ow c es) → σ[j]? ≠ some (some (.ref a))) (hp : b = true → σ[i]? = some (some (p.pin i))) : Stt p R H O σ (ρ.set i (.ow b ys)) := by
  have e0 : ∀ {j : Nat}, i ≠ j → (ρ.set i (.ow b ys))[j]? = (ρ.set i .un)[j]? := fun n => by rw [List.getElem?_set_ne n, List.getElem?_set_ne n]
  refine ⟨S.sub, S.dis, S.al, by have := S.len; rw [List.length_set] at this ⊢; exact this, fun j d e => ?_, fun j c ds e => ?_, fun j y w e hw => ?_, fun j k c c' ds es x e1 e2 q1 q2 => ?_, fun j tag d e => ?_⟩
  · rcases set_get e with ⟨_, z⟩ | ⟨n, z⟩
    · cases z
    · exact S.im j d (by rw [← e0 n]; exact e)
  · rcases set_get e with ⟨rfl, z⟩ | ⟨n, z⟩
    · cases z; exact ⟨a, ws, hi, oa, ha, hd⟩
    · exact S.ow j c ds (by rw [← e0 n]; exact e)
  · rcases set_get e with ⟨rfl, z⟩ | ⟨n, z⟩
    · subst z
      cases b with
      | false => cases hw
      | true => cases hw; exact hp rfl
    · exact S.pn j y w (by rw [← e0 n]; exact e) hw
  · rcases set_get e1 with ⟨rfl, z1⟩ | ⟨n1, z1⟩
    · rcases set_get e2 with ⟨rfl, z2⟩ | ⟨n2, z2⟩
      · rfl
      · rw [hi] at q1; cases q1
        exact (un k c' es (by rw [← e0 n2]; exact e2) q2).elim
    · rcases set_get e2 with ⟨rfl, z2⟩ | ⟨n2, z2⟩
      · rw [hi] at q2; cases q2
        exact (un j c ds (by rw [← e0 n1]; exact e1) q1).elim
      · exact S.inj j k c c' ds es x (by rw [← e0 n1]; exact e1) (by rw [← e0 n2]; exact e2) q1 q2
  · rcases set_get e with ⟨_, z⟩ | ⟨n, z⟩
    · cases z
    · exact S.xn j tag d (by rw [← e0 n]; exact e)
theorem Stt.sole {p : Pm} {R H : Hp} {O : As} {σ : Sg} {ρ : Rho} (S : Stt p R H O σ ρ) {i : Nat} {b : Bool} {xs : List D} {a : Addr} (e : ρ[i]? = some (.ow b xs)) (hi : σ[i]? = some (some (.ref a))) :
    ∀ (j : Nat) c es, (ρ.set i .un)[j]? = some (.ow c es) → σ[j]? ≠ some (some (.ref a)) := fun j c es z q => by
  rcases set_get z with ⟨_, y⟩ | ⟨n, y⟩
  · cases y
  · exact n (S.inj i j b c xs es a e y hi q)
/-- the slot's list holds other items -/
theorem Stt.mut {p : Pm} {R H : Hp} {O : As} {σ : Sg} {ρ : Rho} (S : Stt p R H O σ ρ) {i : Nat} {b : Bool} {xs ys : List D} {a : Addr} {vs ws : List V} (e : ρ[i]? = some (.ow b xs)) (hi : σ[i]? = some (some (.ref a))) (oa : O a) (ha : H a = some (.lst vs)) (hd : DpAll p.K R ws ys) :
    Stt p R (upd H a (.lst ws)) O σ (ρ.set i (.ow b ys)) ∧ Tr R H O R (upd H a (.lst ws)) O := by
  have na := S.dis a oa
  have S1 := S.put (i := i) (x := .un) (.inl rfl)
  have sole := S.sole e hi
  have S2 : Stt p R (upd H a (.lst ws)) O σ (ρ.set i .un) := by
    refine ⟨fun c o q => ?_, S1.dis, fun c oc => ?_, S1.len, S1.im, fun j c ds q => ?_, S1.pn, S1.inj, fun j tag d q => ?_⟩
    · rw [upd_ne (ne_of_none q na)]; exact S.sub c o q
    · by_cases z : c = a
      · subst z; rw [upd_same]; exact fun z => nomatch z
      · rw [upd_ne z]; exact S.al c oc
    · obtain ⟨c', zs, q1, q2, q3, q4⟩ := S1.ow j c ds q
      refine ⟨c', zs, q1, q2, ?_, q4⟩
      rw [upd_ne (show c' ≠ a from fun z => by subst z; exact sole j c ds q q1)]; exact q3
    · obtain ⟨q1, q2, dd, v, q3, q4, q5, q6⟩ := S1.xn j tag d q
      exact ⟨q1, q2, dd, v, q3, q4, by rw [upd_ne (ne_of q5 ha (by intro z; cases z))]; exact q5, q6⟩
  refine ⟨S2.reown hi oa upd_same hd sole fun hb => by subst hb; exact S.pn1 i xs e, ⟨fun _ _ q => q, fun c o q n => ?_, fun c q => .inl q, fun c q => .inl q, fun c q => ?_⟩⟩
  · rw [upd_ne (show c ≠ a from fun z => n (by rw [z]; exact oa))]; exact q
  · by_cases z : c = a
    · subst z; rw [upd_same]; exact fun z => nomatch z
    · rw [upd_ne z]; exact q
def MutV (K : PySem.W.Frag) (r : V → List V → Hp → VK → Prop) (μ : List D → List D → Option (D × List D)) : Prop := ∀ (R H : Hp) (a : Addr) (vs us : List V) (xs ds : List D) (d : D) (ys : List D) (Q : VK),
  (∀ b o, R b = some o → H b = some o) → H a = some (.lst vs) → DpAll K R vs xs → DpAll K R us ds → μ xs ds = some (d, ys) → (∀ v ws, DpAll K R ws ys → Dp K R v d → Q v (upd H a (.lst ws))) → r (.ref a) us H Q
def isOw (ρ : Rho) (i : Nat) : Bool := match ρ[i]? with
  | some (.ow _ _) => true
  | _ => false
def mutO (μ : List D → List D → Option (D × List D)) (i : Nat) (ds : List D) (ρ : Rho) : Ou Rs := match ρ[i]? with
  | some (.ow b xs) => match μ xs ds with
    | some (d, ys) => .ok (.im d) (ρ.set i (.ow b ys))
    | none => .bad
  | _ => .bad
def mutF (μ : List D → List D → Option (D × List D)) (i : Nat) (F : Rho → Ou (List D)) : Rho → Ou Rs := fun ρ => if isOw ρ i = true then bd (F ρ) (mutO μ i) else .bad
theorem mut_do {p : Pm} {EX : WX} {r : V → List V → Hp → VK → Prop} {μ : List D → List D → Option (D × List D)} (hm : MutV p.K r μ) {R H : Hp} {O : As} {σ : Sg} {ρ : Rho} {i : Nat} {v : V} {us : List V} {ds : List D} {Q : VK} (S : Stt p R H O σ ρ) (hi : σ[i]? = some (some v)) (hu : DpAll p.K R us ds)
    (g : Good p EX (Rr p.K) R H O σ Q (mutO μ i ds ρ)) : r v us H Q := by
  unfold mutO at g
  split at g
  · rename_i b xs e
    split at g
    · rename_i d ys em
      obtain ⟨a, vs, e1, oa, ha, hd⟩ := S.ow i b xs e
      rw [e1] at hi; cases hi
      refine hm R H a vs us xs ds d ys Q S.sub ha hd hu em fun v ws hw hv => ?_
      obtain ⟨S', T'⟩ := S.mut e e1 oa ha hw
      exact g v R _ O S' T' hv
    · exact g.elim
  · exact g.elim
theorem ow_ty {p : Pm} {R H : Hp} {O : As} {σ : Sg} {ρ : Rho} {i : Nat} (S : Stt p R H O σ ρ) (h : isOw ρ i = true) : ∃ a, σ[i]? = some (some (.ref a)) ∧ tyV p.K "list" (.ref a) H := by
  unfold isOw at h
  split at h
  · rename_i b ds e
    obtain ⟨a, vs, e1, oa, ha, hd⟩ := S.ow i b ds e
    exact ⟨a, e1, .inl ⟨rfl, _, .inl (.inl ha)⟩⟩
  · cases h
theorem sem_mut {p : Pm} {EX : WX} {r : V → List V → Hp → VK → Prop} {μ : List D → List D → Option (D × List D)} (hm : MutV p.K r μ) {i : Nat} {t : TA} {F : Rho → Ou (List D)} (h : SemAD p EX t F) : SemE p EX (tBM p.K "list" r (tVar i) t) (mutF μ i F) := by
  intro R H O σ ρ Q S g
  unfold mutF at g
  split at g
  · rename_i ho
    obtain ⟨a, e1, ty⟩ := ow_ty S ho
    exact ⟨_, e1, ty, h.use S g fun R' H' O' ρ' us ds S' T' hu g' => mut_do hm S' e1 hu g'⟩
  · exact g.elim
theorem sem_mut0 {p : Pm} {EX : WX} {r : V → List V → Hp → VK → Prop} {μ : List D → List D → Option (D × List D)} (hm : MutV p.K r μ) {i : Nat} : SemE p EX (tBM0 p.K "list" r (tVar i)) (mutF μ i nilD) := by
  intro R H O σ ρ Q S g
  unfold mutF at g
  split at g
  · rename_i ho
    obtain ⟨a, e1, ty⟩ := ow_ty S ho
    exact ⟨_, e1, ty, mut_do (EX := EX) hm S e1 .nil g⟩
  · exact g.elim
/-- append, pop, reverse, clear -/
def apD : List D → List D → Option (D × List D) := fun xs ds => match ds with
  | [d] => if xs.length < sizeLine then some (.none, xs ++ [d]) else none
  | _ => none
theorem mv_append {K : PySem.W.Frag} : MutV K rAppend apD := by
  intro R H a vs us xs ds d ys Q m ha hd hu e q
  unfold apD at e
  split at e
  · split at e
    · rename_i hz
      cases Option.some.inj e
      cases hu with
      | cons h1 h2 =>
        cases h2
        exact ⟨a, vs, _, rfl, rfl, ha, by rw [dpAll_len hd]; exact hz, q _ _ (dpAll_app hd (.cons h1 .nil)) .non⟩
    · cases e
  · cases e
def popD : List D → List D → Option (D × List D) := fun xs ds => match ds, xs[xs.length - 1]? with
  | [], some d => some (d, xs.dropLast)
  | _, _ => none
theorem mv_pop {K : PySem.W.Frag} : MutV K rPop popD := by
  intro R H a vs us xs ds d ys Q m ha hd hu e q
  unfold popD at e
  split at e
  · rename_i d' h1
    cases Option.some.inj e
    cases hu
    rw [← dpAll_len hd] at h1
    obtain ⟨v, e1, hv⟩ := dpAll_get hd h1
    exact ⟨a, vs, v, rfl, rfl, ha, e1, q v _ (dpAll_dropLast hd) hv⟩
  · cases e
def revD : List D → List D → Option (D × List D) := fun xs ds => match ds with
  | [] => some (.none, xs.reverse)
  | _ => none
theorem mv_reverse {K : PySem.W.Frag} : MutV K rReverse revD := by
  intro R H a vs us xs ds d ys Q m ha hd hu e q
  unfold revD at e
  split at e
  · cases Option.some.inj e
    cases hu
    exact ⟨a, vs, rfl, rfl, ha, q _ _ (dpAll_rev hd) .non⟩
  · cases e
/-- a call that changes the slot's list -/
def foI (n : Nat) (m : List Sl → Fo) (i : Nat) (ds : List D) (ρ : Rho) : Ou Rs := match ρ[i]? with
  | some (.ow b xs) => if ds.length + 1 = n then match m (.ow true xs :: ds.map .im) with
    | .rt (.im d) (.ow true ys :: _) => .ok (.im d) (ρ.set i (.ow b ys))
    | .rt (.fr es) (.ow true ys :: _) => .ok (.fr es) (ρ.set i (.ow b ys))
    | .ex tag d (.ow true ys :: _) => .ex tag d (ρ.set i (.ow b ys))
    | _ => .bad else .bad
  | _ => .bad
def clI (n : Nat) (m : List Sl → Fo) (i : Nat) (F : Rho → Ou (List D)) : Rho → Ou Rs := fun ρ => if isOw ρ i = true then bd (F ρ) (foI n m i) else .bad
theorem call_i {p : Pm} {EX : WX} {n : Nat} {m : List Sl → Fo} {R H : Hp} {O : As} {σ : Sg} {ρ : Rho} {i : Nat} {v : V} {vs : List V} {ds : List D} {Q : VK} (S : Stt p R H O σ ρ) (hi : σ[i]? = some (some v)) (hv : DpAll p.K R vs ds) (g : Good p EX (Rr p.K) R H O σ Q (foI n m i ds ρ)) :
    spF n p.K p.xc m (v :: vs) H Q (fun cls d G => EX cls d σ G) := by
  unfold foI at g
  split at g
  · rename_i b xs e
    split at g
    · rename_i hn
      obtain ⟨a, zs, e1, oa, ha, hd⟩ := S.ow i b xs e
      rw [e1] at hi; cases hi
      have S0 := stt_args (xc := p.xc) S.sub hv
      have S1 : Stt (pmF p.K p.xc (.ref a :: vs)) R H (fun c => c = a) ((V.ref a :: vs).map some) (.ow true xs :: ds.map .im) := by
        refine ⟨S.sub, fun c z => by subst z; exact S.dis c oa, fun c z => by subst z; exact S.al c oa, by have := S0.len; simp at this ⊢; exact this, fun j d q => ?_, fun j c es q => ?_, fun j y w q hw => ?_, fun j k c c' es fs x q1 q2 _ _ => ?_, fun j tag d q => ?_⟩
        · cases j with
          | zero => cases q
          | succ j => exact S0.im j d q
        · cases j with
          | zero => cases q; exact ⟨a, zs, rfl, rfl, ha, hd⟩
          | succ j => obtain ⟨_, _, _, z, _⟩ := S0.ow j c es q; exact z.elim
        · cases j with
          | zero => cases q; cases hw; rfl
          | succ j =>
            have q : (ds.map Sl.im)[j]? = some y := q
            rw [List.getElem?_map] at q
            cases qq : ds[j]? with
            | none => rw [qq] at q; cases q
            | some d' => rw [qq] at q; cases Option.some.inj q; cases hw
        · cases j with
          | zero => cases k with
            | zero => rfl
            | succ k => obtain ⟨_, _, _, z, _⟩ := S0.ow k c' fs q2; exact z.elim
          | succ j => obtain ⟨_, _, _, z, _⟩ := S0.ow j c es q1; exact z.elim
        · cases j with
          | zero => cases q
          | succ j => obtain ⟨_, _, _, _, z, _⟩ := S0.xn j tag d q; cases z
      refine ⟨by rw [List.length_cons, dpAll_len hv]; exact hn, R, _, _, S1, ?_⟩
      have sole := S.sole e e1
      have back : ∀ {R' H' : Hp} {O' : As} {ys : List D} {as : List Sl}, Stt (pmF p.K p.xc (.ref a :: vs)) R' H' O' ((V.ref a :: vs).map some) (.ow true ys :: as) → Tr R H (fun c => c = a) R' H' O' →
          Stt p R' H' (fun c => O c ∨ O' c) σ (ρ.set i (.ow b ys)) ∧ Tr R H O R' H' (fun c => O c ∨ O' c) := fun {R' H' O' ys as} S' T' => by
        obtain ⟨a', ws, q1, q2, q3, q4⟩ := S'.ow 0 true ys rfl
        cases (Option.some.inj (Option.some.inj q1) : V.ref a = V.ref a')
        have Sb := (S.put (i := i) (x := .un) (.inl rfl)).behind (fun c z => by subst z; exact oa) T' S'.dis S'.al S'.sub (fun c z => by subst z; exact q2) fun j c es x y1 y2 y3 => by
          subst y3; exact (sole j c es y1 y2).elim
        exact ⟨Sb.reown e1 (.inl oa) q3 q4 sole fun hb => by subst hb; exact S.pn1 i xs e, T'.more fun c z => by subst z; exact oa⟩
      cases em : m (.ow true xs :: ds.map .im) with
      | bad => rw [em] at g; exact g.elim
      | ex tag d as =>
        rw [em] at g
        cases as with
        | nil => exact g.elim
        | cons y as =>
          cases y with
          | un => exact g.elim
          | im d => exact g.elim
          | fv k => exact g.elim
          | xn t d => exact g.elim
          | ow c ys =>
            cases c with
            | false => exact g.elim
            | true =>
              intro dx w R' H' O' S' T' fx hx no hw
              obtain ⟨S2, T2⟩ := back S' T'
              exact g dx w R' H' _ S2 T2 fx hx (fun z => z.elim (fun z => S.al dx z fx) no) hw
      | rt r as =>
        rw [em] at g
        cases as with
        | nil => cases r <;> exact g.elim
        | cons y as =>
          cases y with
          | un => cases r <;> exact g.elim
          | fv k => cases r <;> exact g.elim
          | im d => cases r <;> exact g.elim
          | xn t d => cases r <;> exact g.elim
          | ow c ys =>
            cases c with
            | false => cases r <;> exact g.elim
            | true =>
              cases r with
              | sl j => exact g.elim
              | im d =>
                intro w R' H' O' S' T' hr
                obtain ⟨S2, T2⟩ := back S' T'
                exact g w R' H' _ S2 T2 hr
              | fr es =>
                intro w R' H' O' S' T' hr
                obtain ⟨S2, T2⟩ := back S' T'
                obtain ⟨x, ws, rfl, ox, hx, hd, un⟩ := hr
                refine g _ R' H' _ S2 T2 ⟨x, ws, rfl, .inr ox, hx, hd, fun j c es' y1 y2 => ?_⟩
                rcases set_get y1 with ⟨rfl, z⟩ | ⟨n, z⟩
                · rw [e1] at y2; cases y2
                  exact un 0 true ys rfl rfl
                · obtain ⟨c', ys', q1, q2, q3, _⟩ := S.ow j c es' z
                  rw [q1] at y2; cases y2
                  rcases T'.o x ox with z2 | z2
                  · subst z2; exact n (S.inj i j b c xs es' x e z e1 q1)
                  · rw [q3] at z2; cases z2
    · exact g.elim
  · exact g.elim
theorem sem_clI {p : Pm} {EX : WX} {n : Nat} {m : List Sl → Fo} {i : Nat} {t : TA} {F : Rho → Ou (List D)} (h : SemAD p EX t F) : SemE p EX (tCl (spF n p.K p.xc m) (atE EX) (tCons (tVar i) t)) (clI n m i F) := by
  intro R H O σ ρ Q S g
  unfold clI at g
  split at g
  · rename_i ho
    obtain ⟨a, e1, _⟩ := ow_ty S ho
    exact ⟨_, e1, h.use S g fun R' H' O' ρ' us ds S' T' hu g' => call_i S' e1 hu g'⟩
  · exact g.elim
/-- xs[i] = e -/
def setO (i : Nat) (d k : D) (ρ : Rho) : So := match ρ[i]?, k with
  | some (.ow b xs), .int k => match ixN xs.length k with
    | some j => .nx (ρ.set i (.ow b (xs.set j d)))
    | none => .bad
  | _, _ => .bad
def setS (i : Nat) (F G : Rho → Ou Rs) : Rho → So := fun ρ => bs (bd (frz (F ρ)) dat) fun d ρ1 => if isOw ρ1 i = true then bs (bd (frz (G ρ1)) dat) fun k ρ2 => setO i d k ρ2 else .bad
theorem sem_set {p : Pm} {EX : WX} {i : Nat} {te ti : TE} {F G : Rho → Ou Rs} (h : SemE p EX te F) (k : SemE p EX ti G) : SemS p EX (tAsg te (gSub (tVar i) ti rSetL)) (setS i F G) := by
  intro R H O σ ρ E S g
  refine h.op.dat.useS S g fun R1 H1 O1 ρ1 v d S1 T1 hv g1 => ?_
  split at g1
  · rename_i ho
    obtain ⟨a, e1, _⟩ := ow_ty S1 ho
    refine ⟨_, e1, k.op.dat.useS S1 g1 fun R2 H2 O2 ρ2 u kk S2 T2 hu g2 => ?_⟩
    unfold setO at g2
    split at g2
    · rename_i b xs kk e
      split at g2
      · rename_i j ej
        obtain ⟨c, vs, e2, oc, hc, hd⟩ := S2.ow i b xs e
        rw [e1] at e2; cases e2
        cases hu
        obtain ⟨S', T'⟩ := S2.mut e e1 oc hc (dpAll_set (T2.dp hv) j hd)
        exact ⟨a, vs, _, j, rfl, rfl, hc, by rw [dpAll_len hd]; exact ej, g2 σ R2 _ O2 S' T'⟩
      · exact g2.elim
    · exact g2.elim
  · exact g1.elim
theorem sem_aug {p : Pm} {EX : WX} {i : Nat} {te : TE} {F : Rho → Ou Rs} {r : R2} {f : D → D → Option Rs} (hf : OpV p.K r f) (h : SemE p EX te F) : SemS p EX (tAug i te r) (asgS i (opF f (varF i) F)) :=
  sem_asg (sem_op hf (sem_var i) h)
/-- while -/
def whileL (C : Rho → Ou Bool) (B : Rho → So) : Nat → Rho → So
  | 0, _ => .bad
  | n + 1, ρ => bs (C ρ) fun b ρ1 => if b = true then match B ρ1 with
    | .nx ρ2 => whileL C B n ρ2
    | .ct ρ2 => whileL C B n ρ2
    | .bk ρ2 => .nx ρ2
    | o => o else .nx ρ1
theorem sem_while {p : Pm} {EX : WX} {c : TT} {tb : TS} {C : Rho → Ou Bool} {B : Rho → So} (n : Rho → Nat) (hc : SemT p EX c C) (hb : SemS p EX tb B) : SemS p EX (tWhile c tb) (fun ρ => whileL C B (n ρ) ρ) := by
  intro R H O σ ρ E S g
  refine ⟨fun m σ' H' => ∃ R' O' ρ', Stt p R' H' O' σ' ρ' ∧ Tr R H O R' H' O' ∧ GoodS p EX R' H' O' E (whileL C B m ρ'), ⟨n ρ, R, O, ρ, S, .refl, g⟩, fun m σ1 H1 hW => ?_⟩
  obtain ⟨R1, O1, ρ1, S1, T1, g1⟩ := hW
  cases m with
  | zero => exact g1.elim
  | succ m =>
    refine hc.useS S1 g1 fun R2 H2 O2 ρ2 b a S2 T2 hb2 g2 => ?_
    subst hb2
    cases b with
    | false => exact g2 σ1 R2 H2 O2 S2 .refl
    | true =>
      rw [if_pos rfl] at g2
      have T3 := T1.trans T2
      refine ⟨fun σ' H' => ∃ R' O' ρ', Stt p R' H' O' σ' ρ' ∧ Tr R H O R' H' O' ∧ GoodS p EX R' H' O' E (whileL C B m ρ'), fun σ' H' h => ⟨m, by omega, h⟩, ?_⟩
      refine hb R2 H2 O2 σ1 ρ2 _ S2 ?_
      cases q : B ρ2 with
      | bad => rw [q] at g2; exact g2
      | nx ρ3 => rw [q] at g2; exact fun σ3 R3 H3 O3 S3 T4 => ⟨R3, O3, ρ3, S3, T3.trans T4, g2.tr T4⟩
      | ct ρ3 => rw [q] at g2; exact fun σ3 R3 H3 O3 S3 T4 => ⟨R3, O3, ρ3, S3, T3.trans T4, g2.tr T4⟩
      | bk ρ3 => rw [q] at g2; exact g2
      | rt r ρ3 => rw [q] at g2; exact g2
      | ex t d ρ3 => rw [q] at g2; exact g2
end VL

namespace VL
open PySem PySem.Spec PyProof.Rows L2
/-! ### machine: list.extend of a tuple, t[::1], t[::-1], repr -/
theorem ext_tup (l : Addr) (xs : Array Value) (n : Nat) (b : Addr) (ys : Array Value) (m : Nat) (dd : Option Addr) (sl : Array (Option Value)) (h0 : ¬(!xs.isEmpty && Builtin.List.listTooLong (xs.size + ys.size)) = true) (h1 : xs.size ≤ sizeLine) (h2 : xs.size + ys.size ≤ sizeLine + 1) :
    Meets (Builtin.«list.extend» ⟨[.ref l, .ref b], []⟩) (fun _ R s => s.heap.get? l = some { cls := .type "list", dict := none, data := .seq xs n, slots := #[] } ∧
      s.heap.get? b = some { cls := .type "tuple", dict := dd, data := .seq ys m, slots := sl } ∧ R (.ok (.ret Value.none)) { s with heap := s.heap.update l (Obj.mapSeq fun x => x ++ ys), toks := s.toks }) :=
  .of_wp fun prog w A R s h => by
    obtain ⟨hp, g, d, tk, os⟩ := s; obtain ⟨hl, hb, h⟩ := h
    have f1 := AutoSeq1.idx_int; have f2 := AutoSeq1.sub_tuple_tuple; have f3 := AutoSeq1.sub_list_list; have f4 := AutoSeq1.sub_tuple_list; have f5 := AutoSeq1.sub_list_tuple
    have hz : (xs ++ ys).size ≤ sizeLine + 1 := by rw [Array.size_append]; exact h2
    wp_walk using (wpAny_updateSeq hl rfl (hz := h1) (_hz' := hz)), wpAny_loadPart' hl, wpAny_loadPart' hb
    exact ⟨_, rfl, h⟩
section
variable {X : Cx}
def rExtT (K : PySem.W.Frag) : V → List V → Hp → VK → Prop := fun x vs H Q => ∃ l b xs zs, x = .ref l ∧ vs = [.ref b] ∧ H l = some (.lst xs) ∧ SqT K H b zs ∧ xs.length + zs.length ≤ sizeLine ∧ Q .non (upd H l (.lst (xs ++ zs)))
theorem mt_extT : MtM X "list.extend" (rExtT X.K) := by
  intro pins s σ H x vs v us Q I rx rv h
  obtain ⟨l, b, xs, zs, rfl, rfl, hH, hB, hz, q⟩ := h
  cases rx
  obtain ⟨u, rfl, ru⟩ := rv.one
  cases ru
  obtain ⟨z, its, n, r, hl, e⟩ := I.lstM hH
  obtain ⟨ys, ry, ⟨⟨cls, dd, data, sl⟩, ho, hc, m, hd⟩, hy⟩ := I.tuple hB
  have hc : cls = .type "tuple" := hc
  have hd : data = .seq ys.toArray m := hd
  subst hc hd
  have e1 := r.length
  have e2 := ry.length
  have hs : its.toArray.size + ys.toArray.size ≤ sizeLine := by rw [List.size_toArray, List.size_toArray]; omega
  refine call_meets F.slot_list_extend ⟨_, e, rfl⟩ F.entry_list_extend (F.args_list_extend_2 _ _)
    (ext_tup l its.toArray n b ys.toArray m dd sl (by rw [notLongL hs, Bool.and_false]; exact Bool.false_ne_true) (by rw [List.size_toArray]; omega) (by omega)) ⟨e, ho, ?_⟩
  exact ⟨.non, _, I.lset (its' := its ++ ys) hH e (by simp) (r.append ry) (by rw [List.length_append]; omega), rfl, q⟩
/-- list.extend of a list or a tuple -/
def rExt (K : PySem.W.Frag) : V → List V → Hp → VK → Prop := fun x vs H Q => rExtend x vs H Q ∨ rExtT K x vs H Q
theorem mt_ext : MtM X "list.extend" (rExt X.K) := fun pins s σ H x vs v us Q I rx rv h => h.elim (mt_extend pins s σ H x vs v us Q I rx rv) (mt_extT pins s σ H x vs v us Q I rx rv)
theorem places_up (n : Nat) : Builtin.Slice.slicePlaces 0 (n : Int) 1 = n := by
  unfold Builtin.Slice.slicePlaces
  rw [if_pos (by decide : (1 : Int) > 0), Int.ediv_one]
  by_cases h : (0 : Int) < (n : Int)
  · rw [if_pos h]; omega
  · rw [if_neg h]; omega
theorem places_down (n : Nat) : Builtin.Slice.slicePlaces ((n : Int) - 1) (-1) (-1) = n := by
  unfold Builtin.Slice.slicePlaces
  rw [if_neg (by decide : ¬ (-1 : Int) > 0), show (- -1 : Int) = 1 from rfl, Int.ediv_one]
  by_cases h : (n : Int) - 1 > -1
  · rw [if_pos h]; omega
  · rw [if_neg h]; omega
theorem pick_down (xs : Array Value) : ((List.range xs.size).filterMap fun (k : Nat) => xs[(((xs.size : Int) - 1) + (k : Int) * (-1)).toNat]?).toArray = xs.toList.reverse.toArray := by
  have e : ((List.range xs.size).filterMap fun (k : Nat) => xs[(((xs.size : Int) - 1) + (k : Int) * (-1)).toNat]?) = ((List.range xs.size).map fun k => xs.size - 1 - k).filterMap (xs[·]?) := by
    rw [List.filterMap_map]
    congr 1
    funext k
    show xs[(((xs.size : Int) - 1) + (k : Int) * (-1)).toNat]? = xs[xs.size - 1 - k]?
    rw [show (((xs.size : Int) - 1) + (k : Int) * (-1)).toNat = xs.size - 1 - k by omega]
  rw [e, PySem.W.krv_range, List.filterMap_reverse, PySem.W.krv_all]
theorem getT_step {prog : Program} {w : World} {A : Around} {E : Value → Shared → Prop} {s : Shared} {t sl : Addr} {xs : Array Value} {vs : Value} {k : Int} {Q : Value → Shared → Prop} (ht : IsTup s.heap t xs) (hs : s.heap.IsSliceOf sl .none .none vs) (ps : IsPart vs (some k)) (hk : k = 1 ∨ k = -1)
    (h1 : k = 1 → Q (.ref t) s) (h2 : k = -1 → Q (.ref s.heap.objs.size) { s with heap := s.heap.push { cls := .type "tuple", data := .seq xs.toList.reverse.toArray } }) (hz : xs.size ≤ sizeLine) : wpAny (model prog w) A (getItem (.ref t) (.ref sl)) Q E s := by
  obtain ⟨os, a1, a2, a3⟩ := id hs
  unfold getItem
  try with_reducible refine wpAny_holding ?_
  first | refine wpAny_bind (wpAny_pure ?_) | skip
  refine wpAny_bind (wpAny_sequenceKey ht.typeIs (by decide) (wpAny_bind (wpAny_callSpecial?_slot (name := Str.ofString "__getitem__") ht.typeIs PyProof.Rows.slot_tuple_getitem (wpAny_call_entry PyProof.Rows.slot_tuple_getitem ht.typeIs entry_tuple_getitem ?_ (args_tuple_getitem _ _)))))
  show wpAny _ _ (Builtin.Tuple.tupleItemsOf (.ref t) >>= _) _ _ s
  refine wpAny_bind (tupleItemsOf_ ht (wpAny_bind (wpAny_typeOf (s := s) ⟨os, a1, a2⟩ ?_)))
  rw [if_pos (by decide)]
  unfold Builtin.Slice.sliceApplied Builtin.Slice.sliceFields
  refine wpAny_bind (wpAny_bind (wpAny_bind (wpAny_field a1 a3 (x := .none) rfl (wpAny_bind (wpAny_field a1 a3 (x := .none) rfl (wpAny_bind (wpAny_field a1 a3 (x := vs) rfl (wpAny_pure ?_))))))))
  refine wpAny_bind (HT.slicePart_ ps ?_)
  rcases hk with rfl | rfl
  · show wpAny _ _ (if ((1 : Int) == 0) = true then _ else _) _ _ s
    rw [if_neg (by decide)]
    refine wpAny_bind (slicePart_none (wpAny_bind (slicePart_none (wpAny_bind (wpAny_pure (wpAny_pure ?_))))))
    show wpAny _ _ (if ((0 : Int) == 0 && (1 : Int) == 1 && Builtin.Slice.slicePlaces 0 (xs.size : Int) 1 == xs.size) = true then _ else _) _ _ s
    rw [if_pos (by rw [places_up]; simp)]
    refine wpAny_bind ?_
    show wpAny _ _ (typeOf (.ref t) >>= fun T => pure (T == .type "tuple")) _ _ s
    refine wpAny_bind (wpAny_typeOf ht.typeIs (wpAny_pure ?_))
    first
      | rw [if_pos (by decide)]
      | simp only [beq_self_eq_true, if_true]
    first
      | exact wpAny_bind (wpAny_rule (wpAny_pure ⟨_, rfl, wpAny_pure (h1 rfl)⟩))
      | exact wpAny_bind (wpAny_rule (wpAny_bind (wpAny_pure (wpAny_pure ⟨_, rfl, wpAny_pure (h1 rfl)⟩))))
  · show wpAny _ _ (if ((-1 : Int) == 0) = true then _ else _) _ _ s
    rw [if_neg (by decide)]
    refine wpAny_bind (slicePart_none (wpAny_bind (slicePart_none (wpAny_bind (wpAny_pure (wpAny_pure ?_))))))
    show wpAny _ _ (if (((xs.size : Int) - 1) == 0 && (-1 : Int) == 1 && Builtin.Slice.slicePlaces ((xs.size : Int) - 1) (-1) (-1) == xs.size) = true then _ else (do
      let __do_lift ← Builtin.Tuple.tupleExact (List.filterMap (fun (k : Nat) => xs[(((xs.size : Int) - 1) + (k : Int) * (-1)).toNat]?) (List.range (Builtin.Slice.slicePlaces ((xs.size : Int) - 1) (-1) (-1)))).toArray
      ret __do_lift)) _ _ s
    rw [if_neg (by simp), places_down, pick_down]
    have hr : xs.toList.reverse.toArray.size ≤ sizeLine := by rw [List.size_toArray, List.length_reverse, Array.length_toList]; exact hz
    first
      | exact wpAny_bind (m := Builtin.Tuple.tupleExact _) (wpAny_newObj_type (wpAny_pure ⟨_, rfl, wpAny_pure (h2 rfl)⟩) hr)
      | exact wpAny_bind (m := Builtin.Tuple.tupleExact _) (wpAny_newObj_type (wpAny_bind (wpAny_pure (wpAny_pure ⟨_, rfl, wpAny_pure (h2 rfl)⟩))) hr)
      | exact wpAny_bind (wpAny_bind (m := Builtin.Tuple.tupleExact _) (wpAny_newObj_type (wpAny_pure (wpAny_pure ⟨_, rfl, wpAny_pure (h2 rfl)⟩)) hr))
/-- t[::e], e worth 1 or -1 -/
def tStp (K : PySem.W.Frag) (te : TE) (ts : TO) : TE := fun σ H Q => te σ H fun x H1 => ts σ H1 fun o H2 => ∃ a xs k, x = .ref a ∧ SqT K H2 a xs ∧ o = some k ∧ ((k = 1 ∧ Q (.ref a) H2) ∨ (k = -1 ∧ ∀ q, H2 q = none → Q (.ref q) (upd H2 q (.tup xs.reverse))))
theorem pe_stp {e : Expr} {st : Expr} {te : TE} {ts : TO} {p3 pos : Pos} (he : PE X e te) (hst : PO X (some st) ts) (hop : ∀ v r, subscripted (.Slice none none (some st) p3) false v r = operate [v, r] (getItem v r) := by intro _ _; with_unfolding_all rfl) :
    PE X (.Subscript e (.Slice none none (some st) p3) pos) (tStp X.K te ts) := by
  refine ⟨fun pins s σ H Q I h => Subscript_ (thn (he.run pins s σ H _ I h) fun v s1 ⟨x, H1, I1, r1, q1⟩ => ?_)⟩
  refine wpAny_Slice (thn (po_none.run pins s1 σ H1 (fun o G => o = none ∧ G = H1) I1 ⟨rfl, rfl⟩) fun vl s2 ⟨l, H2, I2, pl, el, e2⟩ => ?_)
  subst el e2
  refine thn (po_none.run pins s2 σ H2 (fun o G => o = none ∧ G = H2) I2 ⟨rfl, rfl⟩) fun vu s3 ⟨u, H3, I3, pu, eu, e3⟩ => ?_
  subst eu e3
  refine thn (hst.run pins s3 σ H3 _ I3 q1) fun vs s4 ⟨o, H4, I4, ps, a, xs, k, ex, hx, eo, q⟩ => ?_
  subst ex eo
  cases r1
  have I5 : Inv X pins σ H4 { s4 with heap := s4.heap.push { cls := .type "slice", data := .fields #[vl, vu, vs] } } := I4.kept (t' := s4.toks) fun b ob q => Heap.get?_push_of_some _ q
  obtain ⟨its, r, ht, hz⟩ := I5.tuple hx
  have hlen := r.length
  have nl : vl = .none := by cases pl; rfl
  have nu : vu = .none := by cases pu; rfl
  subst nl nu
  refine tail_any (s := { s4 with heap := s4.heap.push { cls := .type "slice", data := .fields #[.none, .none, vs] } }) (ops := [.ref a, .ref s4.heap.objs.size]) ht.typeIs PyProof.Rows.slot_tuple_getitem.lookup ?_ (hop _ _)
  refine getT_step ht (Heap.IsSliceOf.new _ .none .none vs) ps (q.elim (fun z => .inl z.1) fun z => .inr z.1) (fun hk => ?_) (fun hk => ?_) (by rw [List.size_toArray]; omega)
  · rcases q with ⟨_, q⟩ | ⟨z, _⟩
    · exact ⟨.ref a, H4, I5, rfl, q⟩
    · rw [hk] at z; cases z
  · rcases q with ⟨z, _⟩ | ⟨_, q⟩
    · rw [hk] at z; cases z
    · refine ⟨.ref _, _, I5.laid (t' := s4.toks) (o := .tup xs.reverse) (fun b ob q => Heap.get?_push_of_some _ q) (Nat.le_refl _) ?_, rfl, q _ (I5.hok.fresh (Nat.le_refl _))⟩
      exact ⟨by rw [List.length_reverse]; exact hz, its.reverse, r.reverse, IsTup.new _ _⟩
/-- repr(x), x plain data, where no repr is under way -/
def shw (d : D) : Option Str := match d with
  | .none => some "None"
  | .bool b => some (if b then "True" else "False")
  | .int i => if i.natAbs.log2 < 1920 then some (toString i) else none
  | .str x => if (reprText x).length ≤ sizeLine then some (reprText x) else none
  | .list ds => if d.showable = true ∧ d.hasDict = false ∧ d.depth ≤ 64 ∧ d.shown.length ≤ sizeLine then some d.shown else none
  | .tuple ds => if d.showable = true ∧ d.hasDict = false ∧ d.depth ≤ 64 ∧ d.shown.length ≤ sizeLine then some d.shown else none
  | .dict _ => none
def rRepr (K : PySem.W.Frag) : List V → Hp → VK → Prop := fun xs H Q => ∃ v d x, xs = [v] ∧ Dp K H v d ∧ shw d = some x ∧ Q (.str x) H
theorem call_reprD (gd : X.A.guards = some []) (hu : X.A.units + 66 < cLine) : CallR X (.builtin "repr") (rRepr X.K) := by
  intro pins s σ H xs us Q I r h
  obtain ⟨v, d, x, rfl, hd, e, q⟩ := h
  obtain ⟨u, rfl, ru⟩ := Vals.one r
  obtain ⟨as, rd⟩ := Dp.reads I d v u hd ru
  have big : (d.showable = true ∧ d.hasDict = false ∧ d.depth ≤ 64 ∧ d.shown.length ≤ sizeLine) → (∃ a, u = .ref a) → d.shown = x → wpAny (model X.prog X.w) X.A (call (.builtin "repr") [u]) (EP X pins σ Q) X.xe s := fun ⟨h1, h2, h3, h4⟩ ⟨a, ea⟩ e => by
    subst ea
    refine repr_of_reads' rd h1 (PyData.noDict_hsm h2) gd (by omega) (fun _ _ e => e) (fun h' u tk k => ?_) h4
    rw [e]
    exact ⟨.str x, H, I.kept k, ⟨_, rfl⟩, q⟩
  cases d with
  | none => cases hd; cases ru; cases Option.some.inj e; exact PySem.P.repr_of_none ⟨.str _, H, I.tok _, ⟨_, rfl⟩, q⟩
  | bool b => cases hd; cases ru; cases Option.some.inj e; exact PySem.P.repr_of_bool ⟨.str _, H, I.tok _, ⟨_, rfl⟩, q⟩
  | int i =>
    cases hd
    obtain ⟨t, rfl⟩ := ru
    unfold shw at e
    dsimp only at e
    split at e
    · rename_i hi
      cases Option.some.inj e
      exact PySem.P.repr_of_int hi ⟨.str _, H, I.tok _, ⟨_, rfl⟩, q⟩
    · cases e
  | str y =>
    cases hd
    obtain ⟨t, rfl⟩ := ru
    unfold shw at e
    dsimp only at e
    split at e
    · rename_i hi
      cases Option.some.inj e
      exact PySem.P.repr_of_str ⟨.str _, H, I.tok _, ⟨_, rfl⟩, q⟩ hi
    · cases e
  | list ds =>
    unfold shw at e
    dsimp only at e
    split at e
    · rename_i hh
      exact big hh (by cases hd; cases ru; exact ⟨_, rfl⟩) (Option.some.inj e)
    · cases e
  | tuple ds =>
    unfold shw at e
    dsimp only at e
    split at e
    · rename_i hh
      exact big hh (by cases hd; cases ru; exact ⟨_, rfl⟩) (Option.some.inj e)
    · cases e
  | dict k => cases hd
end
end VL

namespace VL
open PySem PySem.Spec PyProof.Rows L2
theorem add_LL (l : Addr) (xs : Array Value) (n : Nat) (b : Addr) (ys : Array Value) (m : Nat) (sl sm : Array (Option Value)) (h0 : xs.size + ys.size ≤ sizeLine) :
    Meets (Builtin.«list.__add__» ⟨[.ref l, .ref b], []⟩) (fun _ R s => s.heap.get? l = some { cls := .type "list", dict := none, data := .seq xs n, slots := sl } ∧
      s.heap.get? b = some { cls := .type "list", dict := none, data := .seq ys m, slots := sm } ∧ R (.ok (.ret (Value.ref s.heap.objs.size))) { s with heap := s.heap.push { cls := Value.type "list", data := Data.seq (xs ++ ys) }, toks := s.toks }) :=
  .of_wp fun prog w A R s h => by
    obtain ⟨hp, g, d, tk, os⟩ := s; obtain ⟨hl, hb, h⟩ := h
    have f1 := AutoSeq1.idx_int; have f2 := AutoSeq1.sub_tuple_tuple; have f3 := AutoSeq1.sub_list_list; have f4 := AutoSeq1.sub_tuple_list; have f5 := AutoSeq1.sub_list_tuple
    wp_walk using wpAny_loadPart' hl, wpAny_loadPart' hb
    exact ⟨_, rfl, h⟩
theorem ext_LL (l : Addr) (xs : Array Value) (n : Nat) (b : Addr) (ys : Array Value) (m : Nat) (sl : Array (Option Value)) (h0 : ¬(!xs.isEmpty && Builtin.List.listTooLong (xs.size + ys.size)) = true) (h1 : xs.size ≤ sizeLine) (h2 : xs.size + ys.size ≤ sizeLine + 1) :
    Meets (Builtin.«list.extend» ⟨[.ref l, .ref b], []⟩) (fun _ R s => s.heap.get? l = some { cls := .type "list", dict := none, data := .seq xs n, slots := #[] } ∧
      s.heap.get? b = some { cls := .type "list", dict := none, data := .seq ys m, slots := sl } ∧ R (.ok (.ret Value.none)) { s with heap := s.heap.update l (Obj.mapSeq fun x => x ++ ys), toks := s.toks }) :=
  .of_wp fun prog w A R s h => by
    obtain ⟨hp, g, d, tk, os⟩ := s; obtain ⟨hl, hb, h⟩ := h
    have f1 := AutoSeq1.idx_int; have f2 := AutoSeq1.sub_tuple_tuple; have f3 := AutoSeq1.sub_list_list; have f4 := AutoSeq1.sub_tuple_list; have f5 := AutoSeq1.sub_list_tuple
    have hz : (xs ++ ys).size ≤ sizeLine + 1 := by rw [Array.size_append]; exact h2
    wp_walk using (wpAny_updateSeq hl rfl (hz := h1) (_hz' := hz)), wpAny_loadPart' hl, wpAny_loadPart' hb
    exact ⟨_, rfl, h⟩
end VL

namespace VL
open PySem PySem.Spec PyProof.Rows L2
section
variable {X : Cx}
/-! ### lists of any origin -/
def rCatL (K : PySem.W.Frag) : R2 := fun x y H Q => ∃ a b xs zs, x = .ref a ∧ y = .ref b ∧ SqL K H a xs ∧ SqL K H b zs ∧ xs.length + zs.length ≤ sizeLine ∧ ∀ p, H p = none → Q (.ref p) (upd H p (.lst (xs ++ zs)))
theorem op_catL : OpR X (binaryOp .Add) (rCatL X.K) := by
  intro pins s σ H x y v u Q I rx ry h
  obtain ⟨a, b, xs, zs, rfl, rfl, hA, hB, hz, q⟩ := h
  cases rx
  cases ry
  obtain ⟨is, ri, ⟨⟨c1, d1, t1, l1⟩, n, o1, q1, q2, q3⟩, _⟩ := I.list hA
  obtain ⟨js, rj, ⟨⟨c2, d2, t2, l2⟩, m, o2, p1, p2, p3⟩, _⟩ := I.list hB
  have q1 : c1 = .type "list" := q1
  have q2 : d1 = none := q2
  have q3 : t1 = .seq is.toArray n := q3
  have p1 : c2 = .type "list" := p1
  have p2 : d2 = none := p2
  have p3 : t2 = .seq js.toArray m := p3
  subst q1 q2 q3 p1 p2 p3
  have e1 := ri.length
  have e2 := rj.length
  refine PySem.concat_meets ⟨_, o1, rfl⟩ ⟨_, o2, rfl⟩ PySem.noFill_list_add PySem.seq_list_add F.slot_list_add F.entry_list_add (F.args_list_add_2 _ _) (add_LL a is.toArray n b js.toArray m l1 l2 (by rw [List.size_toArray, List.size_toArray]; omega)) ⟨o1, o2, ?_⟩
  have ea : is.toArray ++ js.toArray = (is ++ js).toArray := by simp
  rw [ea]
  exact ⟨.ref _, _, I.lnew (t' := s.toks) (ri.append rj) (by rw [List.length_append]; omega), rfl, q _ I.fresh⟩
def rExtL (K : PySem.W.Frag) : V → List V → Hp → VK → Prop := fun x vs H Q => ∃ l b xs zs, x = .ref l ∧ vs = [.ref b] ∧ H l = some (.lst xs) ∧ SqL K H b zs ∧ xs.length + zs.length ≤ sizeLine ∧ Q .non (upd H l (.lst (xs ++ zs)))
theorem mt_extL : MtM X "list.extend" (rExtL X.K) := by
  intro pins s σ H x vs v us Q I rx rv h
  obtain ⟨l, b, xs, zs, rfl, rfl, hH, hB, hz, q⟩ := h
  cases rx
  obtain ⟨u, rfl, ru⟩ := rv.one
  cases ru
  obtain ⟨z, its, n, r, hl, e⟩ := I.lstM hH
  obtain ⟨js, rj, ⟨⟨c2, d2, t2, l2⟩, m, o2, p1, p2, p3⟩, _⟩ := I.list hB
  have p1 : c2 = .type "list" := p1
  have p2 : d2 = none := p2
  have p3 : t2 = .seq js.toArray m := p3
  subst p1 p2 p3
  have e1 := r.length
  have e2 := rj.length
  have hs : its.toArray.size + js.toArray.size ≤ sizeLine := by rw [List.size_toArray, List.size_toArray]; omega
  refine call_meets F.slot_list_extend ⟨_, e, rfl⟩ F.entry_list_extend (F.args_list_extend_2 _ _)
    (ext_LL l its.toArray n b js.toArray m l2 (by rw [notLongL hs, Bool.and_false]; exact Bool.false_ne_true) (by rw [List.size_toArray]; omega) (by omega)) ⟨e, o2, ?_⟩
  exact ⟨.non, _, I.lset (its' := its ++ js) hH e (by simp) (r.append rj) (by rw [List.length_append]; omega), rfl, q⟩
def rXt (K : PySem.W.Frag) : V → List V → Hp → VK → Prop := fun x vs H Q => rExtL K x vs H Q ∨ rExtT K x vs H Q
theorem mt_xt : MtM X "list.extend" (rXt X.K) := fun pins s σ H x vs v us Q I rx rv h => h.elim (mt_extL pins s σ H x vs v us Q I rx rv) (mt_extT pins s σ H x vs v us Q I rx rv)
end
def xtD : List D → List D → Option (D × List D) := fun xs ds => match ds with
  | [.list es] => if xs.length + es.length ≤ sizeLine then some (.none, xs ++ es) else none
  | [.tuple es] => if xs.length + es.length ≤ sizeLine then some (.none, xs ++ es) else none
  | _ => none
theorem mv_xt {K : PySem.W.Frag} : MutV K (rXt K) xtD := by
  intro R H a vs us xs ds d ys Q m ha hd hu e q
  unfold xtD at e
  split at e
  · rename_i es
    split at e
    · rename_i hz
      cases Option.some.inj e
      cases hu with
      | cons h1 h2 =>
        cases h2
        cases h1 with
        | lst hs he => exact .inl ⟨a, _, vs, _, rfl, rfl, ha, sqL_mono m hs, by rw [dpAll_len hd, dpAll_len he]; exact hz, q _ _ (dpAll_app hd he) .non⟩
    · cases e
  · rename_i es
    split at e
    · rename_i hz
      cases Option.some.inj e
      cases hu with
      | cons h1 h2 =>
        cases h2
        cases h1 with
        | tup hs he => exact .inr ⟨a, _, vs, _, rfl, rfl, ha, sqT_mono m hs, by rw [dpAll_len hd, dpAll_len he]; exact hz, q _ _ (dpAll_app hd he) .non⟩
    · cases e
  · cases e

/-! ### operators -/
section
variable {K : PySem.W.Frag}
def rAddA (K : PySem.W.Frag) : R2 := fun x y H Q => (rI0 fun i j => V.int (i + j)) x y H Q ∨ (rCatA K x y H Q ∨ rCatL K x y H Q)
theorem op_addA {X : Cx} : OpR X (binaryOp .Add) (rAddA X.K) := op_add.or (op_catA.or op_catL)
def addD (d e : D) : Option Rs := match d, e with
  | .int i, .int j => some (.im (.int (i + j)))
  | .tuple xs, .tuple ys => if xs.length + ys.length ≤ sizeLine then some (.im (.tuple (xs ++ ys))) else none
  | .list xs, .list ys => if xs.length + ys.length ≤ sizeLine then some (.fr (xs ++ ys)) else none
  | _, _ => none
theorem ov_add : OpV K (rAddA K) addD := by
  intro R H v u d e z Q m hv hu q o
  unfold addD at q
  split at q
  · cases Option.some.inj q
    cases hv; cases hu
    exact .inl ⟨_, _, rfl, rfl, o _ R H (.refl m) (.int _)⟩
  · rename_i xs ys
    split at q
    · rename_i hz
      cases Option.some.inj q
      have hv : Dp K R v (.tuple xs) := hv
      have hu : Dp K R u (.tuple ys) := hu
      cases hv with
      | tup h1 d1 => cases hu with
        | tup h2 d2 =>
          rename_i a vs b us
          refine .inr (.inl ⟨a, b, vs, us, rfl, rfl, sqT_mono m h1, sqT_mono m h2, by rw [dpAll_len d1, dpAll_len d2]; exact hz, fun e => ?_, fun _ e => ?_, fun _ _ p hp => ?_⟩)
          · subst e; cases d1; exact o _ R H (.refl m) (.tup h2 d2)
          · subst e; cases d2
            refine o _ R H (.refl m) (.tup h1 ?_)
            rw [List.append_nil]; exact d1
          · exact o _ _ _ (.tup m hp) (.tup (.inl (.inl upd_same)) (dpAll_mono (Grow.tup m hp).r _ _ (dpAll_app d1 d2)))
    · cases q
  · rename_i xs ys
    split at q
    · rename_i hz
      cases Option.some.inj q
      obtain ⟨a, vs, rfl, h1, d1⟩ := hv
      obtain ⟨b, us, rfl, h2, d2⟩ := hu
      exact .inr (.inr ⟨a, b, vs, us, rfl, rfl, h1, h2, by rw [dpAll_len d1, dpAll_len d2]; exact hz, fun p hp => o p _ hp (dpAll_app d1 d2)⟩)
    · cases q
  · cases q
def intD (g : Int → Int → D) (C : Int → Int → Bool) (d e : D) : Option Rs := match d, e with
  | .int i, .int j => if C i j = true then some (.im (g i j)) else none
  | _, _ => none
theorem ov_int {C : Int → Int → Prop} {f : Int → Int → V} {g : Int → Int → D} {c : Int → Int → Bool} (hc : ∀ i j, c i j = true → C i j) (hg : ∀ i j R, Dp K R (f i j) (g i j)) : OpV K (rI C f) (intD g c) := by
  intro R H v u d e z Q m hv hu q o
  unfold intD at q
  split at q
  · split at q
    · rename_i h
      cases Option.some.inj q
      cases hv; cases hu
      exact ⟨_, _, rfl, rfl, hc _ _ h, o _ R H (.refl m) (hg _ _ R)⟩
    · cases q
  · cases q
theorem ov_int0 {f : Int → Int → V} {g : Int → Int → D} (hg : ∀ i j R, Dp K R (f i j) (g i j)) : OpV K (rI0 f) (intD g fun _ _ => true) := by
  intro R H v u d e z Q m hv hu q o
  unfold intD at q
  split at q
  · rw [if_pos rfl] at q
    cases Option.some.inj q
    cases hv; cases hu
    exact ⟨_, _, rfl, rfl, o _ R H (.refl m) (hg _ _ R)⟩
  · cases q
def subD : D → D → Option Rs := intD (fun i j => .int (i - j)) fun _ _ => true
theorem ov_sub : OpV K (rI0 fun i j => V.int (i - j)) subD := ov_int0 fun _ _ _ => .int _
def mulD : D → D → Option Rs := intD (fun i j => .int (i * j)) fun i j => decide (i.natAbs.log2 + j.natAbs.log2 < 1000000)
theorem ov_mul : OpV K (rI CMulW fun i j => V.int (i * j)) mulD := ov_int (fun i j h => of_decide_eq_true (p := i.natAbs.log2 + j.natAbs.log2 < 1000000) h) fun _ _ _ => .int _
def fdvD : D → D → Option Rs := intD (fun i j => .int (i / j)) fun i j => decide (0 < j ∧ j.natAbs.log2 < 9000)
theorem ov_fdv : OpV K (rI CDivW fun i j => V.int (i / j)) fdvD := ov_int (fun i j h => of_decide_eq_true (p := 0 < j ∧ j.natAbs.log2 < 9000) h) fun _ _ _ => .int _
def modD : D → D → Option Rs := intD (fun i j => .int (i % j)) fun i j => decide (0 < j)
theorem ov_mod : OpV K (rI (fun _ j => 0 < j) fun i j => V.int (i % j)) modD := ov_int (fun _ _ h => of_decide_eq_true h) fun _ _ _ => .int _
def powD : D → D → Option Rs := intD (fun i j => .int (i ^ j.toNat)) fun i j => decide (0 ≤ j ∧ j ≤ 1000000 ∧ i.natAbs < 2 ^ 64)
theorem ov_pow : OpV K (rI CPow fun i j => V.int (i ^ j.toNat)) powD := ov_int (fun i j h => of_decide_eq_true (p := 0 ≤ j ∧ j ≤ 1000000 ∧ i.natAbs < 2 ^ 64) h) fun _ _ _ => .int _
def ltD : D → D → Option Rs := intD (fun i j => .bool (decide (i < j))) fun _ _ => true
def leD : D → D → Option Rs := intD (fun i j => .bool (decide (i ≤ j))) fun _ _ => true
def gtD : D → D → Option Rs := intD (fun i j => .bool (decide (j < i))) fun _ _ => true
def geD : D → D → Option Rs := intD (fun i j => .bool (decide (j ≤ i))) fun _ _ => true
theorem ov_lt : OpV K (rI0 fun i j => V.bl (decide (i < j))) ltD := ov_int0 fun _ _ _ => .bl _
theorem ov_le : OpV K (rI0 fun i j => V.bl (decide (i ≤ j))) leD := ov_int0 fun _ _ _ => .bl _
theorem ov_gt : OpV K (rI0 fun i j => V.bl (decide (j < i))) gtD := ov_int0 fun _ _ _ => .bl _
theorem ov_ge : OpV K (rI0 fun i j => V.bl (decide (j ≤ i))) geD := ov_int0 fun _ _ _ => .bl _
def eqD (d e : D) : Option Rs := if SeqAt.shaped d = true ∧ SeqAt.shaped e = true then some (.im (.bool (PyData.eqv d e))) else none
def neD (d e : D) : Option Rs := if SeqAt.shaped d = true ∧ SeqAt.shaped e = true then some (.im (.bool (!PyData.eqv d e))) else none
theorem ov_eq : OpV K (rEqD K) eqD := by
  intro R H v u d e z Q m hv hu q o
  unfold eqD at q
  split at q
  · rename_i h
    cases Option.some.inj q
    exact ⟨d, e, hv.dp m, hu.dp m, h.1, h.2, o _ R H (.refl m) (.bl _)⟩
  · cases q
theorem ov_ne : OpV K (rNeD K) neD := by
  intro R H v u d e z Q m hv hu q o
  unfold neD at q
  split at q
  · rename_i h
    cases Option.some.inj q
    exact ⟨d, e, hv.dp m, hu.dp m, h.1, h.2, o _ R H (.refl m) (.bl _)⟩
  · cases q
/-- in, not in: lists of any data; lists and tuples of flat data -/
def flatD : D → Bool
  | .none | .bool _ | .int _ | .str _ => true
  | _ => false
def inO (neg : Bool) (d : D) (es : List D) : Rs := .im (.bool (if neg then !es.any (fun z => PyData.eqv z d) else es.any fun z => PyData.eqv z d))
def inDl (neg : Bool) (d e : D) : Option Rs := match e with
  | .list es => if SeqAt.shaped d = true ∧ SeqAt.shaped (.list es) = true then some (inO neg d es) else none
  | _ => none
theorem ov_in : OpV K (rInD K) (inDl false) := by
  intro R H v u d e z Q m hv hu q o
  unfold inDl at q
  split at q
  · rename_i es
    split at q
    · rename_i h
      cases Option.some.inj q
      exact ⟨d, es, hv.dp m, hu.dp m, h.1, h.2, o _ R H (.refl m) (.bl _)⟩
    · cases q
  · cases q
theorem ov_notin : OpV K (rNotInD K) (inDl true) := by
  intro R H v u d e z Q m hv hu q o
  unfold inDl at q
  split at q
  · rename_i es
    split at q
    · rename_i h
      cases Option.some.inj q
      exact ⟨d, es, hv.dp m, hu.dp m, h.1, h.2, o _ R H (.refl m) (.bl _)⟩
    · cases q
  · cases q
/-- items -/
def ixD (d e : D) : Option Rs := match d, e with
  | .list xs, .int i => (atI xs i).map .im
  | .tuple xs, .int i => (atI xs i).map .im
  | _, _ => none
theorem atI_dp {R : Hp} {vs : List V} {ds : List D} {i : Int} {d : D} (h : DpAll K R vs ds) (e : atI ds i = some d) : ∃ v, atI vs i = some v ∧ Dp K R v d := by
  unfold atI at e ⊢
  rw [dpAll_len h]
  obtain ⟨j, e1, e2⟩ := Option.bind_eq_some_iff.mp e
  obtain ⟨v, e3, h3⟩ := dpAll_get h e2
  exact ⟨v, Option.bind_eq_some_iff.mpr ⟨j, e1, e3⟩, h3⟩
theorem ov_ix : OpV K (rIx K) ixD := by
  intro R H v u d e z Q m hv hu q o
  unfold ixD at q
  split at q
  · rename_i xs i
    obtain ⟨y, e1, rfl⟩ := Option.map_eq_some_iff.mp q
    obtain ⟨a, vs, rfl, h1, d1⟩ := hv
    cases hu
    obtain ⟨w, e2, hw⟩ := atI_dp d1 e1
    exact .inl ⟨a, vs, i, w, rfl, rfl, h1, e2, o w R H (.refl m) hw⟩
  · rename_i xs i
    obtain ⟨y, e1, rfl⟩ := Option.map_eq_some_iff.mp q
    have hv : Dp K R v (.tuple xs) := hv
    cases hu
    cases hv with
    | tup h1 d1 =>
      obtain ⟨w, e2, hw⟩ := atI_dp d1 e1
      exact .inr (.inl ⟨_, _, i, w, rfl, rfl, sqT_mono m h1, e2, o w R H (.refl m) hw⟩)
  · cases q
def negD (d : D) : Option Rs := match d with
  | .int i => some (.im (.int (-i)))
  | _ => none
theorem uv_neg : UnV K (rU fun i => V.int (-i)) negD := by
  intro R H v d z Q m hv q o
  unfold negD at q
  split at q
  · cases Option.some.inj q
    cases hv
    exact ⟨_, rfl, o _ R H (.refl m) (.int _)⟩
  · cases q
/-- tuple(x) -/
def tupleD (d : D) : Option Rs := match d with
  | .list xs => some (.im (.tuple xs))
  | .tuple xs => some (.im (.tuple xs))
  | _ => none
theorem uv_tuple : UnV K (kTup K) tupleD := by
  intro R H v d z Q m hv q o
  unfold tupleD at q
  split at q
  · cases Option.some.inj q
    obtain ⟨a, vs, rfl, h1, d1⟩ := hv
    exact .inl ⟨a, vs, rfl, h1, fun p hp => o _ _ _ (.tup m hp) (.tup (.inl (.inl upd_same)) (dpAll_mono (Grow.tup m hp).r _ _ d1))⟩
  · cases Option.some.inj q
    rename_i xs
    have hv : Dp K R v (.tuple xs) := hv
    cases hv with
    | tup h1 d1 => exact .inr ⟨_, _, rfl, sqT_mono m h1, o _ R H (.refl m) (.tup h1 d1)⟩
  · cases q
/-! built-ins -/
def rLen (K : PySem.W.Frag) : List V → Hp → VK → Prop := fun xs H Q => ∃ p ys, xs = [.ref p] ∧ (SqL K H p ys ∨ SqT K H p ys) ∧ Q (.int ys.length) H
theorem call_lenA {X : Cx} : CallR X (.builtin "len") (rLen X.K) := call_len_seq
def lenD (ds : List D) : Option Rs := match ds with
  | [.list xs] => some (.im (.int xs.length))
  | [.tuple xs] => some (.im (.int xs.length))
  | _ => none
theorem vrs1 {R H : Hp} {vs : List V} {d : D} (h : Vrs K R H vs [d]) : ∃ v, vs = [v] ∧ Vr K R H v d := by
  match vs, h with
  | [v], h => exact ⟨v, rfl, h.1⟩
  | _ :: _ :: _, h => exact h.2.elim
theorem vrs2 {R H : Hp} {vs : List V} {d e : D} (h : Vrs K R H vs [d, e]) : ∃ v u, vs = [v, u] ∧ Vr K R H v d ∧ Vr K R H u e := by
  match vs, h with
  | [v, u], h => exact ⟨v, u, rfl, h.1, h.2.1⟩
  | [v], h => exact h.2.elim
  | _ :: _ :: _ :: _, h => exact h.2.2.elim
theorem cv_len : CallV K (rLen K) lenD := by
  intro R H vs ds z Q m hv q o
  unfold lenD at q
  split at q
  · cases Option.some.inj q
    obtain ⟨v, rfl, h⟩ := vrs1 hv
    obtain ⟨a, ws, rfl, h1, d1⟩ := h
    refine ⟨a, ws, rfl, .inl h1, ?_⟩
    rw [dpAll_len d1]; exact o _ R H (.refl m) (.int _)
  · cases Option.some.inj q
    obtain ⟨v, rfl, h⟩ := vrs1 hv
    rename_i xs
    have h : Dp K R v (.tuple xs) := h
    cases h with
    | tup h1 d1 =>
      refine ⟨_, _, rfl, .inr (sqT_mono m h1), ?_⟩
      rw [dpAll_len d1]; exact o _ R H (.refl m) (.int _)
  · cases q
def rAbs : List V → Hp → VK → Prop := fun xs H Q => ∃ i, xs = [.int i] ∧ Q (.int (if i < 0 then -i else i)) H
theorem call_absA {X : Cx} : CallR X (.builtin "abs") rAbs := call_abs
def absD (ds : List D) : Option Rs := match ds with
  | [.int i] => some (.im (.int (if i < 0 then -i else i)))
  | _ => none
theorem cv_abs : CallV K rAbs absD := by
  intro R H vs ds z Q m hv q o
  unfold absD at q
  split at q
  · cases Option.some.inj q
    obtain ⟨v, rfl, h⟩ := vrs1 hv
    cases h
    exact ⟨_, rfl, o _ R H (.refl m) (.int _)⟩
  · cases q
def rInt1 : List V → Hp → VK → Prop := fun xs H Q => (∃ i, xs = [.int i] ∧ Q (.int i) H) ∨ ∃ k, xs = [.bl k] ∧ Q (.int (if k then 1 else 0)) H
theorem call_intA {X : Cx} : CallR X (.type "int") rInt1 := call_int1
def intOfD (ds : List D) : Option Rs := match ds with
  | [.int i] => some (.im (.int i))
  | [.bool b] => some (.im (.int (if b then 1 else 0)))
  | _ => none
theorem cv_int : CallV K rInt1 intOfD := by
  intro R H vs ds z Q m hv q o
  unfold intOfD at q
  split at q
  · cases Option.some.inj q
    obtain ⟨v, rfl, h⟩ := vrs1 hv
    cases h
    exact .inl ⟨_, rfl, o _ R H (.refl m) (.int _)⟩
  · cases Option.some.inj q
    obtain ⟨v, rfl, h⟩ := vrs1 hv
    cases h
    exact .inr ⟨_, rfl, o _ R H (.refl m) (.int _)⟩
  · cases q
def rMin2 : List V → Hp → VK → Prop := fun xs H Q => ∃ i j, xs = [.int i, .int j] ∧ Q (.int (if j < i then j else i)) H
def rMax2' : List V → Hp → VK → Prop := fun xs H Q => ∃ i j, xs = [.int i, .int j] ∧ Q (.int (if j > i then j else i)) H
theorem call_min2A {X : Cx} (hc : X.calm = true) : CallR X (.builtin "min") rMin2 := call_min2 hc
theorem call_max2A {X : Cx} (hc : X.calm = true) : CallR X (.builtin "max") rMax2' := call_max2 hc
def min2D (ds : List D) : Option Rs := match ds with
  | [.int i, .int j] => some (.im (.int (if j < i then j else i)))
  | _ => none
def max2D (ds : List D) : Option Rs := match ds with
  | [.int i, .int j] => some (.im (.int (if j > i then j else i)))
  | _ => none
theorem cv_min2 : CallV K rMin2 min2D := by
  intro R H vs ds z Q m hv q o
  unfold min2D at q
  split at q
  · cases Option.some.inj q
    obtain ⟨v, u, rfl, h1, h2⟩ := vrs2 hv
    cases h1; cases h2
    exact ⟨_, _, rfl, o _ R H (.refl m) (.int _)⟩
  · cases q
theorem cv_max2 : CallV K rMax2' max2D := by
  intro R H vs ds z Q m hv q o
  unfold max2D at q
  split at q
  · cases Option.some.inj q
    obtain ⟨v, u, rfl, h1, h2⟩ := vrs2 hv
    cases h1; cases h2
    exact ⟨_, _, rfl, o _ R H (.refl m) (.int _)⟩
  · cases q
def rList (K : PySem.W.Frag) : List V → Hp → VK → Prop := fun xs H Q => ∃ p ys, xs = [.ref p] ∧ (SqL K H p ys ∨ SqT K H p ys) ∧ ∀ l, H l = none → Q (.ref l) (upd H l (.lst ys))
theorem call_listA {X : Cx} : CallR X (.type "list") (rList X.K) := call_list_of
def listD (ds : List D) : Option Rs := match ds with
  | [.list xs] => some (.fr xs)
  | [.tuple xs] => some (.fr xs)
  | _ => none
theorem cv_list : CallV K (rList K) listD := by
  intro R H vs ds z Q m hv q o
  unfold listD at q
  split at q
  · cases Option.some.inj q
    obtain ⟨v, rfl, h⟩ := vrs1 hv
    obtain ⟨a, ws, rfl, h1, d1⟩ := h
    exact ⟨a, ws, rfl, .inl h1, fun l hl => o l _ hl d1⟩
  · cases Option.some.inj q
    obtain ⟨v, rfl, h⟩ := vrs1 hv
    rename_i xs
    have h : Dp K R v (.tuple xs) := h
    cases h with
    | tup h1 d1 => exact ⟨_, _, rfl, .inr (sqT_mono m h1), fun l hl => o l _ hl d1⟩
  · cases q
def boolsD : List D → Option (List Bool)
  | [] => some []
  | .bool b :: ds => (boolsD ds).map (b :: ·)
  | _ => none
theorem bools_v {R : Hp} : ∀ {vs : List V} {ds : List D} {bs : List Bool}, DpAll K R vs ds → boolsD ds = some bs → vs = bs.map V.bl
  | _, _, _, .nil, e => by cases Option.some.inj e; rfl
  | v :: vs, d :: ds, bs, .cons h t, e => by
    cases d with
    | bool b =>
      obtain ⟨cs, e1, rfl⟩ := Option.map_eq_some_iff.mp (show (boolsD ds).map (b :: ·) = some bs from e)
      cases h
      rw [bools_v t e1]; rfl
    | none => cases e
    | int _ => cases e
    | str _ => cases e
    | list _ => cases e
    | tuple _ => cases e
    | dict _ => cases e
def anyD (ds : List D) : Option Rs := match ds with
  | [.list xs] => (boolsD xs).map fun bs => .im (.bool (bs.any id))
  | _ => none
def allD (ds : List D) : Option Rs := match ds with
  | [.list xs] => (boolsD xs).map fun bs => .im (.bool (bs.all id))
  | _ => none
theorem cv_any : CallV K (rAny K) anyD := by
  intro R H vs ds z Q m hv q o
  unfold anyD at q
  split at q
  · obtain ⟨bs, e1, rfl⟩ := Option.map_eq_some_iff.mp q
    obtain ⟨v, rfl, h⟩ := vrs1 hv
    obtain ⟨a, ws, rfl, h1, d1⟩ := h
    exact ⟨a, bs, rfl, by rw [← bools_v d1 e1]; exact h1, o _ R H (.refl m) (.bl _)⟩
  · cases q
theorem cv_all : CallV K (rAll K) allD := by
  intro R H vs ds z Q m hv q o
  unfold allD at q
  split at q
  · obtain ⟨bs, e1, rfl⟩ := Option.map_eq_some_iff.mp q
    obtain ⟨v, rfl, h⟩ := vrs1 hv
    obtain ⟨a, ws, rfl, h1, d1⟩ := h
    exact ⟨a, bs, rfl, by rw [← bools_v d1 e1]; exact h1, o _ R H (.refl m) (.bl _)⟩
  · cases q
def reprD (ds : List D) : Option Rs := match ds with
  | [d] => (shw d).map fun x => .im (.str x)
  | _ => none
theorem cv_repr : CallV K (rRepr K) reprD := by
  intro R H vs ds z Q m hv q o
  unfold reprD at q
  split at q
  · obtain ⟨x, e1, rfl⟩ := Option.map_eq_some_iff.mp q
    obtain ⟨v, rfl, h⟩ := vrs1 hv
    exact ⟨v, _, x, rfl, h.dp m, e1, o _ R H (.refl m) (.str _)⟩
  · cases q
/-! slices -/
def rSlU (K : PySem.W.Frag) : V → Option Int → Option Int → Hp → VK → Prop := fun x lo hi H Q => rSlA K x lo hi H Q ∨ rSlL K x lo hi H Q
theorem sl_U {X : Cx} : SlR X (rSlU X.K) := sl_tupA.or sl_list
def cutD (xs : List D) (lo hi : Option Int) : List D := (xs.drop (HT.sIx xs.length 0 lo)).take (HT.sIx xs.length xs.length hi - HT.sIx xs.length 0 lo)
theorem cut_dp {R : Hp} {vs : List V} {ds : List D} (h : DpAll K R vs ds) (lo hi : Option Int) : DpAll K R (cutV vs lo hi) (cutD ds lo hi) := by
  unfold cutV cutD
  rw [dpAll_len h]
  exact dpAll_take _ (dpAll_drop _ h)
def slD (d : D) (lo hi : Option Int) : Option Rs := match d with
  | .tuple xs => some (.im (.tuple (cutD xs lo hi)))
  | .list xs => some (.fr (cutD xs lo hi))
  | _ => none
theorem slV {R H : Hp} {v : V} {d : D} {lo hi : Option Int} {z : Rs} {Q : VK} (m : ∀ b o, R b = some o → H b = some o) (hv : Vr K R H v d) (q : slD d lo hi = some z) (o : Out K R H Q z) : rSlU K v lo hi H Q := by
  unfold slD at q
  split at q
  · rename_i xs
    cases Option.some.inj q
    have hv : Dp K R v (.tuple xs) := hv
    cases hv with
    | tup h1 d1 =>
      refine .inl ⟨_, _, rfl, sqT_mono m h1, fun hw => ?_, fun _ p hp => ?_⟩
      · refine o _ R H (.refl m) (.tup h1 ?_)
        have e := dpAll_len d1
        unfold cutD
        rw [← e, hw.1, hw.2, List.drop_zero, Nat.sub_zero, e, List.take_length]
        exact d1
      · exact o _ _ _ (.tup m hp) (.tup (.inl (.inl upd_same)) (dpAll_mono (Grow.tup m hp).r _ _ (cut_dp d1 lo hi)))
  · cases Option.some.inj q
    obtain ⟨a, vs, rfl, h1, d1⟩ := hv
    exact .inr ⟨a, vs, rfl, h1, fun p hp => o p _ hp (cut_dp d1 lo hi)⟩
  · cases q
end
abbrev SemO (p : Pm) (EX : WX) : TO → (Rho → Ou (Option Int)) → Prop := Sem p EX (fun _ _ _ _ _ b c => b = c)
def noO : Rho → Ou (Option Int) := fun ρ => .ok none ρ
def intO (r : Rs) (ρ : Rho) : Ou (Option Int) := match r with
  | .im (.int i) => .ok (some i) ρ
  | _ => .bad
def parO (F : Rho → Ou Rs) : Rho → Ou (Option Int) := fun ρ => bd (F ρ) intO
theorem sem_noO {p : Pm} {EX : WX} : SemO p EX tNoPart noO := fun R H O σ ρ Q S g => g none R H O S .refl rfl
theorem sem_parO {p : Pm} {EX : WX} {t : TE} {F : Rho → Ou Rs} (h : SemE p EX t F) : SemO p EX (tPart t) (parO F) := by
  refine Sem.bind (k := fun x σ H Q => ∃ i, x = .int i ∧ Q (some i) H) (G := intO) h fun R H O σ ρ v a Q S hv g => ?_
  unfold intO at g
  split at g
  · rename_i i
    have hv : Dp p.K R v (.int i) := hv
    cases hv
    exact ⟨i, rfl, g _ R H O S .refl rfl⟩
  · exact g.elim
def slO (r : Rs) (lo hi : Option Int) (ρ : Rho) : Ou Rs := match dr ρ r with
  | some d => fin (slD d lo hi) ρ
  | none => .bad
def slF (F : Rho → Ou Rs) (L U : Rho → Ou (Option Int)) : Rho → Ou Rs := fun ρ => bd (frz (F ρ)) fun r ρ1 => bd (L ρ1) fun lo ρ2 => bd (U ρ2) fun hi ρ3 => slO r lo hi ρ3
theorem sem_sl {p : Pm} {EX : WX} {t : TE} {tl tu : TO} {F : Rho → Ou Rs} {L U : Rho → Ou (Option Int)} (h : SemE p EX t F) (hl : SemO p EX tl L) (hu : SemO p EX tu U) : SemE p EX (tSl (rSlU p.K) t tl tu) (slF F L U) :=
  fun R H O σ ρ Q S g => h.op.use (G := fun r ρ1 => bd (L ρ1) fun lo ρ2 => bd (U ρ2) fun hi ρ3 => slO r lo hi ρ3) S g fun R1 H1 O1 ρ1 v r S1 T1 hv g1 =>
    hl.use (G := fun lo ρ2 => bd (U ρ2) fun hi ρ3 => slO r lo hi ρ3) S1 g1 fun R2 H2 O2 ρ2 lo' lo S2 T2 e2 g2 =>
      hu.use (G := fun hi ρ3 => slO r lo hi ρ3) S2 g2 fun R3 H3 O3 ρ3 hi' hi S3 T3 e3 g3 => by
        subst e2 e3
        unfold slO at g3
        split at g3
        · rename_i d ed
          obtain ⟨z, ez, oz⟩ := fin_ok S3 g3
          exact slV S3.sub (op_vr S3 (T3.op (T2.op hv)) ed) ez oz
        · exact g3.elim
/-- t[::e] -/
def stpD (d : D) (k : Option Int) : Option Rs := match d, k with
  | .tuple xs, some k => if k = 1 then some (.im (.tuple xs)) else if k = -1 then some (.im (.tuple xs.reverse)) else none
  | _, _ => none
def stpO (r : Rs) (k : Option Int) (ρ : Rho) : Ou Rs := match dr ρ r with
  | some d => fin (stpD d k) ρ
  | none => .bad
def stpF (F : Rho → Ou Rs) (L : Rho → Ou (Option Int)) : Rho → Ou Rs := fun ρ => bd (frz (F ρ)) fun r ρ1 => bd (L ρ1) fun k ρ2 => stpO r k ρ2
theorem sem_stp {p : Pm} {EX : WX} {t : TE} {ts : TO} {F : Rho → Ou Rs} {L : Rho → Ou (Option Int)} (h : SemE p EX t F) (hl : SemO p EX ts L) : SemE p EX (tStp p.K t ts) (stpF F L) :=
  fun R H O σ ρ Q S g => h.op.use (G := fun r ρ1 => bd (L ρ1) fun k ρ2 => stpO r k ρ2) S g fun R1 H1 O1 ρ1 v r S1 T1 hv g1 =>
    hl.use (G := fun k ρ2 => stpO r k ρ2) S1 g1 fun R2 H2 O2 ρ2 o k S2 T2 e2 g2 => by
      subst e2
      unfold stpO at g2
      split at g2
      · rename_i d ed
        obtain ⟨z, ez, oz⟩ := fin_ok S2 g2
        have hr := op_vr S2 (T2.op hv) ed
        unfold stpD at ez
        split at ez
        · rename_i xs k
          have hr : Dp p.K R2 v (.tuple xs) := hr
          cases hr with
          | tup h1 d1 =>
            refine ⟨_, _, k, rfl, sqT_mono S2.sub h1, rfl, ?_⟩
            split at ez
            · rename_i hk
              cases Option.some.inj ez
              exact .inl ⟨hk, oz _ R2 H2 (.refl S2.sub) (.tup h1 d1)⟩
            · split at ez
              · rename_i hk
                cases Option.some.inj ez
                exact .inr ⟨hk, fun q hq => oz _ _ _ (.tup S2.sub hq) (.tup (.inl (.inl upd_same)) (dpAll_mono (Grow.tup S2.sub hq).r _ _ (dpAll_rev d1)))⟩
              · cases ez
        · cases ez
      · exact g2.elim
end VL

/-! Errors of the program: class Base(Exception): pass; class E(Base): def __init__(self, at): self.at = at. The block follows skel/42_own_error_by_import. -/
namespace PySem
namespace ErX
open PySem.W PySem.Calls PyProof.Rows PySem.HandSPX Builtin Builtin.ObjectAttr
abbrev baseTail : List Value := [.type "Exception", .type "BaseException", .type "object"]
theorem two_contains (c : Addr) (X : String) : (Value.ref c :: baseTail).contains (.type X) = baseTail.contains (.type X) := by rw [List.contains_cons]; rfl
section
variable {prog : Program} {w : World} {A : Around} {E : Value → Shared → Prop} {R : Result → Shared → Prop} {hp : Heap} {g : Array GenState} {d : Drawn} {t : Nat} {os : OsState}
/-- a first attribute of a new error of a class with this mro -/
theorem first_store {K : W.Frag} {name : Str} {tk : Tok} {v : Value} {x C : Addr} {fv : Array Value} {cd : ClassData} (XK : K.In hp) (ox : hp.get? x = some { cls := .ref C, data := .fields fv }) (hc : W.clsIn K C = some cd) (mr : ∃ c, cd.mro = .ref C :: .ref c :: baseTail)
    (dict : cd.hasDict = true) (fr : W.findIn K (.ref C) name = some none)
    (hq : ∀ h2 tk2 dx, (∀ b o, b ≠ x → hp.get? b = some o → h2.get? b = some o) → hp.objs.size ≤ dx → dx ≠ x → h2.get? x = some { cls := .ref C, dict := some dx, data := .fields fv } →
      h2.Ns1 dx (fun y => if y = name then some v else none) → R (.ok (.ret .none)) ⟨h2, g, d, tk2, os⟩) : codeAny (model prog w) A (.call (.builtin "object.__setattr__") ⟨[.ref x, .str name tk, v], []⟩) R ⟨hp, g, d, t, os⟩ := by
  obtain ⟨c, em⟩ := mr
  have J : W.InstAt hp x { cls := .ref C, data := .fields fv } C none := ⟨ox, rfl, rfl, trivial⟩
  have FS := F.store_object
  have m0 : cd.mro.isEmpty = false := by rw [em]; rfl
  have mo : cd.mro.contains (.type "object") = true := by rw [em, List.contains_cons, two_contains, Bool.or_eq_true]; exact .inr (by decide +kernel)
  have px : x ≠ hp.objs.size := Nat.ne_of_lt (Heap.lt_size ox)
  have isO : W.Looks (model prog w) hp (isInstance (.ref x) (.type "object")) true := J.type.andThen (W.looks_mroIn XK (by unfold W.mroIn; rw [hc, Option.bind_some, if_neg (by rw [m0]; decide), mo]))
  refine codeAny_call_builtin FS.slot.plain FS.entry (@W.check_slot (model prog w) _ _ ⟨hp, g, d, t, os⟩ "object.__setattr__" "object" "__setattr__" (.ref x) [.str name tk, v] [] _ FS.kind FS.split isO (FS.args (.ref x) (.str name tk) v) ?_)
  have lm : W.Looks (model prog w) hp (mroOf (.ref C)) cd.mro := (W.looks_clsIn XK hc).andThen .now
  have ln : W.Looks (model prog w) hp (storeTaker? none) none := .now
  have lc : W.Looks (model prog w) hp (classData C) cd := W.looks_clsIn XK hc
  rw [W.osa_eq, refuse_eq]
  refine wpAny_bind (wpAny_bind (J.type.at (wpAny_bind (lm.at ?_))))
  have pass : refuseLoop (.ref x) "__setattr__" cd.mro = pure () := by
    rw [em, refuseLoop_ref, refuseLoop_ref]; exact F.store_Exception.passes _
  rw [pass]
  refine wpAny_pure (wpAny_bind (J.type.at (wpAny_bind ((W.looks_findIn XK fr).at (wpAny_bind (ln.at ?_))))))
  show wpAny _ _ (storeInOwnDict (.ref x) (.ref C) (.str name tk) name v false) _ _ _
  obtain ⟨nm, bs, mro, ns, qn, hd, sn, sb, ab, col, del⟩ := cd
  dsimp only at dict
  subst dict
  unfold storeInOwnDict ownDictForStores
  repeat (first | with_reducible refine store_in_new ?_ ?_ | with_reducible refine wpAny_loadPart_at ox ?_ | with_reducible refine lc.at ?_ | wp_step)
  · exact ⟨_, #[], _, (Heap.get?_update_ne _ _ _ _ px.symm).trans (Heap.get?_push_at rfl rfl), rfl, (fun e he => absurd he (by simp)), fun _ => rfl⟩
  · intro h2 tk2 hn same
    have o1 : (hp.push { cls := .type "dict", data := .dict #[] }).get? x = some { cls := .ref C, data := .fields fv } := Heap.get?_push_of_some _ ox
    refine hq h2 tk2 hp.objs.size (fun b o hb ho => ?_) (Nat.le_refl _) px.symm ?_ hn
    · exact (same.2 b (Nat.ne_of_lt (Heap.lt_size ho))).trans ((Heap.get?_update_ne _ _ _ _ hb).trans (Heap.get?_push_of_some _ ho))
    · exact (same.2 x px).trans (Heap.get?_update_self _ o1 rfl)
end
/-! ### the text of __init__ -/
def iA (p1 p2 : Pos) : Arguments := { posonlyargs := [], args := [{ arg := "self", annotation := none, pos := p1 }, { arg := "at", annotation := none, pos := p2 }], vararg := none, kwonlyargs := [], kw_defaults := [], kwarg := none, defaults := [] }
def iB (q1 q2 q3 q4 : Pos) : List Stmt := [.Assign [.Attribute (.Name "self" q1) "at" q2] (.Name "at" q3) q4]
def iS : Scope := { kind := .function, names := [(PySem.Str.ofString "self", .local), (PySem.Str.ofString "at", .local)], isGenerator := false, isCoroutine := false, more := [] }
/-- what the written part says of the class E (name nm, __init__'s full name qn), at C, over the class at B -/
structure ErT (K : Frag) (mg : Str → Option Value) (nm qn : Str) (C B fI : Addr) : Prop where
  gC : mg nm = some (.ref C)
  cls : ∃ nm q N bs sn sub ab col dd k0 k1 k2 k3 k5, K.lookup C = some (excClassObj nm q C N bs (.ref B :: baseTail) true sn sub ab col dd k0 k1 k2 k3 k5 "Exception.__new__")
  sa : findIn K (.ref C) "__setattr__" = some (some (.builtin "object.__setattr__"))
  ga : findIn K (.ref C) "__getattribute__" = some (some (.builtin "BaseException.__getattribute__"))
  gg : findIn K (.ref C) "__getattr__" = some none
  noN : findIn K (.ref C) "at" = some none
  iC : findIn K (.ref C) "__init__" = some (some (.ref fI))
  tC : typeIn K (.ref fI) = some (.type "function")
  kC : keepIn K (.ref C) = true
  exC : subIn K (.ref C) (.type "BaseException") = some true
  tyC : typeIn K (.ref C) = some (.type "type")
  hdC : hasDictIn K C = true
  te : exmOne K (.ref C) (.ref C) = some true
  fn : ∃ (oc : Value) (od : Option Addr) (doc pm : Value) (an : Option Addr) (cdv ct : Value) (osl : Array (Option Value)) (p1 p2 q1 q2 q3 q4 : Pos),
    K.lookup fI = some ⟨oc, od, .func (fnOf "__init__" qn (iA p1 p2) (iB q1 q2 q3 q4) iS .none .none doc pm an cdv ct), osl⟩ ∧ codeIn K cdv qn = true
theorem one_size (v : Value) : [v].length ≤ sizeLine := by
  rw [sizeLine_eq]
  exact (by decide : 1 ≤ 16777216)
theorem ldC {M : Model} {s : Shared} {name : Str} {scope : Scope} {L a : Addr} {cd : Value} {m : Str → Option Value} {x : Str} {pos : Pos} {v : Value} {Q : Value → Shared → Prop} {A : Around} {E : Value → Shared → Prop} (hn : s.heap.Ns L m) (hv : m x = some v) (h : Q v s)
    (hk : scope.kind = .function := by rfl) (hl : (envOfC name scope L a cd).kindOf x = some .local := by rfl) (hd : (x == ("__debug__" : Str)) = false := by decide) :
    wpAny M A (eval (.Name x pos) (envOfC name scope L a cd)) Q E s := wpAny_Name (wpAny_loadName_local hk hl hn hv h) hd
/-- what __init__ leaves of a fresh exception at x -/
structure InitEnd (h h' : Heap) (x C dx t1 : Addr) (v : Value) : Prop where
  keep : ∀ b o, b ≠ x → h.get? b = some o → h'.get? b = some o
  obj : h'.get? x = some { cls := .ref C, dict := some dx, data := .fields #[.ref t1, .none, .none, .none, .bool false, .none] }
  dbig : h.objs.size ≤ dx
  dne : dx ≠ x
  ns : h'.Ns1 dx (fun y => if y = "at" then some v else none)
structure OwnMade (h h' : Heap) (e C d : Addr) (v : Value) : Prop where
  keep : ∀ b o, h.get? b = some o → h'.get? b = some o
  new : h.objs.size ≤ e
  obj : ∃ oe vs, h'.get? e = some oe ∧ oe.cls = .ref C ∧ oe.dict = some d ∧ oe.data = .fields vs ∧ vs[1]? = some .none
  dbig : h.objs.size ≤ d
  dne : d ≠ e
  ns : h'.Ns1 d (fun y => if y = "at" then some v else none)
section
variable {prog : Program} {w : World} {A : Around} {E : Value → Shared → Prop} {R : Result → Shared → Prop} {s : Shared} {K : Frag} {mg : Str → Option Value} {nm qn : Str} {C B fI : Addr}
theorem er_init (T : ErT K mg nm qn C B fI) {x t0 : Addr} {v : Value} (X : K.In s.heap) (hlim : s.heap.NoLimit) (hx : s.heap.get? x = some (excO C t0)) (hnx : K.lookup x = none) (hroom : A.depth < recursionLimit)
    (hq : ∀ h' tk dx, InitEnd s.heap h' x C dx t0 v → R (.ok (.ret .none)) { s with heap := h', toks := tk }) :
    codeAny (model prog w) A (.call (.ref fI) ⟨[.ref x, v], []⟩) R s := by
  obtain ⟨oc, od, doc, pm, an, cdv, ct, osl, p1, p2, q1, q2, q3, q4, ho, hcd⟩ := T.fn
  obtain ⟨nm', q, N, bs, sn, sub, ab, col, dd, k0, k1, k2, k3, k5, hC⟩ := T.cls
  have hcl : clsIn K C = some { name := nm', bases := bs, mro := .ref C :: .ref B :: baseTail, ns := N, qualname := q, hasDict := true, slotNames := sn, subclasses := sub, abstract := ab, collection := col, hasDel := false } := by unfold clsIn; rw [hC] <;> rfl
  refine Att.call_fn (binds := [("self", .ref x), ("at", v)]) X hlim ho hcd hroom (BindsTo.of_eq (by first | rfl | with_unfolding_all rfl)) (by first | rfl | decide | with_unfolding_all rfl) (fun s₁ IC => ?_) rfl rfl rfl
  obtain ⟨h₁, tk₁, rfl⟩ := IC.toInCall.same
  have k : ∀ b o, s.heap.get? b = some o → h₁.get? b = some o := IC.toInCall.keep
  have hn := IC.toInCall.ns
  have hxL : s.heap.objs.size ≠ x := Nat.ne_of_gt (Heap.lt_size hx)
  have X₁ : K.In h₁ := X.keeps k
  have hx₁ := k _ _ hx
  show wpAny _ _ (execs _ _) _ _ _
  refine wpAny_execs_cons (plainObj_wpAny_Assign_Attribute ?_)
  refine ldC (v := v) hn (by first | rfl | with_unfolding_all rfl | kernel_rfl) (ldC (v := .ref x) hn (by first | rfl | with_unfolding_all rfl | kernel_rfl) ?_)
  refine set_plain X₁ (ox := excO C t0) (od := none) ⟨hx₁, rfl, rfl, trivial⟩ T.sa ?_
  refine first_store X₁ hx₁ hcl ⟨B, rfl⟩ rfl T.noN (fun h₃ tk₃ dx k₃ dn dne hx₃ hn₃ => ?_)
  show wpAny _ _ (execs _ _) _ _ _
  have z : s.heap.objs.size < h₁.objs.size := hn.lt
  exact wpAny_execs_nil (hq h₃ tk₃ dx ⟨fun b o hb e => k₃ b o hb (k b o e), hx₃, Nat.le_of_lt (Nat.lt_of_lt_of_le z dn), dne, hn₃⟩)
theorem er_made (T : ErT K mg nm qn C B fI) {v : Value} (X : K.In s.heap) (hlim : s.heap.NoLimit) (hroom : A.depth + 1 < recursionLimit)
    (hq : ∀ h' tk e d, OwnMade s.heap h' e C d v → R (.ok (.ret (.ref e))) { s with heap := h', toks := tk }) :
    codeAny (model prog w) A (.call (.ref C) ⟨[v], []⟩) R s := by
  obtain ⟨nm', q, N, bs, sn, sub, ab, col, dd, k0, k1, k2, k3, k5, hC⟩ := T.cls
  obtain ⟨hp, g, dr, tk, os⟩ := s
  have k : ∀ b o, hp.get? b = some o → ((hp.push (kdv_tup [v])).push (excO C hp.objs.size)).get? b = some o := fun b o e => Heap.get?_push_of_some _ (Heap.get?_push_of_some _ e)
  have hget : ((hp.push (kdv_tup [v])).push (excO C hp.objs.size)).get? (hp.objs.size + 1) = some (excO C hp.objs.size) := by heap_get
  have hnx : K.lookup (hp.objs.size + 1) = none := by
    cases e : K.lookup (hp.objs.size + 1) with
    | none => rfl
    | some o =>
      have z : hp.get? (hp.objs.size + 1) = some o := X _ _ e
      exact absurd (Nat.lt_of_succ_lt (Heap.lt_size z)) (Nat.lt_irrefl _)
  refine call_own F.excBase_Exception (fun X => two_contains B X) (X _ _ hC) (looks_findIn X T.iC) (fun self => bind_fn X self T.tC) (one_size v) ?_
  refine er_init (s := ⟨(hp.push (kdv_tup [v])).push (excO C hp.objs.size), g, dr, tk, os⟩) T (X.keeps k) (hlim.keeps k) hget hnx ?_ fun h' tk' dx ⟨k', hx, dn, dne, hns⟩ => ?_
  · show A.depth + 1 < recursionLimit
    exact hroom
  · have old : ∀ b o, hp.get? b = some o → h'.get? b = some o := fun b o e => k' b o (Nat.ne_of_lt (Nat.lt_succ_of_lt (Heap.lt_size e))) (k b o e)
    have z : hp.objs.size + 1 + 1 ≤ dx := by
      first
        | (simpa only [Heap.size_push] using dn)
        | exact dn
        | (have q := dn; rw [Heap.size_push, Heap.size_push] at q; exact q)
    exact ⟨rfl, hq h' tk' (hp.objs.size + 1) dx ⟨old, Nat.le_succ _, ⟨_, _, hx, rfl, rfl, rfl, rfl⟩, Nat.le_trans (Nat.le_trans (Nat.le_succ _) (Nat.le_succ _)) z, dne, hns⟩⟩
end
end ErX
end PySem
namespace VL
open PySem PySem.Spec PyProof.Rows L2
theorem relO_at {v : V} {v' : Value} (r : RelV v v') (f : Str) : RelO (List.lookup f [(atS, v)]) (if f = "at" then some v' else none) := by
  by_cases hw : f = "at"
  · subst hw
    rw [if_pos rfl]
    have q : List.lookup atS [(atS, v)] = some v := by simp [List.lookup]
    rw [q]
    exact r
  · rw [if_neg hw]
    have qw : (f == atS) = false := by simpa using hw
    have q2 : List.lookup f [(atS, v)] = none := by simp [List.lookup, qw]
    rw [q2]
    trivial
section
variable {X : Cx} {nm qn : Str} {C B fI : Addr}
/-- E(e) -/
def tMkE (C : Addr) (ta : TA) : Sg → Hp → XK → Prop := fun σ H Q => ta σ H fun vs H1 => ∃ v, vs = [v] ∧ ∀ d, H1 d = none → Q (.ref C) (some d) (upd H1 d (.xd [(atS, v)]))
theorem pmk_e {a : Expr} {ta : TA} {p pos : Pos} {k : Nat} (T : PySem.ErX.ErT X.K X.mg nm qn C B fI) (hr : Room k X.A) (ha : PA X [a] ta) (hg : Gl X nm) (hdb : (nm == ("__debug__" : Str)) = false)
    (he : starEach (a :: []) X.env = (false, eval a X.env) :: starEach [] X.env := by rfl) (hpl : (backTo pos (starEach [] X.env)).any (·.1) = false := by rfl) :
    PMk X (.Call (.Name nm p) [a] [] pos) (tMkE C ta) := by
  intro pins s σ H Q I h
  refine wpAny_Call_Name_kw (ld_glob I hg T.gC ?_ hdb)
  refine PySem.W.callWith_K (h₀ := X.base) I.ok.mod.kin T.kC (thn (ha.run pos pins s σ H _ I h) fun us s1 hh => ?_) he hpl
  obtain ⟨vs, H1, I1, r1, v, ev, q1⟩ := hh
  subst ev
  refine ⟨I1.kIn, ?_⟩
  cases r1 with
  | cons rv rn =>
    rename_i v' us'
    cases rn
    show wpAny _ _ (call (.ref C) [v']) _ _ _
    have hlim := I1.nolimit
    obtain ⟨hp, g, dr, tk, os⟩ := s1
    refine wpAny_call (PySem.ErX.er_made T I1.kIn hlim (by have := hr.dp; omega) fun h' tk' e d M => ?_)
    show MkP X pins σ Q (.ref e) ⟨h', g, dr, tk', os⟩
    obtain ⟨oe, fv, hoe, hc, hd, hdat, h1⟩ := M.obj
    have hns := M.ns
    obtain ⟨G', g1, g2⟩ := restrict h' fun b => decide (b ≠ e)
    have gk : ∀ b, b ≠ e → G'.get? b = h'.get? b := fun b hb => g1 b (decide_eq_true hb)
    have ge : G'.get? e = none := g2 e (by simp)
    have old : ∀ b o, hp.get? b = some o → G'.get? b = some o := fun b o q => (gk b (Nat.ne_of_lt (Nat.lt_of_lt_of_le (Heap.lt_size q) M.new))).trans (M.keep b o q)
    have ob : ObjOk X.prog X.w (upd H1 d (.xd [(atS, v)])) G' d (.xd [(atS, v)]) :=
      ⟨_, hns.at (fun o q => (gk d M.dne).trans q), fun f => relO_at rv f⟩
    have J : Inv X pins σ (upd H1 d (.xd [(atS, v)])) ⟨G', g, dr, tk', os⟩ := I1.laid (t' := tk') old M.dbig ob
    refine ⟨e, oe, fv, ⟨G', g, dr, tk', os⟩, _, .ref C, some d, rfl, J, fun b o q => ?_, ge, hoe, ⟨hc, hd⟩, hdat, h1, ?_, rfl, I1.bare, raises_own T.exC T.tyC, q1 d (I1.hok.fresh M.dbig)⟩
    · by_cases hb : b = e
      · have q' : G'.get? b = some o := q
        rw [hb, ge] at q'; cases q'
      · exact (gk b hb).symm.trans q
    · rw [upd_ne (Ne.symm M.dne)]
      exact I1.hok.fresh M.new
/-- raise E(e) -/
def tRse (C : Addr) (W : WX) (ta : TA) : TS := fun _ σ H => tMkE C ta σ H fun cls d H' => W cls d σ H'
theorem ps_rse {a : Expr} {ta : TA} {W : WX} {p pos pos2 : Pos} {k : Nat} (hc : X.calm = true) (T : PySem.ErX.ErT X.K X.mg nm qn C B fI) (hr : Room k X.A) (tk : Takes X W) (ha : PA X [a] ta) (hg : Gl X nm) (hdb : (nm == ("__debug__" : Str)) = false)
    (he : starEach (a :: []) X.env = (false, eval a X.env) :: starEach [] X.env := by rfl) (hpl : (backTo pos (starEach [] X.env)).any (·.1) = false := by rfl) :
    PS X (.Raise (some (.Call (.Name nm p) [a] [] pos)) none pos2) (tRse C W ta) := ps_raise hc tk (pmk_e T hr ha hg hdb he hpl)
/-- e.at, e the exception that the suite holds (at a; its class cls, its dict d) -/
def tAtE (C : Addr) (a : Addr) (cls : Value) (d : Option Addr) (te : TE) : TE := fun σ H Q => te σ H fun x H1 => x = .ref a ∧ cls = .ref C ∧ ∃ (dd : Addr) (v : V), d = some dd ∧ H1 dd = some (.xd [(atS, v)]) ∧ Q v H1
theorem pe_atE {a : Addr} {oe : Obj} {cls : Value} {d : Option Addr} {pn : List (Addr × Obj)} {e : Expr} {te : TE} {pos : Pos} (T : PySem.ErX.ErT X.K X.mg nm qn C B fI) (hz : Zc cls d oe) (hf : ∃ vs, oe.data = .fields vs) (he : PE (X.suite a ((a, oe) :: pn)) e te)
    (hb : attributeBase e "at" X.env (eval e X.env) = eval e X.env := by rfl) :
    PE (X.suite a ((a, oe) :: pn)) (.Attribute e "at" pos) (tAtE C a cls d te) := by
  refine ⟨fun pins s σ H Q I h => ?_⟩
  refine attr_of hb (thn (he.run pins s σ H _ I h) fun u s1 hh => ?_)
  obtain ⟨x, H1, I1, rx, ex, ec, dd, v, ed, ea, q⟩ := hh
  subst ex
  obtain rfl : u = Value.ref a := rx
  subst ec
  subst ed
  obtain ⟨ha, _⟩ := I1.pin (a, oe) (List.mem_append_left _ List.mem_cons_self)
  obtain ⟨vs, hd⟩ := hf
  have hx : ObjOk X.prog X.w H1 s1.heap dd (.xd [(atS, v)]) := I1.hok dd _ ea
  obtain ⟨mA, hns, hr⟩ := hx
  obtain ⟨od, ho, hl⟩ := lookIn_ns hns
  have l : List.lookup atS [(atS, v)] = some v := by simp [List.lookup]
  obtain ⟨u, hu, ru⟩ := RelO.some_of (v := v) (o := mA "at") (by rw [← l]; exact hr "at")
  have J : PySem.W.InstAt s1.heap a oe C (some od) := ⟨ha, hz.1, by unfold PySem.W.notCls; rw [hd] <;> rfl, by rw [hz.2]; exact ho⟩
  exact HandSPX.exc_get I1.kIn J T.ga T.gg T.exC (PySem.W.findObj_own T.hdC T.noN rfl (by rw [hl, hu])) (handed_of ru) ⟨v, H1, I1.tok _, ru, q⟩
end
/-! ### what they do to data -/
def rseO (tag : Nat) (ds : List D) (ρ : Rho) : So := match ds with
  | [d] => .ex tag d ρ
  | _ => .bad
def rseS (tag : Nat) (F : Rho → Ou (List D)) : Rho → So := fun ρ => bs (F ρ) (rseO tag)
theorem sem_rse {p : Pm} {EX : WX} {tag : Nat} {C : Addr} (hC : p.xc tag = C) {t : TA} {F : Rho → Ou (List D)} (h : SemAD p EX t F) : SemS p EX (tRse C EX t) (rseS tag F) := by
  intro R H O σ ρ E S g
  refine h.useS S g fun R1 H1 O1 ρ1 vs ds S1 T1 hv g1 => ?_
  unfold rseO at g1
  split at g1
  · rename_i d
    cases hv with
    | @cons v0 _ _ _ h1 h2 =>
      cases h2
      refine ⟨_, rfl, fun dx nd => ?_⟩
      have na : R1 dx = none := by
        cases e : R1 dx with
        | none => rfl
        | some o => have := S1.sub dx o e; rw [nd] at this; cases this
      have k : ∀ b u, H1 b = some u → upd H1 dx (.xd [(atS, v0)]) b = some u := fun b u e => by rw [upd_ne (ne_of_none e nd)]; exact e
      have S2 : Stt p R1 (upd H1 dx (.xd [(atS, v0)])) O1 σ ρ1 := (S1.laid nd).1.sub |> fun sb =>
        ⟨sb, S1.dis, fun b ob => by
          cases q : H1 b with
          | none => exact (S1.al b ob q).elim
          | some u => rw [k b u q]; exact (fun z => nomatch z), S1.len, S1.im, fun i b es e => by
          obtain ⟨c, ws, e1, e2, e3, e4⟩ := S1.ow i b es e
          exact ⟨c, ws, e1, e2, k _ _ e3, e4⟩, S1.pn, S1.inj, fun i tg d e => by
          obtain ⟨e1, e2, dd, v, e3, e4, e5, e6⟩ := S1.xn i tg d e
          exact ⟨e1, e2, dd, v, e3, e4, k _ _ e5, e6⟩⟩
      have T2 : Tr R1 H1 O1 R1 (upd H1 dx (.xd [(atS, v0)])) O1 := ⟨fun _ _ e => e, fun b u e _ => k b u e, fun b e => .inl e, fun b e => .inl e, fun b e => by
        cases q : H1 b with
        | none => exact absurd q e
        | some u => rw [k b u q]; exact fun z => nomatch z⟩
      rw [← hC]
      exact g1 dx _ σ R1 _ O1 S2 T2 nd upd_same (fun z => S1.al dx z nd) h1
  · exact g1.elim
/-- e.at -/
def atF (i : Nat) (tag : Nat) : Rho → Ou Rs := fun ρ => match ρ[i]? with
  | some (.xn t d) => if t = tag then .ok (.im d) ρ else .bad
  | _ => .bad
theorem sem_at {p : Pm} {EX : WX} {i tag : Nat} {C : Addr} (hC : p.xc tag = C) : SemE p EX (tAtE C p.xa p.xcl p.xd (tVar i)) (atF i tag) := by
  intro R H O σ ρ Q S g
  unfold atF at g
  split at g
  · rename_i t d e
    split at g
    · rename_i ht
      subst ht
      obtain ⟨e1, e2, dd, v, e3, e4, e5, e6⟩ := S.xn i t d e
      exact ⟨_, e1, rfl, by rw [← hC]; exact e2, dd, v, e3, e5, g v R H O S .refl e6⟩
    · exact g.elim
  · exact g.elim
end VL

namespace VL
open PySem PySem.Spec PyProof.Rows L2
/-! ### isinstance -/
def tyN : D → String
  | .none => "NoneType"
  | .bool _ => "bool"
  | .int _ => "int"
  | .str _ => "str"
  | .list _ => "list"
  | .tuple _ => "tuple"
  | .dict _ => "dict"
theorem tyx_of {K : PySem.W.Frag} {R H : Hp} {v : V} {d : D} (m : ∀ b o, R b = some o → H b = some o) (h : Vr K R H v d) : TyX K H v (.type (tyN d)) := by
  cases d with
  | none => cases h; exact .base .non
  | bool b => cases h; exact .base (.bl b)
  | int i => cases h; exact .base (.int i)
  | str x => cases h; exact .base (.str x)
  | dict k => have h : Dp K R v (.dict k) := h; cases h
  | list ds =>
    obtain ⟨a, vs, rfl, hs, _⟩ := h
    rcases hs with (e | ⟨o, e⟩) | ⟨o, its, n, e, c, _⟩
    · exact .base (.lst e)
    · exact .base (.frz e)
    · exact .kList e c
  | tuple ds =>
    have h : Dp K R v (.tuple ds) := h
    cases h with
    | tup hs _ =>
      rcases sqT_mono m hs with (e | ⟨o, e⟩) | ⟨o, its, n, e, c, _⟩
      · exact .base (.tup e)
      · exact .fTuple e
      · exact .kTuple e c
/-- T one of the types that the program asks for -/
def isS (T s : String) : Bool := s == T || (T == "int" && s == "bool")
def isI (T : String) (d : D) : Bool := isS T (tyN d)
theorem kit_all : ∀ s ∈ ["NoneType", "bool", "int", "str", "list", "tuple", "dict"], ∀ T ∈ ["int", "bool", "str", "list", "tuple"], kitB s T = some (isS T s) := by decide +kernel
theorem tyN_mem (d : D) : tyN d ∈ ["NoneType", "bool", "int", "str", "list", "tuple", "dict"] := by cases d <;> simp [tyN]
theorem kit1 {K : PySem.W.Frag} {T : String} (hT : T ∈ ["int", "bool", "str", "list", "tuple"]) (d : D) : PySem.W.kitOne K (.type (tyN d)) (.type T) = some (isI T d) := kit_ty (kit_all _ (tyN_mem d) T hT)
def isiD (T : String) (d : D) : Option Rs := some (.im (.bool (isI T d)))
def tIsi (K : PySem.W.Frag) (T : String) (t : TE) : TE := tCB (rIsi K) (tCons t (tCons (tC (.ty T)) tNil))
theorem sem_isi {p : Pm} {EX : WX} {T : String} (hT : T ∈ ["int", "bool", "str", "list", "tuple"]) {t : TE} {F : Rho → Ou Rs} (h : SemE p EX t F) : SemE p EX (tIsi p.K T t) (unF (isiD T) F) :=
  sem_un (r := fun x H Q => rIsi p.K [x, .ty T] H Q) (fun R H v d z Q m hv e o => by
    cases Option.some.inj e
    exact ⟨v, .ty T, _, .type T, _, rfl, .ty T, tyx_of m hv, kit1 hT d, o _ R H (.refl m) (.bl _)⟩) h
def tIsi2 (K : PySem.W.Frag) (T U : String) (t : TE) : TE := tCB (rIsiT K) (tCons t (tCons (tTup (tCons (tC (.ty T)) (tCons (tC (.ty U)) tNil))) tNil))
def isi2D (T U : String) (d : D) : Option Rs := some (.im (.bool (isI T d || isI U d)))
theorem sem_isi2 {p : Pm} {EX : WX} {T U : String} (hT : T ∈ ["int", "bool", "str", "list", "tuple"]) (hU : U ∈ ["int", "bool", "str", "list", "tuple"]) {t : TE} {F : Rho → Ou Rs} (h : SemE p EX t F) :
    SemE p EX (tIsi2 p.K T U t) (unF (isi2D T U) F) :=
  sem_un (r := fun x H Q => [V.ty T, .ty U].length ≤ sizeLine ∧ ∀ q, H q = none → rIsiT p.K [x, .ref q] (upd H q (.tup [.ty T, .ty U])) Q) (fun R H v d z Q m hv e o => by
    cases Option.some.inj e
    refine ⟨by show 2 ≤ sizeLine; decide, fun q hq => ?_⟩
    have gr : Grow R H R (upd H q (.tup [.ty T, .ty U])) := ⟨fun _ _ e => e, fun b u e => by rw [upd_ne (ne_of_none e hq)]; exact e, fun b u e => by rw [upd_ne (ne_of_none (m b u e) hq)]; exact m b u e, fun b e => .inl e⟩
    have hv2 : TyX p.K (upd H q (.tup [.ty T, .ty U])) v (.type (tyN d)) := by
      refine tyx_of (R := R) gr.s ?_
      cases d with
      | list ds => obtain ⟨a, vs, e1, hs, hd⟩ := hv; exact ⟨a, vs, e1, sqL_mono gr.h hs, hd⟩
      | none => exact hv
      | bool _ => exact hv
      | int _ => exact hv
      | str _ => exact hv
      | tuple _ => exact hv
      | dict _ => exact hv
    refine ⟨v, q, _, _, [.type T, .type U], _, rfl, upd_same, .cons (.ty T) (.cons (.ty U) .nil), hv2, ?_, o _ R _ gr (.bl _)⟩
    refine kitAny_cons (kit1 hT d) (fun hb => ?_) (fun hb => by rw [hb]; rfl)
    rw [hb, Bool.false_or]
    exact kitAny_cons (kit1 hU d) (fun hc => by rw [hc]; exact kitAny_nil) (fun hc => hc)) h

/-! ### isinstance(e, B), e the error that the suite holds, B its class's base -/
end VL
namespace PySem.W
open PySem PySem.Spec PySem.Calls PyProof.Rows
section
variable {prog : Program} {w : World} {A : Around} {E : Value → Shared → Prop} {s : Shared} {K : Frag} {x D : Addr} {ox : Obj} {od : Option Obj}
/-- what a class of errors must say -/
structure ErC (K : Frag) (D : Addr) : Prop where
  g : findIn K (.ref D) "__getattribute__" = some (some (.builtin "BaseException.__getattribute__"))
  k : findIn K (.ref D) "__getattr__" = some none
  s : subIn K (.ref D) (.type "BaseException") = some true
  d : hasDictIn K D = true
  a : findIn K (.ref D) "__class__" = some (some (.builtin "object.__class__"))
  n : specialIn K (.builtin "object.__class__") "__get__" = some (some (.builtin "getset_descriptor.__get__"))
  t : takesIn K (.builtin "object.__class__") = some true
  m : mroIn K D (.type "object") = some true
theorem find_cls {C : Addr} {name : Str} {a g : Value} (hc : (clsIn K C).isSome = true) (ha : findIn K (.ref C) name = some (some a)) (hg : specialIn K a "__get__" = some (some g)) (ht : takesIn K a = some true) : findObj K C od name = some (.bind g a) := by
  obtain ⟨cd, hc⟩ := Option.isSome_iff_exists.mp hc
  unfold findObj
  rw [hc, Option.bind_some, ha, Option.bind_some]
  simp [hg, ht]
theorem er_class {Q : Option Value → Shared → Prop} (C : ErC K D) (X : K.In s.heap) (I : InstAt s.heap x ox D od) (h : Q (some (.ref D)) { s with toks := s.toks + 1 }) : wpAny (model prog w) A (getAttr? (.ref x) "__class__") Q E s := by
  have fo : findObj K D od "__class__" = some (.bind (.builtin "getset_descriptor.__get__") (.builtin "object.__class__")) := find_cls (by obtain ⟨cd, hc, _⟩ := any_some C.d; rw [hc]; rfl) C.a C.n C.t
  obtain ⟨hp, g, d, t, os⟩ := s
  have T0 := I.type (M := model prog w)
  have T1 := looks_findIn (M := model prog w) X C.g
  have T2 := looks_findIn (M := model prog w) X C.k
  have T3 := looks_find (M := model prog w) X I fo
  have isB : Looks (model prog w) hp (isInstance (.ref x) (.type "BaseException")) true := T0.andThen (looks_subIn X C.s)
  have b2 : (Value.builtin "BaseException.__getattribute__" == Value.builtin "object.__getattribute__") = false := by decide +kernel
  unfold getAttr? getAttrBy? getAttrBy
  refine wpAny_bind (wpAny_mkText (wpAny_bind (wpAny_attempt (wpAny_holding (wpAny_bind (T0.at (wpAny_bind (T1.at ?_))))))))
  show wpAny _ _ (if (onTheHeap (Value.ref D) && Value.builtin "BaseException.__getattribute__" == Value.builtin "object.__getattribute__") = true then _ else _) _ _ _
  rw [b2, Bool.and_false, if_neg Bool.false_ne_true]
  unfold getAttrByItsOwn hookBefore
  refine wpAny_bind ?_
  rw [if_pos (show onTheHeap (Value.ref D) = true from rfl)]
  refine T2.at (wpAny_bind (wpAny_attempt (wpAny_holding ?_)))
  unfold callGetattribute
  rw [Bool.false_and, if_neg Bool.false_ne_true]
  unfold boundAndCalled
  rw [PySem.F.excAttr_ValueError.ga.bind (.ref x)]
  refine wpAny_bind (wpAny_pure ?_)
  show wpAny _ _ (call (.builtin "BaseException.__getattribute__") [.ref x, .str "__class__" t]) _ _ _
  refine wpAny_call (codeAny_call_builtin PySem.F.excAttr_ValueError.ga.plain PySem.F.entry_bexc_ga (@check_slot (model prog w) _ _ ⟨hp, g, d, t + 1, os⟩ "BaseException.__getattribute__" "BaseException" "__getattribute__" (.ref x) [.str "__class__" t] [] _ (by decide +kernel) (by decide +kernel) isB (PySem.F.args_bexc_ga (.ref x) (.str "__class__" t)) ?_))
  unfold Builtin.«object.__getattribute__»
  refine wpAny_bind (wpAny_of_eq (a := ((Value.ref x : Value), [Value.str "__class__" t])) (by first | rfl | (simp only [slotArgs]; rfl)) (wpAny_bind (wpAny_pure (wpAny_bind (T0.at (wpAny_bind (T3.at ?_)))))))
  show wpAny _ _ (holding [Value.builtin "object.__class__"] (call (.builtin "getset_descriptor.__get__") [.builtin "object.__class__", .ref x, .ref D]) >>= ret) _ _ _
  refine wpAny_bind (wpAny_holding (wpAny_call (class_get (s := ⟨hp, g, d, t + 1, os⟩) (ox := ox) (od := od) X I C.m (wpAny_pure ?_))))
  show wpAny _ _ (handedOut (.ref D)) _ _ _
  rw [handedOut_of (v := .ref D) rfl]
  first
    | exact wpAny_pure (wpAny_pure h)
    | exact wpAny_pure h
    | exact wpAny_pure (wpAny_bind (wpAny_pure (wpAny_pure h)))
theorem er_kit (C : ErC K D) : KitX K (.ref x) (.ref D) (fun h => InstAt h x ox D od) where
  ty := fun _ _ _ I => I.type
  it := fun _ _ X _ => by
    obtain ⟨cd, hc, _⟩ := any_some C.d
    unfold clsIn at hc
    split at hc
    · rename_i c1 c2 c3 c4 ho
      intro A' Q' E' s' k q
      unfold isType loadHead
      exact wpAny_bind (wpAny_loadPart (k _ _ (X _ _ ho)) (wpAny_pure q))
    · cases hc
  ne := fun h tp dd its n sl X htp => by
    obtain ⟨cd, hc, _⟩ := any_some C.d
    refine Bool.eq_false_iff.mpr fun q => ?_
    have e : D = tp := Value.ref.inj (beq_iff_eq.mp q)
    subst e
    unfold clsIn at hc
    split at hc
    · rename_i c1 c2 c3 c4 ho
      have z := (X _ _ ho).symm.trans htp
      cases z
    · cases hc
  ca := fun X I k => er_class C X I k
end
end PySem.W
namespace VL
open PySem PySem.Spec PyProof.Rows L2
/-- isinstance(e, B) -/
def rIsB (D B a : Addr) (cls : Value) (d : Option Addr) : List V → Hp → VK → Prop := fun xs H Q => xs = [.ref a, .ref B] ∧ cls = .ref D ∧ (∃ dd u, d = some dd ∧ H dd = some (.xd u)) ∧ Q (.bl true) H
theorem call_isErr {X : Cx} {a D B : Addr} {oe : Obj} {cls : Value} {d : Option Addr} {pn : List (Addr × Obj)} (C : PySem.W.ErC X.K D) (hB : PySem.W.kitOne X.K (.ref D) (.ref B) = some true) (hz : Zc cls d oe) (hf : ∃ vs, oe.data = .fields vs) :
    CallR (X.suite a ((a, oe) :: pn)) (.builtin "isinstance") (rIsB D B a cls d) := by
  intro pins s σ H xs us Q I r h
  obtain ⟨rfl, ec, ⟨dd, u, ed, ea⟩, q⟩ := h
  obtain ⟨u1, u2, rfl, r1, r2⟩ := vals2 r
  cases (show u1 = Value.ref a from r1)
  cases (show u2 = Value.ref B from r2)
  subst ec ed
  obtain ⟨ha, _⟩ := I.pin (a, oe) (List.mem_append_left _ List.mem_cons_self)
  obtain ⟨vs, hd⟩ := hf
  have hx : ObjOk X.prog X.w H s.heap dd (.xd u) := I.hok dd _ ea
  obtain ⟨mA, hns, hr⟩ := hx
  obtain ⟨od, ho, hl⟩ := lookIn_ns hns
  have J : PySem.W.InstAt s.heap a oe D (some od) := ⟨ha, hz.1, by unfold PySem.W.notCls; rw [hd] <;> rfl, by rw [hz.2]; exact ho⟩
  exact PySem.W.kia_one (PySem.W.er_kit C) I.kIn J hB (fun z => nomatch z) fun tk => ⟨.bl true, H, I.kept (t' := tk) fun _ _ z => z, rfl, q⟩
def isBF (i tag : Nat) : Rho → Ou Rs := fun ρ => match ρ[i]? with
  | some (.xn t _) => if t = tag then .ok (.im (.bool true)) ρ else .bad
  | _ => .bad
theorem sem_isB {p : Pm} {EX : WX} {i tag : Nat} {C B : Addr} (hC : p.xc tag = C) : SemE p EX (tCB (rIsB C B p.xa p.xcl p.xd) (tCons (tVar i) (tCons (tC (.ref B)) tNil))) (isBF i tag) := by
  intro R H O σ ρ Q S g
  unfold isBF at g
  split at g
  · rename_i t d e
    split at g
    · rename_i ht
      subst ht
      obtain ⟨e1, e2, dd, v, e3, e4, e5, e6⟩ := S.xn i t d e
      exact ⟨_, e1, rfl, by rw [← hC]; exact e2, ⟨dd, _, e3, e5⟩, g _ R H O S .refl (.bl true)⟩
    · exact g.elim
  · exact g.elim

/-! ### try -/
def noXn (ρ : Rho) : Bool := ρ.all fun s => match s with
  | .xn _ _ => false
  | _ => true
theorem noXn_at {ρ : Rho} (h : noXn ρ = true) {i : Nat} {t : Nat} {d : D} : ρ[i]? ≠ some (.xn t d) := fun e => by
  have := List.all_eq_true.mp h _ (List.mem_of_getElem? e)
  cases this
theorem Stt.pm {p q : Pm} {R H : Hp} {O : As} {σ : Sg} {ρ : Rho} (S : Stt p R H O σ ρ) (hK : q.K = p.K) (hp : q.pin = p.pin) (hx : q.xc = p.xc) (h : noXn ρ = true) : Stt q R H O σ ρ :=
  ⟨S.sub, S.dis, S.al, S.len, by rw [hK]; exact S.im, by rw [hK]; exact S.ow, fun i y v e hv => S.pn i y v e (by rw [← hv]; unfold fx; rw [hp, hx]), S.inj, fun i t d e => (noXn_at h e).elim⟩
/-- behind the suite its name is gone -/
def goneS (i : Nat) (o : So) : So := match o with
  | .nx ρ => if noXn (ρ.set i .un) = true then .nx (ρ.set i .un) else .bad
  | .rt r ρ => match r with
    | .im d => if noXn (ρ.set i .un) = true then .rt (.im d) (ρ.set i .un) else .bad
    | _ => .bad
  | _ => .bad
def tryS (tag i : Nat) (B U : Rho → So) : Rho → So := fun ρ => match B ρ with
  | .ex t d ρ' => if t = tag ∧ noXn ρ' = true ∧ pinned ρ' i = false ∧ i < ρ'.length then goneS i (U (ρ'.set i (.xn t d))) else .bad
  | o => o
def pmX (p : Pm) (a : Addr) (cls : Value) (d : Option Addr) : Pm := ⟨p.K, p.xc, p.pin, a, cls, d⟩
theorem sem_try {p : Pm} {EX : WX} {tag i : Nat} {C : Addr} (hC : p.xc tag = C) (hte : PySem.W.exmOne p.K (.ref C) (.ref C) = some true) {Wout : WX} {tb : WX → TS} {ts : Addr → Value → Option Addr → TS} {B U : Rho → So}
    (hb : ∀ W, SemS p W (tb W) B) (hu : ∀ a d, SemS (pmX p a (.ref C) d) EX0 (ts a (.ref C) d) U) : SemS p EX (fun E σ H => tb (wAs p.K (.ref C) i ts Wout E) E σ H) (tryS tag i B U) := by
  intro R H O σ ρ E S g
  refine hb _ R H O σ ρ E S ?_
  unfold tryS at g
  cases e : B ρ with
  | bad => rw [e] at g; exact g
  | nx ρ' => rw [e] at g; exact g
  | rt r ρ' => rw [e] at g; exact g
  | bk ρ' => rw [e] at g; exact g
  | ct ρ' => rw [e] at g; exact g
  | ex t d ρ' =>
    rw [e] at g
    have g9 : GoodS p EX R H O E (if t = tag ∧ noXn ρ' = true ∧ pinned ρ' i = false ∧ i < ρ'.length then goneS i (U (ρ'.set i (.xn t d))) else .bad) := g
    clear g
    split at g9
    · rename_i hh
      obtain ⟨rfl, hn, hp, hi⟩ := hh
      intro dx v σ' R' H' O' S' T' fx hx no hv
      rw [hC]
      refine ⟨true, hte, fun _ a ha => ?_, fun z => Bool.noConfusion z⟩
      have S2 : Stt (pmX p a (.ref C) (some dx)) R' H' O' (σ'.set i (some (.ref a))) (ρ'.set i (.xn t d)) := by
        have Sq : Stt (pmX p a (.ref C) (some dx)) R' H' O' σ' ρ' := S'.pm rfl rfl rfl hn
        have Sn := set_none Sq hp
        have other : ∀ {j : Nat}, i ≠ j → (σ'.set i (some (V.ref a)))[j]? = σ'[j]? := fun h => List.getElem?_set_ne h
        refine ⟨Sq.sub, Sq.dis, Sq.al, by rw [List.length_set, List.length_set]; exact Sq.len, fun j d' q => ?_, fun j b ds q => ?_, fun j y w q hw => ?_, fun j k b c ds es x q1 q2 y1 y2 => ?_, fun j t' d' q => ?_⟩
        · rcases set_get q with ⟨_, z⟩ | ⟨n, z⟩
          · cases z
          · rw [other n]; exact Sq.im j d' z
        · rcases set_get q with ⟨_, z⟩ | ⟨n, z⟩
          · cases z
          · rw [other n]; exact Sq.ow j b ds z
        · rcases set_get q with ⟨_, z⟩ | ⟨n, z⟩
          · subst z; cases hw
          · rw [other n]; exact Sq.pn j y w z hw
        · rcases set_get q1 with ⟨_, z1⟩ | ⟨n1, z1⟩
          · cases z1
          · rcases set_get q2 with ⟨_, z2⟩ | ⟨n2, z2⟩
            · cases z2
            · rw [other n1] at y1; rw [other n2] at y2; exact Sq.inj j k b c ds es x z1 z2 y1 y2
        · rcases set_get q with ⟨rfl, z⟩ | ⟨n, z⟩
          · cases z
            refine ⟨?_, ?_, dx, v, rfl, no, hx, hv⟩
            · rw [List.getElem?_set_self (by rw [← Sq.len]; exact hi)]; rfl
            · show Value.ref C = .ref (p.xc t); rw [hC]
          · exact (noXn_at hn z).elim
      refine hu a (some dx) R' H' O' _ _ _ S2 ?_
      have g := g9.tr T'
      have fixS : ∀ {σ3 : Sg} {R3 H3 : Hp} {O3 : As} {ρ3 : Rho}, Stt (pmX p a (.ref C) (some dx)) R3 H3 O3 σ3 ρ3 → noXn (ρ3.set i .un) = true → Stt p R3 H3 O3 σ3 (ρ3.set i .un) := fun S3 h => (S3.put (i := i) (x := .un) (.inl rfl)).pm rfl rfl rfl h
      cases eu : U (ρ'.set i (.xn t d)) with
      | bad => rw [eu] at g; exact g
      | bk ρ3 => rw [eu] at g; exact g.elim
      | ct ρ3 => rw [eu] at g; exact g.elim
      | ex t' d' ρ3 => rw [eu] at g; exact g.elim
      | nx ρ3 =>
        rw [eu] at g
        have g : GoodS p EX R' H' O' E (if noXn (ρ3.set i .un) = true then .nx (ρ3.set i .un) else .bad) := g
        split at g
        · rename_i h3
          intro σ3 R3 H3 O3 S3 T3
          refine g (σ3.set i none) R3 H3 O3 ?_ T3
          have S4 := fixS S3 h3
          have S5 := set_none S4 (i := i) (by unfold pinned; cases q : (ρ3.set i .un)[i]? with
            | none => rfl
            | some y => rcases set_get q with ⟨_, z⟩ | ⟨n, _⟩
                        · subst z; rfl
                        · exact (n rfl).elim)
          rw [List.set_set] at S5
          exact S5
        · exact g.elim
      | rt r ρ3 =>
        rw [eu] at g
        cases r with
        | fr _ => exact g.elim
        | sl _ => exact g.elim
        | im d3 =>
          have g : GoodS p EX R' H' O' E (if noXn (ρ3.set i .un) = true then .rt (.im d3) (ρ3.set i .un) else .bad) := g
          split at g
          · rename_i h3
            exact fun v3 σ3 R3 H3 O3 S3 T3 hr => g v3 σ3 R3 H3 O3 (fixS S3 h3) T3 hr
          · exact g.elim
    · exact g9.elim

/-! ### a, b = x, y -/
def nrm (o : Ou Rs) : Ou Rs := bd o fun r ρ => match r with
  | .sl i => bd (thaw i ρ) fun d ρ' => .ok (.im d) ρ'
  | r => .ok r ρ
theorem SemE.nrm {p : Pm} {EX : WX} {t : TE} {F : Rho → Ou Rs} (h : SemE p EX t F) : SemE p EX t (fun ρ => nrm (F ρ)) := by
  refine Sem.bind (k := fun b _ H Q => Q b H) h fun R H O σ ρ b a Q S r g => ?_
  cases a with
  | im d => exact g b R H O S .refl r
  | fr ds => exact g b R H O S .refl r
  | sl i =>
    obtain ⟨c, ds, _, e⟩ := r
    have g : Good p EX (Rr p.K) R H O σ Q (bd (thaw i ρ) fun d ρ' => .ok (Rs.im d) ρ') := g
    cases q : thaw i ρ with
    | bad => rw [q] at g; exact g.elim
    | ex t d ρ' => exact (thaw_ex q).elim
    | ok d ρ' =>
      rw [q] at g
      obtain ⟨R', O', S', T', d'⟩ := thaw_ok S q e
      exact g b R' H O' S' T' d'
def two (i j : Nat) (r s : Rs) (ρ : Rho) : So := if pinned ρ i = true ∨ pinned ρ j = true ∨ i = j then .bad else match r, s with
  | .im d, .im e => .nx ((ρ.set i (.im d)).set j (.im e))
  | .im d, .fr es => .nx ((ρ.set i (.im d)).set j (.ow false es))
  | .fr ds, .im e => .nx ((ρ.set i (.ow false ds)).set j (.im e))
  | .fr ds, .fr es => .nx ((ρ.set i (.ow false ds)).set j (.ow false es))
  | _, _ => .bad
def parS (i j : Nat) (F G : Rho → Ou Rs) : Rho → So := fun ρ => bs (nrm (F ρ)) fun r ρ1 => bs (nrm (G ρ1)) fun s ρ2 => two i j r s ρ2
def slOf : Rs → Sl
  | .im d => .im d
  | .fr ds => .ow false ds
  | .sl _ => .un
theorem two_eq {i j : Nat} {r s : Rs} {ρ : Rho} (h : two i j r s ρ ≠ .bad) : pinned ρ i = false ∧ pinned ρ j = false ∧ i ≠ j ∧ two i j r s ρ = .nx ((ρ.set i (slOf r)).set j (slOf s)) := by
  unfold two at h ⊢
  split at h
  · exact (h rfl).elim
  · rename_i hh
    have h1 : ¬ pinned ρ i = true := fun z => hh (.inl z)
    have h2 : ¬ pinned ρ j = true := fun z => hh (.inr (.inl z))
    refine ⟨by simpa using h1, by simpa using h2, fun z => hh (.inr (.inr z)), ?_⟩
    rw [if_neg hh]
    cases r <;> cases s <;> first | rfl | exact (h rfl).elim
/-- a result is stored in a slot -/
theorem Stt.res {p : Pm} {R H : Hp} {O : As} {σ : Sg} {ρ : Rho} {i : Nat} {v : V} {r : Rs} (S : Stt p R H O σ ρ) (np : pinned ρ i = false) (hr : Rr p.K R H O σ ρ v r) (ns : ∀ j, r ≠ .sl j) : Stt p R H O (σ.set i (some v)) (ρ.set i (slOf r)) := by
  cases r with
  | im d => exact S.store np (.inl ⟨d, rfl, hr⟩)
  | fr ds => obtain ⟨a, vs, rfl, oa, ha, hd, un⟩ := hr; exact S.store np (.inr ⟨a, vs, ds, rfl, rfl, oa, ha, hd, un⟩)
  | sl j => exact (ns j rfl).elim
theorem two_ns {i j : Nat} {r s : Rs} {ρ : Rho} (h : two i j r s ρ ≠ .bad) : (∀ k, r ≠ .sl k) ∧ ∀ k, s ≠ .sl k := by
  unfold two at h
  split at h
  · exact (h rfl).elim
  · cases r <;> cases s <;> first | exact (h rfl).elim | exact ⟨fun _ z => (nomatch z), fun _ z => (nomatch z)⟩
theorem set_pin {ρ : Rho} {i j : Nat} {r : Rs} (h : pinned ρ j = false) : pinned (ρ.set i (slOf r)) j = false := by
  unfold pinned at h ⊢
  by_cases e : i = j
  · subst e
    rw [List.getElem?_set_self']
    cases q : ρ[i]? with
    | none => rfl
    | some z => cases r <;> rfl
  · rw [List.getElem?_set_ne e]; exact h
theorem sem_par {p : Pm} {EX : WX} {i j : Nat} {t u : TE} {F G : Rho → Ou Rs} (h : SemE p EX t F) (k : SemE p EX u G) : SemS p EX (tPar i j (tCons t (tCons u tNil))) (parS i j F G) := by
  intro R H O σ ρ E S g
  refine h.nrm.useS S g fun R1 H1 O1 ρ1 v r S1 T1 hv g1 => ?_
  have fin : ∀ {R2 H2 : Hp} {O2 : As} {ρ2 : Rho} {w : V} {s : Rs}, Stt p R2 H2 O2 σ ρ2 → Rr p.K R2 H2 O2 σ ρ2 v r → Rr p.K R2 H2 O2 σ ρ2 w s → (∀ a, (∃ ds, r = .fr ds) → (∃ ds, s = .fr ds) → v = .ref a → w ≠ .ref a) → GoodS p EX R2 H2 O2 E (two i j r s ρ2) → ∃ x y, [v, w] = [x, y] ∧ E.nx ((σ.set i (some x)).set j (some y)) H2 := by
    intro R2 H2 O2 ρ2 w s S2 h1 h2 ap g2
    have nb : two i j r s ρ2 ≠ .bad := fun z => by rw [z] at g2; exact g2
    obtain ⟨p1, p2, ne, e⟩ := two_eq nb
    obtain ⟨n1, n2⟩ := two_ns nb
    rw [e] at g2
    have S3 := S2.res p1 h1 n1
    have h3 : Rr p.K R2 H2 O2 (σ.set i (some v)) (ρ2.set i (slOf r)) w s := by
      cases s with
      | im d => exact h2
      | sl k => exact (n2 k rfl).elim
      | fr ds =>
        obtain ⟨a, vs, rfl, oa, ha, hd, un⟩ := h2
        refine ⟨a, vs, rfl, oa, ha, hd, fun m b es q q2 => ?_⟩
        rcases set_get q with ⟨rfl, z⟩ | ⟨n, z⟩
        · cases r with
          | im d => cases z
          | sl k => exact (n1 k rfl).elim
          | fr es' =>
            have hi : i < σ.length := by
              have := (List.getElem?_eq_some_iff.mp q).1
              rw [List.length_set] at this; rw [← S2.len]; exact this
            rw [List.getElem?_set_self hi] at q2
            have q3 : v = .ref a := Option.some.inj (Option.some.inj q2)
            exact ap a ⟨_, rfl⟩ ⟨_, rfl⟩ q3 rfl
        · rw [List.getElem?_set_ne n] at q2; exact un m b es z q2
    exact ⟨v, w, rfl, g2 _ R2 H2 O2 (S3.res (set_pin p2) h3 n2) .refl⟩
  cases r with
  | sl m =>
    refine k.nrm.useS S1 g1 fun R2 H2 O2 ρ2 w s S2 T2 hw g2 => ?_
    have nb : two i j (.sl m) s ρ2 ≠ .bad := fun z => by rw [z] at g2; exact g2
    exact ((two_ns nb).1 m rfl).elim
  | im d => exact k.nrm.useS S1 g1 fun R2 H2 O2 ρ2 w s S2 T2 hw g2 => fin S2 (T2.dp hv) hw (fun a z => by obtain ⟨ds, z⟩ := z; cases z) g2
  | fr ds =>
    obtain ⟨a, vs, rfl, oa, ha, hd, un⟩ := hv
    have Sl1 := S1.less un
    have na := S1.dis a oa
    refine k.nrm R1 H1 _ σ ρ1 _ Sl1 ?_
    show Good p EX (Rr p.K) R1 H1 (fun b => O1 b ∧ b ≠ a) σ _ (nrm (G ρ1))
    have g1 : GoodS p EX R1 H1 O1 E (bs (nrm (G ρ1)) fun s ρ2 => two i j (.fr ds) s ρ2) := g1
    cases e : nrm (G ρ1) with
    | bad => rw [e] at g1; exact g1.elim
    | ex tg d ρ2 =>
      rw [e] at g1
      intro dx x R2 H2 O2 S2 T2 fx hx no hd2
      obtain ⟨S3, T3, _⟩ := S2.back (vs := []) T2 ha na (fun z => z.2 rfl) (fun w z => by cases z) (fun b z => z.1) oa
      exact g1 dx x σ R2 H2 _ S3 T3 fx hx (fun z => z.elim no fun z => by subst z; rw [fx] at ha; cases ha) hd2
    | ok s ρ2 =>
      rw [e] at g1
      intro w R2 H2 O2 S2 T2 hw
      obtain ⟨S3, T3, h3, r3, o3⟩ := S2.back (vs := []) T2 ha na (fun z => z.2 rfl) (fun w z => by cases z) (fun b z => z.1) oa
      have un2 : ∀ (m : Nat) b es, ρ2[m]? = some (.ow b es) → σ[m]? ≠ some (some (.ref a)) := fun m b es q q2 => by
        obtain ⟨c, ws, y1, y2, _⟩ := S2.ow m b es q
        rw [y1] at q2; cases q2; exact o3 y2
      refine fin S3 ⟨a, vs, rfl, .inr rfl, h3, T2.dps hd, un2⟩ ?_ (fun c _ hs z1 z2 => ?_) (GoodS.tr T3 g1)
      · cases s with
        | im d => exact hw
        | sl m => exact hw
        | fr es =>
          obtain ⟨c, ws, rfl, oc, hc, hd2, un3⟩ := hw
          exact ⟨c, ws, rfl, .inl oc, hc, hd2, un3⟩
      · obtain ⟨es, rfl⟩ := hs
        obtain ⟨c', ws, e1, oc, _⟩ := hw
        cases z1
        rw [e1] at z2; cases z2
        exact o3 oc
end VL

namespace VL
open PySem PySem.Spec PyProof.Rows L2
/-! ### a law's end, where no repr is under way -/
theorem cx_false {P : Program} {w : World} {o : List Env} {H : Hp} {s : Shared} {e : Value} {s' : Shared} (h : L2.CX P w o H s (fun _ _ _ => False) e s') : False := by
  obtain ⟨_, _, _, _, _, _, _, _, _, _, _, _, z⟩ := h
  exact z.elim
theorem law_go {P : Program} {w : World} {K : PySem.W.Frag} {mg mb : Str → Option Value} {k : Nat} {fa a : Addr} {fd : FuncData} {x : Str} {sp : Sp} {s : Shared} {vs : List Value} {ns : List Int}
    (KX : K.In s.heap) (nsG : s.heap.Ns mainGlobals mg) (nsB : s.heap.Ns builtinsNs mb) (isB : ∀ x : Str, x ≠ "__name__" → mb x = bootBuiltins x) (lim : s.heap.NoLimit) (gens : s.gens = #[])
    (oa : s.heap.get? a = some { cls := .type "list", data := .seq vs.toArray }) (hi : IntsAre vs ns) (hl : ns.length ≤ sizeLine) (hr : Room k callerA) (F : ∀ base : Heap, K.In base → base.Ns mainGlobals mg → FnG P w K mg base k fa fd [x] sp)
    (bind : ∀ (s : Shared) (u : Value), BindsTo s fd ⟨[u], []⟩ [(x, u)]) (hsp : ∀ H : Hp, SqL K H a (ns.map V.int) → sp [.ref a] H (fun v _ => v = .bl true) fun _ _ _ => False) :
    codeAny (model P w) callerA (.call (.ref fa) ⟨[.ref a], []⟩) (fun r s' => r = .ok (.ret (.bool true)) ∧ OldK s.heap s'.heap ∧ s'.os = s.os ∧ AllBare s'.gens) s := by
  have rv := vals_ints hi
  have lv := hi.length
  let u : HO := .frz { cls := .type "list", data := .seq vs.toArray } (.lst (ns.map V.int))
  let H : Hp := fun b => if b = a ∧ K.lookup a = none then some u else none
  have only : ∀ b o, H b = some o → b = a ∧ K.lookup a = none ∧ o = u := fun b o e => by
    by_cases hc : b = a ∧ K.lookup a = none
    · have e' : some u = some o := (if_pos hc).symm.trans e
      exact ⟨hc.1, hc.2, (Option.some.inj e').symm⟩
    · have e' : none = some o := (if_neg hc).symm.trans e
      cases e'
  have sq : SqL K H a (ns.map V.int) := by
    cases q : K.lookup a with
    | none => exact .inl (.inr ⟨_, if_pos ⟨rfl, q⟩⟩)
    | some o =>
      have e := KX a o q
      rw [oa] at e
      cases e
      exact .inr ⟨_, vs.toArray, _, q, rfl, rfl, rfl, by rw [List.size_toArray, lv]; exact hl, by simpa using rv⟩
  have hok : HOk P w H s.heap := fun b o e => by
    obtain ⟨rfl, _, rfl⟩ := only b o e
    exact ⟨oa, by rw [List.length_map]; exact hl, vs, _, rv, oa⟩
  have dict : ∀ {b : Addr} {o : Obj} {es : Array DictEntry} {ep : Nat}, s.heap.get? b = some o → o.data = .dict es ep → H b = none := fun {b o es ep} e d => by
    cases q : H b with
    | none => rfl
    | some y =>
      obtain ⟨rfl, _⟩ := only b y q
      rw [oa] at e
      cases e
      have d' : Data.seq vs.toArray _ = Data.dict es ep := d
      cases d'
  have kns : ∀ {b : Addr} {m : Str → Option Value}, s.heap.Ns b m → (hidT s.heap H).Ns b m := fun {b m} ⟨o, es, ep, e, d, r⟩ => ⟨o, es, ep, hidT_get e (dict e d), d, r⟩
  have kK : K.In (hidT s.heap H) := fun b o e => hidT_get (KX b o e) (by
    cases q : H b with
    | none => rfl
    | some y => obtain ⟨rfl, n, _⟩ := only b y q; rw [n] at e; cases e)
  have M : Mod K mg (hidT s.heap H) := ⟨kK, kns nsG, ⟨mb, kns nsB, isB⟩, let ⟨mc, h1, h2⟩ := lim; ⟨mc, kns h1, h2⟩⟩
  have e0 : Env0 P w K mg (hidT s.heap H) callerA [] s H := ⟨rfl, M, fun b o e => of_hidT e, Nat.le_of_eq (hidT_size _ _), trivial, fun b hb => (nomatch hb), hok, .of_eq gens⟩
  refine codeAny_mono ((F _ kK (kns nsG)).go callerA [] s H ⟨[.ref a], []⟩ [.ref a] [.ref a] _ _ rfl hr e0 (bind s (.ref a)) (.cons rfl .nil) (hsp H sq)) fun r s' h => ?_
  cases r with
  | error e => exact (cx_false h).elim
  | ok fl => cases fl with
    | next => exact False.elim h
    | brk => exact False.elim h
    | cont => exact False.elim h
    | ret y =>
      obtain ⟨v, H', os, bare, un, hok', r', q⟩ := h
      have q : v = .bl true := q
      subst q
      obtain rfl : y = Value.bool true := r'
      refine ⟨rfl, OldK.of_keep fun b o e => ?_, os, bare⟩
      cases q : H b with
      | none => exact un.keep b o e q (fun z => (nomatch z)) (fun z => (nomatch z))
      | some y =>
        obtain ⟨rfl, _, rfl⟩ := only b y q
        obtain ⟨e2, _⟩ := hok' b _ (un.frzs b _ _ q)
        rw [oa] at e
        rw [e2]; exact e
theorem walk_g {l : PySem.W.OpenLaw} {n k : Nat} {q : Program} {loose : List Str} {XP : (Str → Option Value) → Heap → Prop} {YP : World → Heap → Prop} {d : DefRec} {K : Params → PySem.W.Frag} {x : Str}
    (hn : l.most = some n) (hn2 : n ≤ sizeLine) (hdf : d.params.defaults = []) (hr : Room k callerA) (hY : ∀ (w : World) (h : Heap), YP w h → (K w.params).In h)
    (F : ∀ (w : World) (mg : Str → Option Value) (fa : Addr) (h : Heap), (K w.params).In h → h.Ns mainGlobals mg → mg d.name = some (.ref fa) →
      ∃ fd : FuncData, (∀ (s : Shared) (u : Value), BindsTo s fd ⟨[u], []⟩ [(x, u)]) ∧ ∃ sp : Sp, (∀ (H : Hp) (a : Addr) (ns : List Int), ns.length ≤ n → SqL (K w.params) H a (ns.map V.int) → sp [.ref a] H (fun v _ => v = .bl true) fun _ _ _ => False) ∧
        ∀ base : Heap, (K w.params).In base → base.Ns mainGlobals mg → FnG l.prog w (K w.params) mg base k fa fd [x] sp) :
    PySem.W.WalkO q loose XP YP l.row.toRowW d [] (fun f vs => PySem.call f vs) := by
  refine Att.attach_call hn hdf fun w s₀ s₁ mg mb fa o pm cd doc a vs ns G Y ho hd hcd hmg hobj hints hlen hg => ?_
  have KX := hY w _ Y
  obtain ⟨fd, hb, sp, hs, hF⟩ := F w mg fa _ KX G.T.g hmg
  exact law_go KX G.T.g G.T.b G.T.builtins G.T.nolimit hg hobj hints (Nat.le_trans hlen hn2) hr hF hb fun H hS => hs H a ns hlen hS
/-- the law's promise from what it does to data -/
theorem law_sp {K : PySem.W.Frag} {xc : Nat → Addr} {m : List Sl → Fo} {H : Hp} {a : Addr} {ns : List Int} {as : List Sl} (h : m [.im (.list (ns.map PyData.int))] = .rt (.im (.bool true)) as) (hs : SqL K H a (ns.map V.int)) :
    spF 1 K xc m [.ref a] H (fun v _ => v = .bl true) fun _ _ _ => False := by
  have each : ∀ ns : List Int, DpAll K H (ns.map V.int) (ns.map PyData.int) := fun ns => by
    induction ns with
    | nil => exact .nil
    | cons n r ih => exact .cons (.int n) ih
  refine ⟨rfl, H, fun _ => False, [.im (.list (ns.map PyData.int))], stt_args (fun _ _ e => e) (.cons (.lst hs (each ns)) .nil), ?_⟩
  rw [h]
  intro v R' H' O' _ _ hr
  have hr : Dp K R' v (.bool true) := hr
  cases hr
  rfl
end VL

namespace VL
open PySem PySem.Spec PyProof.Rows L2
/-! ### where nothing is let out -/
theorem pass_no {X : Cx} (σ : Sg) : PassesAt (L2.CX X.prog X.w) X σ (atE EX0 σ) := fun _ _ _ _ _ _ h => (cx_false h).elim
/-! ### enumerate -/
def numD : Nat → List D → List D
  | _, [] => []
  | i, d :: ds => .tuple [.int (i : Nat), d] :: numD (i + 1) ds
theorem numD_len : ∀ (ds : List D) (i : Nat), (numD i ds).length = ds.length
  | [], _ => rfl
  | _ :: ds, i => by unfold numD; rw [List.length_cons, List.length_cons, numD_len ds]
theorem numD_get : ∀ (ds : List D) (i j : Nat) (z : D), (numD i ds)[j]? = some z → ∃ d, ds[j]? = some d ∧ z = .tuple [.int ((i + j : Nat) : Int), d]
  | [], _, _, _, e => by simp [numD] at e
  | d :: ds, i, 0, z, e => by
    unfold numD at e
    simp at e
    exact ⟨d, rfl, by rw [← e]; rfl⟩
  | d :: ds, i, j + 1, z, e => by
    unfold numD at e
    obtain ⟨c, e1, e2⟩ := numD_get ds (i + 1) j z (by simpa using e)
    exact ⟨c, by simpa using e1, by rw [e2, show i + 1 + j = i + (j + 1) by omega]⟩
theorem it_enum {p : Pm} {R : Hp} {a : Addr} {vs : List V} {ds : List D} (hs : SqL p.K R a vs) (hd : DpAll p.K R vs ds) : ItOk p R (Ite p.K a) (numD 0 ds) := by
  intro R1 H1 m1 m2
  have h1 : SqL p.K H1 a vs := sqL_mono m2 (sqL_mono m1 hs)
  refine ⟨fun i z e => ?_, fun i e => ⟨vs, h1, dpAll_none hd (by rw [numD_len] at e; exact e)⟩⟩
  obtain ⟨d, e1, rfl⟩ := numD_get ds 0 i z e
  obtain ⟨v, ev, hv⟩ := dpAll_get hd e1
  refine ⟨⟨vs, v, h1, ev⟩, fun x H2 hy => ?_⟩
  obtain ⟨T, y, rfl, hT, rfl, q⟩ := hy
  have := q vs h1
  rw [ev] at this; cases this
  have gr := Grow.tup (R := R1) (vs := [V.int (i : Nat), v]) m2 hT
  refine ⟨_, gr, .tup (.inl (.inl upd_same)) (.cons ?_ (.cons (dp_mono gr.r d v (dp_mono m1 d v hv)) .nil))⟩
  rw [Nat.zero_add]
  exact .int _
def enumO (d : D) (ρ : Rho) : Ou (List D) := match d with
  | .list ds => .ok (numD 0 ds) ρ
  | _ => .bad
def enumI (F : Rho → Ou Rs) : Rho → Ou (List D) := fun ρ => bd (bd (frz (F ρ)) dat) enumO
theorem sem_enum {p : Pm} {EX : WX} {t : TE} {F : Rho → Ou Rs} (h : SemE p EX t F) : SemI p EX (iEnum p.K (tCons t tNil)) (enumI F) := by
  refine Sem.bind (k := fun v σ H R => ∃ a xs, [v] = [V.ref a] ∧ SqL p.K H a xs ∧ R (Ite p.K a) H) (G := enumO) h.op.dat fun R H O σ ρ v a Q S hv g => ?_
  unfold enumO at g
  split at g
  · cases hv with
    | lst h1 d1 => exact ⟨_, _, rfl, sqL_mono S.sub h1, g _ R H O S .refl (it_enum h1 d1)⟩
  · exact g.elim
/-! ### max, min of a list -/
def intsD : List D → Option (List Int)
  | [] => some []
  | .int i :: ds => (intsD ds).map (i :: ·)
  | _ => none
theorem ints_v {K : PySem.W.Frag} {R : Hp} : ∀ {vs : List V} {ds : List D} {ns : List Int}, DpAll K R vs ds → intsD ds = some ns → vs = ns.map V.int
  | _, _, _, .nil, e => by cases Option.some.inj e; rfl
  | v :: vs, d :: ds, ns, .cons h t, e => by
    cases d with
    | int b =>
      obtain ⟨cs, e1, rfl⟩ := Option.map_eq_some_iff.mp (show (intsD ds).map (b :: ·) = some ns from e)
      cases h
      rw [ints_v t e1]; rfl
    | none => cases e
    | bool _ => cases e
    | str _ => cases e
    | list _ => cases e
    | tuple _ => cases e
    | dict _ => cases e
def maxLD (ds : List D) : Option Rs := match ds with
  | [.list xs] => (intsD xs).bind fun ns => ns.max?.map fun m => .im (.int m)
  | _ => none
def minLD (ds : List D) : Option Rs := match ds with
  | [.list xs] => (intsD xs).bind fun ns => ns.min?.map fun m => .im (.int m)
  | _ => none
theorem cv_maxL {K : PySem.W.Frag} : CallV K (rMax K) maxLD := by
  intro R H vs ds z Q m hv q o
  unfold maxLD at q
  split at q
  · obtain ⟨ns, e1, e2⟩ := Option.bind_eq_some_iff.mp q
    obtain ⟨k, e3, rfl⟩ := Option.map_eq_some_iff.mp e2
    obtain ⟨v, rfl, h⟩ := vrs1 hv
    obtain ⟨a, ws, rfl, h1, d1⟩ := h
    obtain ⟨hm, hle⟩ := List.max?_eq_some_iff.mp e3
    refine ⟨a, ns, rfl, by rw [← ints_v d1 e1]; exact h1, List.length_pos_of_mem hm, fun j hj hl => ?_⟩
    have : j = k := Int.le_antisymm (hle j hj) (hl k hm)
    subst this
    exact o _ R H (.refl m) (.int _)
  · cases q
/-! ### a target of more names, of a tuple or a list -/
def gU (K : PySem.W.Frag) (n : Nat) (t : TGs) : TG := fun v σ H Q => gTup K n t v σ H Q ∨ gUnl K n t v σ H Q
theorem pg_u {X : Cx} {pos : Pos} {es : List Expr} {k : Nat} {t : TGs} {n : Nat} (c : X.calm = true) (h : PGs X es t) (l : (assignEach es X.env).length = n) (f : List.findIdx? (fun x => x.fst) (assignEach es X.env) = none) : PG X (.Tuple es k pos) (gU X.K n t) :=
  ⟨fun pins s σ H v u Q I r q => q.elim ((pg_tup (pos := pos) (k := k) c h l f).run pins s σ H v u Q I r) ((pg_unl (pos := pos) (k := k) c h l f).run pins s σ H v u Q I r)⟩
def tupU (n : Nat) (U : Tgs) : Tg := fun d ρ => match d with
  | .tuple ds => if ds.length = n then U ds ρ else none
  | .list ds => if ds.length = n then U ds ρ else none
  | _ => none
theorem sem_gu {p : Pm} {ks : List Nat} {n : Nat} {gs : TGs} {U : Tgs} (k : SemGs p ks gs U) : SemG p ks (gU p.K n gs) (tupU n U) := by
  intro R H O σ ρ ρ' v d Q S hv e q
  unfold tupU at e
  split at e
  · split at e
    · rename_i ds hl
      cases hv with
      | tup h1 d1 => exact .inl ⟨_, _, rfl, sqT_mono S.sub h1, (dpAll_len d1).trans hl, k R H O σ ρ ρ' _ ds Q S d1 e q⟩
    · cases e
  · split at e
    · rename_i ds hl
      cases hv with
      | lst h1 d1 => exact .inr ⟨_, _, rfl, sqL_mono S.sub h1, (dpAll_len d1).trans hl, k R H O σ ρ ρ' _ ds Q S d1 e q⟩
    · cases e
  · cases e
/-! ### two texts -/
def neSD (d e : D) : Option Rs := match d, e with
  | .str x, .str y => some (.im (.bool (!decide (x = y))))
  | _, _ => none
def eqSD (d e : D) : Option Rs := match d, e with
  | .str x, .str y => some (.im (.bool (decide (x = y))))
  | _, _ => none
theorem ov_neS {K : PySem.W.Frag} : OpV K rNe neSD := by
  intro R H v u d e z Q m hv hu q o
  unfold neSD at q
  split at q
  · cases Option.some.inj q
    cases hv; cases hu
    rename_i x y
    refine ⟨rfl, ?_⟩
    rw [show decide (V.str x = V.str y) = decide (x = y) from decide_eq_decide.mpr ⟨fun h => by cases h; rfl, fun h => by rw [h]⟩]
    exact o _ R H (.refl m) (.bl _)
  · cases q
theorem ov_eqS {K : PySem.W.Frag} : OpV K rEq eqSD := by
  intro R H v u d e z Q m hv hu q o
  unfold eqSD at q
  split at q
  · cases Option.some.inj q
    cases hv; cases hu
    rename_i x y
    refine ⟨rfl, ?_⟩
    rw [show decide (V.str x = V.str y) = decide (x = y) from decide_eq_decide.mpr ⟨fun h => by cases h; rfl, fun h => by rw [h]⟩]
    exact o _ R H (.refl m) (.bl _)
  · cases q
end VL

namespace VL
open PySem PySem.Spec PyProof.Rows L2 PySem.W
/-! ### enumerate of a tuple: its making, its turns -/
theorem enum1_new {v : Value} {oi : Obj} {HH : Heap → Prop} (B : Begins v oi HH) :
    Meets (Builtin.«enumerate.__new__» ⟨[.type "enumerate", v], []⟩) (fun _ R s => HH s.heap ∧ R (.ok (.ret (.ref (s.heap.push oi).objs.size))) { s with heap := (s.heap.push oi).push { cls := .type "enumerate", data := .fields #[.none, .bool false, .ref s.heap.objs.size, rawInt 0, .none, .none] } }) :=
  .of_wp fun prog w A R s hh => by
    obtain ⟨hp, gs, dr, tn, ost⟩ := s
    obtain ⟨hb, hr⟩ := hh
    have hsub := sub_enumerate
    have qi : ∀ {A' : Around} {E : Value → Shared → Prop} {Q : Value → Shared → Prop}, Q (.ref hp.objs.size) ⟨hp.push oi, gs, dr, tn, ost⟩ → wpAny (model prog w) A' (pyIter v) Q E ⟨hp, gs, dr, tn, ost⟩ := fun z => B.iter prog w _ _ ⟨hp, gs, dr, tn, ost⟩ _ hb z
    wp_walk using qi
    first
      | exact ⟨_, rfl, hr⟩
      | (refine wpAny_stack_any fun st => wpAny_pure ?_
         split
         · rename_i c _ _ _ _ _
           cases (c == Value.type "enumerate")
           · wp_walk using qi
             exact ⟨_, rfl, hr⟩
           · wp_walk using qi
             exact ⟨_, rfl, hr⟩
         · wp_walk using qi
           exact ⟨_, rfl, hr⟩)
theorem enum1_begins {prog : Program} {w : World} {A : Around} {E : Value → Shared → Prop} {s : Shared} {v : Value} {oi : Obj} {HH : Heap → Prop} {Q : Value → Shared → Prop} (B : Begins v oi HH) (hb : HH s.heap)
    (h : ∀ h', IsEnum h' (s.heap.objs.size + 1) s.heap.objs.size 0 .none → h'.get? s.heap.objs.size = some oi → (∀ b u, s.heap.get? b = some u → h'.get? b = some u) → Q (.ref (s.heap.objs.size + 1)) { s with heap := h' }) :
    wpAny (model prog w) A (call (.type "enumerate") [v]) Q E s := by
  refine callType_new F.called_enumerate (by decide) (F.typeCall_enumerate_1 _) (F.newCall_enumerate_1 _) (fun ob => F.args_object_init_2 ob _) F.entry_enumerate_new (enum1_new B) ⟨hb, ?_⟩
  have zz : (s.heap.push oi).objs.size = s.heap.objs.size + 1 := Heap.size_push ..
  show _ ∧ _
  rw [zz]
  have ie : IsEnum ((s.heap.push oi).push { cls := .type "enumerate", data := .fields #[.none, .bool false, .ref s.heap.objs.size, rawInt 0, .none, .none] }) (s.heap.objs.size + 1) s.heap.objs.size 0 .none := by
    have := Heap.get?_push_size (s.heap.push oi) (o := { cls := .type "enumerate", data := .fields #[.none, .bool false, .ref s.heap.objs.size, rawInt 0, .none, .none] }) rfl
    rw [zz] at this
    exact this
  exact ⟨⟨_, ie, rfl⟩, h _ ie (Heap.get?_push_of_some _ (Heap.get?_push_size _ B.free)) fun b u z => Heap.get?_push_of_some _ (Heap.get?_push_of_some _ z)⟩
/-- the tuple at a as it stands at each turn, each item in a new pair -/
def Iet (K : PySem.W.Frag) (a : Addr) : It :=
  ⟨fun i H => ∃ (xs : List V) (x : V), SqT K H a xs ∧ xs[i]? = some x, fun i H v H' => ∃ T x, v = .ref T ∧ H T = none ∧ H' = upd H T (.tup [.int (i : Nat), x]) ∧ ∀ xs, SqT K H a xs → xs[i]? = some x, fun i H => ∃ xs : List V, SqT K H a xs ∧ xs.length ≤ i⟩
theorem turn_enumT {P : Program} {w : World} {K : PySem.W.Frag} {elts : List Expr} {kk : Nat} {tpos : Pos} (a e it : Addr) :
    Turn P w K (.Tuple elts kk tpos) (Iet K a) [e, it] e (fun i h => (∃ old, IsEnum h e it ((i : Nat) : Int) old) ∧ h.IsTupleIter it a i ∧ e ≠ it ∧ a ≠ it ∧ e ≠ a) where
  mem := by simp
  obj := fun i h st b hb => by
    obtain ⟨⟨old, he⟩, ⟨o, ho, hc, hd⟩, _⟩ := st
    rcases (show b = e ∨ b = it by simpa using hb) with z | z
    · rw [z]; exact ⟨_, he, fun v q => nomatch q⟩
    · rw [z]; exact ⟨o, ho, fun v q => by rw [hd] at q; cases q⟩
  keep := fun i h h' st k => let ⟨⟨old, he⟩, hi, hne⟩ := st; ⟨⟨old, k e (by simp) _ he⟩, hi.at fun o q => k it (by simp) o q, hne⟩
  item := by
    intro X hP hw hK hc i pins s σ H E I hf st hg
    subst hP hw hK
    obtain ⟨⟨old, he⟩, hit, hne, hai, hea⟩ := st
    obtain ⟨xs, x, hq, hx⟩ := hg
    obtain ⟨its, rv, p, hz⟩ := I.tuple hq
    have p : s.heap.IsTuple a its.toArray := p
    obtain ⟨u, hu, ru⟩ := rv.get hx
    have lte : e < s.heap.objs.size := Heap.lt_size he
    have lti : it < s.heap.objs.size := by obtain ⟨_, q, _⟩ := hit; exact Heap.lt_size q
    have hlt : i < its.toArray.size := by
      rw [List.size_toArray]
      exact (List.getElem?_eq_some_iff.mp hu).1
    have D := Draws.tuple (prog := X.prog) (w := X.w) (A := X.A.in1) (I.ok.hd hc) it a hai its.toArray
    refine wpAny_pyNext_enum_itemD D he ⟨hit, p⟩ hlt hne (by simp; exact ⟨hne, hea⟩) fun x' h' tk hx' ho hst hT hsz hk => ?_
    have hxu : x' = u := by
      have z : its.toArray[i]? = some x' := hx'
      rw [List.getElem?_toArray, hu] at z
      exact (Option.some.inj z).symm
    subst hxu
    refine ⟨_, rfl, wpAny_letOwnedTupleGo_enum (s := { s with heap := h', toks := tk + 1 }) ho fun h'' he' sb => ?_⟩
    have hT2 : h''.get? s.heap.objs.size = some { cls := .type "tuple", data := .seq #[.int i tk, x'] } := (sb.2 _ (Nat.ne_of_gt lte)).trans hT
    have new : ObjOk X.prog X.w (upd H s.heap.objs.size (.tup [.int (i : Nat), x])) h'' s.heap.objs.size (.tup [.int (i : Nat), x]) :=
      ⟨by show 2 ≤ sizeLine; rw [sizeLine_eq]; decide, [.int i tk, x'], .cons ⟨_, rfl⟩ (.cons ru .nil), ⟨_, hT2, rfl, _, rfl⟩⟩
    have I1 : Inv X pins σ (upd H s.heap.objs.size (.tup [.int (i : Nat), x])) { s with heap := h'', toks := tk + 1 } :=
      I.turnedNew (ch := [e, it]) (fun b ob hb q => (sb.2 b (fun z => hb (by simp [z]))).trans (hk b ob (fun z => hb (by simp [z])) (fun z => hb (by simp [z])) q)) hf (Nat.le_refl _) new
    refine ⟨.ref s.heap.objs.size, _, I1, rfl, ⟨_, x, rfl, I.hok.fresh (Nat.le_refl _), rfl, fun ys hy => by rw [I.tuple_inj hy hq]; exact hx⟩, ⟨⟨x', ?_⟩, hst.1.at fun o q => (sb.2 it (Ne.symm hne)).trans q, hne, hai, hea⟩, fun b hb => ?_⟩
    · rw [show ((i + 1 : Nat) : Int) = (i : Int) + 1 by omega]
      exact he'
    · have hb' : b < s.heap.objs.size := by
        rcases (show b = e ∨ b = it by simpa using hb) with z | z
        · rw [z]; exact lte
        · rw [z]; exact lti
      rw [upd_ne (Nat.ne_of_lt hb')]
      exact (hf b hb).1
  done := by
    intro X hP hw hK hc i pins s σ H E I hf st hg
    subst hP hw hK
    obtain ⟨⟨old, he⟩, hit, hne, hai, hea⟩ := st
    obtain ⟨xs, hq, hx⟩ := hg
    obtain ⟨its, rv, p, hz⟩ := I.tuple hq
    have p : s.heap.IsTuple a its.toArray := p
    obtain ⟨f0, f1, f2, f3, f4, f5⟩ := hf it (by simp)
    have hl := rv.length
    have D : Draws X.prog X.w X.A.in1 it [it, a] i (fun _ _ => False) (fun j h => j = i ∧ h.IsTupleIter it a i ∧ h.IsTuple a its.toArray) :=
      { live := fun _ _ st => let ⟨o, ho, _⟩ := st.2.1; ⟨o, ho⟩
        frame := fun _ _ _ st hk => ⟨st.1, st.2.1.at fun o z => hk it (by simp) o z, st.2.2.at fun o z => hk a (by simp) o z⟩
        item := fun j s Q E hj st _ => by have := st.1; omega
        done := fun s Q E st hE => wpAny_nextOf_tuple_end (I.ok.hd hc) st.2.1 st.2.2 (by simp; omega) hE }
    exact wpAny_pyNext_enum_endD D he ⟨rfl, hit, p⟩ fun h' eb => ⟨rfl, I.turned (t' := s.toks) (fun b o hb z => eb b o hb z) f0 f1 f3 f4 f5⟩
  self := fun A i s Q E st h => let ⟨⟨_, he⟩, _⟩ := st; wpAny_pyIter_enum he h
def iEnumT (K : PySem.W.Frag) (ta : TA) : TI := fun σ H R => ta σ H fun vs H1 => ∃ a xs, vs = [.ref a] ∧ SqT K H1 a xs ∧ R (Iet K a) H1
theorem pi_enumT {X : Cx} {e : Expr} {ta : TA} {p pos tpos : Pos} {elts : List Expr} {kk : Nat} (hg : Gl X "enumerate") (hm : X.mg "enumerate" = none) (ha : PA X [e] ta) (hs : starEach [e] X.env = [(false, eval e X.env)]) :
    PI X (.Tuple elts kk tpos) (.Call (.Name "enumerate" p) [e] [] pos) (iEnumT X.K ta) := by
  refine ⟨fun pins s σ H R I h => ?_⟩
  refine Call_ (ld_blt I hg hm boot_enumerate (PyProof.Rows.callWith_type1 (thn (ha.run pos pins s σ H _ I h) fun us s1 ⟨vs, H1, I1, r1, a, xs, ex, hq, q⟩ => ?_) hs rfl))
  subst ex
  cases r1 with
  | cons r rr =>
    cases rr
    cases r
    obtain ⟨its, rv, p', hz⟩ := I1.tuple hq
    have p' : s1.heap.IsTuple a its.toArray := p'
    have la : a < s1.heap.objs.size := by obtain ⟨_, z, _⟩ := id p'; exact Heap.lt_size z
    refine enum1_begins (begins_tuple a its.toArray) p' fun h' he hit hk => wpAny_pyIter_enum he ?_
    have I2 : Inv X pins σ H1 { s1 with heap := h' } := I1.kept (t' := s1.toks) hk
    refine ⟨s1.heap.objs.size + 1, [s1.heap.objs.size + 1, s1.heap.objs.size], _, _, H1, rfl, I2, turn_enumT a (s1.heap.objs.size + 1) s1.heap.objs.size, ⟨⟨.none, he⟩, ⟨_, hit, rfl, rfl⟩, Nat.succ_ne_self _, Nat.ne_of_lt la, Nat.ne_of_gt (Nat.lt_succ_of_lt la)⟩, fun b hb => ?_, q⟩
    have le : s1.heap.objs.size ≤ b := by
      rcases (show b = s1.heap.objs.size + 1 ∨ b = s1.heap.objs.size by simpa using hb) with z | z
      · rw [z]; exact Nat.le_succ _
      · rw [z]; exact Nat.le_refl _
    exact I1.fpOk le (I1.hok.fresh le)
/-- enumerate of a list or a tuple -/
def iEnumU (K : PySem.W.Frag) (ta : TA) : TI := fun σ H R => iEnum K ta σ H R ∨ iEnumT K ta σ H R
theorem pi_enumU {X : Cx} {e : Expr} {ta : TA} {p pos tpos : Pos} {elts : List Expr} {kk : Nat} (hg : Gl X "enumerate") (hm : X.mg "enumerate" = none) (ha : PA X [e] ta) (hs : starEach [e] X.env = [(false, eval e X.env)]) :
    PI X (.Tuple elts kk tpos) (.Call (.Name "enumerate" p) [e] [] pos) (iEnumU X.K ta) :=
  ⟨fun pins s σ H R I q => q.elim ((pi_enum hg hm ha hs).run pins s σ H R I) ((pi_enumT hg hm ha hs).run pins s σ H R I)⟩
theorem it_enumT {p : Pm} {R : Hp} {a : Addr} {vs : List V} {ds : List D} (hs : SqT p.K R a vs) (hd : DpAll p.K R vs ds) : ItOk p R (Iet p.K a) (numD 0 ds) := by
  intro R1 H1 m1 m2
  have h1 : SqT p.K H1 a vs := sqT_mono m2 (sqT_mono m1 hs)
  refine ⟨fun i z e => ?_, fun i e => ⟨vs, h1, dpAll_none hd (by rw [numD_len] at e; exact e)⟩⟩
  obtain ⟨d, e1, rfl⟩ := numD_get ds 0 i z e
  obtain ⟨v, ev, hv⟩ := dpAll_get hd e1
  refine ⟨⟨vs, v, h1, ev⟩, fun x H2 hy => ?_⟩
  obtain ⟨T, y, rfl, hT, rfl, q⟩ := hy
  have := q vs h1
  rw [ev] at this; cases this
  have gr := Grow.tup (R := R1) (vs := [V.int (i : Nat), v]) m2 hT
  refine ⟨_, gr, .tup (.inl (.inl upd_same)) (.cons ?_ (.cons (dp_mono gr.r d v (dp_mono m1 d v hv)) .nil))⟩
  rw [Nat.zero_add]
  exact .int _
def enumUO (d : D) (ρ : Rho) : Ou (List D) := match d with
  | .list ds => .ok (numD 0 ds) ρ
  | .tuple ds => .ok (numD 0 ds) ρ
  | _ => .bad
def enumUI (F : Rho → Ou Rs) : Rho → Ou (List D) := fun ρ => bd (bd (frz (F ρ)) dat) enumUO
theorem sem_enumU {p : Pm} {EX : WX} {t : TE} {F : Rho → Ou Rs} (h : SemE p EX t F) : SemI p EX (iEnumU p.K (tCons t tNil)) (enumUI F) := by
  intro R H O σ ρ Q S g
  have hd := h.op.dat R H O σ ρ
  have g : Good p EX _ R H O σ Q (bd (bd (frz (F ρ)) dat) enumUO) := g
  cases e : bd (frz (F ρ)) dat with
  | bad => rw [e] at g; exact g.elim
  | ex t' d ρ' =>
    rw [e] at g
    refine .inl (hd _ S ?_)
    show Good p EX _ R H O σ _ (bd (frz (F ρ)) dat)
    rw [e]
    exact g
  | ok d ρ' =>
    rw [e] at g
    have g : Good p EX _ R H O σ Q (enumUO d ρ') := g
    unfold enumUO at g
    split at g
    · refine .inl (hd _ S ?_)
      show Good p EX _ R H O σ _ (bd (frz (F ρ)) dat)
      rw [e]
      intro v R' H' O' S' T' hv
      cases hv with
      | lst h1 d1 => exact ⟨_, _, rfl, sqL_mono S'.sub h1, g _ R' H' O' S' T' (it_enum h1 d1)⟩
    · refine .inr (hd _ S ?_)
      show Good p EX _ R H O σ _ (bd (frz (F ρ)) dat)
      rw [e]
      intro v R' H' O' S' T' hv
      cases hv with
      | tup h1 d1 => exact ⟨_, _, rfl, sqT_mono S'.sub h1, g _ R' H' O' S' T' (it_enumT h1 d1)⟩
    · exact g.elim
end VL

namespace VL
open PySem PySem.Spec PyProof.Rows L2
/-! ### defs as values: given to a call, called by a local name, gone through by a for -/
def foV (n : Nat) (m : List Sl → Fo) (k : Nat) (ds : List D) (ρ : Rho) : Ou Rs := if ds.length + 1 = n then match m (.fv k :: ds.map .im) with
  | .rt (.im d) _ => .ok (.im d) ρ
  | .rt (.fr es) _ => .ok (.fr es) ρ
  | .ex tag d _ => .ex tag d ρ
  | _ => .bad else .bad
theorem call_v {p : Pm} {EX : WX} {n k : Nat} {m : List Sl → Fo} {R H : Hp} {O : As} {σ : Sg} {ρ : Rho} {vs : List V} {ds : List D} {Q : VK} (S : Stt p R H O σ ρ) (hv : DpAll p.K R vs ds) (g : Good p EX (Rr p.K) R H O σ Q (foV n m k ds ρ)) :
    spF n p.K p.xc m (.ref (p.xc (1000 + k)) :: vs) H Q (fun cls d G => EX cls d σ G) := by
  unfold foV at g
  split at g
  · rename_i hn
    have S0 := stt_args (xc := p.xc) S.sub hv
    have S1 : Stt (pmF p.K p.xc (.ref (p.xc (1000 + k)) :: vs)) R H (fun _ => False) ((V.ref (p.xc (1000 + k)) :: vs).map some) (.fv k :: ds.map .im) := by
      refine ⟨S.sub, fun c z => z.elim, fun c z => z.elim, by have := S0.len; simp at this ⊢; exact this, fun j d q => ?_, fun j c es q => ?_, fun j y w q hw => ?_, fun j l c c' es fs x q1 q2 _ _ => ?_, fun j tag d q => ?_⟩
      · cases j with
        | zero => cases q
        | succ j => exact S0.im j d q
      · cases j with
        | zero => cases q
        | succ j => obtain ⟨_, _, _, z, _⟩ := S0.ow j c es q; exact z.elim
      · cases j with
        | zero => cases q; cases hw; rfl
        | succ j =>
          have q : (ds.map Sl.im)[j]? = some y := q
          rw [List.getElem?_map] at q
          cases qq : ds[j]? with
          | none => rw [qq] at q; cases q
          | some d' => rw [qq] at q; cases Option.some.inj q; cases hw
      · cases j with
        | zero => cases q1
        | succ j => obtain ⟨_, _, _, z, _⟩ := S0.ow j c es q1; exact z.elim
      · cases j with
        | zero => cases q
        | succ j => obtain ⟨_, _, _, _, z, _⟩ := S0.xn j tag d q; cases z
    refine ⟨by rw [List.length_cons, dpAll_len hv]; exact hn, R, fun _ => False, _, S1, ?_⟩
    have back : ∀ {R' H' : Hp} {O' : As} {as : List Sl}, Stt (pmF p.K p.xc (.ref (p.xc (1000 + k)) :: vs)) R' H' O' ((V.ref (p.xc (1000 + k)) :: vs).map some) as → Tr R H (fun _ => False) R' H' O' → Stt p R' H' (fun b => O b ∨ O' b) σ ρ ∧ Tr R H O R' H' (fun b => O b ∨ O' b) := fun {R' H' O' as} S' T' =>
      ⟨S.behind (fun _ z => z.elim) T' S'.dis S'.al S'.sub (fun _ z => z.elim) fun _ _ _ _ _ _ z => z.elim, T'.more fun _ z => z.elim⟩
    cases e : m (.fv k :: ds.map .im) with
    | bad => rw [e] at g; exact g.elim
    | ex tag d as =>
      rw [e] at g
      intro dx v R' H' O' S' T' fx hx no hd
      obtain ⟨S2, T2⟩ := back S' T'
      exact g dx v R' H' _ S2 T2 fx hx (fun z => z.elim (fun z => S.al dx z fx) no) hd
    | rt r as =>
      rw [e] at g
      cases r with
      | sl i => exact g.elim
      | im d =>
        intro v R' H' O' S' T' hr
        obtain ⟨S2, T2⟩ := back S' T'
        exact g v R' H' _ S2 T2 hr
      | fr es =>
        intro v R' H' O' S' T' hr
        obtain ⟨S2, T2⟩ := back S' T'
        obtain ⟨a, ws, rfl, oa, ha, hd, _⟩ := hr
        refine g _ R' H' _ S2 T2 ⟨a, ws, rfl, .inr oa, ha, hd, fun i b es' e1 e2 => ?_⟩
        obtain ⟨c, ys, q1, q2, q3, _⟩ := S.ow i b es' e1
        rw [q1] at e2; cases e2
        rcases T'.o a oa with z | z
        · exact z
        · rw [q3] at z; cases z
  · exact g.elim
/-- f(g, ..) where g is a def's name -/
def clV (n : Nat) (m : List Sl → Fo) (k : Nat) (F : Rho → Ou (List D)) : Rho → Ou Rs := fun ρ => bd (F ρ) (foV n m k)
theorem sem_clV {p : Pm} {EX : WX} {n k : Nat} {a : Addr} {m : List Sl → Fo} {t : TA} {F : Rho → Ou (List D)} (hk : p.xc (1000 + k) = a) (h : SemAD p EX t F) : SemE p EX (tCl (spF n p.K p.xc m) (atE EX) (tCons (tC (.ref a)) t)) (clV n m k F) := by
  subst hk
  intro R H O σ ρ Q S g
  exact h.use S g fun R' H' O' ρ' us ds S' T' hu g' => call_v S' hu g'
/-- f(x, ..) where the local x holds a def -/
def clVv (n : Nat) (m : List Sl → Fo) (i : Nat) (F : Rho → Ou (List D)) : Rho → Ou Rs := fun ρ => match ρ[i]? with
  | some (.fv k) => bd (F ρ) (foV n m k)
  | _ => .bad
theorem sem_clVv {p : Pm} {EX : WX} {n i : Nat} {m : List Sl → Fo} {t : TA} {F : Rho → Ou (List D)} (h : SemAD p EX t F) : SemE p EX (tCl (spF n p.K p.xc m) (atE EX) (tCons (tVar i) t)) (clVv n m i F) := by
  intro R H O σ ρ Q S g
  unfold clVv at g
  split at g
  · rename_i k e
    exact ⟨_, S.pn i _ _ e rfl, h.use S g fun R' H' O' ρ' us ds S' T' hu g' => call_v S' hu g'⟩
  · exact g.elim
/-- x(..) where the local x holds a def -/
def tCW (P : Program) (w : World) (K : PySem.W.Frag) (mg : Str → Option Value) (base : Heap) (lv i : Nat) (E : Sg → XK) (t : TA) : TE := fun σ H Q => ∃ (f : Addr) (fd : FuncData) (ps : List Str) (sp : Sp), σ[i]? = some (some (.ref f)) ∧ FnG P w K mg base lv f fd ps sp ∧ PySem.W.keepIn K (.ref f) = true ∧ Binds K fd ps [] ∧
  t σ H fun vs H1 => sp vs H1 Q (E σ)
theorem pe_cw {X : Cx} {lv i : Nat} {E : Sg → XK} {x : Str} {p pos : Pos} {e : Expr} {es : List Expr} {t : TA} (gd : X.A.guards = some []) (hr : Room lv X.A) (hN : X.N[i]? = some x) (hv : Vis X.env.scope x)
    (hx : ∀ σ, PassesAt (L2.CX X.prog X.w) X σ (E σ)) (ha : PA X (e :: es) t) (hd : (x == ("__debug__" : Str)) = false := by decide) (hcd : (x == ("__classdict__" : Str)) = false := by decide)
    (he : starEach (e :: es) X.env = (false, eval e X.env) :: starEach es X.env := by rfl) (hp : (backTo pos (starEach es X.env)).any (·.1) = false := by rfl) :
    PE X (.Call (.Name x p) (e :: es) [] pos) (tCW X.prog X.w X.K X.mg X.base lv i E t) := by
  refine ⟨fun pins s σ H Q I hh => ?_⟩
  obtain ⟨f, fd, ps, sp, hs, F, hk, hb, ht⟩ := hh
  have nm := (pe_var (X := X) (i := i) (x := x) (pos := p) hN hv hd hcd).run pins s σ H (fun v H1 => v = V.ref f ∧ H1 = H) I ⟨V.ref f, hs, rfl, rfl⟩
  refine wpAny_Call_Name_kw (thn nm fun u s1 ⟨v, H1, I1, rv, ev, eH⟩ => ?_)
  subst ev; subst eH
  cases rv
  refine PySem.W.callWith_K (h₀ := X.base) I1.ok.mod.kin hk (thn (ha.run pos pins s1 σ _ _ I1 ht) fun us s2 ⟨vs, H2, I2, r, q⟩ => ⟨I2.kIn, ?_⟩) he hp
  have hl : us.length = ps.length := by rw [← r.length]; exact F.len _ _ _ _ q
  have b := hb s2 us I2.kIn (by rw [List.append_nil]; exact hl)
  rw [List.append_nil] at b
  refine wpAny_call (codeAny_mono (F.go X.A X.stack s2 H2 ⟨us, []⟩ us vs Q (E σ) gd hr I2.env0 b r q) fun o s3 hq => ?_)
  cases o with
  | error z => exact hx σ pins H2 s2 z s3 I2 hq
  | ok fl => cases fl with
    | ret u => exact I2.after hq
    | next => exact False.elim hq
    | brk => exact False.elim hq
    | cont => exact False.elim hq
abbrev Tb := List (Nat × Nat × (List Sl → Fo))
def look (tb : Tb) (k : Nat) : Option (Nat × (List Sl → Fo)) := match tb with
  | [] => none
  | (j, n, m) :: r => if j = k then some (n, m) else look r k
/-- what is known of the defs that a name may hold -/
def TbOk (P : Program) (w : World) (K : PySem.W.Frag) (mg : Str → Option Value) (base : Heap) (lv : Nat) (xc : Nat → Addr) (tb : Tb) : Prop := ∀ k n m, look tb k = some (n, m) →
  ∃ fd ps, FnG P w K mg base lv (xc (1000 + k)) fd ps (spF n K xc m) ∧ PySem.W.keepIn K (.ref (xc (1000 + k))) = true ∧ Binds K fd ps []
theorem TbOk.nil {P : Program} {w : World} {K : PySem.W.Frag} {mg : Str → Option Value} {base : Heap} {lv : Nat} {xc : Nat → Addr} : TbOk P w K mg base lv xc [] := fun k n m h => by cases h
theorem TbOk.cons {P : Program} {w : World} {K : PySem.W.Frag} {mg : Str → Option Value} {base : Heap} {lv j n k : Nat} {m : List Sl → Fo} {xc : Nat → Addr} {tb : Tb} {a : Addr} {fd : FuncData} {ps : List Str} (hk : xc (1000 + k) = a) (F : FnG P w K mg base j a fd ps (spF n K xc m)) (hj : j ≤ lv)
    (kp : PySem.W.keepIn K (.ref a) = true) (b : Binds K fd ps []) (r : TbOk P w K mg base lv xc tb) : TbOk P w K mg base lv xc ((k, n, m) :: tb) := by
  subst hk
  intro k' n' m' h
  unfold look at h
  split at h
  · rename_i e
    subst e
    cases Option.some.inj h
    exact ⟨fd, ps, F.up hj, kp, b⟩
  · exact r k' n' m' h
def clW (i : Nat) (tb : Tb) (F : Rho → Ou (List D)) : Rho → Ou Rs := fun ρ => match ρ[i]? with
  | some (.fv k) => match look tb k with
    | some (n, m) => bd (F ρ) (foE n m)
    | none => .bad
  | _ => .bad
theorem sem_cw {p : Pm} {EX : WX} {P : Program} {w : World} {mg : Str → Option Value} {base : Heap} {lv i : Nat} {tb : Tb} {t : TA} {F : Rho → Ou (List D)} (ok : TbOk P w p.K mg base lv p.xc tb) (h : SemAD p EX t F) : SemE p EX (tCW P w p.K mg base lv i (atE EX) t) (clW i tb F) := by
  intro R H O σ ρ Q S g
  unfold clW at g
  split at g
  · rename_i k e
    split at g
    · rename_i n m el
      obtain ⟨fd, ps, G, kp, b⟩ := ok k n m el
      exact ⟨_, fd, ps, _, S.pn i _ _ e rfl, G, kp, b, h.use S g fun R' H' O' ρ' us ds S' T' hu g' => call_d S' hu g'⟩
    · exact g.elim
  · exact g.elim
theorem Stt.setv {p : Pm} {R H : Hp} {O : As} {σ : Sg} {ρ : Rho} {i : Nat} (S : Stt p R H O σ ρ) (k : Nat) : Stt p R H O (σ.set i (some (V.ref (p.xc (1000 + k))))) (ρ.set i (.fv k)) := by
  have other : ∀ {j : Nat}, i ≠ j → (σ.set i (some (V.ref (p.xc (1000 + k)))))[j]? = σ[j]? := fun h => List.getElem?_set_ne h
  refine ⟨S.sub, S.dis, S.al, by rw [List.length_set, List.length_set]; exact S.len, fun j d e => ?_, fun j b ds e => ?_, fun j y w e hw => ?_, fun j l b c ds es a e1 e2 q1 q2 => ?_, fun j tag d e => ?_⟩
  · rcases set_get e with ⟨rfl, z⟩ | ⟨n, z⟩
    · cases z
    · rw [other n]; exact S.im j d z
  · rcases set_get e with ⟨rfl, z⟩ | ⟨n, z⟩
    · cases z
    · rw [other n]; exact S.ow j b ds z
  · rcases set_get e with ⟨rfl, z⟩ | ⟨n, z⟩
    · subst z; cases hw
      have hi : i < (ρ.set i (.fv k)).length := (List.getElem?_eq_some_iff.mp e).1
      rw [List.length_set, S.len] at hi
      rw [List.getElem?_set_self hi]
    · rw [other n]; exact S.pn j y w z hw
  · rcases set_get e1 with ⟨rfl, z1⟩ | ⟨n1, z1⟩
    · cases z1
    · rcases set_get e2 with ⟨rfl, z2⟩ | ⟨n2, z2⟩
      · cases z2
      · rw [other n1] at q1; rw [other n2] at q2; exact S.inj j l b c ds es a z1 z2 q1 q2
  · rcases set_get e with ⟨rfl, z⟩ | ⟨n, z⟩
    · cases z
    · rw [other n]; exact S.xn j tag d z
/-- for x in (f, g, ..): .. -/
def forVL (i : Nat) (B : Rho → So) : List Nat → Rho → So
  | [], ρ => .nx ρ
  | k :: ks, ρ => match B (ρ.set i (.fv k)) with
    | .nx ρ2 => forVL i B ks ρ2
    | .ct ρ2 => forVL i B ks ρ2
    | .bk ρ2 => .nx ρ2
    | o => o
theorem sem_forV {p : Pm} {EX : WX} {t : TA} {ks : List Nat} {i : Nat} {tb : TS} {B : Rho → So} (ht : ∀ (σ : Sg) (H : Hp) (Q : List V → Hp → Prop), Q (ks.map fun k => V.ref (p.xc (1000 + k))) H → t σ H Q) (hz : ks.length ≤ sizeLine) (hb : SemS p EX tb B) :
    SemS p EX (tFor (iSq p.K (tTup t)) (gName i) tb) (forVL i B ks) := by
  intro R H O σ ρ E S g
  have hl : (ks.map fun k => V.ref (p.xc (1000 + k))).length = ks.length := List.length_map _
  generalize hvs : (ks.map fun k => V.ref (p.xc (1000 + k))) = vs at ht hl
  have gv : ∀ j, vs[j]? = ks[j]?.map fun k => V.ref (p.xc (1000 + k)) := fun j => by rw [← hvs, List.getElem?_map]
  refine .inr (ht σ H _ ⟨by rw [hl]; exact hz, fun q hq => ⟨q, rfl, ⟨vs, .inl (.inl upd_same)⟩, ?_⟩⟩)
  obtain ⟨S1, T1⟩ := S.grow (Grow.tup (vs := vs) S.sub hq)
  have g1 := GoodS.tr T1 g
  have hR : upd R q (.tup vs) q = some (.tup vs) := upd_same
  generalize upd R q (.tup vs) = R1 at S1 T1 g1 hR
  generalize upd H q (.tup vs) = H1 at S1 T1 g1
  refine ⟨fun j m σ' H' => m + j = ks.length ∧ j ≤ ks.length ∧ ∃ R' O' ρ', Stt p R' H' O' σ' ρ' ∧ Tr R1 H1 O R' H' O' ∧ GoodS p EX R' H' O' E (forVL i B (ks.drop j) ρ'),
    ⟨ks.length, by omega, Nat.zero_le _, R1, O, ρ, S1, .refl, g1⟩, fun j m σ' H' hW => ?_⟩
  obtain ⟨em, hj, R', O', ρ', S', T', g2⟩ := hW
  have sq : SqT p.K H' q vs := .inl (.inl (S'.sub _ _ (T'.r _ _ hR)))
  by_cases hjl : j < ks.length
  · have ek : ks[j]? = some ks[j] := List.getElem?_eq_getElem hjl
    have ev : vs[j]? = some (V.ref (p.xc (1000 + ks[j]))) := by rw [gv, ek]; rfl
    rw [List.drop_eq_getElem_cons hjl] at g2
    refine .inr ⟨⟨vs, _, sq, ev⟩, fun σ2 H2 => ∃ R2 O2 ρ2, Stt p R2 H2 O2 σ2 ρ2 ∧ Tr R1 H1 O R2 H2 O2 ∧ GoodS p EX R2 H2 O2 E (forVL i B (ks.drop (j + 1)) ρ2), fun σ2 H2 hN => ⟨m - 1, by omega, by omega, hjl, hN⟩, fun x H2 hy => ?_⟩
    obtain ⟨rfl, hy2⟩ := hy
    have ex := hy2 vs sq
    rw [ev] at ex; cases ex
    have S2 := S'.setv (i := i) ks[j]
    refine hb R' H2 O' _ _ _ S2 ?_
    unfold forVL at g2
    cases qb : B (ρ'.set i (.fv ks[j])) with
    | bad => rw [qb] at g2; exact g2
    | nx ρ2 => rw [qb] at g2; exact fun σ3 R3 H3 O3 S3 T4 => ⟨R3, O3, ρ2, S3, T'.trans T4, g2.tr T4⟩
    | ct ρ2 => rw [qb] at g2; exact fun σ3 R3 H3 O3 S3 T4 => ⟨R3, O3, ρ2, S3, T'.trans T4, g2.tr T4⟩
    | bk ρ2 => rw [qb] at g2; exact g2
    | rt r ρ2 => rw [qb] at g2; exact g2
    | ex t d ρ2 => rw [qb] at g2; exact g2
  · rw [List.drop_eq_nil_of_le (by omega)] at g2
    exact .inl ⟨⟨vs, sq, by rw [hl]; omega⟩, g2 σ' R' H' O' S' .refl⟩
end VL

namespace VL
open PySem PySem.Spec PyProof.Rows L2
/-! ### several except clauses, each with the name of the error -/
abbrev Ts3 := Addr → Value → Option Addr → TS
def wMs (K : PySem.W.Frag) (i : Nat) (Wout : WX) (D : Ends) : List (Value × Ts3) → WX
  | [] => Wout
  | (c, ts) :: r => wAs K c i ts (wMs K i Wout D r) D
inductive HdN (X : Cx) (n : Str) : List ExceptHandler → List (Value × Ts3) → Prop
  | nil : HdN X n [] []
  | cons {x : Str} {c : Value} {ts : Ts3} {b₀ : Stmt} {su : List Stmt} {np p2 : Pos} {hds : List ExceptHandler} {l : List (Value × Ts3)} (nm : Names X x c)
      (go : ∀ (a : Addr) (oe : Obj) (cls : Value) (d : Option Addr) (pn : List (Addr × Obj)), Zc cls d oe → (∃ vs, oe.data = .fields vs) → PSs (X.suite a ((a, oe) :: pn)) (b₀ :: su) (ts a cls d)) (r : HdN X n hds l) :
      HdN X n (.ExceptHandler (some (.Name x np)) (some n) (b₀ :: su) p2 :: hds) ((c, ts) :: l)
section
variable {X : Cx} {n : Str} {i : Nat} {body : List Stmt} {hd : ExceptHandler} {hds : List ExceptHandler} {l : List (Value × Ts3)} {pos : Pos} {tb : WX → TS} {Wout : WX}
/-- the flying error is none of the frames -/
theorem fly_apart {B : Heap} {e : Addr} {Z : Obj → Prop} {h : Heap} (hf : X.env.frame = some X.env.locals) (fl : HandSPX.FlyingZ B (X.env :: X.outer) e Z h) : e ≠ X.env.locals ∧ e ∉ X.fs := by
  obtain ⟨o, vs, g1, _, g2⟩ := fl.there
  have apart : e ∉ frs (X.env :: X.outer) := fun m => by
    obtain ⟨_, o2, g3, bad⟩ := fl.2.2.1.mem m
    rw [g1] at g3
    cases g3
    exact bad _ g2
  constructor
  · intro z
    refine apart (List.mem_filterMap.mpr ⟨X.env, List.mem_cons_self, ?_⟩)
    rw [hf, z]
  · intro m
    obtain ⟨v, mv, q⟩ := List.mem_filterMap.mp m
    exact apart (List.mem_filterMap.mpr ⟨v, List.mem_cons_of_mem _ mv, q⟩)
/-- the clauses in turn, when an error has been caught -/
theorem handle_ms {pins : List (Addr × Obj)} {D : Ends} {e : Addr} {B : Heap} {t0 t1 : Shared} {τ : Sg} {G : Hp} {cls : Value} {dd : Option Addr} {h : Heap}
    (ok : X.Ok) (hs : X.stack = X.env :: X.outer) (hf : X.env.frame = some X.env.locals) (hN : X.N.Nodup) (hi : X.N[i]? = some n) (hln : X.env.kindOf n = some .local) (tk : Takes X Wout)
    (J : Inv X pins τ G t0) (nb : ∀ (b : Addr) (o : Obj), t0.heap.get? b = some o → ¬b ∈ frs X.stack → B.get? b = some o) (fl : HandSPX.FlyingZ B (X.env :: X.outer) e (Zc cls dd) h) (ut : t0.heap.UpToSlots h)
    (na : G e = none) (os : t1.os = t0.os) (ag : AllBare t1.gens) (hh : HdN X n hds l) :
    wMs X.K i Wout D l cls dd τ G → wpAny (model X.prog X.w) X.A (handleBy (.ref e) X.env hds) (SP X pins D) X.xe { t1 with heap := h } := by
  obtain ⟨nL, nF⟩ := fly_apart hf fl
  have Jh : Inv X pins τ G { t1 with heap := h } := J.landed nb fl.1 ut os ag
  obtain ⟨o1, vs1, g1, z1, d1⟩ := fl.there
  have Sh := Jh.suite g1 d1 na nL nF
  induction hh with
  | nil =>
    intro w
    refine wpAny_handleBy_nil ?_
    obtain ⟨_, _, _, o2, vs2, T, _, _, g2, _, d2, f2, _⟩ := id fl
    unfold PySem.passOn
    refine wpAny_bind (wpAny_field g2 d2 f2 ?_)
    rw [if_neg (show ¬ ((Value.ref T == Value.none) = true) by simp)]
    have last : wpAny (model X.prog X.w) X.A (setFlight (.ref e) X.env.frame) (fun _ t => wpAny (model X.prog X.w) X.A (throw (.ref e) : PySem.Sem Flow) (SP X pins D) X.xe t) X.xe { t1 with heap := h } := by
      rw [hf]
      exact HandSPX.setFlight_upZ fl fun h2 hq u2 => wpAny_throw (tk _ _ ⟨e, B, t0, pins, τ, G, cls, dd, rfl, J, nb, ut.trans u2, .inr (.inr (by rw [hs]; exact hq)), na, os, ag, w⟩)
    first
      | exact wpAny_bind last
      | exact wpAny_bind (wpAny_pure (wpAny_bind last))
  | @cons x c ts b₀ su np p2 hds2 l2 nm go r ih =>
    intro w
    obtain ⟨b, eb, yes, no⟩ := w
    refine wpAny_handleBy_cons (codeAny_handlers_test ?_) (by intro z; cases z)
    have looks : PySem.W.Looks (model X.prog X.w) h (typeOf (.ref e)) cls := fun _ _ _ _ kk q => wpAny_typeOf_ref (kk _ _ g1) (by rw [z1.1]; exact q)
    have matching := PySem.W.exm_one (M := model X.prog X.w) Jh.kIn looks eb
    have named : ∀ {Q : Value → Shared → Prop} {E : Value → Shared → Prop}, Q c { t1 with heap := h } → wpAny (model X.prog X.w) (X.A.mark (some (.ref e))) (eval (.Name x np) X.env) Q E { t1 with heap := h } := by
      intro Q E q
      obtain ⟨gl, nd, m1 | ⟨m1, bv, nn⟩⟩ := nm
      · exact ld_glob (X := X.suite e ((e, o1) :: (X.pn ++ pins))) Sh gl m1 q nd
      · exact ld_blt (X := X.suite e ((e, o1) :: (X.pn ++ pins))) Sh gl m1 bv q nn nd
    refine named (matching.here ?_)
    cases b with
    | false => exact ih (no rfl)
    | true =>
      refine codeAny_handlers_suite_as (HandSPX.lands_againZ fl fun h2 fl2 u2 => ?_)
      have J2 : Inv X pins τ G { t1 with heap := h2 } := J.landed nb fl2.1 (ut.trans u2) os ag
      obtain ⟨o2, vs2, g2, z2, d2⟩ := fl2.there
      have S2 := J2.suite g2 d2 na nL nF
      refine store_ok (X := X.suite e ((e, o2) :: (X.pn ++ pins))) (v := .ref e) S2 hN hi (.inl hln) rfl (fun t5 S5 => ?_) (.inr hln)
      refine wpAny_mono ((go e o2 cls dd (X.pn ++ pins) z2 ⟨_, d2⟩).run [] t5 _ G _ S5 (yes rfl e na)) (fun fw t6 got => ?_) (fun _ _ z => z.elim)
      have out : ∀ {τ6 : Sg} {G6 : Hp} {Q : Shared → Prop}, Inv (X.suite e ((e, o2) :: (X.pn ++ pins))) [] τ6 G6 t6 → (∀ t7, Inv X pins (τ6.set i none) G6 t7 → Q t7) → wpAny (model X.prog X.w) X.A (do bindName X.env n .none; unbindBehindTheSuite X.env n p2) (fun _ t7 => Q t7) X.xe t6 :=
        fun {τ6 G6 Q} S6 q => gone_ok (S6.unsuite ok) hN hi hln q
      cases fw with
      | ret u =>
        obtain ⟨v6, τ6, G6, S6, r6, q6⟩ := got
        exact out S6 fun t7 J7 => ⟨_, _, _, J7, r6, q6⟩
      | next => obtain ⟨τ6, G6, S6, q6⟩ := got; exact out S6 fun t7 J7 => ⟨_, _, J7, q6⟩
      | brk => obtain ⟨τ6, G6, S6, q6⟩ := got; exact out S6 fun t7 J7 => ⟨_, _, J7, q6⟩
      | cont => obtain ⟨τ6, G6, S6, q6⟩ := got; exact out S6 fun t7 J7 => ⟨_, _, J7, q6⟩
theorem ps_try_ms (hs : X.stack = X.env :: X.outer) (hf : X.env.frame = some X.env.locals) (hN : X.N.Nodup) (hi : X.N[i]? = some n) (hln : X.env.kindOf n = some .local) (tk : Takes X Wout)
    (hb : ∀ (W : WX) (pn : List (Addr × Obj)) (xe : Value → Shared → Prop), Takes (X.tr pn xe) W → PassesOwn (model X.prog X.w) X.A X.env xe → PSs (X.tr pn xe) body (tb W)) (hh : HdN X n (hd :: hds) l) :
    PS X (.Try body (hd :: hds) [] [] pos) (fun D σ H => tb (wMs X.K i Wout D l) D σ H) := by
  refine ⟨fun pins s σ H D I hw => ?_⟩
  have ok := I.ok
  have fr : X.A.frames = some (X.env :: X.outer) := by rw [ok.frames, hs]
  refine wpAny_Try_except ?_
  let xe2 : Value → Shared → Prop := fun z t1 => wpAny (model X.prog X.w) X.A (noteFrame z X.env) (fun _ t2 => wpAny (model X.prog X.w) X.A (setFlight z none) (fun _ t3 => wpAny (model X.prog X.w) X.A (handleBy z X.env (hd :: hds)) (SP X pins D) X.xe t3) X.xe t2) X.xe t1
  have takes : Takes (X.tr (X.pn ++ pins) xe2) (wMs X.K i Wout D l) := by
    intro u t1 caught
    obtain ⟨e, B, t0, pins2, τ, G, cls, dd, rfl, J2, nb, up, sky, na, os, ag, w⟩ := caught
    have J : Inv X pins τ G t0 := J2.ofTry ok
    refine Sky.land Zc.steady fr hf (by rw [← hs]; exact sky) fun h fl u2 => ?_
    exact handle_ms ok hs hf hN hi hln tk J nb fl (up.trans u2) na os ag hh w
  refine wpAny_mono ((hb (wMs X.K i Wout D l) (X.pn ++ pins) xe2 takes PassesOwn.looking).run [] s σ H D (I.toTry _) hw) (fun fw t1 got => ?_) (fun _ _ z => z)
  cases fw with
  | next => obtain ⟨τ, G, J2, q⟩ := got; exact wpAny_execs_nil ⟨τ, G, J2.ofTry ok, q⟩
  | brk => obtain ⟨τ, G, J2, q⟩ := got; exact ⟨τ, G, J2.ofTry ok, q⟩
  | cont => obtain ⟨τ, G, J2, q⟩ := got; exact ⟨τ, G, J2.ofTry ok, q⟩
  | ret u => obtain ⟨v, τ, G, J2, r, q⟩ := got; exact ⟨v, τ, G, J2.ofTry ok, r, q⟩
end
/-! ### what they do to data -/
def tryM (i : Nat) (us : List (Nat × (Rho → So))) (B : Rho → So) : Rho → So := fun ρ => match B ρ with
  | .ex t d ρ' => if noXn ρ' = true ∧ pinned ρ' i = false ∧ i < ρ'.length then match us.lookup t with
    | some U => goneS i (U (ρ'.set i (.xn t d)))
    | none => .bad else .bad
  | o => o
theorem land_ok {p : Pm} {EX : WX} {t i : Nat} {C : Addr} (hC : p.xc t = C) {ts : Ts3} {U : Rho → So} (hu : ∀ a d, SemS (pmX p a (.ref C) d) EX0 (ts a (.ref C) d) U) {R' H' : Hp} {O' : As} {σ' : Sg} {ρ' : Rho} {dx : Addr} {v : V} {d : D} {E : Ends}
    (S' : Stt p R' H' O' σ' ρ') (hn : noXn ρ' = true) (hp : pinned ρ' i = false) (hi : i < ρ'.length) (hx : H' dx = some (.xd [(atS, v)])) (no : ¬ O' dx) (hv : Dp p.K R' v d) (g : GoodS p EX R' H' O' E (goneS i (U (ρ'.set i (.xn t d))))) (a : Addr) :
    ts a (.ref C) (some dx) { nx := fun σ H => E.nx (σ.set i none) H, rt := E.rt, bk := fun σ H => E.bk (σ.set i none) H, ct := fun σ H => E.ct (σ.set i none) H } (σ'.set i (some (.ref a))) H' := by
  have S2 : Stt (pmX p a (.ref C) (some dx)) R' H' O' (σ'.set i (some (.ref a))) (ρ'.set i (.xn t d)) := by
    have Sq : Stt (pmX p a (.ref C) (some dx)) R' H' O' σ' ρ' := S'.pm rfl rfl rfl hn
    have other : ∀ {j : Nat}, i ≠ j → (σ'.set i (some (V.ref a)))[j]? = σ'[j]? := fun h => List.getElem?_set_ne h
    refine ⟨Sq.sub, Sq.dis, Sq.al, by rw [List.length_set, List.length_set]; exact Sq.len, fun j d' q => ?_, fun j b ds q => ?_, fun j y w q hw => ?_, fun j k b c ds es x q1 q2 y1 y2 => ?_, fun j t' d' q => ?_⟩
    · rcases set_get q with ⟨_, z⟩ | ⟨n, z⟩
      · cases z
      · rw [other n]; exact Sq.im j d' z
    · rcases set_get q with ⟨_, z⟩ | ⟨n, z⟩
      · cases z
      · rw [other n]; exact Sq.ow j b ds z
    · rcases set_get q with ⟨_, z⟩ | ⟨n, z⟩
      · subst z; cases hw
      · rw [other n]; exact Sq.pn j y w z hw
    · rcases set_get q1 with ⟨_, z1⟩ | ⟨n1, z1⟩
      · cases z1
      · rcases set_get q2 with ⟨_, z2⟩ | ⟨n2, z2⟩
        · cases z2
        · rw [other n1] at y1; rw [other n2] at y2; exact Sq.inj j k b c ds es x z1 z2 y1 y2
    · rcases set_get q with ⟨rfl, z⟩ | ⟨n, z⟩
      · cases z
        refine ⟨?_, ?_, dx, v, rfl, no, hx, hv⟩
        · rw [List.getElem?_set_self (by rw [← Sq.len]; exact hi)]; rfl
        · show Value.ref C = .ref (p.xc t); rw [hC]
      · exact (noXn_at hn z).elim
  refine hu a (some dx) R' H' O' _ _ _ S2 ?_
  have fixS : ∀ {σ3 : Sg} {R3 H3 : Hp} {O3 : As} {ρ3 : Rho}, Stt (pmX p a (.ref C) (some dx)) R3 H3 O3 σ3 ρ3 → noXn (ρ3.set i .un) = true → Stt p R3 H3 O3 σ3 (ρ3.set i .un) := fun S3 h => (S3.put (i := i) (x := .un) (.inl rfl)).pm rfl rfl rfl h
  cases eu : U (ρ'.set i (.xn t d)) with
  | bad => rw [eu] at g; exact g
  | bk ρ3 => rw [eu] at g; exact g.elim
  | ct ρ3 => rw [eu] at g; exact g.elim
  | ex t' d' ρ3 => rw [eu] at g; exact g.elim
  | nx ρ3 =>
    rw [eu] at g
    have g : GoodS p EX R' H' O' E (if noXn (ρ3.set i .un) = true then .nx (ρ3.set i .un) else .bad) := g
    split at g
    · rename_i h3
      intro σ3 R3 H3 O3 S3 T3
      refine g (σ3.set i none) R3 H3 O3 ?_ T3
      have S4 := fixS S3 h3
      have S5 := set_none S4 (i := i) (by unfold pinned; cases q : (ρ3.set i .un)[i]? with
        | none => rfl
        | some y => rcases set_get q with ⟨_, z⟩ | ⟨n, _⟩
                    · subst z; rfl
                    · exact (n rfl).elim)
      rw [List.set_set] at S5
      exact S5
    · exact g.elim
  | rt r ρ3 =>
    rw [eu] at g
    cases r with
    | fr _ => exact g.elim
    | sl _ => exact g.elim
    | im d3 =>
      have g : GoodS p EX R' H' O' E (if noXn (ρ3.set i .un) = true then .rt (.im d3) (ρ3.set i .un) else .bad) := g
      split at g
      · rename_i h3
        exact fun v3 σ3 R3 H3 O3 S3 T3 hr => g v3 σ3 R3 H3 O3 (fixS S3 h3) T3 hr
      · exact g.elim
/-- the clauses as data; a clause's class is none of the later ones' -/
inductive HL (p : Pm) : List (Value × Ts3) → List (Nat × (Rho → So)) → Prop
  | nil : HL p [] []
  | cons {t : Nat} {C : Addr} {ts : Ts3} {U : Rho → So} {l : List (Value × Ts3)} {us : List (Nat × (Rho → So))} (hC : p.xc t = C) (te : PySem.W.exmOne p.K (.ref C) (.ref C) = some true)
      (ne : ∀ u ∈ us.map Prod.fst, PySem.W.exmOne p.K (.ref (p.xc u)) (.ref C) = some false) (hu : ∀ a d, SemS (pmX p a (.ref C) d) EX0 (ts a (.ref C) d) U) (r : HL p l us) : HL p ((.ref C, ts) :: l) ((t, U) :: us)
theorem look_mem {α : Type} {t : Nat} {U : α} : ∀ {us : List (Nat × α)}, us.lookup t = some U → t ∈ us.map Prod.fst
  | [], h => by cases h
  | (u, V) :: us, h => by
    rw [List.lookup_cons] at h
    split at h
    · rename_i e
      rw [show t = u by simpa using e]
      exact List.mem_cons_self
    · exact List.mem_cons_of_mem _ (look_mem h)
theorem hl_ok {p : Pm} {EX Wout : WX} {i t : Nat} {U : Rho → So} {R' H' : Hp} {O' : As} {σ' : Sg} {ρ' : Rho} {dx : Addr} {v : V} {d : D} {E : Ends}
    (S' : Stt p R' H' O' σ' ρ') (hn : noXn ρ' = true) (hp : pinned ρ' i = false) (hi : i < ρ'.length) (hx : H' dx = some (.xd [(atS, v)])) (no : ¬ O' dx) (hv : Dp p.K R' v d) (g : GoodS p EX R' H' O' E (goneS i (U (ρ'.set i (.xn t d))))) :
    ∀ {l : List (Value × Ts3)} {us : List (Nat × (Rho → So))}, HL p l us → us.lookup t = some U → wMs p.K i Wout E l (.ref (p.xc t)) (some dx) σ' H'
  | _, _, .nil, h => by cases h
  | _, _, .cons (t := u) (C := C) (ts := ts) (U := V) (l := l) (us := us) hC te ne hu r, h => by
    rw [List.lookup_cons] at h
    split at h
    · rename_i e
      have e : t = u := by simpa using e
      subst e
      cases Option.some.inj h
      rw [hC]
      exact ⟨true, te, fun _ a _ => land_ok hC hu S' hn hp hi hx no hv g a, fun z => Bool.noConfusion z⟩
    · exact ⟨false, ne t (look_mem h), fun z => Bool.noConfusion z, fun _ => hl_ok S' hn hp hi hx no hv g r h⟩
theorem sem_tryM {p : Pm} {EX : WX} {i : Nat} {Wout : WX} {tb : WX → TS} {l : List (Value × Ts3)} {us : List (Nat × (Rho → So))} {B : Rho → So} (hb : ∀ W, SemS p W (tb W) B) (hl : HL p l us) :
    SemS p EX (fun E σ H => tb (wMs p.K i Wout E l) E σ H) (tryM i us B) := by
  intro R H O σ ρ E S g
  refine hb _ R H O σ ρ E S ?_
  unfold tryM at g
  cases e : B ρ with
  | bad => rw [e] at g; exact g
  | nx ρ' => rw [e] at g; exact g
  | rt r ρ' => rw [e] at g; exact g
  | bk ρ' => rw [e] at g; exact g
  | ct ρ' => rw [e] at g; exact g
  | ex t d ρ' =>
    rw [e] at g
    dsimp only at g
    split at g
    · rename_i hh
      obtain ⟨hn, hp, hi⟩ := hh
      split at g
      · rename_i U eU
        intro dx v σ' R' H' O' S' T' fx hx no hv
        exact hl_ok S' hn hp hi hx no hv (g.tr T') hl eU
      · exact g.elim
    · exact g.elim
/-- an error of the class at C is none of the one at S -/
theorem exm_not {K : PySem.W.Frag} {C S : Addr} (h1 : PySem.W.subIn K (.ref S) (.type "BaseException") = some true) (h2 : PySem.W.isClsIn K S = true) (h3 : PySem.W.typeIn K (.ref S) = some (.type "type")) (h4 : PySem.W.subIn K (.ref C) (.ref S) = some false) :
    PySem.W.exmOne K (.ref C) (.ref S) = some false := by
  have e1 : (PySem.W.subIn K (.ref S) (.type "BaseException") == some true) = true := by rw [h1] <;> rfl
  have e2 : ((PySem.W.clsIn K S).isSome && PySem.W.typeIn K (.ref S) == some (.type "type")) = true := by
    have h2' : (PySem.W.clsIn K S).isSome = true := h2
    rw [h2', h3] <;> rfl
  show (if (PySem.W.subIn K (.ref S) (.type "BaseException") == some true) = true then (if ((PySem.W.clsIn K S).isSome && PySem.W.typeIn K (.ref S) == some (.type "type")) = true then PySem.W.subIn K (.ref C) (.ref S) else none) else none) = some false
  rw [if_pos e1, if_pos e2]
  exact h4
/-- two stores at once, whatever is done with the two values -/
theorem sem_parG {p : Pm} {EX : WX} {i j : Nat} {t u : TE} {F G : Rho → Ou Rs} {Z : Ends → V → V → Sg → Hp → Prop} (hZ : ∀ (E : Ends) (v w : V) (σ : Sg) (R2 H2 : Hp) (O2 : As) (ρ3 : Rho), Stt p R2 H2 O2 ((σ.set i (some v)).set j (some w)) ρ3 → GoodS p EX R2 H2 O2 E (.nx ρ3) → Z E v w σ H2)
    (h : SemE p EX t F) (k : SemE p EX u G) : SemS p EX (fun E σ H => t σ H fun v H1 => u σ H1 fun w H2 => Z E v w σ H2) (parS i j F G) := by
  intro R H O σ ρ E S g
  refine h.nrm.useS S g fun R1 H1 O1 ρ1 v r S1 T1 hv g1 => ?_
  have fin : ∀ {R2 H2 : Hp} {O2 : As} {ρ2 : Rho} {w : V} {s : Rs}, Stt p R2 H2 O2 σ ρ2 → Rr p.K R2 H2 O2 σ ρ2 v r → Rr p.K R2 H2 O2 σ ρ2 w s → (∀ a, (∃ ds, r = .fr ds) → (∃ ds, s = .fr ds) → v = .ref a → w ≠ .ref a) → GoodS p EX R2 H2 O2 E (two i j r s ρ2) → Z E v w σ H2 := by
    intro R2 H2 O2 ρ2 w s S2 h1 h2 ap g2
    have nb : two i j r s ρ2 ≠ .bad := fun z => by rw [z] at g2; exact g2
    obtain ⟨p1, p2, ne, e⟩ := two_eq nb
    obtain ⟨n1, n2⟩ := two_ns nb
    rw [e] at g2
    have S3 := S2.res p1 h1 n1
    have h3 : Rr p.K R2 H2 O2 (σ.set i (some v)) (ρ2.set i (slOf r)) w s := by
      cases s with
      | im d => exact h2
      | sl k => exact (n2 k rfl).elim
      | fr ds =>
        obtain ⟨a, vs, rfl, oa, ha, hd, un⟩ := h2
        refine ⟨a, vs, rfl, oa, ha, hd, fun m b es q q2 => ?_⟩
        rcases set_get q with ⟨rfl, z⟩ | ⟨n, z⟩
        · cases r with
          | im d => cases z
          | sl k => exact (n1 k rfl).elim
          | fr es' =>
            have hi : i < σ.length := by
              have := (List.getElem?_eq_some_iff.mp q).1
              rw [List.length_set] at this; rw [← S2.len]; exact this
            rw [List.getElem?_set_self hi] at q2
            have q3 : v = .ref a := Option.some.inj (Option.some.inj q2)
            exact ap a ⟨_, rfl⟩ ⟨_, rfl⟩ q3 rfl
        · rw [List.getElem?_set_ne n] at q2; exact un m b es z q2
    exact hZ E v w σ R2 H2 O2 _ (S3.res (set_pin p2) h3 n2) g2
  cases r with
  | sl m =>
    refine k.nrm.useS S1 g1 fun R2 H2 O2 ρ2 w s S2 T2 hw g2 => ?_
    have nb : two i j (.sl m) s ρ2 ≠ .bad := fun z => by rw [z] at g2; exact g2
    exact ((two_ns nb).1 m rfl).elim
  | im d => exact k.nrm.useS S1 g1 fun R2 H2 O2 ρ2 w s S2 T2 hw g2 => fin S2 (T2.dp hv) hw (fun a z => by obtain ⟨ds, z⟩ := z; cases z) g2
  | fr ds =>
    obtain ⟨a, vs, rfl, oa, ha, hd, un⟩ := hv
    have Sl1 := S1.less un
    have na := S1.dis a oa
    refine k.nrm R1 H1 _ σ ρ1 _ Sl1 ?_
    show Good p EX (Rr p.K) R1 H1 (fun b => O1 b ∧ b ≠ a) σ _ (nrm (G ρ1))
    have g1 : GoodS p EX R1 H1 O1 E (bs (nrm (G ρ1)) fun s ρ2 => two i j (.fr ds) s ρ2) := g1
    cases e : nrm (G ρ1) with
    | bad => rw [e] at g1; exact g1.elim
    | ex tg d ρ2 =>
      rw [e] at g1
      intro dx x R2 H2 O2 S2 T2 fx hx no hd2
      obtain ⟨S3, T3, _⟩ := S2.back (vs := []) T2 ha na (fun z => z.2 rfl) (fun w z => by cases z) (fun b z => z.1) oa
      exact g1 dx x σ R2 H2 _ S3 T3 fx hx (fun z => z.elim no fun z => by subst z; rw [fx] at ha; cases ha) hd2
    | ok s ρ2 =>
      rw [e] at g1
      intro w R2 H2 O2 S2 T2 hw
      obtain ⟨S3, T3, h3, r3, o3⟩ := S2.back (vs := []) T2 ha na (fun z => z.2 rfl) (fun w z => by cases z) (fun b z => z.1) oa
      have un2 : ∀ (m : Nat) b es, ρ2[m]? = some (.ow b es) → σ[m]? ≠ some (some (.ref a)) := fun m b es q q2 => by
        obtain ⟨c, ws, y1, y2, _⟩ := S2.ow m b es q
        rw [y1] at q2; cases q2; exact o3 y2
      refine fin S3 ⟨a, vs, rfl, .inr rfl, h3, T2.dps hd, un2⟩ ?_ (fun c _ hs z1 z2 => ?_) (GoodS.tr T3 g1)
      · cases s with
        | im d => exact hw
        | sl m => exact hw
        | fr es =>
          obtain ⟨c, ws, rfl, oc, hc, hd2, un3⟩ := hw
          exact ⟨c, ws, rfl, .inl oc, hc, hd2, un3⟩
      · obtain ⟨es, rfl⟩ := hs
        obtain ⟨c', ws, e1, oc, _⟩ := hw
        cases z1
        rw [e1] at z2; cases z2
        exact o3 oc
/-- a, b = x, y where a name is a cell: by the pair itself -/
theorem sem_parU {p : Pm} {EX : WX} {i j : Nat} {t u : TE} {F G : Rho → Ou Rs} (h : SemE p EX t F) (k : SemE p EX u G) : SemS p EX (tAsg (tTup (tCons t (tCons u tNil))) (gU p.K 2 (gCons (gName i) (gCons (gName j) gNil)))) (parS i j F G) := by
  refine sem_parG (Z := fun E v w σ H2 => [v, w].length ≤ sizeLine ∧ ∀ q, H2 q = none → gU p.K 2 (gCons (gName i) (gCons (gName j) gNil)) (V.ref q) σ (upd H2 q (.tup [v, w])) E.nx) (fun E v w σ R2 H2 O2 ρ3 S3 g => ⟨by show 2 ≤ sizeLine; decide +kernel, fun q hq => ?_⟩) h k
  obtain ⟨S4, T4⟩ := S3.laid (o := .tup [v, w]) hq
  exact .inl ⟨q, [v, w], rfl, .inl (.inl upd_same), rfl, v, [w], rfl, w, [], rfl, rfl, g _ _ _ _ S4 T4⟩
/-- a, b, c = x, y, z: all data -/
def par3O (i j l : Nat) (ds : List D) (ρ : Rho) : So := match ds with
  | [a, b, c] => if pinned ρ i = true ∨ pinned ρ j = true ∨ pinned ρ l = true then .bad else .nx (((ρ.set i (.im a)).set j (.im b)).set l (.im c))
  | _ => .bad
def par3S (i j l : Nat) (F : Rho → Ou (List D)) : Rho → So := fun ρ => bs (F ρ) (par3O i j l)
theorem pin_set {ρ : Rho} {i j : Nat} {d : D} (h : pinned ρ j = false) : pinned (ρ.set i (.im d)) j = false := set_pin (r := .im d) h
theorem sem_par3 {p : Pm} {EX : WX} {i j l : Nat} {t : TA} {F : Rho → Ou (List D)} (h : SemAD p EX t F) : SemS p EX (tPar3 i j l t) (par3S i j l F) := by
  intro R H O σ ρ E S g
  refine h.useS S g fun R1 H1 O1 ρ1 vs ds S1 T1 hv g1 => ?_
  unfold par3O at g1
  split at g1
  · rename_i a b c
    split at g1
    · exact g1.elim
    · rename_i hh
      have h1 : pinned ρ1 i = false := by cases q : pinned ρ1 i with | false => rfl | true => exact (hh (.inl q)).elim
      have h2 : pinned ρ1 j = false := by cases q : pinned ρ1 j with | false => rfl | true => exact (hh (.inr (.inl q))).elim
      have h3 : pinned ρ1 l = false := by cases q : pinned ρ1 l with | false => rfl | true => exact (hh (.inr (.inr q))).elim
      cases hv with
      | cons da h4 => cases h4 with
        | cons db h5 => cases h5 with
          | cons dc h6 =>
            cases h6
            refine ⟨_, _, _, rfl, g1 _ R1 H1 O1 ?_ .refl⟩
            have A := S1.store h1 (.inl ⟨_, rfl, da⟩)
            have B := A.store (pin_set h2) (.inl ⟨_, rfl, db⟩)
            exact B.store (pin_set (pin_set h3)) (.inl ⟨_, rfl, dc⟩)
  · exact g1.elim
end VL

namespace VL
open PySem PySem.Spec PyProof.Rows L2
/-! ### several stores at once, lists of their own among them -/
def Ap (a : Addr) : List V → List Rs → Prop
  | v :: vs, r :: rs => (∀ ds, r = .fr ds → v ≠ .ref a) ∧ Ap a vs rs
  | _, _ => True
def RL (K : PySem.W.Frag) (R H : Hp) (O : As) (σ : Sg) (ρ : Rho) : List V → List Rs → Prop
  | [], [] => True
  | v :: vs, r :: rs => Rr K R H O σ ρ v r ∧ (∀ i, r ≠ .sl i) ∧ (∀ ds a, r = .fr ds → v = .ref a → Ap a vs rs) ∧ RL K R H O σ ρ vs rs
  | _, _ => False
theorem RL.more {K : PySem.W.Frag} {R H : Hp} {O P : As} {σ : Sg} {ρ : Rho} (le : ∀ b, O b → P b) : ∀ {vs : List V} {rs : List Rs}, RL K R H O σ ρ vs rs → RL K R H P σ ρ vs rs
  | [], [], _ => True.intro
  | v :: vs, r :: rs, h => by
    refine ⟨?_, h.2.1, h.2.2.1, RL.more le h.2.2.2⟩
    have h1 := h.1
    cases r with
    | im d => exact h1
    | sl i => exact h1
    | fr ds => obtain ⟨a, ws, e, oa, q⟩ := h1; exact ⟨a, ws, e, le a oa, q⟩
  | [], _ :: _, h => h.elim
  | _ :: _, [], h => h.elim
theorem RL.ap {K : PySem.W.Frag} {R H : Hp} {O : As} {σ : Sg} {ρ : Rho} {a : Addr} (na : ¬ O a) : ∀ {vs : List V} {rs : List Rs}, RL K R H O σ ρ vs rs → Ap a vs rs
  | [], [], _ => True.intro
  | v :: vs, r :: rs, h => by
    refine ⟨fun ds e z => ?_, RL.ap na h.2.2.2⟩
    have h1 := h.1
    subst e; subst z
    obtain ⟨c, ws, e, oc, _⟩ := h1
    cases e
    exact na oc
  | [], _ :: _, h => h.elim
  | _ :: _, [], h => h.elim
theorem RL.len {K : PySem.W.Frag} {R H : Hp} {O : As} {σ : Sg} {ρ : Rho} : ∀ {vs : List V} {rs : List Rs}, RL K R H O σ ρ vs rs → vs.length = rs.length
  | [], [], _ => rfl
  | v :: vs, r :: rs, h => by rw [List.length_cons, List.length_cons, RL.len h.2.2.2]
  | [], _ :: _, h => h.elim
  | _ :: _, [], h => h.elim
abbrev SemL (p : Pm) (EX : WX) : TA → (Rho → Ou (List Rs)) → Prop := Sem p EX (fun R H O σ ρ vs rs => RL p.K R H O σ ρ vs rs)
def nilL : Rho → Ou (List Rs) := fun ρ => .ok [] ρ
def addL (r : Rs) (o : Ou (List Rs)) : Ou (List Rs) := bd o fun rs ρ2 => .ok (r :: rs) ρ2
def consL (Fa : Rho → Ou Rs) (Fr : Rho → Ou (List Rs)) : Rho → Ou (List Rs) := fun ρ => bd (nrm (Fa ρ)) fun r ρ1 => match r with
  | .sl _ => .bad
  | r => addL r (Fr ρ1)
theorem sem_nilL {p : Pm} {EX : WX} : SemL p EX tNil nilL := fun R H O σ ρ Q S g => g [] R H O S .refl True.intro
theorem sem_consL {p : Pm} {EX : WX} {t : TE} {u : TA} {F : Rho → Ou Rs} {G : Rho → Ou (List Rs)} (h : SemE p EX t F) (k : SemL p EX u G) : SemL p EX (tCons t u) (consL F G) := by
  intro R H O σ ρ Q S g
  refine h.nrm.use (G := fun r ρ1 => match r with | .sl _ => .bad | r => addL r (G ρ1)) S g fun R1 H1 O1 ρ1 v r S1 T1 hv g1 => ?_
  cases r with
  | sl m => exact g1.elim
  | im d =>
    refine k.use (G := fun rs ρ2 => .ok (.im d :: rs) ρ2) S1 g1 fun R2 H2 O2 ρ2 ws rs S2 T2 hw g2 => ?_
    exact g2 (v :: ws) R2 H2 O2 S2 .refl ⟨T2.dp hv, fun _ z => (nomatch z), fun _ _ z => (nomatch z), hw⟩
  | fr ds =>
    obtain ⟨a, vs, rfl, oa, ha, hd, un⟩ := hv
    have Sl1 := S1.less un
    have na := S1.dis a oa
    refine k R1 H1 _ σ ρ1 _ Sl1 ?_
    have g1 : Good p EX (fun R H O σ ρ vs rs => RL p.K R H O σ ρ vs rs) R1 H1 O1 σ Q (addL (.fr ds) (G ρ1)) := g1
    cases e : G ρ1 with
    | bad => rw [e] at g1; exact g1.elim
    | ex tg d ρ2 =>
      rw [e] at g1
      intro dx x R2 H2 O2 S2 T2 fx hx no hd2
      obtain ⟨S3, T3, _⟩ := S2.back (vs := []) T2 ha na (fun z => z.2 rfl) (fun w z => by cases z) (fun b z => z.1) oa
      exact g1 dx x R2 H2 _ S3 T3 fx hx (fun z => z.elim no fun z => by subst z; rw [fx] at ha; cases ha) hd2
    | ok rs ρ2 =>
      rw [e] at g1
      intro ws R2 H2 O2 S2 T2 hw
      obtain ⟨S3, T3, h3, r3, o3⟩ := S2.back (vs := []) T2 ha na (fun z => z.2 rfl) (fun w z => by cases z) (fun b z => z.1) oa
      have un2 : ∀ (m : Nat) b es, ρ2[m]? = some (.ow b es) → σ[m]? ≠ some (some (.ref a)) := fun m b es q q2 => by
        obtain ⟨c, ws, y1, y2, _⟩ := S2.ow m b es q
        rw [y1] at q2; cases q2; exact o3 y2
      exact g1 (.ref a :: ws) R2 H2 _ S3 T3 ⟨⟨a, vs, rfl, .inr rfl, h3, T2.dps hd, un2⟩, fun _ z => (nomatch z), fun ds' c _ ec => by cases ec; exact hw.ap o3, hw.more fun b z => .inl z⟩
def setL : List Nat → List Rs → Rho → Rho
  | i :: is, r :: rs, ρ => setL is rs (ρ.set i (slOf r))
  | _, _, ρ => ρ
def setV : List Nat → List V → Sg → Sg
  | i :: is, v :: vs, σ => setV is vs (σ.set i (some v))
  | _, _, σ => σ
theorem RL.set {p : Pm} {R H : Hp} {O : As} {σ : Sg} {ρ : Rho} {i : Nat} {v : V} {r : Rs} (S : Stt p R H O σ ρ) (ns : ∀ k, r ≠ .sl k) : ∀ {vs : List V} {rs : List Rs}, (∀ ds a, r = .fr ds → v = .ref a → Ap a vs rs) → RL p.K R H O σ ρ vs rs → RL p.K R H O (σ.set i (some v)) (ρ.set i (slOf r)) vs rs
  | [], [], _, _ => True.intro
  | w :: vs, s :: rs, ap, h => by
    refine ⟨?_, h.2.1, h.2.2.1, RL.set S ns (fun ds a e1 e2 => (ap ds a e1 e2).2) h.2.2.2⟩
    have h1 := h.1
    cases s with
    | im d => exact h1
    | sl k => exact (h.2.1 k rfl).elim
    | fr ds =>
      obtain ⟨a, ws, rfl, oa, ha, hd, un⟩ := h1
      refine ⟨a, ws, rfl, oa, ha, hd, fun m b es q q2 => ?_⟩
      rcases set_get q with ⟨rfl, z⟩ | ⟨n, z⟩
      · cases r with
        | im d => cases z
        | sl k => exact (ns k rfl).elim
        | fr es' =>
          have hi : i < σ.length := by
            have := (List.getElem?_eq_some_iff.mp q).1
            rw [List.length_set] at this; rw [← S.len]; exact this
          rw [List.getElem?_set_self hi] at q2
          have q3 : v = .ref a := Option.some.inj (Option.some.inj q2)
          exact (ap _ a rfl q3).1 _ rfl rfl
      · rw [List.getElem?_set_ne n] at q2; exact un m b es z q2
  | [], _ :: _, _, h => h.elim
  | _ :: _, [], _, h => h.elim
theorem Stt.setL {p : Pm} {R H : Hp} {O : As} : ∀ {is : List Nat} {vs : List V} {rs : List Rs} {σ : Sg} {ρ : Rho}, Stt p R H O σ ρ → (∀ i ∈ is, pinned ρ i = false) → RL p.K R H O σ ρ vs rs → Stt p R H O (setV is vs σ) (VL.setL is rs ρ)
  | [], _, _, _, _, S, _, _ => by unfold setV VL.setL; exact S
  | _ :: _, [], [], _, _, S, _, _ => by unfold setV VL.setL; exact S
  | i :: is, v :: vs, r :: rs, σ, ρ, S, np, h => by
    unfold setV VL.setL
    refine Stt.setL (S.res (np i List.mem_cons_self) h.1 h.2.1) (fun j hj => set_pin (np j (List.mem_cons_of_mem _ hj))) ?_
    exact RL.set S h.2.1 (fun ds a e1 e2 => h.2.2.1 ds a e1 e2) h.2.2.2
  | _ :: _, [], _ :: _, _, _, _, _, h => h.elim
  | _ :: _, _ :: _, [], _, _, _, _, h => h.elim
def parM (is : List Nat) (rs : List Rs) (ρ : Rho) : So := if rs.length = is.length ∧ (is.all fun i => !pinned ρ i) = true then .nx (setL is rs ρ) else .bad
def parN (is : List Nat) (F : Rho → Ou (List Rs)) : Rho → So := fun ρ => bs (F ρ) (parM is)
theorem sem_parN {p : Pm} {EX : WX} {is : List Nat} {t : TA} {F : Rho → Ou (List Rs)} {Z : Ends → List V → Sg → Hp → Prop} (hZ : ∀ (E : Ends) (vs : List V) (σ : Sg) (R2 H2 : Hp) (O2 : As) (ρ3 : Rho), vs.length = is.length → Stt p R2 H2 O2 (setV is vs σ) ρ3 → GoodS p EX R2 H2 O2 E (.nx ρ3) → Z E vs σ H2)
    (h : SemL p EX t F) : SemS p EX (fun E σ H => t σ H fun vs H1 => Z E vs σ H1) (parN is F) := by
  intro R H O σ ρ E S g
  refine h.useS S g fun R1 H1 O1 ρ1 vs rs S1 T1 hv g1 => ?_
  unfold parM at g1
  split at g1
  · rename_i hh
    refine hZ E vs σ R1 H1 O1 _ (by rw [hv.len]; exact hh.1) (S1.setL (fun i hi => ?_) hv) g1
    have := List.all_eq_true.mp hh.2 i hi
    simpa using this
  · exact g1.elim
theorem v3 {vs : List V} (h : vs.length = 3) : ∃ u v w, vs = [u, v, w] := by
  match vs, h with
  | [u, v, w], _ => exact ⟨u, v, w, rfl⟩
theorem sem_parN3 {p : Pm} {EX : WX} {i j l : Nat} {t : TA} {F : Rho → Ou (List Rs)} (h : SemL p EX t F) : SemS p EX (tPar3 i j l t) (parN [i, j, l] F) :=
  sem_parN (Z := fun E vs σ H1 => ∃ u v w, vs = [u, v, w] ∧ E.nx (((σ.set i (some u)).set j (some v)).set l (some w)) H1) (fun E vs σ R2 H2 O2 ρ3 hl S3 g => by
    obtain ⟨u, v, w, rfl⟩ := v3 hl
    exact ⟨u, v, w, rfl, g _ R2 H2 O2 S3 .refl⟩) h
/-- where a name is a cell: by the tuple itself -/
theorem sem_parU3 {p : Pm} {EX : WX} {i j l : Nat} {t : TA} {F : Rho → Ou (List Rs)} (h : SemL p EX t F) : SemS p EX (tAsg (tTup t) (gU p.K 3 (gCons (gName i) (gCons (gName j) (gCons (gName l) gNil))))) (parN [i, j, l] F) :=
  sem_parN (Z := fun E vs σ H1 => vs.length ≤ sizeLine ∧ ∀ q, H1 q = none → gU p.K 3 (gCons (gName i) (gCons (gName j) (gCons (gName l) gNil))) (V.ref q) σ (upd H1 q (.tup vs)) E.nx) (fun E vs σ R2 H2 O2 ρ3 hl S3 g => by
    obtain ⟨u, v, w, rfl⟩ := v3 hl
    refine ⟨by show 3 ≤ sizeLine; decide +kernel, fun q hq => ?_⟩
    obtain ⟨S4, T4⟩ := S3.laid (o := .tup [u, v, w]) hq
    exact .inl ⟨q, [u, v, w], rfl, .inl (.inl upd_same), rfl, u, [v, w], rfl, v, [w], rfl, w, [], rfl, rfl, g _ _ _ _ S4 T4⟩) h
end VL

namespace VL
open PySem PySem.Spec PyProof.Rows L2
/-! ### list(range(..)), tuple(range(..)) -/
theorem dp_rng {K : PySem.W.Frag} {R : Hp} (i : Int) : ∀ l : List Nat, DpAll K R (l.map fun k => V.int (i + (k : Nat))) (l.map fun k => PyData.int (i + (k : Nat)))
  | [] => .nil
  | _ :: l => .cons (.int _) (dp_rng i l)
def rgB (i j : Int) : Bool := decide (0 ≤ i) && decide (i ≤ 16777216) && decide (0 ≤ j) && decide (j ≤ 16777216)
theorem rgB_ok {i j : Int} (h : rgB i j = true) : RgOk i j := by
  unfold rgB at h
  simp only [Bool.and_eq_true, decide_eq_true_eq] at h
  exact RgOk.of_le h.1.1.1 h.2 h.1.1.2 h.1.2
def rgL1 (ds : List D) (ρ : Rho) : Ou Rs := match ds with
  | [.int j] => if rgB 0 j = true then .ok (.fr (rngD 0 j)) ρ else .bad
  | _ => .bad
def rgL1F (F : Rho → Ou (List D)) : Rho → Ou Rs := fun ρ => bd (F ρ) rgL1
def rgL2 (ds : List D) (ρ : Rho) : Ou Rs := match ds with
  | [.int i, .int j] => if rgB i j = true then .ok (.fr (rngD i j)) ρ else .bad
  | _ => .bad
def rgL2F (F : Rho → Ou (List D)) : Rho → Ou Rs := fun ρ => bd (F ρ) rgL2
def rgT1 (ds : List D) (ρ : Rho) : Ou Rs := match ds with
  | [.int j] => if rgB 0 j = true then .ok (.im (.tuple (rngD 0 j))) ρ else .bad
  | _ => .bad
def rgT1F (F : Rho → Ou (List D)) : Rho → Ou Rs := fun ρ => bd (F ρ) rgT1
def rgT2 (ds : List D) (ρ : Rho) : Ou Rs := match ds with
  | [.int i, .int j] => if rgB i j = true then .ok (.im (.tuple (rngD i j))) ρ else .bad
  | _ => .bad
def rgT2F (F : Rho → Ou (List D)) : Rho → Ou Rs := fun ρ => bd (F ρ) rgT2
section
variable {p : Pm} {EX : WX} {t u : TE} {F : Rho → Ou (List D)}
theorem rl_out {R H : Hp} {O : As} {σ : Sg} {ρ : Rho} {Q : VK} {i j : Int} (S : Stt p R H O σ ρ) (g : Good p EX (Rr p.K) R H O σ Q (.ok (.fr (rngD i j)) ρ)) : ∀ q, H q = none → Q (.ref q) (upd H q (.lst (rgV i j))) :=
  fun q hq => out_of (z := .fr (rngD i j)) S (fun _ z => nomatch z) g q (rgV i j) hq (dp_rng i _)
theorem rt_out {R H : Hp} {O : As} {σ : Sg} {ρ : Rho} {Q : VK} {i j : Int} (S : Stt p R H O σ ρ) (g : Good p EX (Rr p.K) R H O σ Q (.ok (.im (.tuple (rngD i j))) ρ)) : ∀ q, H q = none → Q (.ref q) (upd H q (.tup (rgV i j))) :=
  fun q hq => out_of (z := .im (.tuple (rngD i j))) S (fun _ z => nomatch z) g _ _ _ (Grow.tup S.sub hq) (.tup (.inl (.inl upd_same)) (dp_rng i _))
theorem sem_rgL1 (h : SemAD p EX (tCons t tNil) F) : SemE p EX (tLstRg (tRg1 t)) (rgL1F F) := by
  intro R H O σ ρ Q S g
  refine h.use (G := rgL1) (k := fun vs H2 => match vs with | [x] => ∃ j, x = .int j ∧ RgOk 0 j ∧ ∀ q, H2 q = none → Q (.ref q) (upd H2 q (.lst (rgV 0 j))) | _ => False) S g fun R1 H1 O1 ρ1 vs ds S1 T1 hv g1 => ?_
  unfold rgL1 at g1
  split at g1
  · rename_i j
    split at g1
    · rename_i hb
      cases hv with
      | cons h1 h2 => cases h2; cases h1; exact ⟨j, rfl, rgB_ok hb, rl_out S1 g1⟩
    · exact g1.elim
  · exact g1.elim
theorem sem_rgL2 (h : SemAD p EX (tCons t (tCons u tNil)) F) : SemE p EX (tLstRg (tRg2 t u)) (rgL2F F) := by
  intro R H O σ ρ Q S g
  refine h.use (G := rgL2) (k := fun vs H2 => match vs with | [x, y] => ∃ i j, x = .int i ∧ y = .int j ∧ RgOk i j ∧ ∀ q, H2 q = none → Q (.ref q) (upd H2 q (.lst (rgV i j))) | _ => False) S g fun R1 H1 O1 ρ1 vs ds S1 T1 hv g1 => ?_
  unfold rgL2 at g1
  split at g1
  · rename_i i j
    split at g1
    · rename_i hb
      cases hv with
      | cons h1 h2 => cases h2 with
        | cons h3 h4 => cases h4; cases h1; cases h3; exact ⟨i, j, rfl, rfl, rgB_ok hb, rl_out S1 g1⟩
    · exact g1.elim
  · exact g1.elim
theorem sem_rgT1 (h : SemAD p EX (tCons t tNil) F) : SemE p EX (tTupRg (tRg1 t)) (rgT1F F) := by
  intro R H O σ ρ Q S g
  refine h.use (G := rgT1) (k := fun vs H2 => match vs with | [x] => ∃ j, x = .int j ∧ RgOk 0 j ∧ ∀ q, H2 q = none → Q (.ref q) (upd H2 q (.tup (rgV 0 j))) | _ => False) S g fun R1 H1 O1 ρ1 vs ds S1 T1 hv g1 => ?_
  unfold rgT1 at g1
  split at g1
  · rename_i j
    split at g1
    · rename_i hb
      cases hv with
      | cons h1 h2 => cases h2; cases h1; exact ⟨j, rfl, rgB_ok hb, rt_out S1 g1⟩
    · exact g1.elim
  · exact g1.elim
theorem sem_rgT2 (h : SemAD p EX (tCons t (tCons u tNil)) F) : SemE p EX (tTupRg (tRg2 t u)) (rgT2F F) := by
  intro R H O σ ρ Q S g
  refine h.use (G := rgT2) (k := fun vs H2 => match vs with | [x, y] => ∃ i j, x = .int i ∧ y = .int j ∧ RgOk i j ∧ ∀ q, H2 q = none → Q (.ref q) (upd H2 q (.tup (rgV i j))) | _ => False) S g fun R1 H1 O1 ρ1 vs ds S1 T1 hv g1 => ?_
  unfold rgT2 at g1
  split at g1
  · rename_i i j
    split at g1
    · rename_i hb
      cases hv with
      | cons h1 h2 => cases h2 with
        | cons h3 h4 => cases h4; cases h1; cases h3; exact ⟨i, j, rfl, rfl, rgB_ok hb, rt_out S1 g1⟩
    · exact g1.elim
  · exact g1.elim
end
end VL

theorem L2.Room.u {k : Nat} {A : PySem.Around} (r : L2.Room k A) (n : Nat) (h : n ≤ 200 := by decide) : A.units + n < PySem.cLine := by have := r.un; omega
namespace VL
open PySem PySem.Spec PyProof.Rows L2
theorem ne_nil {K : PySem.W.Frag} {xc : Nat → Addr} {C : Addr} : ∀ u ∈ ([] : List Nat), PySem.W.exmOne K (.ref (xc u)) (.ref C) = some false := fun _ h => nomatch h
theorem ne_cons {K : PySem.W.Frag} {xc : Nat → Addr} {C : Addr} {t : Nat} {us : List Nat} (h : PySem.W.exmOne K (.ref (xc t)) (.ref C) = some false) (r : ∀ u ∈ us, PySem.W.exmOne K (.ref (xc u)) (.ref C) = some false) :
    ∀ u ∈ t :: us, PySem.W.exmOne K (.ref (xc u)) (.ref C) = some false := fun u hu => (List.mem_cons.mp hu).elim (fun e => by subst e; exact h) (r u)
def yesF : Rho → Ou Bool := fun ρ => .ok true ρ
theorem sem_yes {p : Pm} {EX : WX} : SemT p EX tYes yesF := fun R H O σ ρ Q S g => g true R H O S .refl rfl
theorem sem_tupleOf {p : Pm} {EX : WX} {ta : TE} {Fa : Rho → Ou Rs} (ha : SemE p EX ta Fa) : SemE p EX (tThen ta (kTup p.K)) (unF tupleD Fa) := sem_un (r := kTup p.K) (ta := ta) uv_tuple ha
theorem sem_neg {p : Pm} {EX : WX} {ta : TE} {Fa : Rho → Ou Rs} (ha : SemE p EX ta Fa) : SemE p EX (tUn (rU fun i => V.int (-i)) ta) (unF negD Fa) := sem_un (r := rU fun i => V.int (-i)) (ta := ta) uv_neg ha
theorem sem_isNO {p : Pm} {EX : WX} {t : TE} {F : Rho → Ou Rs} (h : SemE p EX t F) : SemE p EX (tOp (fun x y H Q => y = V.non ∧ Q (.bl (decide (x = V.non))) H) t (tC V.non)) (unF (isnD false) F) :=
  sem_un (r := fun x H Q => V.non = V.non ∧ Q (.bl (decide (x = .non))) H) (ta := t) (fun R H v d z Q m hv e o => by
    cases Option.some.inj e
    rw [non_iff hv]
    exact ⟨rfl, o _ R H (.refl m) (.bl _)⟩) h
theorem sem_notNO {p : Pm} {EX : WX} {t : TE} {F : Rho → Ou Rs} (h : SemE p EX t F) : SemE p EX (tOp (fun x y H Q => y = V.non ∧ Q (.bl (!decide (x = V.non))) H) t (tC V.non)) (unF (isnD true) F) :=
  sem_un (r := fun x H Q => V.non = V.non ∧ Q (.bl (!decide (x = .non))) H) (ta := t) (fun R H v d z Q m hv e o => by
    cases Option.some.inj e
    rw [non_iff hv]
    exact ⟨rfl, o _ R H (.refl m) (.bl _)⟩) h
theorem pgn {X : Cx} {pos : Pos} {x : Str} (i : Nat) (nd : X.N.Nodup) (h : X.N[i]? = some x) (l : L2.Loc X.env.scope x) (f : X.fn x = true ∨ X.env.scope.names.lookup x = some .local) : PG X (.Name x pos) (gName i) := pg_name nd h l f
theorem pgc {X : Cx} {e : Expr} {es : List Expr} {t : TG} {u : TGs} (h : PG X e t) (k : PGs X es u) (q : List.map (fun x => x.snd) (assignEach (e :: es) X.env) = assign e X.env :: List.map (fun x => x.snd) (assignEach es X.env)) : PGs X (e :: es) (gCons t u) := pgs_cons h k q
theorem pgt {X : Cx} {pos : Pos} {es : List Expr} {k : Nat} {t : TGs} (K : PySem.W.Frag) (n : Nat) (h : PGs X es t) (c : X.calm = true) (l : (assignEach es X.env).length = n) (f : List.findIdx? (fun x => x.fst) (assignEach es X.env) = none) (e : X.K = K) : PG X (.Tuple es k pos) (gU K n t) := e ▸ pg_u c h l f
/-! the rules whose reading names the written part, that part given -/
section
variable {X : Cx} (K : PySem.W.Frag) (e : X.K = K)
include e
theorem k_add : OpR X (binaryOp .Add) (rAddA K) := e ▸ op_addA
theorem k_eq (h : X.A.units + 64 < cLine) : OpR X (compareOp .Eq) (rEqD K) := e ▸ op_eqD h
theorem k_ne (h : X.A.units + 64 < cLine) : OpR X (compareOp .NotEq) (rNeD K) := e ▸ op_neD h
theorem k_in (h : X.A.units + 65 < cLine) : OpR X (compareOp .In) (rInD K) := e ▸ op_inD h
theorem k_notin (h : X.A.units + 65 < cLine) : OpR X (compareOp .NotIn) (rNotInD K) := e ▸ op_notInD h
theorem k_ix : IxR X (rIx K) := e ▸ ix_seq
theorem k_sl : SlR X (rSlU K) := e ▸ sl_U
theorem k_len : CallR X (.builtin "len") (rLen K) := e ▸ call_lenA
theorem k_list : CallR X (.type "list") (rList K) := e ▸ call_listA
theorem k_max (h : X.calm = true) : CallR X (.builtin "max") (rMax K) := e ▸ cr_max h
theorem k_min (h : X.calm = true) : CallR X (.builtin "min") (rMin K) := e ▸ cr_min h
theorem k_any (h : X.calm = true) : CallR X (.builtin "any") (rAny K) := e ▸ cr_any h
theorem k_all (h : X.calm = true) : CallR X (.builtin "all") (rAll K) := e ▸ cr_all h
theorem k_repr (gd : X.A.guards = some []) (hu : X.A.units + 66 < cLine) : CallR X (.builtin "repr") (rRepr K) := e ▸ call_reprD gd hu
theorem k_isi : CallR X (.builtin "isinstance") (rIsi K) := e ▸ call_isi
theorem k_isiT : CallR X (.builtin "isinstance") (rIsiT K) := e ▸ call_isiT
theorem k_sq {tg l : Expr} {t : TE} (h : PE X l t) : PI X tg l (iSq K t) := e ▸ pi_sq h
end
theorem k_truth {X : Cx} {a : Expr} {ta : TE} (K : PySem.W.Frag) (e : X.K = K) (h : PE X a ta) (he : ∀ (whole : PySem.Sem Value), PySem.isTrue a X.env whole = do
    let v ← whole
    standAt a.pos
    holding [v] (truthy v)) : PT X a fun σ H Q => ta σ H fun x H' => ∃ k, TruV K x H' k ∧ Q k H' := e ▸ pt_truth h he
theorem k_stp {X : Cx} {e st : Expr} {te : TE} {ts : TO} {p3 pos : Pos} (K : PySem.W.Frag) (hK : X.K = K) (he : PE X e te) (hst : PO X (some st) ts) (hop : ∀ v r, subscripted (.Slice none none (some st) p3) false v r = operate [v, r] (getItem v r)) :
    PE X (.Subscript e (.Slice none none (some st) p3) pos) (tStp K te ts) := hK ▸ pe_stp he hst hop
theorem k_tuple {X : Cx} {a : Expr} {ta : TE} {p pos : Pos} (K : PySem.W.Frag) (hK : X.K = K) (hg : Gl X "tuple") (hm : X.mg "tuple" = none) (h : PE X a ta) (hs : starEach [a] X.env = (false, eval a X.env) :: starEach [] X.env) :
    PE X (.Call (.Name "tuple" p) [a] [] pos) (tThen ta (kTup K)) := hK ▸ pe_tupleOf hg hm h hs
theorem k_enum {X : Cx} {e : Expr} {ta : TA} {p pos tpos : Pos} {elts : List Expr} {kk : Nat} (K : PySem.W.Frag) (hK : X.K = K) (hg : Gl X "enumerate") (hm : X.mg "enumerate" = none) (h : PA X [e] ta) (hs : starEach [e] X.env = [(false, eval e X.env)]) :
    PI X (.Tuple elts kk tpos) (.Call (.Name "enumerate" p) [e] [] pos) (iEnumU K ta) := hK ▸ pi_enumU hg hm h hs
theorem k_cw {X : Cx} (P : Program) (w : World) (K : PySem.W.Frag) (mg : Str → Option Value) (base : Heap) (e1 : X.prog = P) (e2 : X.w = w) (e3 : X.K = K) (e4 : X.mg = mg) (e5 : X.base = base) {lv i : Nat} {E : Sg → XK} {x : Str} {p pos : Pos} {e : Expr} {es : List Expr} {t : TA} (gd : X.A.guards = some []) (hr : Room lv X.A) (hN : X.N[i]? = some x) (hv : Vis X.env.scope x)
    (hx : ∀ σ, PassesAt (L2.CX X.prog X.w) X σ (E σ)) (ha : PA X (e :: es) t) (hd : (x == ("__debug__" : Str)) = false := by decide) (hcd : (x == ("__classdict__" : Str)) = false := by decide)
    (he : starEach (e :: es) X.env = (false, eval e X.env) :: starEach es X.env := by rfl) (hp : (backTo pos (starEach es X.env)).any (·.1) = false := by rfl) :
    PE X (.Call (.Name x p) (e :: es) [] pos) (tCW P w K mg base lv i E t) := by
  subst e1 e2 e3 e4 e5
  exact pe_cw gd hr hN hv hx ha hd hcd he hp
namespace K06
/-! ### the defs of the text -/
def topS (i : Nat) : Stmt := PySem.Challenge.pw_cancelsback_k06_whole_merges_and_cuts.main.body.getD i (.Pass ⟨0, 0, 0, 0⟩)
abbrev s_is_integer : Stmt := topS 4
abbrev N_is_integer : List Str := ["value"]
theorem sc_is_integer : FnScope N_is_integer ["value"] (defScope s_is_integer) := ⟨rfl, rfl, rfl, by decide +kernel, rfl, by decide +kernel, by decide +kernel⟩
abbrev s_is_number : Stmt := topS 5
abbrev N_is_number : List Str := ["value"]
theorem sc_is_number : FnScope N_is_number ["value"] (defScope s_is_number) := ⟨rfl, rfl, rfl, by decide +kernel, rfl, by decide +kernel, by decide +kernel⟩
abbrev s_is_number_below : Stmt := topS 6
abbrev N_is_number_below : List Str := ["value", "limit"]
theorem sc_is_number_below : FnScope N_is_number_below ["value", "limit"] (defScope s_is_number_below) := ⟨rfl, rfl, rfl, by decide +kernel, rfl, by decide +kernel, by decide +kernel⟩
abbrev s_is_sequence : Stmt := topS 7
abbrev N_is_sequence : List Str := ["value"]
theorem sc_is_sequence : FnScope N_is_sequence ["value"] (defScope s_is_sequence) := ⟨rfl, rfl, rfl, by decide +kernel, rfl, by decide +kernel, by decide +kernel⟩
abbrev s_is_letter : Stmt := topS 8
abbrev N_is_letter : List Str := ["value"]
theorem sc_is_letter : FnScope N_is_letter ["value"] (defScope s_is_letter) := ⟨rfl, rfl, rfl, by decide +kernel, rfl, by decide +kernel, by decide +kernel⟩
abbrev s_text_or_none : Stmt := topS 9
abbrev N_text_or_none : List Str := ["value", "letter"]
theorem sc_text_or_none : FnScope N_text_or_none ["value"] (defScope s_text_or_none) := ⟨rfl, rfl, rfl, by decide +kernel, rfl, by decide +kernel, by decide +kernel⟩
abbrev s_need_text : Stmt := topS 10
abbrev N_need_text : List Str := ["value", "at", "text"]
theorem sc_need_text : FnScope N_need_text ["value", "at"] (defScope s_need_text) := ⟨rfl, rfl, rfl, by decide +kernel, rfl, by decide +kernel, by decide +kernel⟩
abbrev s_need_three_texts : Stmt := topS 11
abbrev N_need_three_texts : List Str := ["one", "other", "third"]
theorem sc_need_three_texts : FnScope N_need_three_texts ["one", "other", "third"] (defScope s_need_three_texts) := ⟨rfl, rfl, rfl, by decide +kernel, rfl, by decide +kernel, by decide +kernel⟩
abbrev s_undo_each_other : Stmt := topS 13
abbrev N_undo_each_other : List Str := ["one", "other"]
theorem sc_undo_each_other : FnScope N_undo_each_other ["one", "other"] (defScope s_undo_each_other) := ⟨rfl, rfl, rfl, by decide +kernel, rfl, by decide +kernel, by decide +kernel⟩
abbrev s_struck : Stmt := topS 14
abbrev N_struck : List Str := ["word", "left", "pair"]
theorem sc_struck : FnScope N_struck ["word"] (defScope s_struck) := ⟨rfl, rfl, rfl, by decide +kernel, rfl, by decide +kernel, by decide +kernel⟩
abbrev s_undone : Stmt := topS 15
abbrev N_undone : List Str := ["word", "letter", "sign"]
theorem sc_undone : FnScope N_undone ["word"] (defScope s_undone) := ⟨rfl, rfl, rfl, by decide +kernel, rfl, by decide +kernel, by decide +kernel⟩
abbrev s_word_of : Stmt := topS 17
abbrev N_word_of : List Str := ["text", "letter"]
theorem sc_word_of : FnScope N_word_of ["text"] (defScope s_word_of) := ⟨rfl, rfl, rfl, by decide +kernel, rfl, by decide +kernel, by decide +kernel⟩
abbrev s_product_by_turns : Stmt := topS 18
abbrev N_product_by_turns : List Str := ["texts", "word", "at", "text", "part"]
theorem sc_product_by_turns : FnScope N_product_by_turns ["texts"] (defScope s_product_by_turns) := ⟨rfl, rfl, rfl, by decide +kernel, rfl, by decide +kernel, by decide +kernel⟩
abbrev s_front_length : Stmt := topS 20
abbrev N_front_length : List Str := ["one", "other", "most", "at"]
theorem sc_front_length : FnScope N_front_length ["one", "other"] (defScope s_front_length) := ⟨rfl, rfl, rfl, by decide +kernel, rfl, by decide +kernel, by decide +kernel⟩
abbrev s_end_length : Stmt := topS 21
abbrev N_end_length : List Str := ["one", "other"]
theorem sc_end_length : FnScope N_end_length ["one", "other"] (defScope s_end_length) := ⟨rfl, rfl, rfl, by decide +kernel, rfl, by decide +kernel, by decide +kernel⟩
abbrev s_cut_bounds : Stmt := topS 22
abbrev N_cut_bounds : List Str := ["base", "mine", "yours"]
theorem sc_cut_bounds : FnScope N_cut_bounds ["base", "mine", "yours"] (defScope s_cut_bounds) := ⟨rfl, rfl, rfl, by decide +kernel, rfl, by decide +kernel, by decide +kernel⟩
abbrev s_merged : Stmt := topS 23
abbrev N_merged : List Str := ["base", "mine", "yours", "least", "greatest"]
theorem sc_merged : FnScope N_merged ["base", "mine", "yours"] (defScope s_merged) := ⟨rfl, rfl, rfl, by decide +kernel, rfl, by decide +kernel, by decide +kernel⟩
abbrev s_merge_texts : Stmt := topS 24
abbrev N_merge_texts : List Str := ["base", "mine", "yours"]
theorem sc_merge_texts : FnScope N_merge_texts ["base", "mine", "yours"] (defScope s_merge_texts) := ⟨rfl, rfl, rfl, by decide +kernel, rfl, by decide +kernel, by decide +kernel⟩
abbrev s_merge_cuts : Stmt := topS 25
abbrev N_merge_cuts : List Str := ["base", "mine", "yours", "least", "greatest"]
theorem sc_merge_cuts : FnScope N_merge_cuts ["base", "mine", "yours"] (defScope s_merge_cuts) := ⟨rfl, rfl, rfl, by decide +kernel, rfl, by decide +kernel, by decide +kernel⟩
abbrev s_merge_word : Stmt := topS 26
abbrev N_merge_word : List Str := ["base", "mine", "yours"]
theorem sc_merge_word : FnScope N_merge_word ["base", "mine", "yours"] (defScope s_merge_word) := ⟨rfl, rfl, rfl, by decide +kernel, rfl, by decide +kernel, by decide +kernel⟩
abbrev s_law_box : Stmt := topS 28
abbrev N_law_box : List Str := ["script", "k", "cell"]
theorem sc_law_box : FnScope N_law_box ["script", "k"] (defScope s_law_box) := ⟨rfl, rfl, rfl, by decide +kernel, rfl, by decide +kernel, by decide +kernel⟩
abbrev s_law_take : Stmt := topS 29
abbrev N_law_take : List Str := ["box", "many", "digit", "raw"]
theorem sc_law_take : FnScope N_law_take ["box", "many"] (defScope s_law_take) := ⟨rfl, rfl, rfl, by decide +kernel, rfl, by decide +kernel, by decide +kernel⟩
abbrev s_law_pick : Stmt := topS 30
abbrev N_law_pick : List Str := ["box", "some"]
theorem sc_law_pick : FnScope N_law_pick ["box", "some"] (defScope s_law_pick) := ⟨rfl, rfl, rfl, by decide +kernel, rfl, by decide +kernel, by decide +kernel⟩
abbrev s_law_word : Stmt := topS 31
abbrev N_law_word : List Str := ["texts", "word", "spot", "text", "sign", "letter"]
theorem sc_law_word : FnScope N_law_word ["texts"] (defScope s_law_word) := ⟨rfl, rfl, rfl, by decide +kernel, rfl, by decide +kernel, by decide +kernel⟩
abbrev s_law_text : Stmt := topS 32
abbrev N_law_text : List Str := ["texts", "word", "letter", "sign"]
theorem sc_law_text : FnScope N_law_text ["texts"] (defScope s_law_text) := ⟨rfl, rfl, rfl, by decide +kernel, rfl, by decide +kernel, by decide +kernel⟩
abbrev s_law_row : Stmt := topS 33
abbrev N_law_row : List Str := ["box", "letters", "longest", "spot"]
theorem sc_law_row : FnScope N_law_row ["box", "letters", "longest"] (defScope s_law_row) := ⟨rfl, rfl, rfl, by decide +kernel, rfl, by decide +kernel, by decide +kernel⟩
abbrev s_law_three : Stmt := topS 34
abbrev N_law_three : List Str := ["box", "letters", "row", "form", "base", "turn"]
theorem sc_law_three : FnScope N_law_three ["box", "letters"] (defScope s_law_three) := ⟨rfl, rfl, rfl, by decide +kernel, rfl, by decide +kernel, by decide +kernel⟩
abbrev s_law_refused : Stmt := topS 35
abbrev N_law_refused : List Str := ["work", "base", "mine", "yours", "e"]
theorem sc_law_refused : FnScope N_law_refused ["work", "base", "mine", "yours"] (defScope s_law_refused) := ⟨rfl, rfl, rfl, by decide +kernel, rfl, by decide +kernel, by decide +kernel⟩
abbrev s_law_cuts : Stmt := topS 36
abbrev N_law_cuts : List Str := ["base", "mine", "yours", "cuts", "came", "cut", "rest"]
theorem sc_law_cuts : FnScope N_law_cuts ["base", "mine", "yours"] (defScope s_law_cuts) := ⟨rfl, rfl, rfl, by decide +kernel, rfl, by decide +kernel, by decide +kernel⟩
abbrev s_law : Stmt := topS 37
abbrev N_law : List Str := ["script", "k", "box", "base", "mine", "yours", "cuts", "came", "due", "wrong", "work", "found", "text"]
theorem sc_law : FnScope N_law ["script"] (defScope s_law) := ⟨rfl, rfl, rfl, by decide +kernel, rfl, by decide +kernel, by decide +kernel⟩
/-! ### what they do to data -/
def G_is_integer : Rho → So := (retS (andV (unF (isiD "int") (varF 0)) (notV (unF (isiD "bool") (varF 0)))))
def m_is_integer : List Sl → Fo := mF 1 0 G_is_integer
def G_is_number : Rho → So := (retS (andV (clF 1 m_is_integer (consD (varF 0) nilD)) (opF geD (varF 0) (cF (.int 0)))))
def m_is_number : List Sl → Fo := mF 1 0 G_is_number
def G_is_number_below : Rho → So := (retS (andV (clF 1 m_is_number (consD (varF 0) nilD)) (opF ltD (varF 0) (varF 1))))
def m_is_number_below : List Sl → Fo := mF 2 0 G_is_number_below
def G_is_sequence : Rho → So := (retS (unF (isi2D "list" "tuple") (varF 0)))
def m_is_sequence : List Sl → Fo := mF 1 0 G_is_sequence
def G_is_letter : Rho → So := (retS (clF 2 m_is_number_below (consD (varF 0) (consD (cF (.int 100)) nilD))))
def m_is_letter : List Sl → Fo := mF 1 0 G_is_letter
def G_text_or_none : Rho → So := (seqS (iteS (notF (tstF (clF 1 m_is_sequence (consD (varF 0) nilD))))
  (retS (cF .none))
  nxS)
  (seqS (forS (seqI (varF 0)) (nameT 1)
  (iteS (notF (tstF (clF 1 m_is_letter (consD (varF 1) nilD))))
  (retS (cF .none))
  nxS))
  (retS (unF tupleD (varF 0)))))
def m_text_or_none : List Sl → Fo := mF 1 1 G_text_or_none
def G_need_text : Rho → So := (seqS (asgS 2 (clF 1 m_text_or_none (consD (varF 0) nilD)))
  (seqS (iteS (tstF (unF (isnD false) (varF 2)))
  (rseS 0 (consD (varF 1) nilD))
  nxS)
  (retS (varF 2))))
def m_need_text : List Sl → Fo := mF 2 1 G_need_text
def G_need_three_texts : Rho → So := (retS (tupF (consD (clF 2 m_need_text (consD (varF 0) (consD (cF (.int 0)) nilD))) (consD (clF 2 m_need_text (consD (varF 1) (consD (cF (.int 1)) nilD))) (consD (clF 2 m_need_text (consD (varF 2) (consD (cF (.int 2)) nilD))) nilD)))))
def m_need_three_texts : List Sl → Fo := mF 3 0 G_need_three_texts
def G_undo_each_other : Rho → So := (retS (andV (opF eqD (opF ixD (varF 0) (cF (.int 0))) (opF ixD (varF 1) (cF (.int 0)))) (opF neD (opF ixD (varF 0) (cF (.int 1))) (opF ixD (varF 1) (cF (.int 1))))))
def m_undo_each_other : List Sl → Fo := mF 2 0 G_undo_each_other
def G_struck : Rho → So := (seqS (asgS 1 (lstF nilD))
  (seqS (forS (seqI (varF 0)) (nameT 2)
  (iteS (andF (truF (varF 1)) (tstF (clF 2 m_undo_each_other (consD (opF ixD (varF 1) (unF negD (cF (.int 1)))) (consD (varF 2) nilD)))))
  (dropS (mutF popD 1 nilD))
  (dropS (mutF apD 1 (consD (varF 2) nilD)))))
  (retS (unF tupleD (varF 1)))))
def m_struck : List Sl → Fo := mF 1 2 G_struck
def G_undone : Rho → So := (retS (unF tupleD (lcF (seqI (stpF (varF 0) (parO (unF negD (cF (.int 1)))))) (tupU 2 (consT (nameT 1) (consT (nameT 2) nilT))) yesF (tupF (consD (varF 1) (consD (unF negD (varF 2)) nilD))) [1, 2])))
def m_undone : List Sl → Fo := mF 1 2 G_undone
def G_word_of : Rho → So := (retS (unF tupleD (lcF (seqI (varF 0)) (nameT 1) yesF (tupF (consD (varF 1) (consD (cF (.int 1)) nilD))) [1])))
def m_word_of : List Sl → Fo := mF 1 1 G_word_of
def G_product_by_turns : Rho → So := (seqS (asgS 1 (lstF nilD))
  (seqS (forS (enumUI (varF 0)) (tupU 2 (consT (nameT 2) (consT (nameT 3) nilT)))
  (seqS (asgS 4 (clF 1 m_word_of (consD (varF 3) nilD)))
  (dropS (mutF xtD 1 (consD (ifF (truF (opF modD (varF 2) (cF (.int 2)))) (clF 1 m_undone (consD (varF 4) nilD)) (varF 4)) nilD)))))
  (retS (clF 1 m_struck (consD (varF 1) nilD)))))
def m_product_by_turns : List Sl → Fo := mF 1 4 G_product_by_turns
def G_front_length : Rho → So := (seqS (asgS 2 (callF min2D (consF (callF lenD (consF (varF 0) nilF)) (consF (callF lenD (consF (varF 1) nilF)) nilF))))
  (seqS (forS (rng1I (varF 2)) (nameT 3)
  (iteS (tstF (opF neD (opF ixD (varF 0) (varF 3)) (opF ixD (varF 1) (varF 3))))
  (retS (varF 3))
  nxS))
  (retS (varF 2))))
def m_front_length : List Sl → Fo := mF 2 2 G_front_length
def G_end_length : Rho → So := (retS (clF 2 m_front_length (consD (stpF (varF 0) (parO (unF negD (cF (.int 1))))) (consD (stpF (varF 1) (parO (unF negD (cF (.int 1))))) nilD))))
def m_end_length : List Sl → Fo := mF 2 0 G_end_length
def G_cut_bounds : Rho → So := (retS (tupF (consD (opF subD (callF lenD (consF (varF 0) nilF)) (clF 2 m_end_length (consD (varF 0) (consD (varF 1) nilD)))) (consD (clF 2 m_front_length (consD (varF 0) (consD (varF 2) nilD))) nilD))))
def m_cut_bounds : List Sl → Fo := mF 3 0 G_cut_bounds
def G_merged : Rho → So := (seqS (tgS (tupU 2 (consT (nameT 3) (consT (nameT 4) nilT))) (clF 3 m_cut_bounds (consD (varF 0) (consD (varF 1) (consD (varF 2) nilD)))))
  (seqS (iteS (tstF (opF gtD (varF 3) (varF 4)))
  (retS (cF .none))
  nxS)
  (retS (opF addD (slF (varF 1) noO (parO (opF addD (opF subD (callF lenD (consF (varF 1) nilF)) (callF lenD (consF (varF 0) nilF))) (varF 3)))) (slF (varF 2) (parO (varF 3)) noO)))))
def m_merged : List Sl → Fo := mF 3 2 G_merged
def G_merge_texts : Rho → So := (seqS (tgS (tupU 3 (consT (nameT 0) (consT (nameT 1) (consT (nameT 2) nilT)))) (clF 3 m_need_three_texts (consD (varF 0) (consD (varF 1) (consD (varF 2) nilD)))))
  (retS (clF 3 m_merged (consD (varF 0) (consD (varF 1) (consD (varF 2) nilD))))))
def m_merge_texts : List Sl → Fo := mF 3 0 G_merge_texts
def G_merge_cuts : Rho → So := (seqS (tgS (tupU 3 (consT (nameT 0) (consT (nameT 1) (consT (nameT 2) nilT)))) (clF 3 m_need_three_texts (consD (varF 0) (consD (varF 1) (consD (varF 2) nilD)))))
  (seqS (tgS (tupU 2 (consT (nameT 3) (consT (nameT 4) nilT))) (clF 3 m_cut_bounds (consD (varF 0) (consD (varF 1) (consD (varF 2) nilD)))))
  (retS (rgT2F (consD (varF 3) (consD (opF addD (varF 4) (cF (.int 1))) nilD))))))
def m_merge_cuts : List Sl → Fo := mF 3 2 G_merge_cuts
def G_merge_word : Rho → So := (seqS (tgS (tupU 3 (consT (nameT 0) (consT (nameT 1) (consT (nameT 2) nilT)))) (clF 3 m_need_three_texts (consD (varF 0) (consD (varF 1) (consD (varF 2) nilD)))))
  (retS (clF 1 m_product_by_turns (consD (lstF (consD (varF 1) (consD (varF 0) (consD (varF 2) nilD)))) nilD))))
def m_merge_word : List Sl → Fo := mF 3 0 G_merge_word
def G_law_box : Rho → So := (seqS (asgS 2 (opF addD (opF mulD (cF (.int 41321)) (varF 1)) (cF (.int 3188))))
  (seqS (iteS (tstF (opF ltD (varF 1) (callF lenD (consF (varF 0) nilF))))
  (asgS 2 (callF absD (consF (opF ixD (varF 0) (varF 1)) nilF)))
  (iteS (tstF (opF gtD (callF lenD (consF (varF 0) nilF)) (cF (.int 0))))
  (asgS 2 (opF addD (varF 2) (opF mulD (opF modD (callF intOfD (consF (callF absD (consF (opF ixD (varF 0) (opF modD (callF intOfD (consF (varF 1) nilF)) (callF lenD (consF (varF 0) nilF)))) nilF)) nilF)) (cF (.int 2147483629))) (cF (.int 67103)))))
  nxS))
  (retS (lstF (consD (opF ixD (lstF (consD (cF (.int 0)) (consD (varF 2) nilD))) (callF intOfD (consF (opF geD (varF 2) (opF powD (cF (.int 10)) (cF (.int 18)))) nilF))) (consD (opF addD (opF modD (callF intOfD (consF (opF addD (opF mulD (opF modD (callF intOfD (consF (varF 2) nilF)) (cF (.int 2147483629))) (cF (.int 48271))) (opF mulD (cF (.int 50131)) (varF 1))) nilF)) (cF (.int 2147483629))) (cF (.int 1))) (consD (cF (.int 0)) nilD)))))))
def m_law_box : List Sl → Fo := mF 2 1 G_law_box
def G_law_take : Rho → So := (seqS (iteS (tstF (opF gtD (opF ixD (varF 0) (cF (.int 0))) (cF (.int 0))))
  (seqS (asgS 2 (opF modD (callF intOfD (consF (opF ixD (varF 0) (cF (.int 0))) nilF)) (varF 1)))
  (seqS (setS 0 (opF fdvD (opF ixD (varF 0) (cF (.int 0))) (varF 1)) (cF (.int 0)))
  (retS (varF 2))))
  nxS)
  (seqS (setS 0 (opF addD (opF ixD (varF 0) (cF (.int 2))) (cF (.int 1))) (cF (.int 2)))
  (seqS (asgS 3 (opF modD (callF intOfD (consF (opF addD (opF mulD (opF addD (opF ixD (varF 0) (cF (.int 1))) (opF mulD (cF (.int 101909)) (opF ixD (varF 0) (cF (.int 2))))) (cF (.int 67819))) (cF (.int 41))) nilF)) (cF (.int 2147483563))))
  (seqS (setS 0 (opF addD (opF modD (callF intOfD (consF (opF addD (opF mulD (varF 3) (cF (.int 39373))) (cF (.int 27901))) nilF)) (cF (.int 2147483629))) (cF (.int 1))) (cF (.int 1)))
  (retS (opF modD (callF intOfD (consF (opF fdvD (opF addD (opF mulD (varF 3) (cF (.int 2147483647))) (opF ixD (varF 0) (cF (.int 1)))) (cF (.int 8191))) nilF)) (varF 1)))))))
def m_law_take : List Sl → Fo := mF 2 2 G_law_take
def G_law_pick : Rho → So := (retS (opF ixD (varF 1) (clI 2 m_law_take 0 (consD (callF lenD (consF (varF 1) nilF)) nilD))))
def m_law_pick : List Sl → Fo := mF 2 0 G_law_pick
def G_law_word : Rho → So := (seqS (asgS 1 (lstF nilD))
  (seqS (forS (enumUI (varF 0)) (tupU 2 (consT (nameT 2) (consT (nameT 3) nilT)))
  (seqS (asgS 4 (opF subD (cF (.int 1)) (opF mulD (cF (.int 2)) (opF modD (varF 2) (cF (.int 2))))))
  (forS (seqI (stpF (varF 3) (parO (varF 4)))) (nameT 5)
  (iteS (andF (tstF (opF neD (varF 1) (lstF nilD))) (tstF (opF eqD (opF ixD (varF 1) (unF negD (cF (.int 1)))) (tupF (consD (varF 5) (consD (opF subD (cF (.int 0)) (varF 4)) nilD))))))
  (dropS (mutF popD 1 nilD))
  (dropS (mutF apD 1 (consD (tupF (consD (varF 5) (consD (varF 4) nilD))) nilD)))))))
  (retS (unF tupleD (varF 1)))))
def m_law_word : List Sl → Fo := mF 1 5 G_law_word
def G_law_text : Rho → So := (seqS (asgS 1 (clF 1 m_law_word (consD (varF 0) nilD)))
  (retS (ifF (tstF (opF (inDl false) (unF negD (cF (.int 1))) (lcF (seqI (varF 1)) (tupU 2 (consT (nameT 2) (consT (nameT 3) nilT))) yesF (varF 3) [2, 3]))) (cF .none) (unF tupleD (lcF (seqI (varF 1)) (tupU 2 (consT (nameT 2) (consT (nameT 3) nilT))) yesF (varF 2) [2, 3])))))
def m_law_text : List Sl → Fo := mF 1 3 G_law_text
def G_law_row : Rho → So := (retS (unF tupleD (lcF (rng1I (clI 2 m_law_take 0 (consD (opF addD (varF 2) (cF (.int 1))) nilD))) (nameT 3) yesF (opF ixD (tupF (consD (cF (.int 3)) (consD (cF (.int 47)) (consD (cF (.int 99)) nilD)))) (clI 2 m_law_take 0 (consD (varF 1) nilD))) [3])))
def m_law_row : List Sl → Fo := mF 3 1 G_law_row
def G_law_three : Rho → So := (seqS (asgS 2 (lcF (rng1I (cF (.int 6))) (nameT 5) yesF (clI 3 m_law_row 0 (consD (varF 1) (consD (cF (.int 3)) nilD))) [5]))
  (seqS (asgS 3 (clI 2 m_law_take 0 (consD (cF (.int 4)) nilD)))
  (seqS (iteS (tstF (opF eqD (varF 3) (cF (.int 0))))
  (retS (slF (varF 2) noO (parO (cF (.int 3)))))
  nxS)
  (seqS (asgS 4 (opF addD (opF addD (opF ixD (varF 2) (cF (.int 0))) (opF ixD (varF 2) (cF (.int 1)))) (opF ixD (varF 2) (cF (.int 2)))))
  (seqS (iteS (tstF (opF eqD (varF 3) (cF (.int 1))))
  (retS (lstF (consD (varF 4) (consD (opF addD (opF addD (opF ixD (varF 2) (cF (.int 0))) (opF ixD (varF 2) (cF (.int 3)))) (opF ixD (varF 2) (cF (.int 2)))) (consD (opF addD (opF addD (opF ixD (varF 2) (cF (.int 0))) (opF ixD (varF 2) (cF (.int 1)))) (opF ixD (varF 2) (cF (.int 4)))) nilD)))))
  nxS)
  (retS (lstF (consD (varF 4) (consD (opF addD (opF addD (opF ixD (varF 2) (cF (.int 3))) (opF ixD (varF 2) (cF (.int 1)))) (opF ixD (varF 2) (cF (.int 2)))) (consD (opF addD (opF addD (opF ixD (varF 2) (cF (.int 0))) (opF ixD (varF 2) (cF (.int 1)))) (opF ixD (varF 2) (cF (.int 4)))) nilD))))))))))
def m_law_three : List Sl → Fo := mF 2 4 G_law_three
def tb_law_refused : Tb := [(0, 3, m_merge_texts), (1, 3, m_merge_cuts), (2, 3, m_merge_word)]
def G_law_refused : Rho → So := (seqS (tryS 0 4 (dropS (clW 0 tb_law_refused (consD (varF 1) (consD (varF 2) (consD (varF 3) nilD)))))
  (retS (ifF (tstF (isBF 4 0)) (atF 4 0) (cF .none))))
  (retS (cF .none)))
def m_law_refused : List Sl → Fo := mF 4 1 G_law_refused
def G_law_cuts : Rho → So := (seqS (parS 3 4 (lstF nilD) (lstF nilD))
  (seqS (forS (rng1I (opF addD (callF lenD (consF (varF 0) nilF)) (cF (.int 1)))) (nameT 5)
  (seqS (asgS 6 (opF subD (callF lenD (consF (varF 0) nilF)) (varF 5)))
  (iteS (andF (tstF (opF leD (varF 6) (callF lenD (consF (varF 1) nilF)))) (andF (tstF (opF eqD (slF (varF 1) (parO (opF subD (callF lenD (consF (varF 1) nilF)) (varF 6))) noO) (slF (varF 0) (parO (varF 5)) noO))) (tstF (opF eqD (slF (varF 2) noO (parO (varF 5))) (slF (varF 0) noO (parO (varF 5)))))))
  (seqS (dropS (mutF apD 3 (consD (varF 5) nilD)))
  (dropS (mutF apD 4 (consD (opF addD (slF (varF 1) noO (parO (opF subD (callF lenD (consF (varF 1) nilF)) (varF 6)))) (slF (varF 2) (parO (varF 5)) noO)) nilD))))
  nxS)))
  (retS (tupF (consD (varF 3) (consD (varF 4) nilD))))))
def m_law_cuts : List Sl → Fo := mF 3 4 G_law_cuts
def G_law : Rho → So := (seqS (iteS (orF (tstF (opF neD (clKF 3 m_merge_texts [0, 1, 2] 0 3 nilD (consD (tupF (consD (cF (.int 1)) (consD (cF (.int 2)) (consD (cF (.int 2)) (consD (cF (.int 3)) nilD))))) (consD (tupF (consD (cF (.int 4)) (consD (cF (.int 2)) (consD (cF (.int 2)) (consD (cF (.int 3)) nilD))))) (consD (tupF (consD (cF (.int 1)) (consD (cF (.int 2)) (consD (cF (.int 2)) (consD (cF (.int 5)) nilD))))) nilD)))) (tupF (consD (cF (.int 4)) (consD (cF (.int 2)) (consD (cF (.int 2)) (consD (cF (.int 5)) nilD))))))) (tstF (unF (isnD true) (clF 3 m_merge_texts (consD (tupF (consD (cF (.int 1)) (consD (cF (.int 2)) nilD))) (consD (tupF (consD (cF (.int 1)) (consD (cF (.int 3)) nilD))) (consD (tupF (consD (cF (.int 1)) (consD (cF (.int 4)) nilD))) nilD)))))))
  (retS (cF (.bool false)))
  nxS)
  (seqS (iteS (orF (tstF (opF neD (clKF 3 m_merge_cuts [0, 1, 2] 0 3 nilD (consD (tupF (consD (cF (.int 1)) (consD (cF (.int 2)) (consD (cF (.int 2)) (consD (cF (.int 3)) nilD))))) (consD (tupF (consD (cF (.int 4)) (consD (cF (.int 2)) (consD (cF (.int 2)) (consD (cF (.int 3)) nilD))))) (consD (tupF (consD (cF (.int 1)) (consD (cF (.int 2)) (consD (cF (.int 2)) (consD (cF (.int 5)) nilD))))) nilD)))) (tupF (consD (cF (.int 1)) (consD (cF (.int 2)) (consD (cF (.int 3)) nilD)))))) (tstF (opF neD (clF 3 m_merge_texts (consD (tupF nilD) (consD (tupF (consD (cF (.int 7)) nilD)) (consD (tupF (consD (cF (.int 8)) nilD)) nilD)))) (tupF (consD (cF (.int 7)) (consD (cF (.int 8)) nilD))))))
  (retS (cF (.bool false)))
  nxS)
  (seqS (forS (rng1I (cF (.int 3))) (nameT 1)
  (seqS (asgS 2 (clF 2 m_law_box (consD (varF 0) (consD (varF 1) nilD))))
  (seqS (tgS (tupU 3 (consT (nameT 3) (consT (nameT 4) (consT (nameT 5) nilT)))) (clI 2 m_law_three 2 (consD (opF addD (cF (.int 1)) (clI 2 m_law_take 2 (consD (cF (.int 3)) nilD))) nilD)))
  (seqS (tgS (tupU 2 (consT (nameT 6) (consT (nameT 7) nilT))) (clF 3 m_law_cuts (consD (varF 3) (consD (varF 4) (consD (varF 5) nilD)))))
  (seqS (asgS 8 (clF 1 m_law_text (consD (lstF (consD (varF 4) (consD (varF 3) (consD (varF 5) nilD)))) nilD)))
  (seqS (iteS (orF (tstF (opF neSD (callF reprD (consF (clF 3 m_merge_cuts (consD (varF 3) (consD (callF listD (consF (varF 4) nilF)) (consD (varF 5) nilD)))) nilF)) (callF reprD (consF (unF tupleD (varF 6)) nilF)))) (tstF (opF neD (lcF (seqI (varF 7)) (nameT 12) (tstF (opF neD (varF 12) (varF 8))) (varF 12) [12]) (lstF nilD))))
  (retS (cF (.bool false)))
  nxS)
  (seqS (iteS (orF (tstF (opF neSD (callF reprD (consF (clF 3 m_merge_texts (consD (callF listD (consF (varF 3) nilF)) (consD (varF 4) (consD (callF listD (consF (varF 5) nilF)) nilD)))) nilF)) (callF reprD (consF (varF 8) nilF)))) (tstF (opF neD (unF (isnD false) (varF 8)) (opF eqD (varF 6) (lstF nilD)))))
  (retS (cF (.bool false)))
  nxS)
  (seqS (iteS (tstF (opF neSD (callF reprD (consF (clKF 3 m_merge_word [2, 1, 0] 0 3 nilD (consD (varF 5) (consD (varF 4) (consD (varF 3) nilD)))) nilF)) (callF reprD (consF (clF 1 m_law_word (consD (lstF (consD (varF 4) (consD (varF 3) (consD (varF 5) nilD)))) nilD)) nilF))))
  (retS (cF (.bool false)))
  nxS)
  (seqS (iteS (andF (tstF (opF neD (varF 6) (lstF nilD))) (tstF (opF neD (varF 6) (rgL2F (consD (opF ixD (varF 6) (cF (.int 0))) (consD (opF addD (opF ixD (varF 6) (unF negD (cF (.int 1)))) (cF (.int 1))) nilD))))))
  (retS (cF (.bool false)))
  nxS)
  (seqS (iteS (orF (tstF (opF neD (clF 3 m_merge_texts (consD (varF 3) (consD (varF 3) (consD (varF 5) nilD)))) (varF 5))) (tstF (opF neD (clF 3 m_merge_texts (consD (varF 3) (consD (varF 4) (consD (varF 3) nilD)))) (varF 4))))
  (retS (cF (.bool false)))
  nxS)
  (seqS (asgS 9 (clI 2 m_law_pick 2 (consD (lstF (consD (cF .none) (consD (cF (.int 3)) (consD (cF (.str "ab")) (consD (tupF (consD (cF (.int 100)) nilD)) (consD (lstF (consD (cF (.int 0)) (consD (cF .none) nilD))) (consD (tupF (consD (opF subD (cF (.int 0)) (cF (.int 1))) nilD)) (consD (tupF (consD (cF (.bool true)) nilD)) (consD (tupF (consD (tupF (consD (cF (.int 0)) nilD)) nilD)) nilD))))))))) nilD)))
  (seqS (forVL 10
  (seqS (asgS 11 (lstF (consD (clVv 4 m_law_refused 10 (consD (varF 9) (consD (varF 9) (consD (cF .none) nilD)))) (consD (clVv 4 m_law_refused 10 (consD (varF 3) (consD (varF 9) (consD (varF 9) nilD)))) (consD (clVv 4 m_law_refused 10 (consD (varF 3) (consD (varF 4) (consD (varF 9) nilD)))) nilD)))))
  (iteS (tstF (opF neD (varF 11) (lstF (consD (cF (.int 0)) (consD (cF (.int 1)) (consD (cF (.int 2)) nilD))))))
  (retS (cF (.bool false)))
  nxS)) [0, 1, 2])
  (iteS (tstF (opF neSD (callF reprD (consF (clF 3 m_merge_texts (consD (varF 3) (consD (varF 4) (consD (varF 5) nilD)))) nilF)) (callF reprD (consF (varF 8) nilF))))
  (retS (cF (.bool false)))
  nxS)))))))))))))
  (retS (cF (.bool true))))))
def m_law : List Sl → Fo := mF 1 12 G_law
/-- what the top has written -/
structure Tx (K : PySem.W.Frag) (mg : Str → Option Value) : Type where
  xc : Nat → Addr
  m_abs : mg "abs" = none
  m_bool : mg "bool" = none
  m_enumerate : mg "enumerate" = none
  m_int : mg "int" = none
  m_isinstance : mg "isinstance" = none
  m_len : mg "len" = none
  m_list : mg "list" = none
  m_min : mg "min" = none
  m_range : mg "range" = none
  m_repr : mg "repr" = none
  m_tuple : mg "tuple" = none
  a_MergeError : Addr
  gB_MergeError : mg "MergeError" = some (.ref a_MergeError)
  C0 : Addr
  B0 : Addr
  f0 : Addr
  e0 : PySem.ErX.ErT K mg "InvalidText" "InvalidText.__init__" C0 B0 f0
  xe0 : xc 0 = C0
  c0 : PySem.W.ErC K C0
  k0_MergeError : PySem.W.kitOne K (.ref C0) (.ref a_MergeError) = some true
  a_is_integer : Addr
  d_is_integer : FuncData
  F_is_integer : Fun K "is_integer" "is_integer" s_is_integer a_is_integer d_is_integer
  g_is_integer : mg "is_integer" = some (.ref a_is_integer)
  b_is_integer : Binds K d_is_integer ["value"] []
  a_is_number : Addr
  d_is_number : FuncData
  F_is_number : Fun K "is_number" "is_number" s_is_number a_is_number d_is_number
  g_is_number : mg "is_number" = some (.ref a_is_number)
  b_is_number : Binds K d_is_number ["value"] []
  a_is_number_below : Addr
  d_is_number_below : FuncData
  F_is_number_below : Fun K "is_number_below" "is_number_below" s_is_number_below a_is_number_below d_is_number_below
  g_is_number_below : mg "is_number_below" = some (.ref a_is_number_below)
  b_is_number_below : Binds K d_is_number_below ["value", "limit"] []
  a_is_sequence : Addr
  d_is_sequence : FuncData
  F_is_sequence : Fun K "is_sequence" "is_sequence" s_is_sequence a_is_sequence d_is_sequence
  g_is_sequence : mg "is_sequence" = some (.ref a_is_sequence)
  b_is_sequence : Binds K d_is_sequence ["value"] []
  a_is_letter : Addr
  d_is_letter : FuncData
  F_is_letter : Fun K "is_letter" "is_letter" s_is_letter a_is_letter d_is_letter
  g_is_letter : mg "is_letter" = some (.ref a_is_letter)
  b_is_letter : Binds K d_is_letter ["value"] []
  a_text_or_none : Addr
  d_text_or_none : FuncData
  F_text_or_none : Fun K "text_or_none" "text_or_none" s_text_or_none a_text_or_none d_text_or_none
  g_text_or_none : mg "text_or_none" = some (.ref a_text_or_none)
  b_text_or_none : Binds K d_text_or_none ["value"] []
  a_need_text : Addr
  d_need_text : FuncData
  F_need_text : Fun K "need_text" "need_text" s_need_text a_need_text d_need_text
  g_need_text : mg "need_text" = some (.ref a_need_text)
  b_need_text : Binds K d_need_text ["value", "at"] []
  a_need_three_texts : Addr
  d_need_three_texts : FuncData
  F_need_three_texts : Fun K "need_three_texts" "need_three_texts" s_need_three_texts a_need_three_texts d_need_three_texts
  g_need_three_texts : mg "need_three_texts" = some (.ref a_need_three_texts)
  b_need_three_texts : Binds K d_need_three_texts ["one", "other", "third"] []
  a_undo_each_other : Addr
  d_undo_each_other : FuncData
  F_undo_each_other : Fun K "undo_each_other" "undo_each_other" s_undo_each_other a_undo_each_other d_undo_each_other
  g_undo_each_other : mg "undo_each_other" = some (.ref a_undo_each_other)
  b_undo_each_other : Binds K d_undo_each_other ["one", "other"] []
  a_struck : Addr
  d_struck : FuncData
  F_struck : Fun K "struck" "struck" s_struck a_struck d_struck
  g_struck : mg "struck" = some (.ref a_struck)
  b_struck : Binds K d_struck ["word"] []
  a_undone : Addr
  d_undone : FuncData
  F_undone : Fun K "undone" "undone" s_undone a_undone d_undone
  g_undone : mg "undone" = some (.ref a_undone)
  b_undone : Binds K d_undone ["word"] []
  a_word_of : Addr
  d_word_of : FuncData
  F_word_of : Fun K "word_of" "word_of" s_word_of a_word_of d_word_of
  g_word_of : mg "word_of" = some (.ref a_word_of)
  b_word_of : Binds K d_word_of ["text"] []
  a_product_by_turns : Addr
  d_product_by_turns : FuncData
  F_product_by_turns : Fun K "product_by_turns" "product_by_turns" s_product_by_turns a_product_by_turns d_product_by_turns
  g_product_by_turns : mg "product_by_turns" = some (.ref a_product_by_turns)
  b_product_by_turns : Binds K d_product_by_turns ["texts"] []
  a_front_length : Addr
  d_front_length : FuncData
  F_front_length : Fun K "front_length" "front_length" s_front_length a_front_length d_front_length
  g_front_length : mg "front_length" = some (.ref a_front_length)
  b_front_length : Binds K d_front_length ["one", "other"] []
  a_end_length : Addr
  d_end_length : FuncData
  F_end_length : Fun K "end_length" "end_length" s_end_length a_end_length d_end_length
  g_end_length : mg "end_length" = some (.ref a_end_length)
  b_end_length : Binds K d_end_length ["one", "other"] []
  a_cut_bounds : Addr
  d_cut_bounds : FuncData
  F_cut_bounds : Fun K "cut_bounds" "cut_bounds" s_cut_bounds a_cut_bounds d_cut_bounds
  g_cut_bounds : mg "cut_bounds" = some (.ref a_cut_bounds)
  b_cut_bounds : Binds K d_cut_bounds ["base", "mine", "yours"] []
  a_merged : Addr
  d_merged : FuncData
  F_merged : Fun K "merged" "merged" s_merged a_merged d_merged
  g_merged : mg "merged" = some (.ref a_merged)
  b_merged : Binds K d_merged ["base", "mine", "yours"] []
  a_merge_texts : Addr
  xf0 : xc (1000 + 0) = a_merge_texts
  d_merge_texts : FuncData
  F_merge_texts : Fun K "merge_texts" "merge_texts" s_merge_texts a_merge_texts d_merge_texts
  g_merge_texts : mg "merge_texts" = some (.ref a_merge_texts)
  b_merge_texts : Binds K d_merge_texts ["base", "mine", "yours"] []
  a_merge_cuts : Addr
  xf1 : xc (1000 + 1) = a_merge_cuts
  d_merge_cuts : FuncData
  F_merge_cuts : Fun K "merge_cuts" "merge_cuts" s_merge_cuts a_merge_cuts d_merge_cuts
  g_merge_cuts : mg "merge_cuts" = some (.ref a_merge_cuts)
  b_merge_cuts : Binds K d_merge_cuts ["base", "mine", "yours"] []
  a_merge_word : Addr
  xf2 : xc (1000 + 2) = a_merge_word
  d_merge_word : FuncData
  F_merge_word : Fun K "merge_word" "merge_word" s_merge_word a_merge_word d_merge_word
  g_merge_word : mg "merge_word" = some (.ref a_merge_word)
  b_merge_word : Binds K d_merge_word ["base", "mine", "yours"] []
  a_law_box : Addr
  d_law_box : FuncData
  F_law_box : Fun K "_law_box" "_law_box" s_law_box a_law_box d_law_box
  g_law_box : mg "_law_box" = some (.ref a_law_box)
  b_law_box : Binds K d_law_box ["script", "k"] []
  a_law_take : Addr
  d_law_take : FuncData
  F_law_take : Fun K "_law_take" "_law_take" s_law_take a_law_take d_law_take
  g_law_take : mg "_law_take" = some (.ref a_law_take)
  b_law_take : Binds K d_law_take ["box", "many"] []
  a_law_pick : Addr
  d_law_pick : FuncData
  F_law_pick : Fun K "_law_pick" "_law_pick" s_law_pick a_law_pick d_law_pick
  g_law_pick : mg "_law_pick" = some (.ref a_law_pick)
  b_law_pick : Binds K d_law_pick ["box", "some"] []
  a_law_word : Addr
  d_law_word : FuncData
  F_law_word : Fun K "_law_word" "_law_word" s_law_word a_law_word d_law_word
  g_law_word : mg "_law_word" = some (.ref a_law_word)
  b_law_word : Binds K d_law_word ["texts"] []
  a_law_text : Addr
  d_law_text : FuncData
  F_law_text : Fun K "_law_text" "_law_text" s_law_text a_law_text d_law_text
  g_law_text : mg "_law_text" = some (.ref a_law_text)
  b_law_text : Binds K d_law_text ["texts"] []
  a_law_row : Addr
  d_law_row : FuncData
  F_law_row : Fun K "_law_row" "_law_row" s_law_row a_law_row d_law_row
  g_law_row : mg "_law_row" = some (.ref a_law_row)
  b_law_row : Binds K d_law_row ["box", "letters", "longest"] []
  a_law_three : Addr
  d_law_three : FuncData
  F_law_three : Fun K "_law_three" "_law_three" s_law_three a_law_three d_law_three
  g_law_three : mg "_law_three" = some (.ref a_law_three)
  b_law_three : Binds K d_law_three ["box", "letters"] []
  a_law_refused : Addr
  d_law_refused : FuncData
  F_law_refused : Fun K "_law_refused" "_law_refused" s_law_refused a_law_refused d_law_refused
  g_law_refused : mg "_law_refused" = some (.ref a_law_refused)
  b_law_refused : Binds K d_law_refused ["work", "base", "mine", "yours"] []
  a_law_cuts : Addr
  d_law_cuts : FuncData
  F_law_cuts : Fun K "_law_cuts" "_law_cuts" s_law_cuts a_law_cuts d_law_cuts
  g_law_cuts : mg "_law_cuts" = some (.ref a_law_cuts)
  b_law_cuts : Binds K d_law_cuts ["base", "mine", "yours"] []
  a_law : Addr
  d_law : FuncData
  F_law : Fun K "law" "law" s_law a_law d_law
  g_law : mg "law" = some (.ref a_law)
  b_law : Binds K d_law ["script"] []
  kb_merge_texts_0_base_mine_yours : KBinds K d_merge_texts ["base", "mine", "yours"] ["base", "mine", "yours"] (gP [0, 1, 2] 0 3) (gP [0, 1, 2] 0 3)
  kb_merge_cuts_0_base_mine_yours : KBinds K d_merge_cuts ["base", "mine", "yours"] ["base", "mine", "yours"] (gP [0, 1, 2] 0 3) (gP [0, 1, 2] 0 3)
  kb_merge_word_0_yours_mine_base : KBinds K d_merge_word ["base", "mine", "yours"] ["yours", "mine", "base"] (gP [2, 1, 0] 0 3) (gP [2, 1, 0] 0 3)
section
variable {P : Program} {w : World} {K : PySem.W.Frag} {mg : Str → Option Value} {base : Heap}
theorem ok_is_integer (T : Tx K mg) : FnG P w K mg base 1 T.a_is_integer T.d_is_integer ["value"] (spF 1 K T.xc m_is_integer) := by
  refine fn_sem T.F_is_integer sc_is_integer rfl rfl fun cd A o s H E hg hr => ?_
  refine ⟨_, (pss_one (ps_ret (pe_and (pe_callB (k_isi K (by rfl)) (by rfl) T.m_isinstance (by decide +kernel) (pa_cons (pv 0) (pa_cons (pe_bltn (v := .ty "int") (by rfl) T.m_int (by decide +kernel) rfl) pa_nil))) (pe_one (pe_not (pe_callB (k_isi K (by rfl)) (by rfl) T.m_isinstance (by decide +kernel) (pa_cons (pv 0) (pa_cons (pe_bltn (v := .ty "bool") (by rfl) T.m_bool (by decide +kernel) rfl) pa_nil)))))))), fun vs => ?_⟩
  exact (sem_ret (sem_andV (sem_isi (T := "int") (by decide) (sem_var 0)) (sem_notV (sem_isi (T := "bool") (by decide) (sem_var 0)))))
theorem ok_is_number (T : Tx K mg) : FnG P w K mg base 2 T.a_is_number T.d_is_number ["value"] (spF 1 K T.xc m_is_number) := by
  refine fn_sem T.F_is_number sc_is_number rfl rfl fun cd A o s H E hg hr => ?_
  refine ⟨_, (pss_one (ps_ret (pe_and (pe_cl (E := atE (fun cls d _ H => E cls d H)) (ok_is_integer (P := P) (w := w) (base := base) T) hg (hr.mono (by decide)) (by rfl) T.g_is_integer T.F_is_integer.kp T.b_is_integer (fun σ => passAt (takes_of rfl rfl rfl rfl) σ) (pa_cons (pv 0) pa_nil)) (pe_one (pe_cmpR op_ge (pv 0) pe_int (nomark _)))))), fun vs => ?_⟩
  exact (sem_ret (sem_andV (sem_cl (sem_consD (sem_var 0) sem_nilD)) (sem_op ov_ge (sem_var 0) (sem_int 0))))
theorem ok_is_number_below (T : Tx K mg) : FnG P w K mg base 3 T.a_is_number_below T.d_is_number_below ["value", "limit"] (spF 2 K T.xc m_is_number_below) := by
  refine fn_sem T.F_is_number_below sc_is_number_below rfl rfl fun cd A o s H E hg hr => ?_
  refine ⟨_, (pss_one (ps_ret (pe_and (pe_cl (E := atE (fun cls d _ H => E cls d H)) (ok_is_number (P := P) (w := w) (base := base) T) hg (hr.mono (by decide)) (by rfl) T.g_is_number T.F_is_number.kp T.b_is_number (fun σ => passAt (takes_of rfl rfl rfl rfl) σ) (pa_cons (pv 0) pa_nil)) (pe_one (pe_cmpR op_lt (pv 0) (pv 1) (nomark _)))))), fun vs => ?_⟩
  exact (sem_ret (sem_andV (sem_cl (sem_consD (sem_var 0) sem_nilD)) (sem_op ov_lt (sem_var 0) (sem_var 1))))
theorem ok_is_sequence (T : Tx K mg) : FnG P w K mg base 1 T.a_is_sequence T.d_is_sequence ["value"] (spF 1 K T.xc m_is_sequence) := by
  refine fn_sem T.F_is_sequence sc_is_sequence rfl rfl fun cd A o s H E hg hr => ?_
  refine ⟨_, (pss_one (ps_ret (pe_callB (k_isiT K (by rfl)) (by rfl) T.m_isinstance (by decide +kernel) (pa_cons (pv 0) (pa_cons (pe_tup (pa_cons (pe_bltn (v := .ty "list") (by rfl) T.m_list (by decide +kernel) rfl) (pa_cons (pe_bltn (v := .ty "tuple") (by rfl) T.m_tuple (by decide +kernel) rfl) pa_nil))) pa_nil))))), fun vs => ?_⟩
  exact (sem_ret (sem_isi2 (T := "list") (U := "tuple") (by decide) (by decide) (sem_var 0)))
theorem ok_is_letter (T : Tx K mg) : FnG P w K mg base 4 T.a_is_letter T.d_is_letter ["value"] (spF 1 K T.xc m_is_letter) := by
  refine fn_sem T.F_is_letter sc_is_letter rfl rfl fun cd A o s H E hg hr => ?_
  refine ⟨_, (pss_one (ps_ret (pe_cl (E := atE (fun cls d _ H => E cls d H)) (ok_is_number_below (P := P) (w := w) (base := base) T) hg (hr.mono (by decide)) (by rfl) T.g_is_number_below T.F_is_number_below.kp T.b_is_number_below (fun σ => passAt (takes_of rfl rfl rfl rfl) σ) (pa_cons (pv 0) (pa_cons pe_int pa_nil))))), fun vs => ?_⟩
  exact (sem_ret (sem_cl (sem_consD (sem_var 0) (sem_consD (sem_int 100) sem_nilD))))
theorem ok_text_or_none (T : Tx K mg) : FnG P w K mg base 5 T.a_text_or_none T.d_text_or_none ["value"] (spF 1 K T.xc m_text_or_none) := by
  refine fn_sem T.F_text_or_none sc_text_or_none rfl rfl fun cd A o s H E hg hr => ?_
  refine ⟨_, (pss_cons (ps_if (pt_not (pt_val (pe_cl (E := atE (fun cls d _ H => E cls d H)) (ok_is_sequence (P := P) (w := w) (base := base) T) hg (hr.mono (by decide)) (by rfl) T.g_is_sequence T.F_is_sequence.kp T.b_is_sequence (fun σ => passAt (takes_of rfl rfl rfl rfl) σ) (pa_cons (pv 0) pa_nil))))
    (pss_one (ps_ret pe_non))
    pss_nil)
    (pss_cons (ps_for (passes_of rfl) rfl (k_sq K (by rfl) (pv 0)) (pgn 1 (by exact sc_text_or_none.nd) (by rfl) (by first | exact .inl rfl | exact .inr rfl) (by first | exact .inr rfl | exact .inl rfl))
    (pss_one (ps_if (pt_not (pt_val (pe_cl (E := atE (fun cls d _ H => E cls d H)) (ok_is_letter (P := P) (w := w) (base := base) T) hg (hr.mono (by decide)) (by rfl) T.g_is_letter T.F_is_letter.kp T.b_is_letter (fun σ => passAt (takes_of rfl rfl rfl rfl) σ) (pa_cons (pv 1) pa_nil))))
    (pss_one (ps_ret pe_non))
    pss_nil)))
    (pss_one (ps_ret (k_tuple K (by rfl) (by rfl) T.m_tuple (pv 0) (by rfl)))))), fun vs => ?_⟩
  exact (sem_seq (sem_ite (sem_not (sem_tst (sem_cl (sem_consD (sem_var 0) sem_nilD))))
    (sem_ret sem_non)
    sem_next)
    (sem_seq (sem_for (sem_sq (sem_var 0)) sem_name
    (sem_ite (sem_not (sem_tst (sem_cl (sem_consD (sem_var 1) sem_nilD))))
    (sem_ret sem_non)
    sem_next))
    (sem_ret (sem_tupleOf (sem_var 0)))))
theorem ok_need_text (T : Tx K mg) : FnG P w K mg base 6 T.a_need_text T.d_need_text ["value", "at"] (spF 2 K T.xc m_need_text) := by
  refine fn_sem T.F_need_text sc_need_text rfl rfl fun cd A o s H E hg hr => ?_
  refine ⟨_, (pss_cons (ps_set (i := 2) sc_need_text.nd rfl (by first | exact .inl rfl | exact .inr rfl) (pe_cl (E := atE (fun cls d _ H => E cls d H)) (ok_text_or_none (P := P) (w := w) (base := base) T) hg (hr.mono (by decide)) (by rfl) T.g_text_or_none T.F_text_or_none.kp T.b_text_or_none (fun σ => passAt (takes_of rfl rfl rfl rfl) σ) (pa_cons (pv 0) pa_nil)))
    (pss_cons (ps_if (pt_cmpR op_isN (pv 2) pe_non (nomark _))
    (pss_one (ps_rse rfl T.e0 (hr.mono (Nat.zero_le _)) (takes_of rfl rfl rfl rfl) (pa_cons (pv 1) pa_nil) (by rfl) (by decide)))
    pss_nil)
    (pss_one (ps_ret (pv 2))))), fun vs => ?_⟩
  exact (sem_seq (sem_asg (sem_cl (sem_consD (sem_var 0) sem_nilD)))
    (sem_seq (sem_ite (sem_tst (sem_isNO (sem_var 2)))
    (sem_rse (tag := 0) T.xe0 (sem_consD (sem_var 1) sem_nilD))
    sem_next)
    (sem_ret (sem_var 2))))
theorem ok_need_three_texts (T : Tx K mg) : FnG P w K mg base 7 T.a_need_three_texts T.d_need_three_texts ["one", "other", "third"] (spF 3 K T.xc m_need_three_texts) := by
  refine fn_sem T.F_need_three_texts sc_need_three_texts rfl rfl fun cd A o s H E hg hr => ?_
  refine ⟨_, (pss_one (ps_ret (pe_tup (pa_cons (pe_cl (E := atE (fun cls d _ H => E cls d H)) (ok_need_text (P := P) (w := w) (base := base) T) hg (hr.mono (by decide)) (by rfl) T.g_need_text T.F_need_text.kp T.b_need_text (fun σ => passAt (takes_of rfl rfl rfl rfl) σ) (pa_cons (pv 0) (pa_cons pe_int pa_nil))) (pa_cons (pe_cl (E := atE (fun cls d _ H => E cls d H)) (ok_need_text (P := P) (w := w) (base := base) T) hg (hr.mono (by decide)) (by rfl) T.g_need_text T.F_need_text.kp T.b_need_text (fun σ => passAt (takes_of rfl rfl rfl rfl) σ) (pa_cons (pv 1) (pa_cons pe_int pa_nil))) (pa_cons (pe_cl (E := atE (fun cls d _ H => E cls d H)) (ok_need_text (P := P) (w := w) (base := base) T) hg (hr.mono (by decide)) (by rfl) T.g_need_text T.F_need_text.kp T.b_need_text (fun σ => passAt (takes_of rfl rfl rfl rfl) σ) (pa_cons (pv 2) (pa_cons pe_int pa_nil))) pa_nil)))))), fun vs => ?_⟩
  exact (sem_ret (sem_tup (sem_consD (sem_cl (sem_consD (sem_var 0) (sem_consD (sem_int 0) sem_nilD))) (sem_consD (sem_cl (sem_consD (sem_var 1) (sem_consD (sem_int 1) sem_nilD))) (sem_consD (sem_cl (sem_consD (sem_var 2) (sem_consD (sem_int 2) sem_nilD))) sem_nilD)))))
theorem ok_undo_each_other (T : Tx K mg) : FnG P w K mg base 1 T.a_undo_each_other T.d_undo_each_other ["one", "other"] (spF 2 K T.xc m_undo_each_other) := by
  refine fn_sem T.F_undo_each_other sc_undo_each_other rfl rfl fun cd A o s H E hg hr => ?_
  refine ⟨_, (pss_one (ps_ret (pe_and (pe_cmpR (k_eq K (by rfl) (hr.u 64)) (pe_ix (k_ix K (by rfl)) (pv 0) pe_int (fun _ _ => rfl)) (pe_ix (k_ix K (by rfl)) (pv 1) pe_int (fun _ _ => rfl)) (nomark _)) (pe_one (pe_cmpR (k_ne K (by rfl) (hr.u 64)) (pe_ix (k_ix K (by rfl)) (pv 0) pe_int (fun _ _ => rfl)) (pe_ix (k_ix K (by rfl)) (pv 1) pe_int (fun _ _ => rfl)) (nomark _)))))), fun vs => ?_⟩
  exact (sem_ret (sem_andV (sem_op ov_eq (sem_op ov_ix (sem_var 0) (sem_int 0)) (sem_op ov_ix (sem_var 1) (sem_int 0))) (sem_op ov_ne (sem_op ov_ix (sem_var 0) (sem_int 1)) (sem_op ov_ix (sem_var 1) (sem_int 1)))))
theorem ok_struck (T : Tx K mg) : FnG P w K mg base 2 T.a_struck T.d_struck ["word"] (spF 1 K T.xc m_struck) := by
  refine fn_sem T.F_struck sc_struck rfl rfl fun cd A o s H E hg hr => ?_
  refine ⟨_, (pss_cons (ps_set (i := 1) sc_struck.nd rfl (by first | exact .inl rfl | exact .inr rfl) (pe_lst pa_nil))
    (pss_cons (ps_for (passes_of rfl) rfl (k_sq K (by rfl) (pv 0)) (pgn 2 (by exact sc_struck.nd) (by rfl) (by first | exact .inl rfl | exact .inr rfl) (by first | exact .inr rfl | exact .inl rfl))
    (pss_one (ps_if (PW.pt (pw_and (k_truth K (by rfl) (pv 1) (by intro _; rfl)) (pw_and1 (pt_val (pe_cl (E := atE (fun cls d _ H => E cls d H)) (ok_undo_each_other (P := P) (w := w) (base := base) T) hg (hr.mono (by decide)) (by rfl) T.g_undo_each_other T.F_undo_each_other.kp T.b_undo_each_other (fun σ => passAt (takes_of rfl rfl rfl rfl) σ) (pa_cons (pe_ix (k_ix K (by rfl)) (pv 1) (pe_un un_neg pe_int) (fun _ _ => rfl)) (pa_cons (pv 2) pa_nil)))))))
    (pss_one (ps_expr (pe_bm0 PySem.F.plainAttrs_list PySem.F.slot_list_pop PySem.F.type_list_pop mt_pop (pv 1))))
    (pss_one (ps_expr (pe_bm PySem.F.plainAttrs_list PySem.F.slot_list_append PySem.F.type_list_append mt_append (pv 1) (pa_cons (pv 2) pa_nil)))))))
    (pss_one (ps_ret (k_tuple K (by rfl) (by rfl) T.m_tuple (pv 1) (by rfl)))))), fun vs => ?_⟩
  exact (sem_seq (sem_asg (sem_lst sem_nilD))
    (sem_seq (sem_for (sem_sq (sem_var 0)) sem_name
    (sem_ite (sem_and (sem_tru (sem_var 1)) (sem_tst (sem_cl (sem_consD (sem_op ov_ix (sem_var 1) (sem_neg (sem_int 1))) (sem_consD (sem_var 2) sem_nilD)))))
    (sem_drop (sem_mut0 mv_pop))
    (sem_drop (sem_mut mv_append (sem_consD (sem_var 2) sem_nilD)))))
    (sem_ret (sem_tupleOf (sem_var 1)))))
theorem ok_undone (T : Tx K mg) : FnG P w K mg base 1 T.a_undone T.d_undone ["word"] (spF 1 K T.xc m_undone) := by
  refine fn_sem T.F_undone sc_undone rfl rfl fun cd A o s H E hg hr => ?_
  refine ⟨_, (pss_one (ps_ret (k_tuple K (by rfl) (by rfl) T.m_tuple (by exact (pe_lc (own := [("letter", 1), ("sign", 2)]) rfl sc_undone.nd (k_sq K (by rfl) (k_stp K (by rfl) (pv 0) (po_some (pe_un un_neg pe_int)) (by intro _ _; with_unfolding_all rfl))) (blkOk_by (N := N_undone) (sc := defScope s_undone) (by decide +kernel)) (fun _ _ _ _ _ => by exact (pgt K 2 (pgc (pgn 1 (by exact sc_undone.nd) (by rfl) (by first | exact .inl rfl | exact .inr rfl) (by first | exact .inr rfl | exact .inl rfl)) (pgc (pgn 2 (by exact sc_undone.nd) (by rfl) (by first | exact .inl rfl | exact .inr rfl) (by first | exact .inr rfl | exact .inl rfl)) pgs_nil (by rfl)) (by rfl)) (by rfl) (by rfl) (by rfl) (by rfl))) (fun _ _ _ _ _ => by exact pts_nil) (fun _ _ _ _ _ => by exact (pe_tup (pa_cons (pv 1) (pa_cons (pe_un un_neg (pv 2)) pa_nil)))))) (by rfl)))), fun vs => ?_⟩
  exact (sem_ret (sem_tupleOf (sem_lc (vs := [1, 2]) (sem_sq (sem_stp (sem_var 0) (sem_parO (sem_neg (sem_int 1))))) (sem_gu (sem_gcons sem_name (sem_gcons sem_name sem_gnil))) sem_yes (sem_tup (sem_consD (sem_var 1) (sem_consD (sem_neg (sem_var 2)) sem_nilD))) (by decide))))
theorem ok_word_of (T : Tx K mg) : FnG P w K mg base 1 T.a_word_of T.d_word_of ["text"] (spF 1 K T.xc m_word_of) := by
  refine fn_sem T.F_word_of sc_word_of rfl rfl fun cd A o s H E hg hr => ?_
  refine ⟨_, (pss_one (ps_ret (k_tuple K (by rfl) (by rfl) T.m_tuple (by exact (pe_lc (own := [("letter", 1)]) rfl sc_word_of.nd (k_sq K (by rfl) (pv 0)) (blkOk_by (N := N_word_of) (sc := defScope s_word_of) (by decide +kernel)) (fun _ _ _ _ _ => by exact (pgn 1 (by exact sc_word_of.nd) (by rfl) (by first | exact .inl rfl | exact .inr rfl) (by first | exact .inr rfl | exact .inl rfl))) (fun _ _ _ _ _ => by exact pts_nil) (fun _ _ _ _ _ => by exact (pe_tup (pa_cons (pv 1) (pa_cons pe_int pa_nil)))))) (by rfl)))), fun vs => ?_⟩
  exact (sem_ret (sem_tupleOf (sem_lc (vs := [1]) (sem_sq (sem_var 0)) sem_name sem_yes (sem_tup (sem_consD (sem_var 1) (sem_consD (sem_int 1) sem_nilD))) (by decide))))
theorem ok_product_by_turns (T : Tx K mg) : FnG P w K mg base 3 T.a_product_by_turns T.d_product_by_turns ["texts"] (spF 1 K T.xc m_product_by_turns) := by
  refine fn_sem T.F_product_by_turns sc_product_by_turns rfl rfl fun cd A o s H E hg hr => ?_
  refine ⟨_, (pss_cons (ps_set (i := 1) sc_product_by_turns.nd rfl (by first | exact .inl rfl | exact .inr rfl) (pe_lst pa_nil))
    (pss_cons (ps_for (passes_of rfl) rfl (k_enum K (by rfl) (by rfl) T.m_enumerate (pa_cons (pv 0) pa_nil) (by rfl)) (pgt K 2 (pgc (pgn 2 (by exact sc_product_by_turns.nd) (by rfl) (by first | exact .inl rfl | exact .inr rfl) (by first | exact .inr rfl | exact .inl rfl)) (pgc (pgn 3 (by exact sc_product_by_turns.nd) (by rfl) (by first | exact .inl rfl | exact .inr rfl) (by first | exact .inr rfl | exact .inl rfl)) pgs_nil (by rfl)) (by rfl)) (by rfl) (by rfl) (by rfl) (by rfl))
    (pss_cons (ps_set (i := 4) sc_product_by_turns.nd rfl (by first | exact .inl rfl | exact .inr rfl) (pe_cl (E := atE (fun cls d _ H => E cls d H)) (ok_word_of (P := P) (w := w) (base := base) T) hg (hr.mono (by decide)) (by rfl) T.g_word_of T.F_word_of.kp T.b_word_of (fun σ => passAt (takes_of rfl rfl rfl rfl) σ) (pa_cons (pv 3) pa_nil)))
    (pss_one (ps_expr (pe_bm PySem.F.plainAttrs_list PySem.F.slot_list_extend PySem.F.type_list_extend mt_xt (pv 1) (pa_cons (pe_ifExp (k_truth K (by rfl) (pe_op op_mod (pv 2) pe_int) (by intro _; rfl)) (pe_cl (E := atE (fun cls d _ H => E cls d H)) (ok_undone (P := P) (w := w) (base := base) T) hg (hr.mono (by decide)) (by rfl) T.g_undone T.F_undone.kp T.b_undone (fun σ => passAt (takes_of rfl rfl rfl rfl) σ) (pa_cons (pv 4) pa_nil)) (pv 4)) pa_nil))))))
    (pss_one (ps_ret (pe_cl (E := atE (fun cls d _ H => E cls d H)) (ok_struck (P := P) (w := w) (base := base) T) hg (hr.mono (by decide)) (by rfl) T.g_struck T.F_struck.kp T.b_struck (fun σ => passAt (takes_of rfl rfl rfl rfl) σ) (pa_cons (pv 1) pa_nil)))))), fun vs => ?_⟩
  exact (sem_seq (sem_asg (sem_lst sem_nilD))
    (sem_seq (sem_for (sem_enumU (sem_var 0)) (sem_gu (sem_gcons sem_name (sem_gcons sem_name sem_gnil)))
    (sem_seq (sem_asg (sem_cl (sem_consD (sem_var 3) sem_nilD)))
    (sem_drop (sem_mut mv_xt (sem_consD (sem_if (sem_tru (sem_op ov_mod (sem_var 2) (sem_int 2))) (sem_cl (sem_consD (sem_var 4) sem_nilD)) (sem_var 4)) sem_nilD)))))
    (sem_ret (sem_cl (sem_consD (sem_var 1) sem_nilD)))))
theorem ok_front_length (T : Tx K mg) : FnG P w K mg base 1 T.a_front_length T.d_front_length ["one", "other"] (spF 2 K T.xc m_front_length) := by
  refine fn_sem T.F_front_length sc_front_length rfl rfl fun cd A o s H E hg hr => ?_
  refine ⟨_, (pss_cons (ps_set (i := 2) sc_front_length.nd rfl (by first | exact .inl rfl | exact .inr rfl) (pe_callB (call_min2A rfl) (by rfl) T.m_min (by decide +kernel) (pa_cons (pe_callB (k_len K (by rfl)) (by rfl) T.m_len (by decide +kernel) (pa_cons (pv 0) pa_nil)) (pa_cons (pe_callB (k_len K (by rfl)) (by rfl) T.m_len (by decide +kernel) (pa_cons (pv 1) pa_nil)) pa_nil))))
    (pss_cons (ps_for (passes_of rfl) rfl (pi_range1 (by rfl) T.m_range (pa_cons (pv 2) pa_nil)) (pgn 3 (by exact sc_front_length.nd) (by rfl) (by first | exact .inl rfl | exact .inr rfl) (by first | exact .inr rfl | exact .inl rfl))
    (pss_one (ps_if (pt_cmpR (k_ne K (by rfl) (hr.u 64)) (pe_ix (k_ix K (by rfl)) (pv 0) (pv 3) (fun _ _ => rfl)) (pe_ix (k_ix K (by rfl)) (pv 1) (pv 3) (fun _ _ => rfl)) (nomark _))
    (pss_one (ps_ret (pv 3)))
    pss_nil)))
    (pss_one (ps_ret (pv 2))))), fun vs => ?_⟩
  exact (sem_seq (sem_asg (sem_call cv_min2 (sem_cons (sem_call cv_len (sem_cons (sem_var 0) sem_nil)) (sem_cons (sem_call cv_len (sem_cons (sem_var 1) sem_nil)) sem_nil))))
    (sem_seq (sem_for (sem_rng1 (sem_var 2)) sem_name
    (sem_ite (sem_tst (sem_op ov_ne (sem_op ov_ix (sem_var 0) (sem_var 3)) (sem_op ov_ix (sem_var 1) (sem_var 3))))
    (sem_ret (sem_var 3))
    sem_next))
    (sem_ret (sem_var 2))))
theorem ok_end_length (T : Tx K mg) : FnG P w K mg base 2 T.a_end_length T.d_end_length ["one", "other"] (spF 2 K T.xc m_end_length) := by
  refine fn_sem T.F_end_length sc_end_length rfl rfl fun cd A o s H E hg hr => ?_
  refine ⟨_, (pss_one (ps_ret (pe_cl (E := atE (fun cls d _ H => E cls d H)) (ok_front_length (P := P) (w := w) (base := base) T) hg (hr.mono (by decide)) (by rfl) T.g_front_length T.F_front_length.kp T.b_front_length (fun σ => passAt (takes_of rfl rfl rfl rfl) σ) (pa_cons (k_stp K (by rfl) (pv 0) (po_some (pe_un un_neg pe_int)) (by intro _ _; with_unfolding_all rfl)) (pa_cons (k_stp K (by rfl) (pv 1) (po_some (pe_un un_neg pe_int)) (by intro _ _; with_unfolding_all rfl)) pa_nil))))), fun vs => ?_⟩
  exact (sem_ret (sem_cl (sem_consD (sem_stp (sem_var 0) (sem_parO (sem_neg (sem_int 1)))) (sem_consD (sem_stp (sem_var 1) (sem_parO (sem_neg (sem_int 1)))) sem_nilD))))
theorem ok_cut_bounds (T : Tx K mg) : FnG P w K mg base 3 T.a_cut_bounds T.d_cut_bounds ["base", "mine", "yours"] (spF 3 K T.xc m_cut_bounds) := by
  refine fn_sem T.F_cut_bounds sc_cut_bounds rfl rfl fun cd A o s H E hg hr => ?_
  refine ⟨_, (pss_one (ps_ret (pe_tup (pa_cons (pe_op op_sub (pe_callB (k_len K (by rfl)) (by rfl) T.m_len (by decide +kernel) (pa_cons (pv 0) pa_nil)) (pe_cl (E := atE (fun cls d _ H => E cls d H)) (ok_end_length (P := P) (w := w) (base := base) T) hg (hr.mono (by decide)) (by rfl) T.g_end_length T.F_end_length.kp T.b_end_length (fun σ => passAt (takes_of rfl rfl rfl rfl) σ) (pa_cons (pv 0) (pa_cons (pv 1) pa_nil)))) (pa_cons (pe_cl (E := atE (fun cls d _ H => E cls d H)) (ok_front_length (P := P) (w := w) (base := base) T) hg (hr.mono (by decide)) (by rfl) T.g_front_length T.F_front_length.kp T.b_front_length (fun σ => passAt (takes_of rfl rfl rfl rfl) σ) (pa_cons (pv 0) (pa_cons (pv 2) pa_nil))) pa_nil))))), fun vs => ?_⟩
  exact (sem_ret (sem_tup (sem_consD (sem_op ov_sub (sem_call cv_len (sem_cons (sem_var 0) sem_nil)) (sem_cl (sem_consD (sem_var 0) (sem_consD (sem_var 1) sem_nilD)))) (sem_consD (sem_cl (sem_consD (sem_var 0) (sem_consD (sem_var 2) sem_nilD))) sem_nilD))))
theorem ok_merged (T : Tx K mg) : FnG P w K mg base 4 T.a_merged T.d_merged ["base", "mine", "yours"] (spF 3 K T.xc m_merged) := by
  refine fn_sem T.F_merged sc_merged rfl rfl fun cd A o s H E hg hr => ?_
  refine ⟨_, (pss_cons (ps_asg (pe_cl (E := atE (fun cls d _ H => E cls d H)) (ok_cut_bounds (P := P) (w := w) (base := base) T) hg (hr.mono (by decide)) (by rfl) T.g_cut_bounds T.F_cut_bounds.kp T.b_cut_bounds (fun σ => passAt (takes_of rfl rfl rfl rfl) σ) (pa_cons (pv 0) (pa_cons (pv 1) (pa_cons (pv 2) pa_nil)))) (pgt K 2 (pgc (pgn 3 (by exact sc_merged.nd) (by rfl) (by first | exact .inl rfl | exact .inr rfl) (by first | exact .inr rfl | exact .inl rfl)) (pgc (pgn 4 (by exact sc_merged.nd) (by rfl) (by first | exact .inl rfl | exact .inr rfl) (by first | exact .inr rfl | exact .inl rfl)) pgs_nil (by rfl)) (by rfl)) (by rfl) (by rfl) (by rfl) (by rfl)))
    (pss_cons (ps_if (pt_cmpR op_gt (pv 3) (pv 4) (nomark _))
    (pss_one (ps_ret pe_non))
    pss_nil)
    (pss_one (ps_ret (pe_op (k_add K (by rfl)) (pe_slice (k_sl K (by rfl)) (pv 1) po_none (po_some (pe_op (k_add K (by rfl)) (pe_op op_sub (pe_callB (k_len K (by rfl)) (by rfl) T.m_len (by decide +kernel) (pa_cons (pv 1) pa_nil)) (pe_callB (k_len K (by rfl)) (by rfl) T.m_len (by decide +kernel) (pa_cons (pv 0) pa_nil))) (pv 3)))) (pe_slice (k_sl K (by rfl)) (pv 2) (po_some (pv 3)) po_none)))))), fun vs => ?_⟩
  exact (sem_seq (sem_tg (sem_gu (sem_gcons sem_name (sem_gcons sem_name sem_gnil))) (sem_cl (sem_consD (sem_var 0) (sem_consD (sem_var 1) (sem_consD (sem_var 2) sem_nilD)))))
    (sem_seq (sem_ite (sem_tst (sem_op ov_gt (sem_var 3) (sem_var 4)))
    (sem_ret sem_non)
    sem_next)
    (sem_ret (sem_op ov_add (sem_sl (sem_var 1) sem_noO (sem_parO (sem_op ov_add (sem_op ov_sub (sem_call cv_len (sem_cons (sem_var 1) sem_nil)) (sem_call cv_len (sem_cons (sem_var 0) sem_nil))) (sem_var 3)))) (sem_sl (sem_var 2) (sem_parO (sem_var 3)) sem_noO)))))
theorem ok_merge_texts (T : Tx K mg) : FnG P w K mg base 8 T.a_merge_texts T.d_merge_texts ["base", "mine", "yours"] (spF 3 K T.xc m_merge_texts) := by
  refine fn_sem T.F_merge_texts sc_merge_texts rfl rfl fun cd A o s H E hg hr => ?_
  refine ⟨_, (pss_cons (ps_asg (pe_cl (E := atE (fun cls d _ H => E cls d H)) (ok_need_three_texts (P := P) (w := w) (base := base) T) hg (hr.mono (by decide)) (by rfl) T.g_need_three_texts T.F_need_three_texts.kp T.b_need_three_texts (fun σ => passAt (takes_of rfl rfl rfl rfl) σ) (pa_cons (pv 0) (pa_cons (pv 1) (pa_cons (pv 2) pa_nil)))) (pgt K 3 (pgc (pgn 0 (by exact sc_merge_texts.nd) (by rfl) (by first | exact .inl rfl | exact .inr rfl) (by first | exact .inr rfl | exact .inl rfl)) (pgc (pgn 1 (by exact sc_merge_texts.nd) (by rfl) (by first | exact .inl rfl | exact .inr rfl) (by first | exact .inr rfl | exact .inl rfl)) (pgc (pgn 2 (by exact sc_merge_texts.nd) (by rfl) (by first | exact .inl rfl | exact .inr rfl) (by first | exact .inr rfl | exact .inl rfl)) pgs_nil (by rfl)) (by rfl)) (by rfl)) (by rfl) (by rfl) (by rfl) (by rfl)))
    (pss_one (ps_ret (pe_cl (E := atE (fun cls d _ H => E cls d H)) (ok_merged (P := P) (w := w) (base := base) T) hg (hr.mono (by decide)) (by rfl) T.g_merged T.F_merged.kp T.b_merged (fun σ => passAt (takes_of rfl rfl rfl rfl) σ) (pa_cons (pv 0) (pa_cons (pv 1) (pa_cons (pv 2) pa_nil))))))), fun vs => ?_⟩
  exact (sem_seq (sem_tg (sem_gu (sem_gcons sem_name (sem_gcons sem_name (sem_gcons sem_name sem_gnil)))) (sem_cl (sem_consD (sem_var 0) (sem_consD (sem_var 1) (sem_consD (sem_var 2) sem_nilD)))))
    (sem_ret (sem_cl (sem_consD (sem_var 0) (sem_consD (sem_var 1) (sem_consD (sem_var 2) sem_nilD))))))
theorem ok_merge_cuts (T : Tx K mg) : FnG P w K mg base 8 T.a_merge_cuts T.d_merge_cuts ["base", "mine", "yours"] (spF 3 K T.xc m_merge_cuts) := by
  refine fn_sem T.F_merge_cuts sc_merge_cuts rfl rfl fun cd A o s H E hg hr => ?_
  refine ⟨_, (pss_cons (ps_asg (pe_cl (E := atE (fun cls d _ H => E cls d H)) (ok_need_three_texts (P := P) (w := w) (base := base) T) hg (hr.mono (by decide)) (by rfl) T.g_need_three_texts T.F_need_three_texts.kp T.b_need_three_texts (fun σ => passAt (takes_of rfl rfl rfl rfl) σ) (pa_cons (pv 0) (pa_cons (pv 1) (pa_cons (pv 2) pa_nil)))) (pgt K 3 (pgc (pgn 0 (by exact sc_merge_cuts.nd) (by rfl) (by first | exact .inl rfl | exact .inr rfl) (by first | exact .inr rfl | exact .inl rfl)) (pgc (pgn 1 (by exact sc_merge_cuts.nd) (by rfl) (by first | exact .inl rfl | exact .inr rfl) (by first | exact .inr rfl | exact .inl rfl)) (pgc (pgn 2 (by exact sc_merge_cuts.nd) (by rfl) (by first | exact .inl rfl | exact .inr rfl) (by first | exact .inr rfl | exact .inl rfl)) pgs_nil (by rfl)) (by rfl)) (by rfl)) (by rfl) (by rfl) (by rfl) (by rfl)))
    (pss_cons (ps_asg (pe_cl (E := atE (fun cls d _ H => E cls d H)) (ok_cut_bounds (P := P) (w := w) (base := base) T) hg (hr.mono (by decide)) (by rfl) T.g_cut_bounds T.F_cut_bounds.kp T.b_cut_bounds (fun σ => passAt (takes_of rfl rfl rfl rfl) σ) (pa_cons (pv 0) (pa_cons (pv 1) (pa_cons (pv 2) pa_nil)))) (pgt K 2 (pgc (pgn 3 (by exact sc_merge_cuts.nd) (by rfl) (by first | exact .inl rfl | exact .inr rfl) (by first | exact .inr rfl | exact .inl rfl)) (pgc (pgn 4 (by exact sc_merge_cuts.nd) (by rfl) (by first | exact .inl rfl | exact .inr rfl) (by first | exact .inr rfl | exact .inl rfl)) pgs_nil (by rfl)) (by rfl)) (by rfl) (by rfl) (by rfl) (by rfl)))
    (pss_one (ps_ret (pe_tupRg rfl (by rfl) T.m_tuple (prg_2 (by rfl) T.m_range (pv 3) (pe_op (k_add K (by rfl)) (pv 4) pe_int))))))), fun vs => ?_⟩
  exact (sem_seq (sem_tg (sem_gu (sem_gcons sem_name (sem_gcons sem_name (sem_gcons sem_name sem_gnil)))) (sem_cl (sem_consD (sem_var 0) (sem_consD (sem_var 1) (sem_consD (sem_var 2) sem_nilD)))))
    (sem_seq (sem_tg (sem_gu (sem_gcons sem_name (sem_gcons sem_name sem_gnil))) (sem_cl (sem_consD (sem_var 0) (sem_consD (sem_var 1) (sem_consD (sem_var 2) sem_nilD)))))
    (sem_ret (sem_rgT2 (sem_consD (sem_var 3) (sem_consD (sem_op ov_add (sem_var 4) (sem_int 1)) sem_nilD))))))
theorem ok_merge_word (T : Tx K mg) : FnG P w K mg base 8 T.a_merge_word T.d_merge_word ["base", "mine", "yours"] (spF 3 K T.xc m_merge_word) := by
  refine fn_sem T.F_merge_word sc_merge_word rfl rfl fun cd A o s H E hg hr => ?_
  refine ⟨_, (pss_cons (ps_asg (pe_cl (E := atE (fun cls d _ H => E cls d H)) (ok_need_three_texts (P := P) (w := w) (base := base) T) hg (hr.mono (by decide)) (by rfl) T.g_need_three_texts T.F_need_three_texts.kp T.b_need_three_texts (fun σ => passAt (takes_of rfl rfl rfl rfl) σ) (pa_cons (pv 0) (pa_cons (pv 1) (pa_cons (pv 2) pa_nil)))) (pgt K 3 (pgc (pgn 0 (by exact sc_merge_word.nd) (by rfl) (by first | exact .inl rfl | exact .inr rfl) (by first | exact .inr rfl | exact .inl rfl)) (pgc (pgn 1 (by exact sc_merge_word.nd) (by rfl) (by first | exact .inl rfl | exact .inr rfl) (by first | exact .inr rfl | exact .inl rfl)) (pgc (pgn 2 (by exact sc_merge_word.nd) (by rfl) (by first | exact .inl rfl | exact .inr rfl) (by first | exact .inr rfl | exact .inl rfl)) pgs_nil (by rfl)) (by rfl)) (by rfl)) (by rfl) (by rfl) (by rfl) (by rfl)))
    (pss_one (ps_ret (pe_cl (E := atE (fun cls d _ H => E cls d H)) (ok_product_by_turns (P := P) (w := w) (base := base) T) hg (hr.mono (by decide)) (by rfl) T.g_product_by_turns T.F_product_by_turns.kp T.b_product_by_turns (fun σ => passAt (takes_of rfl rfl rfl rfl) σ) (pa_cons (pe_lst (pa_cons (pv 1) (pa_cons (pv 0) (pa_cons (pv 2) pa_nil)))) pa_nil))))), fun vs => ?_⟩
  exact (sem_seq (sem_tg (sem_gu (sem_gcons sem_name (sem_gcons sem_name (sem_gcons sem_name sem_gnil)))) (sem_cl (sem_consD (sem_var 0) (sem_consD (sem_var 1) (sem_consD (sem_var 2) sem_nilD)))))
    (sem_ret (sem_cl (sem_consD (sem_lst (sem_consD (sem_var 1) (sem_consD (sem_var 0) (sem_consD (sem_var 2) sem_nilD)))) sem_nilD))))
theorem ok_law_box (T : Tx K mg) : FnG P w K mg base 1 T.a_law_box T.d_law_box ["script", "k"] (spF 2 K T.xc m_law_box) := by
  refine fn_sem T.F_law_box sc_law_box rfl rfl fun cd A o s H E hg hr => ?_
  refine ⟨_, (pss_cons (ps_set (i := 2) sc_law_box.nd rfl (by first | exact .inl rfl | exact .inr rfl) (pe_op (k_add K (by rfl)) (pe_op op_mulW pe_int (pv 1)) pe_int))
    (pss_cons (ps_if (pt_cmpR op_lt (pv 1) (pe_callB (k_len K (by rfl)) (by rfl) T.m_len (by decide +kernel) (pa_cons (pv 0) pa_nil)) (nomark _))
    (pss_one (ps_set (i := 2) sc_law_box.nd rfl (by first | exact .inl rfl | exact .inr rfl) (pe_callB call_absA (by rfl) T.m_abs (by decide +kernel) (pa_cons (pe_ix (k_ix K (by rfl)) (pv 0) (pv 1) (fun _ _ => rfl)) pa_nil))))
    (pss_one (ps_if (pt_cmpR op_gt (pe_callB (k_len K (by rfl)) (by rfl) T.m_len (by decide +kernel) (pa_cons (pv 0) pa_nil)) pe_int (nomark _))
    (pss_one (ps_set (i := 2) sc_law_box.nd rfl (by first | exact .inl rfl | exact .inr rfl) (pe_op (k_add K (by rfl)) (pv 2) (pe_op op_mulW (pe_op op_mod (pe_callTy call_intA (by rfl) T.m_int (by decide +kernel) (pa_cons (pe_callB call_absA (by rfl) T.m_abs (by decide +kernel) (pa_cons (pe_ix (k_ix K (by rfl)) (pv 0) (pe_op op_mod (pe_callTy call_intA (by rfl) T.m_int (by decide +kernel) (pa_cons (pv 1) pa_nil)) (pe_callB (k_len K (by rfl)) (by rfl) T.m_len (by decide +kernel) (pa_cons (pv 0) pa_nil))) (fun _ _ => rfl)) pa_nil)) pa_nil)) pe_int) pe_int))))
    pss_nil)))
    (pss_one (ps_ret (pe_lst (pa_cons (pe_ix (k_ix K (by rfl)) (pe_lst (pa_cons pe_int (pa_cons (pv 2) pa_nil))) (pe_callTy call_intA (by rfl) T.m_int (by decide +kernel) (pa_cons (pe_cmpR op_ge (pv 2) (pe_op op_pow pe_int pe_int) (nomark _)) pa_nil)) (fun _ _ => rfl)) (pa_cons (pe_op (k_add K (by rfl)) (pe_op op_mod (pe_callTy call_intA (by rfl) T.m_int (by decide +kernel) (pa_cons (pe_op (k_add K (by rfl)) (pe_op op_mulW (pe_op op_mod (pe_callTy call_intA (by rfl) T.m_int (by decide +kernel) (pa_cons (pv 2) pa_nil)) pe_int) pe_int) (pe_op op_mulW pe_int (pv 1))) pa_nil)) pe_int) pe_int) (pa_cons pe_int pa_nil)))))))), fun vs => ?_⟩
  exact (sem_seq (sem_asg (sem_op ov_add (sem_op ov_mul (sem_int 41321) (sem_var 1)) (sem_int 3188)))
    (sem_seq (sem_ite (sem_tst (sem_op ov_lt (sem_var 1) (sem_call cv_len (sem_cons (sem_var 0) sem_nil))))
    (sem_asg (sem_call cv_abs (sem_cons (sem_op ov_ix (sem_var 0) (sem_var 1)) sem_nil)))
    (sem_ite (sem_tst (sem_op ov_gt (sem_call cv_len (sem_cons (sem_var 0) sem_nil)) (sem_int 0)))
    (sem_asg (sem_op ov_add (sem_var 2) (sem_op ov_mul (sem_op ov_mod (sem_call cv_int (sem_cons (sem_call cv_abs (sem_cons (sem_op ov_ix (sem_var 0) (sem_op ov_mod (sem_call cv_int (sem_cons (sem_var 1) sem_nil)) (sem_call cv_len (sem_cons (sem_var 0) sem_nil)))) sem_nil)) sem_nil)) (sem_int 2147483629)) (sem_int 67103))))
    sem_next))
    (sem_ret (sem_lst (sem_consD (sem_op ov_ix (sem_lst (sem_consD (sem_int 0) (sem_consD (sem_var 2) sem_nilD))) (sem_call cv_int (sem_cons (sem_op ov_ge (sem_var 2) (sem_op ov_pow (sem_int 10) (sem_int 18))) sem_nil))) (sem_consD (sem_op ov_add (sem_op ov_mod (sem_call cv_int (sem_cons (sem_op ov_add (sem_op ov_mul (sem_op ov_mod (sem_call cv_int (sem_cons (sem_var 2) sem_nil)) (sem_int 2147483629)) (sem_int 48271)) (sem_op ov_mul (sem_int 50131) (sem_var 1))) sem_nil)) (sem_int 2147483629)) (sem_int 1)) (sem_consD (sem_int 0) sem_nilD)))))))
theorem ok_law_take (T : Tx K mg) : FnG P w K mg base 1 T.a_law_take T.d_law_take ["box", "many"] (spF 2 K T.xc m_law_take) := by
  refine fn_sem T.F_law_take sc_law_take rfl rfl fun cd A o s H E hg hr => ?_
  refine ⟨_, (pss_cons (ps_if (pt_cmpR op_gt (pe_ix (k_ix K (by rfl)) (pv 0) pe_int (fun _ _ => rfl)) pe_int (nomark _))
    (pss_cons (ps_set (i := 2) sc_law_take.nd rfl (by first | exact .inl rfl | exact .inr rfl) (pe_op op_mod (pe_callTy call_intA (by rfl) T.m_int (by decide +kernel) (pa_cons (pe_ix (k_ix K (by rfl)) (pv 0) pe_int (fun _ _ => rfl)) pa_nil)) (pv 1)))
    (pss_cons (ps_asg (pe_op op_fdivW (pe_ix (k_ix K (by rfl)) (pv 0) pe_int (fun _ _ => rfl)) (pv 1)) (pg_sub (pv 0) pe_int set_list))
    (pss_one (ps_ret (pv 2)))))
    pss_nil)
    (pss_cons (ps_asg (pe_op (k_add K (by rfl)) (pe_ix (k_ix K (by rfl)) (pv 0) pe_int (fun _ _ => rfl)) pe_int) (pg_sub (pv 0) pe_int set_list))
    (pss_cons (ps_set (i := 3) sc_law_take.nd rfl (by first | exact .inl rfl | exact .inr rfl) (pe_op op_mod (pe_callTy call_intA (by rfl) T.m_int (by decide +kernel) (pa_cons (pe_op (k_add K (by rfl)) (pe_op op_mulW (pe_op (k_add K (by rfl)) (pe_ix (k_ix K (by rfl)) (pv 0) pe_int (fun _ _ => rfl)) (pe_op op_mulW pe_int (pe_ix (k_ix K (by rfl)) (pv 0) pe_int (fun _ _ => rfl)))) pe_int) pe_int) pa_nil)) pe_int))
    (pss_cons (ps_asg (pe_op (k_add K (by rfl)) (pe_op op_mod (pe_callTy call_intA (by rfl) T.m_int (by decide +kernel) (pa_cons (pe_op (k_add K (by rfl)) (pe_op op_mulW (pv 3) pe_int) pe_int) pa_nil)) pe_int) pe_int) (pg_sub (pv 0) pe_int set_list))
    (pss_one (ps_ret (pe_op op_mod (pe_callTy call_intA (by rfl) T.m_int (by decide +kernel) (pa_cons (pe_op op_fdivW (pe_op (k_add K (by rfl)) (pe_op op_mulW (pv 3) pe_int) (pe_ix (k_ix K (by rfl)) (pv 0) pe_int (fun _ _ => rfl))) pe_int) pa_nil)) (pv 1)))))))), fun vs => ?_⟩
  exact (sem_seq (sem_ite (sem_tst (sem_op ov_gt (sem_op ov_ix (sem_var 0) (sem_int 0)) (sem_int 0)))
    (sem_seq (sem_asg (sem_op ov_mod (sem_call cv_int (sem_cons (sem_op ov_ix (sem_var 0) (sem_int 0)) sem_nil)) (sem_var 1)))
    (sem_seq (sem_set (sem_op ov_fdv (sem_op ov_ix (sem_var 0) (sem_int 0)) (sem_var 1)) (sem_int 0))
    (sem_ret (sem_var 2))))
    sem_next)
    (sem_seq (sem_set (sem_op ov_add (sem_op ov_ix (sem_var 0) (sem_int 2)) (sem_int 1)) (sem_int 2))
    (sem_seq (sem_asg (sem_op ov_mod (sem_call cv_int (sem_cons (sem_op ov_add (sem_op ov_mul (sem_op ov_add (sem_op ov_ix (sem_var 0) (sem_int 1)) (sem_op ov_mul (sem_int 101909) (sem_op ov_ix (sem_var 0) (sem_int 2)))) (sem_int 67819)) (sem_int 41)) sem_nil)) (sem_int 2147483563)))
    (sem_seq (sem_set (sem_op ov_add (sem_op ov_mod (sem_call cv_int (sem_cons (sem_op ov_add (sem_op ov_mul (sem_var 3) (sem_int 39373)) (sem_int 27901)) sem_nil)) (sem_int 2147483629)) (sem_int 1)) (sem_int 1))
    (sem_ret (sem_op ov_mod (sem_call cv_int (sem_cons (sem_op ov_fdv (sem_op ov_add (sem_op ov_mul (sem_var 3) (sem_int 2147483647)) (sem_op ov_ix (sem_var 0) (sem_int 1))) (sem_int 8191)) sem_nil)) (sem_var 1)))))))
theorem ok_law_pick (T : Tx K mg) : FnG P w K mg base 2 T.a_law_pick T.d_law_pick ["box", "some"] (spF 2 K T.xc m_law_pick) := by
  refine fn_sem T.F_law_pick sc_law_pick rfl rfl fun cd A o s H E hg hr => ?_
  refine ⟨_, (pss_one (ps_ret (pe_ix (k_ix K (by rfl)) (pv 1) (pe_cl (E := atE (fun cls d _ H => E cls d H)) (ok_law_take (P := P) (w := w) (base := base) T) hg (hr.mono (by decide)) (by rfl) T.g_law_take T.F_law_take.kp T.b_law_take (fun σ => passAt (takes_of rfl rfl rfl rfl) σ) (pa_cons (pv 0) (pa_cons (pe_callB (k_len K (by rfl)) (by rfl) T.m_len (by decide +kernel) (pa_cons (pv 1) pa_nil)) pa_nil))) (fun _ _ => rfl)))), fun vs => ?_⟩
  exact (sem_ret (sem_op ov_ix (sem_var 1) (sem_clI (sem_consD (sem_call cv_len (sem_cons (sem_var 1) sem_nil)) sem_nilD))))
theorem ok_law_word (T : Tx K mg) : FnG P w K mg base 1 T.a_law_word T.d_law_word ["texts"] (spF 1 K T.xc m_law_word) := by
  refine fn_sem T.F_law_word sc_law_word rfl rfl fun cd A o s H E hg hr => ?_
  refine ⟨_, (pss_cons (ps_set (i := 1) sc_law_word.nd rfl (by first | exact .inl rfl | exact .inr rfl) (pe_lst pa_nil))
    (pss_cons (ps_for (passes_of rfl) rfl (k_enum K (by rfl) (by rfl) T.m_enumerate (pa_cons (pv 0) pa_nil) (by rfl)) (pgt K 2 (pgc (pgn 2 (by exact sc_law_word.nd) (by rfl) (by first | exact .inl rfl | exact .inr rfl) (by first | exact .inr rfl | exact .inl rfl)) (pgc (pgn 3 (by exact sc_law_word.nd) (by rfl) (by first | exact .inl rfl | exact .inr rfl) (by first | exact .inr rfl | exact .inl rfl)) pgs_nil (by rfl)) (by rfl)) (by rfl) (by rfl) (by rfl) (by rfl))
    (pss_cons (ps_set (i := 4) sc_law_word.nd rfl (by first | exact .inl rfl | exact .inr rfl) (pe_op op_sub pe_int (pe_op op_mulW pe_int (pe_op op_mod (pv 2) pe_int))))
    (pss_one (ps_for (passes_of rfl) rfl (k_sq K (by rfl) (k_stp K (by rfl) (pv 3) (po_some (pv 4)) (by intro _ _; with_unfolding_all rfl))) (pgn 5 (by exact sc_law_word.nd) (by rfl) (by first | exact .inl rfl | exact .inr rfl) (by first | exact .inr rfl | exact .inl rfl))
    (pss_one (ps_if (PW.pt (pw_and (pt_cmpR (k_ne K (by rfl) (hr.u 64)) (pv 1) (pe_lst pa_nil) (nomark _)) (pw_and1 (pt_cmpR (k_eq K (by rfl) (hr.u 64)) (pe_ix (k_ix K (by rfl)) (pv 1) (pe_un un_neg pe_int) (fun _ _ => rfl)) (pe_tup (pa_cons (pv 5) (pa_cons (pe_op op_sub pe_int (pv 4)) pa_nil))) (nomark _)))))
    (pss_one (ps_expr (pe_bm0 PySem.F.plainAttrs_list PySem.F.slot_list_pop PySem.F.type_list_pop mt_pop (pv 1))))
    (pss_one (ps_expr (pe_bm PySem.F.plainAttrs_list PySem.F.slot_list_append PySem.F.type_list_append mt_append (pv 1) (pa_cons (pe_tup (pa_cons (pv 5) (pa_cons (pv 4) pa_nil))) pa_nil))))))))))
    (pss_one (ps_ret (k_tuple K (by rfl) (by rfl) T.m_tuple (pv 1) (by rfl)))))), fun vs => ?_⟩
  exact (sem_seq (sem_asg (sem_lst sem_nilD))
    (sem_seq (sem_for (sem_enumU (sem_var 0)) (sem_gu (sem_gcons sem_name (sem_gcons sem_name sem_gnil)))
    (sem_seq (sem_asg (sem_op ov_sub (sem_int 1) (sem_op ov_mul (sem_int 2) (sem_op ov_mod (sem_var 2) (sem_int 2)))))
    (sem_for (sem_sq (sem_stp (sem_var 3) (sem_parO (sem_var 4)))) sem_name
    (sem_ite (sem_and (sem_tst (sem_op ov_ne (sem_var 1) (sem_lst sem_nilD))) (sem_tst (sem_op ov_eq (sem_op ov_ix (sem_var 1) (sem_neg (sem_int 1))) (sem_tup (sem_consD (sem_var 5) (sem_consD (sem_op ov_sub (sem_int 0) (sem_var 4)) sem_nilD))))))
    (sem_drop (sem_mut0 mv_pop))
    (sem_drop (sem_mut mv_append (sem_consD (sem_tup (sem_consD (sem_var 5) (sem_consD (sem_var 4) sem_nilD))) sem_nilD)))))))
    (sem_ret (sem_tupleOf (sem_var 1)))))
theorem ok_law_text (T : Tx K mg) : FnG P w K mg base 2 T.a_law_text T.d_law_text ["texts"] (spF 1 K T.xc m_law_text) := by
  refine fn_sem T.F_law_text sc_law_text rfl rfl fun cd A o s H E hg hr => ?_
  refine ⟨_, (pss_cons (ps_set (i := 1) sc_law_text.nd rfl (by first | exact .inl rfl | exact .inr rfl) (pe_cl (E := atE (fun cls d _ H => E cls d H)) (ok_law_word (P := P) (w := w) (base := base) T) hg (hr.mono (by decide)) (by rfl) T.g_law_word T.F_law_word.kp T.b_law_word (fun σ => passAt (takes_of rfl rfl rfl rfl) σ) (pa_cons (pv 0) pa_nil)))
    (pss_one (ps_ret (pe_ifExp (pt_cmpR (k_in K (by rfl) (hr.u 65)) (pe_un un_neg pe_int) (by exact (pe_lc (own := [("letter", 2), ("sign", 3)]) rfl sc_law_text.nd (k_sq K (by rfl) (pv 1)) (blkOk_by (N := N_law_text) (sc := defScope s_law_text) (by decide +kernel)) (fun _ _ _ _ _ => by exact (pgt K 2 (pgc (pgn 2 (by exact sc_law_text.nd) (by rfl) (by first | exact .inl rfl | exact .inr rfl) (by first | exact .inr rfl | exact .inl rfl)) (pgc (pgn 3 (by exact sc_law_text.nd) (by rfl) (by first | exact .inl rfl | exact .inr rfl) (by first | exact .inr rfl | exact .inl rfl)) pgs_nil (by rfl)) (by rfl)) (by rfl) (by rfl) (by rfl) (by rfl))) (fun _ _ _ _ _ => by exact pts_nil) (fun _ _ _ _ _ => by exact (pv 3)))) (by rfl)) pe_non (k_tuple K (by rfl) (by rfl) T.m_tuple (by exact (pe_lc (own := [("letter", 2), ("sign", 3)]) rfl sc_law_text.nd (k_sq K (by rfl) (pv 1)) (blkOk_by (N := N_law_text) (sc := defScope s_law_text) (by decide +kernel)) (fun _ _ _ _ _ => by exact (pgt K 2 (pgc (pgn 2 (by exact sc_law_text.nd) (by rfl) (by first | exact .inl rfl | exact .inr rfl) (by first | exact .inr rfl | exact .inl rfl)) (pgc (pgn 3 (by exact sc_law_text.nd) (by rfl) (by first | exact .inl rfl | exact .inr rfl) (by first | exact .inr rfl | exact .inl rfl)) pgs_nil (by rfl)) (by rfl)) (by rfl) (by rfl) (by rfl) (by rfl))) (fun _ _ _ _ _ => by exact pts_nil) (fun _ _ _ _ _ => by exact (pv 2)))) (by rfl)))))), fun vs => ?_⟩
  exact (sem_seq (sem_asg (sem_cl (sem_consD (sem_var 0) sem_nilD)))
    (sem_ret (sem_if (sem_tst (sem_op ov_in (sem_neg (sem_int 1)) (sem_lc (vs := [2, 3]) (sem_sq (sem_var 1)) (sem_gu (sem_gcons sem_name (sem_gcons sem_name sem_gnil))) sem_yes (sem_var 3) (by decide)))) sem_non (sem_tupleOf (sem_lc (vs := [2, 3]) (sem_sq (sem_var 1)) (sem_gu (sem_gcons sem_name (sem_gcons sem_name sem_gnil))) sem_yes (sem_var 2) (by decide))))))
theorem ok_law_row (T : Tx K mg) : FnG P w K mg base 2 T.a_law_row T.d_law_row ["box", "letters", "longest"] (spF 3 K T.xc m_law_row) := by
  refine fn_sem T.F_law_row sc_law_row rfl rfl fun cd A o s H E hg hr => ?_
  refine ⟨_, (pss_one (ps_ret (k_tuple K (by rfl) (by rfl) T.m_tuple (by exact (pe_lc (own := [("spot", 3)]) rfl sc_law_row.nd (pi_range1 (by rfl) T.m_range (pa_cons (pe_cl (E := atE (fun cls d _ H => E cls d H)) (ok_law_take (P := P) (w := w) (base := base) T) hg (hr.mono (by decide)) (by rfl) T.g_law_take T.F_law_take.kp T.b_law_take (fun σ => passAt (takes_of rfl rfl rfl rfl) σ) (pa_cons (pv 0) (pa_cons (pe_op (k_add K (by rfl)) (pv 2) pe_int) pa_nil))) pa_nil)) (blkOk_by (N := N_law_row) (sc := defScope s_law_row) (by decide +kernel)) (fun _ _ _ _ _ => by exact (pgn 3 (by exact sc_law_row.nd) (by rfl) (by first | exact .inl rfl | exact .inr rfl) (by first | exact .inr rfl | exact .inl rfl))) (fun _ _ _ _ _ => by exact pts_nil) (fun _ _ _ _ _ => by exact (pe_ix (k_ix K (by rfl)) (pe_tup (pa_cons pe_int (pa_cons pe_int (pa_cons pe_int pa_nil)))) (pe_cl (E := atE EX0) (ok_law_take (P := P) (w := w) (base := base) T) hg (hr.mono (by decide)) (by rfl) T.g_law_take T.F_law_take.kp T.b_law_take (fun σ => pass_no σ) (pa_cons (pv 0) (pa_cons (pv 1) pa_nil))) (fun _ _ => rfl))))) (by rfl)))), fun vs => ?_⟩
  exact (sem_ret (sem_tupleOf (sem_lc (vs := [3]) (sem_rng1 (sem_clI (sem_consD (sem_op ov_add (sem_var 2) (sem_int 1)) sem_nilD))) sem_name sem_yes (sem_op ov_ix (sem_tup (sem_consD (sem_int 3) (sem_consD (sem_int 47) (sem_consD (sem_int 99) sem_nilD)))) (sem_clI (sem_consD (sem_var 1) sem_nilD))) (by decide))))
theorem ok_law_three (T : Tx K mg) : FnG P w K mg base 3 T.a_law_three T.d_law_three ["box", "letters"] (spF 2 K T.xc m_law_three) := by
  refine fn_sem T.F_law_three sc_law_three rfl rfl fun cd A o s H E hg hr => ?_
  refine ⟨_, (pss_cons (ps_setLc (i := 2) (own := [("turn", 5)]) rfl sc_law_three.nd rfl rfl (sw_true rfl rfl rfl (by decide +kernel)) (pi_range1 (by rfl) T.m_range (pa_cons pe_int pa_nil)) (blkOk_by (N := N_law_three) (sc := defScope s_law_three) (by decide +kernel)) (fun _ _ _ _ _ => by exact (pgn 5 (by exact sc_law_three.nd) (by rfl) (by first | exact .inl rfl | exact .inr rfl) (by first | exact .inr rfl | exact .inl rfl))) (fun _ _ _ _ _ => by exact pts_nil) (fun _ _ _ _ _ => by exact (pe_cl (E := atE EX0) (ok_law_row (P := P) (w := w) (base := base) T) hg (hr.mono (by decide)) (by rfl) T.g_law_row T.F_law_row.kp T.b_law_row (fun σ => pass_no σ) (pa_cons (pv 0) (pa_cons (pv 1) (pa_cons pe_int pa_nil))))))
    (pss_cons (ps_set (i := 3) sc_law_three.nd rfl (by first | exact .inl rfl | exact .inr rfl) (pe_cl (E := atE (fun cls d _ H => E cls d H)) (ok_law_take (P := P) (w := w) (base := base) T) hg (hr.mono (by decide)) (by rfl) T.g_law_take T.F_law_take.kp T.b_law_take (fun σ => passAt (takes_of rfl rfl rfl rfl) σ) (pa_cons (pv 0) (pa_cons pe_int pa_nil))))
    (pss_cons (ps_if (pt_cmpR (k_eq K (by rfl) (hr.u 64)) (pv 3) pe_int (nomark _))
    (pss_one (ps_ret (pe_slice (k_sl K (by rfl)) (pv 2) po_none (po_some pe_int))))
    pss_nil)
    (pss_cons (ps_set (i := 4) sc_law_three.nd rfl (by first | exact .inl rfl | exact .inr rfl) (pe_op (k_add K (by rfl)) (pe_op (k_add K (by rfl)) (pe_ix (k_ix K (by rfl)) (pv 2) pe_int (fun _ _ => rfl)) (pe_ix (k_ix K (by rfl)) (pv 2) pe_int (fun _ _ => rfl))) (pe_ix (k_ix K (by rfl)) (pv 2) pe_int (fun _ _ => rfl))))
    (pss_cons (ps_if (pt_cmpR (k_eq K (by rfl) (hr.u 64)) (pv 3) pe_int (nomark _))
    (pss_one (ps_ret (pe_lst (pa_cons (pv 4) (pa_cons (pe_op (k_add K (by rfl)) (pe_op (k_add K (by rfl)) (pe_ix (k_ix K (by rfl)) (pv 2) pe_int (fun _ _ => rfl)) (pe_ix (k_ix K (by rfl)) (pv 2) pe_int (fun _ _ => rfl))) (pe_ix (k_ix K (by rfl)) (pv 2) pe_int (fun _ _ => rfl))) (pa_cons (pe_op (k_add K (by rfl)) (pe_op (k_add K (by rfl)) (pe_ix (k_ix K (by rfl)) (pv 2) pe_int (fun _ _ => rfl)) (pe_ix (k_ix K (by rfl)) (pv 2) pe_int (fun _ _ => rfl))) (pe_ix (k_ix K (by rfl)) (pv 2) pe_int (fun _ _ => rfl))) pa_nil))))))
    pss_nil)
    (pss_one (ps_ret (pe_lst (pa_cons (pv 4) (pa_cons (pe_op (k_add K (by rfl)) (pe_op (k_add K (by rfl)) (pe_ix (k_ix K (by rfl)) (pv 2) pe_int (fun _ _ => rfl)) (pe_ix (k_ix K (by rfl)) (pv 2) pe_int (fun _ _ => rfl))) (pe_ix (k_ix K (by rfl)) (pv 2) pe_int (fun _ _ => rfl))) (pa_cons (pe_op (k_add K (by rfl)) (pe_op (k_add K (by rfl)) (pe_ix (k_ix K (by rfl)) (pv 2) pe_int (fun _ _ => rfl)) (pe_ix (k_ix K (by rfl)) (pv 2) pe_int (fun _ _ => rfl))) (pe_ix (k_ix K (by rfl)) (pv 2) pe_int (fun _ _ => rfl))) pa_nil))))))))))), fun vs => ?_⟩
  exact (sem_seq (sem_asg (sem_lc (vs := [5]) (sem_rng1 (sem_int 6)) sem_name sem_yes (sem_clI (sem_consD (sem_var 1) (sem_consD (sem_int 3) sem_nilD))) (by decide)))
    (sem_seq (sem_asg (sem_clI (sem_consD (sem_int 4) sem_nilD)))
    (sem_seq (sem_ite (sem_tst (sem_op ov_eq (sem_var 3) (sem_int 0)))
    (sem_ret (sem_sl (sem_var 2) sem_noO (sem_parO (sem_int 3))))
    sem_next)
    (sem_seq (sem_asg (sem_op ov_add (sem_op ov_add (sem_op ov_ix (sem_var 2) (sem_int 0)) (sem_op ov_ix (sem_var 2) (sem_int 1))) (sem_op ov_ix (sem_var 2) (sem_int 2))))
    (sem_seq (sem_ite (sem_tst (sem_op ov_eq (sem_var 3) (sem_int 1)))
    (sem_ret (sem_lst (sem_consD (sem_var 4) (sem_consD (sem_op ov_add (sem_op ov_add (sem_op ov_ix (sem_var 2) (sem_int 0)) (sem_op ov_ix (sem_var 2) (sem_int 3))) (sem_op ov_ix (sem_var 2) (sem_int 2))) (sem_consD (sem_op ov_add (sem_op ov_add (sem_op ov_ix (sem_var 2) (sem_int 0)) (sem_op ov_ix (sem_var 2) (sem_int 1))) (sem_op ov_ix (sem_var 2) (sem_int 4))) sem_nilD)))))
    sem_next)
    (sem_ret (sem_lst (sem_consD (sem_var 4) (sem_consD (sem_op ov_add (sem_op ov_add (sem_op ov_ix (sem_var 2) (sem_int 3)) (sem_op ov_ix (sem_var 2) (sem_int 1))) (sem_op ov_ix (sem_var 2) (sem_int 2))) (sem_consD (sem_op ov_add (sem_op ov_add (sem_op ov_ix (sem_var 2) (sem_int 0)) (sem_op ov_ix (sem_var 2) (sem_int 1))) (sem_op ov_ix (sem_var 2) (sem_int 4))) sem_nilD))))))))))
theorem ok_law_refused (T : Tx K mg) : FnG P w K mg base 9 T.a_law_refused T.d_law_refused ["work", "base", "mine", "yours"] (spF 4 K T.xc m_law_refused) := by
  refine fn_sem T.F_law_refused sc_law_refused rfl rfl fun cd A o s H E hg hr => ?_
  refine ⟨_, (pss_cons (ps_try_as (i := 4) rfl rfl sc_law_refused.nd rfl rfl ⟨rfl, by decide, .inl T.e0.gC⟩ (takes_of rfl rfl rfl rfl)
    (fun W pn xe tk po => (pss_one (ps_expr (k_cw P w K mg base rfl rfl rfl rfl rfl (lv := 8) (i := 0) (E := atE W) hg (hr.mono (by decide)) (by rfl) (by first | exact Or.inl rfl | exact Or.inr (Or.inl rfl) | exact Or.inr (Or.inr rfl)) (fun σ => passAt tk σ) (pa_cons (pv 1) (pa_cons (pv 2) (pa_cons (pv 3) pa_nil)))))))
    (fun a oe cls d pn hz hf => (pss_one (ps_ret (pe_ifExp (pt_val (pe_callB (call_isErr T.c0 T.k0_MergeError hz hf) (by rfl) T.m_isinstance (by decide +kernel) (pa_cons (pv 4) (pa_cons (pe_glob (v := .ref T.a_MergeError) (by rfl) T.gB_MergeError rfl) pa_nil)))) (pe_atE T.e0 hz hf (pv 4)) pe_non)))))
    (pss_one (ps_ret pe_non))), fun vs => ?_⟩
  exact (sem_seq (sem_try (tag := 0) T.xe0 T.e0.te (fun W => (sem_drop (sem_cw (lv := 8) (i := 0) (TbOk.cons T.xf0 (ok_merge_texts (P := P) (w := w) (base := base) T) (by decide) T.F_merge_texts.kp T.b_merge_texts (TbOk.cons T.xf1 (ok_merge_cuts (P := P) (w := w) (base := base) T) (by decide) T.F_merge_cuts.kp T.b_merge_cuts (TbOk.cons T.xf2 (ok_merge_word (P := P) (w := w) (base := base) T) (by decide) T.F_merge_word.kp T.b_merge_word TbOk.nil))) (sem_consD (sem_var 1) (sem_consD (sem_var 2) (sem_consD (sem_var 3) sem_nilD))))))
    (fun a d => (sem_ret (sem_if (sem_tst (sem_isB (tag := 0) T.xe0)) (sem_at (tag := 0) T.xe0) sem_non))))
    (sem_ret sem_non))
theorem ok_law_cuts (T : Tx K mg) : FnG P w K mg base 1 T.a_law_cuts T.d_law_cuts ["base", "mine", "yours"] (spF 3 K T.xc m_law_cuts) := by
  refine fn_sem T.F_law_cuts sc_law_cuts rfl rfl fun cd A o s H E hg hr => ?_
  refine ⟨_, (pss_cons (ps_par (i := 3) (j := 4) rfl sc_law_cuts.nd rfl rfl (by decide) rfl rfl (pa_cons (pe_lst pa_nil) (pa_cons (pe_lst pa_nil) pa_nil)) (by rfl))
    (pss_cons (ps_for (passes_of rfl) rfl (pi_range1 (by rfl) T.m_range (pa_cons (pe_op (k_add K (by rfl)) (pe_callB (k_len K (by rfl)) (by rfl) T.m_len (by decide +kernel) (pa_cons (pv 0) pa_nil)) pe_int) pa_nil)) (pgn 5 (by exact sc_law_cuts.nd) (by rfl) (by first | exact .inl rfl | exact .inr rfl) (by first | exact .inr rfl | exact .inl rfl))
    (pss_cons (ps_set (i := 6) sc_law_cuts.nd rfl (by first | exact .inl rfl | exact .inr rfl) (pe_op op_sub (pe_callB (k_len K (by rfl)) (by rfl) T.m_len (by decide +kernel) (pa_cons (pv 0) pa_nil)) (pv 5)))
    (pss_one (ps_if (PW.pt (pw_and (pt_cmpR op_le (pv 6) (pe_callB (k_len K (by rfl)) (by rfl) T.m_len (by decide +kernel) (pa_cons (pv 1) pa_nil)) (nomark _)) (pw_and (pt_cmpR (k_eq K (by rfl) (hr.u 64)) (pe_slice (k_sl K (by rfl)) (pv 1) (po_some (pe_op op_sub (pe_callB (k_len K (by rfl)) (by rfl) T.m_len (by decide +kernel) (pa_cons (pv 1) pa_nil)) (pv 6))) po_none) (pe_slice (k_sl K (by rfl)) (pv 0) (po_some (pv 5)) po_none) (nomark _)) (pw_and1 (pt_cmpR (k_eq K (by rfl) (hr.u 64)) (pe_slice (k_sl K (by rfl)) (pv 2) po_none (po_some (pv 5))) (pe_slice (k_sl K (by rfl)) (pv 0) po_none (po_some (pv 5))) (nomark _))))))
    (pss_cons (ps_expr (pe_bm PySem.F.plainAttrs_list PySem.F.slot_list_append PySem.F.type_list_append mt_append (pv 3) (pa_cons (pv 5) pa_nil)))
    (pss_one (ps_expr (pe_bm PySem.F.plainAttrs_list PySem.F.slot_list_append PySem.F.type_list_append mt_append (pv 4) (pa_cons (pe_op (k_add K (by rfl)) (pe_slice (k_sl K (by rfl)) (pv 1) po_none (po_some (pe_op op_sub (pe_callB (k_len K (by rfl)) (by rfl) T.m_len (by decide +kernel) (pa_cons (pv 1) pa_nil)) (pv 6)))) (pe_slice (k_sl K (by rfl)) (pv 2) (po_some (pv 5)) po_none)) pa_nil)))))
    pss_nil))))
    (pss_one (ps_ret (pe_tup (pa_cons (pv 3) (pa_cons (pv 4) pa_nil))))))), fun vs => ?_⟩
  exact (sem_seq (sem_par (sem_lst sem_nilD) (sem_lst sem_nilD))
    (sem_seq (sem_for (sem_rng1 (sem_op ov_add (sem_call cv_len (sem_cons (sem_var 0) sem_nil)) (sem_int 1))) sem_name
    (sem_seq (sem_asg (sem_op ov_sub (sem_call cv_len (sem_cons (sem_var 0) sem_nil)) (sem_var 5)))
    (sem_ite (sem_and (sem_tst (sem_op ov_le (sem_var 6) (sem_call cv_len (sem_cons (sem_var 1) sem_nil)))) (sem_and (sem_tst (sem_op ov_eq (sem_sl (sem_var 1) (sem_parO (sem_op ov_sub (sem_call cv_len (sem_cons (sem_var 1) sem_nil)) (sem_var 6))) sem_noO) (sem_sl (sem_var 0) (sem_parO (sem_var 5)) sem_noO))) (sem_tst (sem_op ov_eq (sem_sl (sem_var 2) sem_noO (sem_parO (sem_var 5))) (sem_sl (sem_var 0) sem_noO (sem_parO (sem_var 5)))))))
    (sem_seq (sem_drop (sem_mut mv_append (sem_consD (sem_var 5) sem_nilD)))
    (sem_drop (sem_mut mv_append (sem_consD (sem_op ov_add (sem_sl (sem_var 1) sem_noO (sem_parO (sem_op ov_sub (sem_call cv_len (sem_cons (sem_var 1) sem_nil)) (sem_var 6)))) (sem_sl (sem_var 2) (sem_parO (sem_var 5)) sem_noO)) sem_nilD))))
    sem_next)))
    (sem_ret (sem_tup (sem_consD (sem_var 3) (sem_consD (sem_var 4) sem_nilD))))))
theorem ok_law (T : Tx K mg) : FnG P w K mg base 10 T.a_law T.d_law ["script"] (spF 1 K T.xc m_law) := by
  refine fn_sem T.F_law sc_law rfl rfl fun cd A o s H E hg hr => ?_
  refine ⟨_, (pss_cons (ps_if (PW.pt (pw_or (pt_cmpR (k_ne K (by rfl) (hr.u 64)) (pe_clK0 (E := atE (fun cls d _ H => E cls d H)) (ok_merge_texts (P := P) (w := w) (base := base) T) hg (hr.mono (by decide)) (by rfl) T.g_merge_texts T.F_merge_texts.kp T.kb_merge_texts_0_base_mine_yours (fun σ => passAt (takes_of rfl rfl rfl rfl) σ) (pk_cons (pe_tup (pa_cons pe_int (pa_cons pe_int (pa_cons pe_int (pa_cons pe_int pa_nil))))) (pk_cons (pe_tup (pa_cons pe_int (pa_cons pe_int (pa_cons pe_int (pa_cons pe_int pa_nil))))) (pk_cons (pe_tup (pa_cons pe_int (pa_cons pe_int (pa_cons pe_int (pa_cons pe_int pa_nil))))) pk_nil)))) (pe_tup (pa_cons pe_int (pa_cons pe_int (pa_cons pe_int (pa_cons pe_int pa_nil))))) (nomark _)) (pw_or1 (pt_cmpR op_notN (pe_cl (E := atE (fun cls d _ H => E cls d H)) (ok_merge_texts (P := P) (w := w) (base := base) T) hg (hr.mono (by decide)) (by rfl) T.g_merge_texts T.F_merge_texts.kp T.b_merge_texts (fun σ => passAt (takes_of rfl rfl rfl rfl) σ) (pa_cons (pe_tup (pa_cons pe_int (pa_cons pe_int pa_nil))) (pa_cons (pe_tup (pa_cons pe_int (pa_cons pe_int pa_nil))) (pa_cons (pe_tup (pa_cons pe_int (pa_cons pe_int pa_nil))) pa_nil)))) pe_non (nomark _)))))
    (pss_one (ps_ret pe_bl))
    pss_nil)
    (pss_cons (ps_if (PW.pt (pw_or (pt_cmpR (k_ne K (by rfl) (hr.u 64)) (pe_clK0 (E := atE (fun cls d _ H => E cls d H)) (ok_merge_cuts (P := P) (w := w) (base := base) T) hg (hr.mono (by decide)) (by rfl) T.g_merge_cuts T.F_merge_cuts.kp T.kb_merge_cuts_0_base_mine_yours (fun σ => passAt (takes_of rfl rfl rfl rfl) σ) (pk_cons (pe_tup (pa_cons pe_int (pa_cons pe_int (pa_cons pe_int (pa_cons pe_int pa_nil))))) (pk_cons (pe_tup (pa_cons pe_int (pa_cons pe_int (pa_cons pe_int (pa_cons pe_int pa_nil))))) (pk_cons (pe_tup (pa_cons pe_int (pa_cons pe_int (pa_cons pe_int (pa_cons pe_int pa_nil))))) pk_nil)))) (pe_tup (pa_cons pe_int (pa_cons pe_int (pa_cons pe_int pa_nil)))) (nomark _)) (pw_or1 (pt_cmpR (k_ne K (by rfl) (hr.u 64)) (pe_cl (E := atE (fun cls d _ H => E cls d H)) (ok_merge_texts (P := P) (w := w) (base := base) T) hg (hr.mono (by decide)) (by rfl) T.g_merge_texts T.F_merge_texts.kp T.b_merge_texts (fun σ => passAt (takes_of rfl rfl rfl rfl) σ) (pa_cons (pe_tup pa_nil) (pa_cons (pe_tup (pa_cons pe_int pa_nil)) (pa_cons (pe_tup (pa_cons pe_int pa_nil)) pa_nil)))) (pe_tup (pa_cons pe_int (pa_cons pe_int pa_nil))) (nomark _)))))
    (pss_one (ps_ret pe_bl))
    pss_nil)
    (pss_cons (ps_for (passes_of rfl) rfl (pi_range1 (by rfl) T.m_range (pa_cons pe_int pa_nil)) (pgn 1 (by exact sc_law.nd) (by rfl) (by first | exact .inl rfl | exact .inr rfl) (by first | exact .inr rfl | exact .inl rfl))
    (pss_cons (ps_set (i := 2) sc_law.nd rfl (by first | exact .inl rfl | exact .inr rfl) (pe_cl (E := atE (fun cls d _ H => E cls d H)) (ok_law_box (P := P) (w := w) (base := base) T) hg (hr.mono (by decide)) (by rfl) T.g_law_box T.F_law_box.kp T.b_law_box (fun σ => passAt (takes_of rfl rfl rfl rfl) σ) (pa_cons (pv 0) (pa_cons (pv 1) pa_nil))))
    (pss_cons (ps_asg (pe_cl (E := atE (fun cls d _ H => E cls d H)) (ok_law_three (P := P) (w := w) (base := base) T) hg (hr.mono (by decide)) (by rfl) T.g_law_three T.F_law_three.kp T.b_law_three (fun σ => passAt (takes_of rfl rfl rfl rfl) σ) (pa_cons (pv 2) (pa_cons (pe_op (k_add K (by rfl)) pe_int (pe_cl (E := atE (fun cls d _ H => E cls d H)) (ok_law_take (P := P) (w := w) (base := base) T) hg (hr.mono (by decide)) (by rfl) T.g_law_take T.F_law_take.kp T.b_law_take (fun σ => passAt (takes_of rfl rfl rfl rfl) σ) (pa_cons (pv 2) (pa_cons pe_int pa_nil)))) pa_nil))) (pgt K 3 (pgc (pgn 3 (by exact sc_law.nd) (by rfl) (by first | exact .inl rfl | exact .inr rfl) (by first | exact .inr rfl | exact .inl rfl)) (pgc (pgn 4 (by exact sc_law.nd) (by rfl) (by first | exact .inl rfl | exact .inr rfl) (by first | exact .inr rfl | exact .inl rfl)) (pgc (pgn 5 (by exact sc_law.nd) (by rfl) (by first | exact .inl rfl | exact .inr rfl) (by first | exact .inr rfl | exact .inl rfl)) pgs_nil (by rfl)) (by rfl)) (by rfl)) (by rfl) (by rfl) (by rfl) (by rfl)))
    (pss_cons (ps_asg (pe_cl (E := atE (fun cls d _ H => E cls d H)) (ok_law_cuts (P := P) (w := w) (base := base) T) hg (hr.mono (by decide)) (by rfl) T.g_law_cuts T.F_law_cuts.kp T.b_law_cuts (fun σ => passAt (takes_of rfl rfl rfl rfl) σ) (pa_cons (pv 3) (pa_cons (pv 4) (pa_cons (pv 5) pa_nil)))) (pgt K 2 (pgc (pgn 6 (by exact sc_law.nd) (by rfl) (by first | exact .inl rfl | exact .inr rfl) (by first | exact .inr rfl | exact .inl rfl)) (pgc (pgn 7 (by exact sc_law.nd) (by rfl) (by first | exact .inl rfl | exact .inr rfl) (by first | exact .inr rfl | exact .inl rfl)) pgs_nil (by rfl)) (by rfl)) (by rfl) (by rfl) (by rfl) (by rfl)))
    (pss_cons (ps_set (i := 8) sc_law.nd rfl (by first | exact .inl rfl | exact .inr rfl) (pe_cl (E := atE (fun cls d _ H => E cls d H)) (ok_law_text (P := P) (w := w) (base := base) T) hg (hr.mono (by decide)) (by rfl) T.g_law_text T.F_law_text.kp T.b_law_text (fun σ => passAt (takes_of rfl rfl rfl rfl) σ) (pa_cons (pe_lst (pa_cons (pv 4) (pa_cons (pv 3) (pa_cons (pv 5) pa_nil)))) pa_nil)))
    (pss_cons (ps_if (PW.pt (pw_or (pt_cmpR op_ne (pe_callB (k_repr K (by rfl) hg (hr.u 66)) (by rfl) T.m_repr (by decide +kernel) (pa_cons (pe_cl (E := atE (fun cls d _ H => E cls d H)) (ok_merge_cuts (P := P) (w := w) (base := base) T) hg (hr.mono (by decide)) (by rfl) T.g_merge_cuts T.F_merge_cuts.kp T.b_merge_cuts (fun σ => passAt (takes_of rfl rfl rfl rfl) σ) (pa_cons (pv 3) (pa_cons (pe_callTy (k_list K (by rfl)) (by rfl) T.m_list (by decide +kernel) (pa_cons (pv 4) pa_nil)) (pa_cons (pv 5) pa_nil)))) pa_nil)) (pe_callB (k_repr K (by rfl) hg (hr.u 66)) (by rfl) T.m_repr (by decide +kernel) (pa_cons (k_tuple K (by rfl) (by rfl) T.m_tuple (pv 6) (by rfl)) pa_nil)) (nomark _)) (pw_or1 (pt_cmpR (k_ne K (by rfl) (hr.u 64)) (by exact (pe_lc (own := [("text", 12)]) rfl sc_law.nd (k_sq K (by rfl) (pv 7)) (blkOk_by (N := N_law) (sc := defScope s_law) (by decide +kernel)) (fun _ _ _ _ _ => by exact (pgn 12 (by exact sc_law.nd) (by rfl) (by first | exact .inl rfl | exact .inr rfl) (by first | exact .inr rfl | exact .inl rfl))) (fun _ _ _ _ _ => by exact (pts_one (pt_cmpR (k_ne K (by rfl) (hr.u 64)) (pv 12) (pv 8) (nomark _)))) (fun _ _ _ _ _ => by exact (pv 12)))) (pe_lst pa_nil) (nomark _)))))
    (pss_one (ps_ret pe_bl))
    pss_nil)
    (pss_cons (ps_if (PW.pt (pw_or (pt_cmpR op_ne (pe_callB (k_repr K (by rfl) hg (hr.u 66)) (by rfl) T.m_repr (by decide +kernel) (pa_cons (pe_cl (E := atE (fun cls d _ H => E cls d H)) (ok_merge_texts (P := P) (w := w) (base := base) T) hg (hr.mono (by decide)) (by rfl) T.g_merge_texts T.F_merge_texts.kp T.b_merge_texts (fun σ => passAt (takes_of rfl rfl rfl rfl) σ) (pa_cons (pe_callTy (k_list K (by rfl)) (by rfl) T.m_list (by decide +kernel) (pa_cons (pv 3) pa_nil)) (pa_cons (pv 4) (pa_cons (pe_callTy (k_list K (by rfl)) (by rfl) T.m_list (by decide +kernel) (pa_cons (pv 5) pa_nil)) pa_nil)))) pa_nil)) (pe_callB (k_repr K (by rfl) hg (hr.u 66)) (by rfl) T.m_repr (by decide +kernel) (pa_cons (pv 8) pa_nil)) (nomark _)) (pw_or1 (pt_cmpR (k_ne K (by rfl) (hr.u 64)) (pe_cmpR op_isN (pv 8) pe_non (nomark _)) (pe_cmpR (k_eq K (by rfl) (hr.u 64)) (pv 6) (pe_lst pa_nil) (nomark _)) (nomark _)))))
    (pss_one (ps_ret pe_bl))
    pss_nil)
    (pss_cons (ps_if (pt_cmpR op_ne (pe_callB (k_repr K (by rfl) hg (hr.u 66)) (by rfl) T.m_repr (by decide +kernel) (pa_cons (pe_clK0 (E := atE (fun cls d _ H => E cls d H)) (ok_merge_word (P := P) (w := w) (base := base) T) hg (hr.mono (by decide)) (by rfl) T.g_merge_word T.F_merge_word.kp T.kb_merge_word_0_yours_mine_base (fun σ => passAt (takes_of rfl rfl rfl rfl) σ) (pk_cons (pv 5) (pk_cons (pv 4) (pk_cons (pv 3) pk_nil)))) pa_nil)) (pe_callB (k_repr K (by rfl) hg (hr.u 66)) (by rfl) T.m_repr (by decide +kernel) (pa_cons (pe_cl (E := atE (fun cls d _ H => E cls d H)) (ok_law_word (P := P) (w := w) (base := base) T) hg (hr.mono (by decide)) (by rfl) T.g_law_word T.F_law_word.kp T.b_law_word (fun σ => passAt (takes_of rfl rfl rfl rfl) σ) (pa_cons (pe_lst (pa_cons (pv 4) (pa_cons (pv 3) (pa_cons (pv 5) pa_nil)))) pa_nil)) pa_nil)) (nomark _))
    (pss_one (ps_ret pe_bl))
    pss_nil)
    (pss_cons (ps_if (PW.pt (pw_and (pt_cmpR (k_ne K (by rfl) (hr.u 64)) (pv 6) (pe_lst pa_nil) (nomark _)) (pw_and1 (pt_cmpR (k_ne K (by rfl) (hr.u 64)) (pv 6) (pe_listRg rfl (by rfl) T.m_list (prg_2 (by rfl) T.m_range (pe_ix (k_ix K (by rfl)) (pv 6) pe_int (fun _ _ => rfl)) (pe_op (k_add K (by rfl)) (pe_ix (k_ix K (by rfl)) (pv 6) (pe_un un_neg pe_int) (fun _ _ => rfl)) pe_int))) (nomark _)))))
    (pss_one (ps_ret pe_bl))
    pss_nil)
    (pss_cons (ps_if (PW.pt (pw_or (pt_cmpR (k_ne K (by rfl) (hr.u 64)) (pe_cl (E := atE (fun cls d _ H => E cls d H)) (ok_merge_texts (P := P) (w := w) (base := base) T) hg (hr.mono (by decide)) (by rfl) T.g_merge_texts T.F_merge_texts.kp T.b_merge_texts (fun σ => passAt (takes_of rfl rfl rfl rfl) σ) (pa_cons (pv 3) (pa_cons (pv 3) (pa_cons (pv 5) pa_nil)))) (pv 5) (nomark _)) (pw_or1 (pt_cmpR (k_ne K (by rfl) (hr.u 64)) (pe_cl (E := atE (fun cls d _ H => E cls d H)) (ok_merge_texts (P := P) (w := w) (base := base) T) hg (hr.mono (by decide)) (by rfl) T.g_merge_texts T.F_merge_texts.kp T.b_merge_texts (fun σ => passAt (takes_of rfl rfl rfl rfl) σ) (pa_cons (pv 3) (pa_cons (pv 4) (pa_cons (pv 3) pa_nil)))) (pv 4) (nomark _)))))
    (pss_one (ps_ret pe_bl))
    pss_nil)
    (pss_cons (ps_set (i := 9) sc_law.nd rfl (by first | exact .inl rfl | exact .inr rfl) (pe_cl (E := atE (fun cls d _ H => E cls d H)) (ok_law_pick (P := P) (w := w) (base := base) T) hg (hr.mono (by decide)) (by rfl) T.g_law_pick T.F_law_pick.kp T.b_law_pick (fun σ => passAt (takes_of rfl rfl rfl rfl) σ) (pa_cons (pv 2) (pa_cons (pe_lst (pa_cons pe_non (pa_cons pe_int (pa_cons pe_str (pa_cons (pe_tup (pa_cons pe_int pa_nil)) (pa_cons (pe_lst (pa_cons pe_int (pa_cons pe_non pa_nil))) (pa_cons (pe_tup (pa_cons (pe_op op_sub pe_int pe_int) pa_nil)) (pa_cons (pe_tup (pa_cons pe_bl pa_nil)) (pa_cons (pe_tup (pa_cons (pe_tup (pa_cons pe_int pa_nil)) pa_nil)) pa_nil))))))))) pa_nil))))
    (pss_cons (ps_for (passes_of rfl) rfl (k_sq K (by rfl) (pe_tup (pa_cons (pe_glob (v := .ref T.a_merge_texts) (by rfl) T.g_merge_texts rfl) (pa_cons (pe_glob (v := .ref T.a_merge_cuts) (by rfl) T.g_merge_cuts rfl) (pa_cons (pe_glob (v := .ref T.a_merge_word) (by rfl) T.g_merge_word rfl) pa_nil))))) (pgn 10 (by exact sc_law.nd) (by rfl) (by first | exact .inl rfl | exact .inr rfl) (by first | exact .inr rfl | exact .inl rfl))
    (pss_cons (ps_set (i := 11) sc_law.nd rfl (by first | exact .inl rfl | exact .inr rfl) (pe_lst (pa_cons (pe_cl (E := atE (fun cls d _ H => E cls d H)) (ok_law_refused (P := P) (w := w) (base := base) T) hg (hr.mono (by decide)) (by rfl) T.g_law_refused T.F_law_refused.kp T.b_law_refused (fun σ => passAt (takes_of rfl rfl rfl rfl) σ) (pa_cons (pv 10) (pa_cons (pv 9) (pa_cons (pv 9) (pa_cons pe_non pa_nil))))) (pa_cons (pe_cl (E := atE (fun cls d _ H => E cls d H)) (ok_law_refused (P := P) (w := w) (base := base) T) hg (hr.mono (by decide)) (by rfl) T.g_law_refused T.F_law_refused.kp T.b_law_refused (fun σ => passAt (takes_of rfl rfl rfl rfl) σ) (pa_cons (pv 10) (pa_cons (pv 3) (pa_cons (pv 9) (pa_cons (pv 9) pa_nil))))) (pa_cons (pe_cl (E := atE (fun cls d _ H => E cls d H)) (ok_law_refused (P := P) (w := w) (base := base) T) hg (hr.mono (by decide)) (by rfl) T.g_law_refused T.F_law_refused.kp T.b_law_refused (fun σ => passAt (takes_of rfl rfl rfl rfl) σ) (pa_cons (pv 10) (pa_cons (pv 3) (pa_cons (pv 4) (pa_cons (pv 9) pa_nil))))) pa_nil)))))
    (pss_one (ps_if (pt_cmpR (k_ne K (by rfl) (hr.u 64)) (pv 11) (pe_lst (pa_cons pe_int (pa_cons pe_int (pa_cons pe_int pa_nil)))) (nomark _))
    (pss_one (ps_ret pe_bl))
    pss_nil))))
    (pss_one (ps_if (pt_cmpR op_ne (pe_callB (k_repr K (by rfl) hg (hr.u 66)) (by rfl) T.m_repr (by decide +kernel) (pa_cons (pe_cl (E := atE (fun cls d _ H => E cls d H)) (ok_merge_texts (P := P) (w := w) (base := base) T) hg (hr.mono (by decide)) (by rfl) T.g_merge_texts T.F_merge_texts.kp T.b_merge_texts (fun σ => passAt (takes_of rfl rfl rfl rfl) σ) (pa_cons (pv 3) (pa_cons (pv 4) (pa_cons (pv 5) pa_nil)))) pa_nil)) (pe_callB (k_repr K (by rfl) hg (hr.u 66)) (by rfl) T.m_repr (by decide +kernel) (pa_cons (pv 8) pa_nil)) (nomark _))
    (pss_one (ps_ret pe_bl))
    pss_nil))))))))))))))
    (pss_one (ps_ret pe_bl))))), fun vs => ?_⟩
  exact (sem_seq (sem_ite (sem_or (sem_tst (sem_op ov_ne (sem_clK sem_nilD (sem_consD (sem_tup (sem_consD (sem_int 1) (sem_consD (sem_int 2) (sem_consD (sem_int 2) (sem_consD (sem_int 3) sem_nilD))))) (sem_consD (sem_tup (sem_consD (sem_int 4) (sem_consD (sem_int 2) (sem_consD (sem_int 2) (sem_consD (sem_int 3) sem_nilD))))) (sem_consD (sem_tup (sem_consD (sem_int 1) (sem_consD (sem_int 2) (sem_consD (sem_int 2) (sem_consD (sem_int 5) sem_nilD))))) sem_nilD)))) (sem_tup (sem_consD (sem_int 4) (sem_consD (sem_int 2) (sem_consD (sem_int 2) (sem_consD (sem_int 5) sem_nilD))))))) (sem_tst (sem_notNO (sem_cl (sem_consD (sem_tup (sem_consD (sem_int 1) (sem_consD (sem_int 2) sem_nilD))) (sem_consD (sem_tup (sem_consD (sem_int 1) (sem_consD (sem_int 3) sem_nilD))) (sem_consD (sem_tup (sem_consD (sem_int 1) (sem_consD (sem_int 4) sem_nilD))) sem_nilD)))))))
    (sem_ret (sem_bl false))
    sem_next)
    (sem_seq (sem_ite (sem_or (sem_tst (sem_op ov_ne (sem_clK sem_nilD (sem_consD (sem_tup (sem_consD (sem_int 1) (sem_consD (sem_int 2) (sem_consD (sem_int 2) (sem_consD (sem_int 3) sem_nilD))))) (sem_consD (sem_tup (sem_consD (sem_int 4) (sem_consD (sem_int 2) (sem_consD (sem_int 2) (sem_consD (sem_int 3) sem_nilD))))) (sem_consD (sem_tup (sem_consD (sem_int 1) (sem_consD (sem_int 2) (sem_consD (sem_int 2) (sem_consD (sem_int 5) sem_nilD))))) sem_nilD)))) (sem_tup (sem_consD (sem_int 1) (sem_consD (sem_int 2) (sem_consD (sem_int 3) sem_nilD)))))) (sem_tst (sem_op ov_ne (sem_cl (sem_consD (sem_tup sem_nilD) (sem_consD (sem_tup (sem_consD (sem_int 7) sem_nilD)) (sem_consD (sem_tup (sem_consD (sem_int 8) sem_nilD)) sem_nilD)))) (sem_tup (sem_consD (sem_int 7) (sem_consD (sem_int 8) sem_nilD))))))
    (sem_ret (sem_bl false))
    sem_next)
    (sem_seq (sem_for (sem_rng1 (sem_int 3)) sem_name
    (sem_seq (sem_asg (sem_cl (sem_consD (sem_var 0) (sem_consD (sem_var 1) sem_nilD))))
    (sem_seq (sem_tg (sem_gu (sem_gcons sem_name (sem_gcons sem_name (sem_gcons sem_name sem_gnil)))) (sem_clI (sem_consD (sem_op ov_add (sem_int 1) (sem_clI (sem_consD (sem_int 3) sem_nilD))) sem_nilD)))
    (sem_seq (sem_tg (sem_gu (sem_gcons sem_name (sem_gcons sem_name sem_gnil))) (sem_cl (sem_consD (sem_var 3) (sem_consD (sem_var 4) (sem_consD (sem_var 5) sem_nilD)))))
    (sem_seq (sem_asg (sem_cl (sem_consD (sem_lst (sem_consD (sem_var 4) (sem_consD (sem_var 3) (sem_consD (sem_var 5) sem_nilD)))) sem_nilD)))
    (sem_seq (sem_ite (sem_or (sem_tst (sem_op ov_neS (sem_call cv_repr (sem_cons (sem_cl (sem_consD (sem_var 3) (sem_consD (sem_call cv_list (sem_cons (sem_var 4) sem_nil)) (sem_consD (sem_var 5) sem_nilD)))) sem_nil)) (sem_call cv_repr (sem_cons (sem_tupleOf (sem_var 6)) sem_nil)))) (sem_tst (sem_op ov_ne (sem_lc (vs := [12]) (sem_sq (sem_var 7)) sem_name (sem_tst (sem_op ov_ne (sem_var 12) (sem_var 8))) (sem_var 12) (by decide)) (sem_lst sem_nilD))))
    (sem_ret (sem_bl false))
    sem_next)
    (sem_seq (sem_ite (sem_or (sem_tst (sem_op ov_neS (sem_call cv_repr (sem_cons (sem_cl (sem_consD (sem_call cv_list (sem_cons (sem_var 3) sem_nil)) (sem_consD (sem_var 4) (sem_consD (sem_call cv_list (sem_cons (sem_var 5) sem_nil)) sem_nilD)))) sem_nil)) (sem_call cv_repr (sem_cons (sem_var 8) sem_nil)))) (sem_tst (sem_op ov_ne (sem_isNO (sem_var 8)) (sem_op ov_eq (sem_var 6) (sem_lst sem_nilD)))))
    (sem_ret (sem_bl false))
    sem_next)
    (sem_seq (sem_ite (sem_tst (sem_op ov_neS (sem_call cv_repr (sem_cons (sem_clK sem_nilD (sem_consD (sem_var 5) (sem_consD (sem_var 4) (sem_consD (sem_var 3) sem_nilD)))) sem_nil)) (sem_call cv_repr (sem_cons (sem_cl (sem_consD (sem_lst (sem_consD (sem_var 4) (sem_consD (sem_var 3) (sem_consD (sem_var 5) sem_nilD)))) sem_nilD)) sem_nil))))
    (sem_ret (sem_bl false))
    sem_next)
    (sem_seq (sem_ite (sem_and (sem_tst (sem_op ov_ne (sem_var 6) (sem_lst sem_nilD))) (sem_tst (sem_op ov_ne (sem_var 6) (sem_rgL2 (sem_consD (sem_op ov_ix (sem_var 6) (sem_int 0)) (sem_consD (sem_op ov_add (sem_op ov_ix (sem_var 6) (sem_neg (sem_int 1))) (sem_int 1)) sem_nilD))))))
    (sem_ret (sem_bl false))
    sem_next)
    (sem_seq (sem_ite (sem_or (sem_tst (sem_op ov_ne (sem_cl (sem_consD (sem_var 3) (sem_consD (sem_var 3) (sem_consD (sem_var 5) sem_nilD)))) (sem_var 5))) (sem_tst (sem_op ov_ne (sem_cl (sem_consD (sem_var 3) (sem_consD (sem_var 4) (sem_consD (sem_var 3) sem_nilD)))) (sem_var 4))))
    (sem_ret (sem_bl false))
    sem_next)
    (sem_seq (sem_asg (sem_clI (sem_consD (sem_lst (sem_consD sem_non (sem_consD (sem_int 3) (sem_consD (sem_str "ab") (sem_consD (sem_tup (sem_consD (sem_int 100) sem_nilD)) (sem_consD (sem_lst (sem_consD (sem_int 0) (sem_consD sem_non sem_nilD))) (sem_consD (sem_tup (sem_consD (sem_op ov_sub (sem_int 0) (sem_int 1)) sem_nilD)) (sem_consD (sem_tup (sem_consD (sem_bl true) sem_nilD)) (sem_consD (sem_tup (sem_consD (sem_tup (sem_consD (sem_int 0) sem_nilD)) sem_nilD)) sem_nilD))))))))) sem_nilD)))
    (sem_seq (sem_forV (ks := [0, 1, 2]) (i := 10) (by intro _ _ _ h; rw [← T.xf0, ← T.xf1, ← T.xf2]; exact h) (by decide +kernel)
    (sem_seq (sem_asg (sem_lst (sem_consD (sem_clVv (sem_consD (sem_var 9) (sem_consD (sem_var 9) (sem_consD sem_non sem_nilD)))) (sem_consD (sem_clVv (sem_consD (sem_var 3) (sem_consD (sem_var 9) (sem_consD (sem_var 9) sem_nilD)))) (sem_consD (sem_clVv (sem_consD (sem_var 3) (sem_consD (sem_var 4) (sem_consD (sem_var 9) sem_nilD)))) sem_nilD)))))
    (sem_ite (sem_tst (sem_op ov_ne (sem_var 11) (sem_lst (sem_consD (sem_int 0) (sem_consD (sem_int 1) (sem_consD (sem_int 2) sem_nilD))))))
    (sem_ret (sem_bl false))
    sem_next)))
    (sem_ite (sem_tst (sem_op ov_neS (sem_call cv_repr (sem_cons (sem_cl (sem_consD (sem_var 3) (sem_consD (sem_var 4) (sem_consD (sem_var 5) sem_nilD)))) sem_nil)) (sem_call cv_repr (sem_cons (sem_var 8) sem_nil))))
    (sem_ret (sem_bl false))
    sem_next)))))))))))))
    (sem_ret (sem_bl true)))))
end
end K06
end VL

namespace VL
open PySem PySem.Spec PyProof.Rows L2
open PySem.W (Datum Tup)
/-! ### reading off what is returned -/
def out (o : So) : Option Rs := match o with
  | .rt r ρ => retV ρ r
  | .nx _ => some (.im .none)
  | _ => none
theorem foE_of {n k : Nat} {G : Rho → So} {ds : List D} {d : D} (h : out (G (ds.map .im ++ unS k)) = some (.im d)) (hn : ds.length = n) (ρ : Rho) : foE n (mF n k G) ds ρ = .ok (.im d) ρ := by
  unfold foE mF
  rw [if_pos hn]
  cases e : G (ds.map .im ++ unS k) with
  | rt r ρ' =>
    rw [e] at h
    have h : retV ρ' r = some (.im d) := h
    show (match (match retV ρ' r with | some r' => Fo.rt r' (outA n ρ') | none => .bad) with | .rt (.im d) _ => Ou.ok (Rs.im d) ρ | .rt (.fr es) _ => .ok (.fr es) ρ | .ex tag d _ => .ex tag d ρ | _ => .bad) = _
    rw [h]
  | nx ρ' => rw [e] at h; cases Option.some.inj h; rfl
  | bad => rw [e] at h; cases h
  | bk _ => rw [e] at h; cases h
  | ct _ => rw [e] at h; cases h
  | ex _ _ _ => rw [e] at h; cases h
theorem foE_fr {n k : Nat} {G : Rho → So} {ds : List D} {d : List D} (h : out (G (ds.map .im ++ unS k)) = some (.fr d)) (hn : ds.length = n) (ρ : Rho) : foE n (mF n k G) ds ρ = .ok (.fr d) ρ := by
  unfold foE mF
  rw [if_pos hn]
  cases e : G (ds.map .im ++ unS k) with
  | rt r ρ' =>
    rw [e] at h
    have h : retV ρ' r = some (.fr d) := h
    show (match (match retV ρ' r with | some r' => Fo.rt r' (outA n ρ') | none => .bad) with | .rt (.im d) _ => Ou.ok (Rs.im d) ρ | .rt (.fr es) _ => .ok (.fr es) ρ | .ex tag d _ => .ex tag d ρ | _ => .bad) = _
    rw [h]
  | nx ρ' => rw [e] at h; cases Option.some.inj h
  | bad => rw [e] at h; cases h
  | bk _ => rw [e] at h; cases h
  | ct _ => rw [e] at h; cases h
  | ex _ _ _ => rw [e] at h; cases h
def ti (xs : List Int) : D := .tuple (xs.map .int)
def li (xs : List Int) : D := .list (xs.map .int)
namespace K06
theorem v_is_integer (d : D) (ρ : Rho) : foE 1 m_is_integer [d] ρ = .ok (.im (.bool (isI "int" d && !isI "bool" d))) ρ := by
  refine foE_of ?_ rfl ρ
  cases d <;> rfl
theorem v_is_number (d : D) (ρ : Rho) : foE 1 m_is_number [d] ρ = .ok (.im (.bool (match d with | .int i => decide (0 ≤ i) | _ => false))) ρ := by
  refine foE_of ?_ rfl ρ
  cases d <;> rfl
theorem v_is_number_below (d : D) (k : Int) (ρ : Rho) : foE 2 m_is_number_below [d, .int k] ρ = .ok (.im (.bool (match d with | .int i => decide (0 ≤ i) && decide (i < k) | _ => false))) ρ := by
  refine foE_of ?_ rfl ρ
  unfold G_is_number_below
  cases d with
  | int i =>
    by_cases h : 0 ≤ i <;>
      simp [retS, clF, bd, bs, consD, nilD, varF, cF, dat, frz, andV, tstF, v_is_number, blO, opF, op2, fin, ltD, intD, dr, unS, h, out, retV]
  | _ => rfl
def isLet (d : D) : Bool := match d with
  | .int i => decide (0 ≤ i) && decide (i < 100)
  | _ => false
theorem v_is_letter (d : D) (ρ : Rho) : foE 1 m_is_letter [d] ρ = .ok (.im (.bool (isLet d))) ρ := by
  refine foE_of ?_ rfl ρ
  unfold G_is_letter
  simp [retS, clF, bd, bs, consD, nilD, varF, cF, dat, frz, v_is_number_below, unS, out, retV]
  rfl
def isSeq (d : D) : Option (List D) := match d with
  | .list ds => some ds
  | .tuple ds => some ds
  | _ => none
theorem v_is_sequence (d : D) (ρ : Rho) : foE 1 m_is_sequence [d] ρ = .ok (.im (.bool (isSeq d).isSome)) ρ :=
  foE_of (n := 1) (k := 0) (G := G_is_sequence) (ds := [d]) (by cases d <;> rfl) rfl ρ
/-- the loop over the letters -/
theorem l_text (d x : D) : ∀ (ds : List D) (y : Sl), y = .un ∨ (∃ e, y = .im e) → ∃ y', forL (nameT 1) (iteS (notF (tstF (clF 1 m_is_letter (consD (varF 1) nilD)))) (retS (cF .none)) nxS) ds [.im d, y] = if ds.all isLet = true then .nx [.im d, y'] else .rt (.im .none) [.im d, y']
  | [], y, _ => ⟨y, by simp [forL]⟩
  | e :: ds, y, h => by
    obtain ⟨y', ih⟩ := l_text d x ds (.im e) (.inr ⟨e, rfl⟩)
    cases hl : isLet e with
    | true =>
      refine ⟨y', ?_⟩
      rcases h with rfl | ⟨z, rfl⟩ <;>
      simp [forL, nameT, pinned, iteS, notF, tstF, clF, consD, nilD, varF, bd, bs, frz, dat, v_is_letter, blO, hl, retS, cF, nxS, ih]
    | false =>
      refine ⟨.im e, ?_⟩
      rcases h with rfl | ⟨z, rfl⟩ <;>
      simp [forL, nameT, pinned, iteS, notF, tstF, clF, consD, nilD, varF, bd, bs, frz, dat, v_is_letter, blO, hl, retS, cF, nxS]
def textOf (d : D) : D := match isSeq d with
  | some ds => if ds.all isLet = true then .tuple ds else .none
  | none => .none
theorem v_text_or_none (d : D) (ρ : Rho) : foE 1 m_text_or_none [d] ρ = .ok (.im (textOf d)) ρ := by
  refine foE_of ?_ rfl ρ
  unfold G_text_or_none textOf
  cases d with
  | list ds =>
    obtain ⟨y', h⟩ := l_text (.list ds) .none ds .un (.inl rfl)
    by_cases ha : ds.all isLet = true
    · rw [if_pos ha] at h
      simp [seqS, iteS, notF, tstF, clF, consD, nilD, varF, bd, bs, frz, dat, v_is_sequence, isSeq, blO, retS, cF, nxS, unS, forS, seqI, itD, h, ha, unF, op1, dr, tupleD, fin, out, retV]
    · rw [if_neg ha] at h
      simp [seqS, iteS, notF, tstF, clF, consD, nilD, varF, bd, bs, frz, dat, v_is_sequence, isSeq, blO, retS, cF, nxS, unS, forS, seqI, itD, h, ha, unF, op1, dr, tupleD, fin, out, retV]
  | tuple ds =>
    obtain ⟨y', h⟩ := l_text (.tuple ds) .none ds .un (.inl rfl)
    by_cases ha : ds.all isLet = true
    · rw [if_pos ha] at h
      simp [seqS, iteS, notF, tstF, clF, consD, nilD, varF, bd, bs, frz, dat, v_is_sequence, isSeq, blO, retS, cF, nxS, unS, forS, seqI, itD, h, ha, unF, op1, dr, tupleD, fin, out, retV]
    · rw [if_neg ha] at h
      simp [seqS, iteS, notF, tstF, clF, consD, nilD, varF, bd, bs, frz, dat, v_is_sequence, isSeq, blO, retS, cF, nxS, unS, forS, seqI, itD, h, ha, unF, op1, dr, tupleD, fin, out, retV]
  | _ => rfl
end K06
/-! ### data that == compares -/
class Ly (α : Type) [DecidableEq α] [Datum α] : Prop where
  lay : ∀ a : α, (Datum.toD a).canLay0 = true
instance : Ly Int := ⟨fun _ => PyData.canLay0.eq_3 _⟩
instance : Ly Bool := ⟨fun _ => PyData.canLay0.eq_2 _⟩
section
variable {α β : Type} [DecidableEq α] [Datum α] [Ly α] [DecidableEq β] [Datum β] [Ly β]
theorem layAll : ∀ xs : List α, PyData.canLayAll0 (xs.map Datum.toD) = true
  | [] => by simp [PyData.canLayAll0]
  | x :: xs => by rw [List.map_cons, PyData.canLayAll0, Ly.lay x, layAll xs]; rfl
instance : Ly (List α) := ⟨fun a => (PyData.canLay0.eq_5 _).trans (layAll a)⟩
instance : Ly (Tup α) := ⟨fun a => (PyData.canLay0.eq_6 _).trans (layAll a.items)⟩
instance : Ly (α × β) := ⟨fun a => (PyData.canLay0.eq_6 _).trans (by simp [PyData.canLayAll0, Ly.lay])⟩
theorem shaped_dt (h : Datum.depth α ≤ 64) (x : α) : SeqAt.shaped (Datum.toD x) = true := by
  unfold SeqAt.shaped
  rw [Bool.and_eq_true]
  exact ⟨Ly.lay x, decide_eq_true (Nat.le_trans (Datum.depth_le x) h)⟩
theorem eqD_dt (h : Datum.depth α ≤ 64) (x y : α) : eqD (Datum.toD x) (Datum.toD y) = some (.im (.bool (decide (x = y)))) := by
  unfold eqD
  rw [if_pos ⟨shaped_dt h x, shaped_dt h y⟩, Datum.eqv]
theorem neD_dt (h : Datum.depth α ≤ 64) (x y : α) : neD (Datum.toD x) (Datum.toD y) = some (.im (.bool (!decide (x = y)))) := by
  unfold neD
  rw [if_pos ⟨shaped_dt h x, shaped_dt h y⟩, Datum.eqv]
end
theorem eqD_int (x y : Int) : eqD (.int x) (.int y) = some (.im (.bool (decide (x = y)))) := eqD_dt (α := Int) (by decide) x y
theorem neD_int (x y : Int) : neD (.int x) (.int y) = some (.im (.bool (!decide (x = y)))) := neD_dt (α := Int) (by decide) x y
abbrev Wd := List (Int × Int)
def pr (p : Int × Int) : D := .tuple [.int p.1, .int p.2]
def wt (w : Wd) : D := .tuple (w.map pr)
def wl (w : Wd) : D := .list (w.map pr)
theorem eqD_ti (x y : List Int) : eqD (ti x) (ti y) = some (.im (.bool (decide (x = y)))) := (eqD_dt (α := Tup Int) (by decide) ⟨x⟩ ⟨y⟩).trans (by simp)
theorem neD_wl (x y : Wd) : neD (wl x) (wl y) = some (.im (.bool (!decide (x = y)))) := neD_dt (α := List (Int × Int)) (by decide) x y
theorem neD_wt (x y : Wd) : neD (wt x) (wt y) = some (.im (.bool (!decide (x = y)))) := (neD_dt (α := Tup (Int × Int)) (by decide) ⟨x⟩ ⟨y⟩).trans (by simp)
theorem eqD_pr (x y : Int × Int) : eqD (pr x) (pr y) = some (.im (.bool (decide (x = y)))) := eqD_dt (α := Int × Int) (by decide) x y
/-! items -/
theorem ixD_t {xs : List D} {i : Nat} {d : D} (h : xs[i]? = some d) : ixD (.tuple xs) (.int (i : Nat)) = some (.im d) := by
  unfold ixD; dsimp only; rw [atI_nat h]; rfl
theorem ixD_l {xs : List D} {i : Nat} {d : D} (h : xs[i]? = some d) : ixD (.list xs) (.int (i : Nat)) = some (.im d) := by
  unfold ixD; dsimp only; rw [atI_nat h]; rfl
theorem ixD_last (xs : List D) (d : D) : ixD (.list (xs ++ [d])) (.int (-1)) = some (.im d) := by
  unfold ixD; dsimp only; rw [atI_last]; rfl
theorem ixD_0 (x : D) (xs : List D) : ixD (.tuple (x :: xs)) (.int 0) = some (.im x) := ixD_t (i := 0) rfl
theorem ixD_1 (x y : D) (xs : List D) : ixD (.tuple (x :: y :: xs)) (.int 1) = some (.im y) := ixD_t (i := 1) rfl
/-! ### words: the stack's top ahead -/
def push (st : Wd) (p : Int × Int) : Wd := match st with
  | [] => [p]
  | q :: r => if q.1 = p.1 ∧ q.2 ≠ p.2 then r else p :: q :: r
def strike (w : Wd) : Wd := (w.foldl push []).reverse
theorem push_len (st : Wd) (p : Int × Int) : (push st p).length ≤ st.length + 1 := by
  unfold push
  split
  · simp
  · split <;> simp <;> omega
theorem run_len : ∀ (w st : Wd), (w.foldl push st).length ≤ st.length + w.length
  | [], st => by simp
  | p :: w, st => by
    have := run_len w (push st p)
    have := push_len st p
    simp only [List.foldl_cons, List.length_cons]
    omega
namespace K06
theorem v_undo_each_other (p q : Int × Int) (ρ : Rho) : foE 2 m_undo_each_other [pr p, pr q] ρ = .ok (.im (.bool (decide (p.1 = q.1 ∧ p.2 ≠ q.2)))) ρ := by
  refine foE_of ?_ rfl ρ
  unfold G_undo_each_other pr
  by_cases h : p.1 = q.1 <;>
  simp [retS, andV, tstF, opF, op2, varF, cF, bd, bs, frz, dr, unS, ixD_0, ixD_1, fin, eqD_int, neD_int, blO, out, retV, h]
abbrev b_struck : Rho → So := iteS (andF (truF (varF 1)) (tstF (clF 2 m_undo_each_other (consD (opF ixD (varF 1) (unF negD (cF (.int 1)))) (consD (varF 2) nilD)))))
  (dropS (mutF popD 1 nilD))
  (dropS (mutF apD 1 (consD (varF 2) nilD)))
theorem t_struck (X : D) (st : Wd) (p : Int × Int) (h : st.length < sizeLine) : b_struck [.im X, .ow false (st.reverse.map pr), .im (pr p)] = .nx [.im X, .ow false ((push st p).reverse.map pr), .im (pr p)] := by
  cases st with
  | nil =>
    have h : 0 < sizeLine := h
    simp [b_struck, iteS, andF, truF, tstF, varF, frz, bd, bs, truO, dr, tru, dropS, mutF, isOw, consD, nilD, dat, mutO, apD, h, push]
  | cons q r =>
    have h : r.length + 1 < sizeLine := h
    by_cases hc : q.1 = p.1 ∧ q.2 ≠ p.2
    · simp [b_struck, iteS, andF, truF, tstF, varF, frz, bd, bs, truO, dr, tru, dropS, mutF, isOw, consD, nilD, dat, mutO, apD, popD, h, push, hc, clF, opF, op2, unF, op1, negD, cF, fin, ixD_last, v_undo_each_other, blO]
    · simp [b_struck, iteS, andF, truF, tstF, varF, frz, bd, bs, truO, dr, tru, dropS, mutF, isOw, consD, nilD, dat, mutO, apD, popD, h, push, hc, clF, opF, op2, unF, op1, negD, cF, fin, ixD_last, v_undo_each_other, blO]
end K06
/-- a slot that a loop's name may have -/
def Fr (y : Sl) : Prop := y = .un ∨ ∃ d, y = .im d
theorem fr_un : Fr .un := .inl rfl
theorem fr_im {d : D} : Fr (.im d) := .inr ⟨d, rfl⟩
/-! comprehensions whose element is a function of the item -/
theorem lcL_map {T : Tg} {E : Rho → Ou Rs} {vs : List Nat} {ρ : Rho} {f : D → D} : ∀ (ds acc : List D), (∀ d ∈ ds, ∃ ρ1 ρ2, T d ρ = some ρ1 ∧ bd (frz (E ρ1)) dat = .ok (f d) ρ2 ∧ plainAt ρ2 vs = true ∧ wipeR ρ2 vs = ρ) → acc.length + ds.length ≤ sizeLine →
    lcL T yesF E vs ds acc ρ = .ok (acc ++ ds.map f) ρ
  | [], acc, _, _ => by simp [lcL]
  | d :: ds, acc, h, hl => by
    obtain ⟨ρ1, ρ2, e1, e2, e3, e4⟩ := h d List.mem_cons_self
    rw [List.length_cons] at hl
    have ih := lcL_map (T := T) (E := E) (vs := vs) (ρ := ρ) (f := f) ds (acc ++ [f d]) (fun c hc => h c (List.mem_cons_of_mem _ hc)) (by rw [List.length_append]; simp; omega)
    unfold lcL
    rw [e1]
    simp only [yesF, bdn, if_true, e2, e3, and_true]
    rw [if_pos (by omega), e4, ih]
    simp
namespace K06
theorem l_struck (X : D) : ∀ (w st : Wd) (y : Sl), Fr y → st.length + w.length ≤ sizeLine → ∃ y', Fr y' ∧ forL (nameT 2) b_struck (w.map pr) [.im X, .ow false (st.reverse.map pr), y] = .nx [.im X, .ow false ((w.foldl push st).reverse.map pr), y']
  | [], st, y, hy, _ => ⟨y, hy, by simp [forL]⟩
  | p :: w, st, y, hy, hl => by
    rw [List.length_cons] at hl
    have := push_len st p
    obtain ⟨y', hy', ih⟩ := l_struck X w (push st p) (.im (pr p)) fr_im (by omega)
    refine ⟨y', hy', ?_⟩
    have e := t_struck X st p (by omega)
    rw [List.map_cons, List.foldl_cons, ← ih]
    rcases hy with rfl | ⟨d, rfl⟩ <;>
    simp only [forL, nameT, pinned, List.getElem?_cons_succ, List.getElem?_cons_zero, List.set_cons_succ, List.set_cons_zero, e, Bool.false_eq_true, if_false]
theorem v_struck (w : Wd) (h : w.length ≤ sizeLine) (ρ : Rho) : foE 1 m_struck [wl w] ρ = .ok (.im (wt (strike w))) ρ := by
  refine foE_of ?_ rfl ρ
  unfold G_struck wl wt strike
  obtain ⟨y', _, e⟩ := l_struck (.list (w.map pr)) w [] .un fr_un (by simpa using h)
  have e : forL (nameT 2) b_struck (w.map pr) [.im (.list (w.map pr)), .ow false [], .un] = _ := e
  simp [seqS, asgS, lstF, nilD, bs, bd, lstD, setN, pinned, unS, forS, seqI, varF, frz, dat, itD, e, retS, unF, op1, dr, tupleD, fin, out, retV]
theorem v_undone (w : Wd) (h : w.length ≤ sizeLine) (ρ : Rho) : foE 1 m_undone [wt w] ρ = .ok (.im (wt (w.reverse.map fun p => (p.1, -p.2)))) ρ := by
  refine foE_of ?_ rfl ρ
  unfold G_undone wt
  have e := lcL_map (T := tupU 2 (consT (nameT 1) (consT (nameT 2) nilT))) (E := tupF (consD (varF 1) (consD (unF negD (varF 2)) nilD))) (vs := [1, 2]) (ρ := [.im (.tuple (w.map pr)), .un, .un])
    (f := fun d => match d with | .tuple [.int a, .int b] => .tuple [.int a, .int (-b)] | d => d) (w.map pr).reverse [] (fun d hd => by
      obtain ⟨p, hp, rfl⟩ := List.mem_map.mp (List.mem_reverse.mp hd)
      refine ⟨[.im (.tuple (w.map pr)), .im (.int p.1), .im (.int p.2)], [.im (.tuple (w.map pr)), .im (.int p.1), .im (.int p.2)], ?_, ?_, ?_, ?_⟩
      · simp [tupU, pr, consT, nameT, nilT, pinned]
      · simp [tupF, consD, varF, bd, frz, dat, nilD, unF, op1, dr, negD, fin, tupD, pr, sizeLine_eq]
      · simp [plainAt]
      · simp [wipeR]) (by simpa using h)
  simp [retS, unF, lcF, seqI, stpF, varF, parO, negD, cF, bd, bs, frz, op1, dr, fin, intO, stpO, stpD, dat, itD, plainAt, unS, wipeR, e, unwipe, tupleD, out, retV]
  intro a b _
  simp [pr]
theorem v_word_of (xs : List Int) (h : xs.length ≤ sizeLine) (ρ : Rho) : foE 1 m_word_of [ti xs] ρ = .ok (.im (wt (xs.map fun x => (x, 1)))) ρ := by
  refine foE_of ?_ rfl ρ
  unfold G_word_of wt ti
  have e := lcL_map (T := nameT 1) (E := tupF (consD (varF 1) (consD (cF (.int 1)) nilD))) (vs := [1]) (ρ := [.im (.tuple (xs.map .int)), .un])
    (f := fun d => .tuple [d, .int 1]) (xs.map .int) [] (fun d hd => by
      refine ⟨[.im (.tuple (xs.map .int)), .im d], [.im (.tuple (xs.map .int)), .im d], ?_, ?_, ?_, ?_⟩
      · simp [nameT, pinned]
      · simp [tupF, consD, varF, bd, frz, dat, nilD, cF, tupD, sizeLine_eq]
      · simp [plainAt]
      · simp [wipeR]) (by simpa using h)
  simp [retS, unF, lcF, seqI, varF, bd, bs, frz, dr, dat, itD, plainAt, unS, wipeR, e, unwipe, op1, tupleD, fin, out, retV]
  intro a _
  rfl
end K06
/-! ### numbers that a range gives -/
def idx (s n : Nat) : List D := (List.range' s n).map fun (i : Nat) => PyData.int (i : Int)
theorem rng_idx (n : Nat) : rngD 0 (n : Int) = idx 0 n := by
  unfold rngD idx
  rw [show ((n : Int) - 0).toNat = n by omega, List.range_eq_range']
  refine List.map_congr_left fun i _ => ?_
  rw [Int.zero_add]
theorem idx_succ (s n : Nat) : idx s (n + 1) = PyData.int (s : Int) :: idx (s + 1) n := by
  unfold idx
  rw [List.range'_succ, List.map_cons]
theorem idx_zero (s : Nat) : idx s 0 = [] := rfl
theorem rng1_nat {n : Nat} (h : n < 2 ^ 62) (ρ : Rho) : rng1O (.int (n : Int)) ρ = .ok (idx 0 n) ρ := by
  unfold rng1O
  dsimp only
  rw [if_pos (by omega), rng_idx]
def stepL (o : So) (k : Rho → So) : So := match o with
  | .nx ρ => k ρ
  | .ct ρ => k ρ
  | .bk ρ => .nx ρ
  | o => o
theorem forL_cons {T : Tg} {B : Rho → So} {d : D} {ds : List D} {ρ ρ1 : Rho} (h : T d ρ = some ρ1) : forL T B (d :: ds) ρ = stepL (B ρ1) (forL T B ds) := by
  rw [forL, h]
  show (match B ρ1 with | .nx ρ2 => forL T B ds ρ2 | .ct ρ2 => forL T B ds ρ2 | .bk ρ2 => .nx ρ2 | o => o) = _
  unfold stepL
  cases e : B ρ1 <;> simp only
theorem seq_nx {F G : Rho → So} {ρ ρ' : Rho} (h : F ρ = .nx ρ') : seqS F G ρ = G ρ' := by unfold seqS; rw [h]
theorem seq_rt {F G : Rho → So} {ρ ρ' : Rho} {r : Rs} (h : F ρ = .rt r ρ') : seqS F G ρ = .rt r ρ' := by unfold seqS; rw [h]
theorem seq_ex {F G : Rho → So} {ρ ρ' : Rho} {t : Nat} {d : D} (h : F ρ = .ex t d ρ') : seqS F G ρ = .ex t d ρ' := by unfold seqS; rw [h]
theorem for_of {I : Rho → Ou (List D)} {T : Tg} {B : Rho → So} {ρ ρ' : Rho} {ds : List D} (h : I ρ = .ok ds ρ') : forS I T B ρ = forL T B ds ρ' := by unfold forS; rw [h]; rfl
theorem bd_ok {α β : Type} (a : α) (ρ : Rho) (f : α → Rho → Ou β) : bd (.ok a ρ) f = f a ρ := rfl
theorem bs_ok {α : Type} (a : α) (ρ : Rho) (f : α → Rho → So) : bs (.ok a ρ) f = f a ρ := rfl
theorem rng1_of {F : Rho → Ou Rs} {ρ ρ' : Rho} {n : Nat} (h : bd (frz (F ρ)) dat = .ok (.int (n : Int)) ρ') (hn : n < 2 ^ 62) : rng1I F ρ = .ok (idx 0 n) ρ' := by
  unfold rng1I
  rw [h, bd_ok]
  exact rng1_nat hn ρ'
/-- how long two texts are alike in front -/
def lcp : List Int → List Int → Nat
  | x :: xs, y :: ys => if x = y then lcp xs ys + 1 else 0
  | _, _ => 0
theorem lcp_le : ∀ a b : List Int, lcp a b ≤ a.length ∧ lcp a b ≤ b.length
  | [], _ => by simp [lcp]
  | _ :: _, [] => by simp [lcp]
  | x :: xs, y :: ys => by
    have := lcp_le xs ys
    unfold lcp
    split <;> simp <;> omega
theorem foE_ex {n k : Nat} {G : Rho → So} {ds : List D} {tag : Nat} {d : D} {ρ' : Rho} (h : G (ds.map .im ++ unS k) = .ex tag d ρ') (hn : ds.length = n) (ρ : Rho) : foE n (mF n k G) ds ρ = .ex tag d ρ := by
  unfold foE mF
  rw [if_pos hn, h]
  rfl
theorem ti_len (a : List Int) : (a.map PyData.int).length = a.length := List.length_map _
namespace K06
abbrev b_front : Rho → So := iteS (tstF (opF neD (opF ixD (varF 0) (varF 3)) (opF ixD (varF 1) (varF 3)))) (retS (varF 3)) nxS
theorem t_front {a b : List Int} {s : Nat} {x y : Int} (ha : a[s]? = some x) (hb : b[s]? = some y) (M : Sl) : b_front [.im (ti a), .im (ti b), M, .im (.int (s : Int))] = if x = y then .nx [.im (ti a), .im (ti b), M, .im (.int (s : Int))] else .rt (.im (.int (s : Int))) [.im (ti a), .im (ti b), M, .im (.int (s : Int))] := by
  have e1 : ixD (ti a) (.int (s : Int)) = some (.im (.int x)) := ixD_t (by rw [List.getElem?_map, ha]; rfl)
  have e2 : ixD (ti b) (.int (s : Int)) = some (.im (.int y)) := ixD_t (by rw [List.getElem?_map, hb]; rfl)
  by_cases h : x = y <;>
  simp [b_front, iteS, tstF, opF, op2, varF, bd, bs, frz, dr, e1, e2, fin, neD_int, blO, retS, nxS, h]
theorem l_front (a b : List Int) (M : Sl) : ∀ (n s : Nat) (y : Sl), Fr y → s + n ≤ a.length → s + n ≤ b.length → ∃ y', Fr y' ∧ forL (nameT 3) b_front (idx s n) [.im (ti a), .im (ti b), M, y] =
    if lcp (a.drop s) (b.drop s) < n then .rt (.im (.int ((s + lcp (a.drop s) (b.drop s) : Nat) : Int))) [.im (ti a), .im (ti b), M, y'] else .nx [.im (ti a), .im (ti b), M, y']
  | 0, s, y, hy, _, _ => ⟨y, hy, by simp [idx_zero, forL]⟩
  | n + 1, s, y, hy, h1, h2 => by
    obtain ⟨y', hy', ih⟩ := l_front a b M n (s + 1) (.im (.int (s : Int))) fr_im (by omega) (by omega)
    have g1 : a[s]? = some (a[s]'(by omega)) := List.getElem?_eq_getElem _
    have g2 : b[s]? = some (b[s]'(by omega)) := List.getElem?_eq_getElem _
    have e := t_front g1 g2 M
    have d1 : a.drop s = a[s]'(by omega) :: a.drop (s + 1) := List.drop_eq_getElem_cons (by omega)
    have d2 : b.drop s = b[s]'(by omega) :: b.drop (s + 1) := List.drop_eq_getElem_cons (by omega)
    rw [idx_succ, d1, d2, lcp]
    have st : forL (nameT 3) b_front (PyData.int (s : Int) :: idx (s + 1) n) [.im (ti a), .im (ti b), M, y] = _ := forL_cons (ρ1 := [.im (ti a), .im (ti b), M, .im (.int (s : Int))]) (by rcases hy with rfl | ⟨d, rfl⟩ <;> rfl)
    rw [st, e]
    by_cases h : a[s]'(by omega) = b[s]'(by omega)
    · refine ⟨y', hy', ?_⟩
      rw [if_pos h, if_pos h]
      show forL _ _ _ _ = _
      rw [ih]
      simp only [Nat.add_lt_add_iff_right]
      split
      · rw [show s + 1 + lcp (a.drop (s + 1)) (b.drop (s + 1)) = s + (lcp (a.drop (s + 1)) (b.drop (s + 1)) + 1) by omega]
      · rfl
    · refine ⟨.im (.int (s : Int)), fr_im, ?_⟩
      rw [if_neg h, if_neg h]
      rw [if_pos (by omega)]
      rfl
theorem v_front_length (a b : List Int) (ha : a.length < 2 ^ 62) (ρ : Rho) : foE 2 m_front_length [ti a, ti b] ρ = .ok (.im (.int (lcp a b : Nat))) ρ := by
  refine foE_of ?_ rfl ρ
  unfold G_front_length
  have hm : (if ((b.length : Nat) : Int) < (a.length : Nat) then ((b.length : Nat) : Int) else (a.length : Nat)) = ((min a.length b.length : Nat) : Int) := by
    split <;> omega
  obtain ⟨y', _, e⟩ := l_front a b (.im (.int ((min a.length b.length : Nat) : Int))) (min a.length b.length) 0 .un fr_un (by omega) (by omega)
  have l1 : ∀ x : List Int, lenD [ti x] = some (.im (.int (x.length : Nat))) := fun x => by simp [lenD, ti]
  have l2 := lcp_le a b
  rw [List.drop_zero, List.drop_zero, Nat.zero_add] at e
  have hr : min a.length b.length < 2 ^ 62 := Nat.lt_of_le_of_lt (Nat.min_le_left _ _) ha
  have A : asgS 2 (callF min2D (consF (callF lenD (consF (varF 0) nilF)) (consF (callF lenD (consF (varF 1) nilF)) nilF))) [.im (ti a), .im (ti b), .un, .un] = .nx [.im (ti a), .im (ti b), .im (.int ((min a.length b.length : Nat) : Int)), .un] := by
    rw [← hm]
    simp [asgS, callF, consF, varF, nilF, bd, bs, frz, call1, drs, dr, l1, fin, min2D, setN, pinned]
  have Bf : rng1I (varF 2) [.im (ti a), .im (ti b), .im (.int ((min a.length b.length : Nat) : Int)), .un] = .ok (idx 0 (min a.length b.length)) [.im (ti a), .im (ti b), .im (.int ((min a.length b.length : Nat) : Int)), .un] := by
    exact rng1_of (by simp [varF, frz, bd, dat]) hr
  show out (seqS _ _ [.im (ti a), .im (ti b), .un, .un]) = _
  rw [seq_nx A]
  by_cases h : lcp a b < min a.length b.length
  · rw [if_pos h] at e
    rw [seq_rt ((for_of Bf).trans e)]
    rfl
  · rw [if_neg h] at e
    rw [seq_nx ((for_of Bf).trans e), show min a.length b.length = lcp a b by omega]
    rfl
end K06
theorem ti_ne (xs : List Int) : isNon (ti xs) = false := rfl
theorem lenD_ti (x : List Int) : lenD [ti x] = some (.im (.int (x.length : Nat))) := by simp [lenD, ti]
theorem stpD_ti (x : List Int) : stpD (ti x) (some (-1)) = some (.im (ti x.reverse)) := by simp [stpD, ti, List.map_reverse]
def lcs (a b : List Int) : Nat := lcp a.reverse b.reverse
theorem lcs_le (a b : List Int) : lcs a b ≤ a.length ∧ lcs a b ≤ b.length := by
  have := lcp_le a.reverse b.reverse
  unfold lcs
  simpa using this
theorem cut_to {xs : List D} {n : Nat} (h : n ≤ xs.length) : cutD xs none (some (n : Int)) = xs.take n := by
  unfold cutD HT.sIx
  dsimp only
  rw [if_neg (by omega), show min (n : Int).toNat xs.length = n by omega]
  simp
theorem cut_from {xs : List D} {n : Nat} (h : n ≤ xs.length) : cutD xs (some (n : Int)) none = xs.drop n := by
  unfold cutD HT.sIx
  dsimp only
  rw [if_neg (by omega), show min (n : Int).toNat xs.length = n by omega, List.take_of_length_le (by rw [List.length_drop]; omega)]
theorem sl_to {xs : List Int} {n : Nat} (h : n ≤ xs.length) : slD (ti xs) none (some (n : Int)) = some (.im (ti (xs.take n))) := by
  unfold slD ti
  dsimp only
  rw [cut_to (by rw [List.length_map]; exact h), List.map_take]
theorem sl_from {xs : List Int} {n : Nat} (h : n ≤ xs.length) : slD (ti xs) (some (n : Int)) none = some (.im (ti (xs.drop n))) := by
  unfold slD ti
  dsimp only
  rw [cut_from (by rw [List.length_map]; exact h), List.map_drop]
theorem add_ti {xs ys : List Int} (h : xs.length + ys.length ≤ sizeLine) : addD (ti xs) (ti ys) = some (.im (ti (xs ++ ys))) := by
  unfold addD ti
  dsimp only
  rw [if_pos (by rw [List.length_map, List.length_map]; exact h), List.map_append]
namespace K06
theorem v_end_length (a b : List Int) (ha : a.length < 2 ^ 62) (ρ : Rho) : foE 2 m_end_length [ti a, ti b] ρ = .ok (.im (.int (lcs a b : Nat))) ρ := by
  refine foE_of ?_ rfl ρ
  unfold G_end_length
  simp [retS, clF, consD, stpF, varF, parO, unF, negD, cF, nilD, bd, bs, frz, op1, dr, fin, intO, stpO, stpD_ti, dat, unS, v_front_length, ha, out, retV, lcs]
/-- where the cuts lie -/
def least (b m : List Int) : Nat := b.length - lcs b m
def grt (b y : List Int) : Nat := lcp b y
theorem v_cut_bounds (b m y : List Int) (hb : b.length < 2 ^ 62) (ρ : Rho) : foE 3 m_cut_bounds [ti b, ti m, ti y] ρ = .ok (.im (.tuple [.int (least b m : Nat), .int (grt b y : Nat)])) ρ := by
  refine foE_of ?_ rfl ρ
  have e : ((b.length : Nat) : Int) - (lcs b m : Nat) = (least b m : Nat) := by
    have := lcs_le b m
    unfold least; omega
  unfold G_cut_bounds grt
  simp [retS, tupF, clF, callF, call1, drs, opF, op2, subD, intD, consD, consF, nilF, varF, nilD, bd, bs, frz, dr, fin, dat, unS, v_front_length, v_end_length, hb, out, retV, lenD_ti, tupD, sizeLine_eq, e]
/-- what the merge is -/
def mg (b m y : List Int) : D := if grt b y < least b m then .none else ti (m.take (m.length - lcs b m) ++ y.drop (least b m))
theorem grt_le (b y : List Int) : grt b y ≤ b.length ∧ grt b y ≤ y.length := lcp_le b y
theorem v_merged (b m y : List Int) (hb : b.length < 2 ^ 62) (hs : m.length + y.length ≤ sizeLine) (ρ : Rho) : foE 3 m_merged [ti b, ti m, ti y] ρ = .ok (.im (mg b m y)) ρ := by
  refine foE_of ?_ rfl ρ
  unfold G_merged mg
  have h1 := lcs_le b m
  have h2 := grt_le b y
  have A : tgS (tupU 2 (consT (nameT 3) (consT (nameT 4) nilT))) (clF 3 m_cut_bounds (consD (varF 0) (consD (varF 1) (consD (varF 2) nilD)))) [.im (ti b), .im (ti m), .im (ti y), .un, .un] = .nx [.im (ti b), .im (ti m), .im (ti y), .im (.int (least b m : Nat)), .im (.int (grt b y : Nat))] := by
    simp [tgS, clF, consD, varF, nilD, bd, bs, frz, dat, v_cut_bounds, hb, tupU, consT, nameT, nilT, pinned]
  show out (seqS _ _ [.im (ti b), .im (ti m), .im (ti y), .un, .un]) = _
  rw [seq_nx A]
  by_cases h : grt b y < least b m
  · simp [seqS, iteS, tstF, opF, op2, gtD, intD, varF, bd, bs, frz, dr, fin, blO, h, retS, cF, out, retV]
  · have e : ((m.length : Nat) : Int) - (b.length : Nat) + (least b m : Nat) = ((m.length - lcs b m : Nat) : Int) := by unfold least; omega
    have hl : least b m ≤ y.length := by omega
    have e1 := @sl_to m (m.length - lcs b m) (by omega)
    have e2 := @sl_from y (least b m) hl
    have e3 : addD (ti (m.take (m.length - lcs b m))) (ti (y.drop (least b m))) = _ := add_ti (by rw [List.length_take, List.length_drop]; omega)
    simp [seqS, iteS, tstF, opF, op2, gtD, intD, varF, bd, bs, frz, dr, fin, blO, h, retS, nxS, slF, noO, parO, callF, consF, nilF, call1, drs, lenD_ti, subD, addD, intO, e, slO, e1, e2, out, retV]
    simp only [addD] at e3
    simp [e3]
end K06
def Lt (xs : List Int) : Prop := ∀ x ∈ xs, 0 ≤ x ∧ x < 100
namespace K06
/-- a value that is a text -/
def isT (d : D) (xs : List Int) : Prop := textOf d = ti xs
theorem all_let {xs : List Int} (h : Lt xs) : (xs.map PyData.int).all isLet = true := by
  rw [List.all_eq_true]
  intro d hd
  obtain ⟨x, hx, rfl⟩ := List.mem_map.mp hd
  have := h x hx
  simp [isLet, this]
theorem isT_ti {xs : List Int} (h : Lt xs) : isT (ti xs) xs := by
  unfold isT textOf ti isSeq
  dsimp only
  rw [if_pos (all_let h)]
theorem isT_li {xs : List Int} (h : Lt xs) : isT (li xs) xs := by
  unfold isT textOf li isSeq ti
  dsimp only
  rw [if_pos (all_let h)]
theorem v_need_text {d : D} {xs : List Int} (h : isT d xs) (k : D) (ρ : Rho) : foE 2 m_need_text [d, k] ρ = .ok (.im (ti xs)) ρ := by
  refine foE_of ?_ rfl ρ
  unfold isT at h
  unfold G_need_text
  simp [seqS, asgS, clF, consD, varF, nilD, bd, bs, frz, dat, unS, v_text_or_none, h, setN, pinned, iteS, tstF, unF, op1, dr, isnD, fin, blO, ti_ne, nxS, retS, out, retV]
theorem v_need_bad {d : D} (h : textOf d = .none) (k : D) (ρ : Rho) : foE 2 m_need_text [d, k] ρ = .ex 0 k ρ := by
  refine foE_ex (ρ' := [.im d, .im k, .im .none]) ?_ rfl ρ
  unfold G_need_text
  simp [seqS, asgS, clF, consD, varF, nilD, bd, bs, frz, dat, unS, v_text_or_none, h, setN, pinned, iteS, tstF, unF, op1, dr, isnD, fin, blO, isNon, rseS, rseO]
theorem v_need_three {d e f : D} {b m y : List Int} (h1 : isT d b) (h2 : isT e m) (h3 : isT f y) (ρ : Rho) : foE 3 m_need_three_texts [d, e, f] ρ = .ok (.im (.tuple [ti b, ti m, ti y])) ρ := by
  refine foE_of ?_ rfl ρ
  unfold G_need_three_texts
  simp [retS, tupF, consD, clF, varF, cF, nilD, bd, bs, frz, dat, unS, v_need_text h1, v_need_text h2, v_need_text h3, tupD, sizeLine_eq, out, retV]
theorem v_need_three1 {d e f : D} (h1 : textOf d = .none) (ρ : Rho) : foE 3 m_need_three_texts [d, e, f] ρ = .ex 0 (.int 0) ρ := by
  refine foE_ex (ρ' := [.im d, .im e, .im f]) ?_ rfl ρ
  unfold G_need_three_texts
  simp [retS, tupF, consD, clF, varF, cF, nilD, bd, bs, frz, dat, unS, v_need_bad h1]
theorem v_need_three2 {d e f : D} {b : List Int} (h1 : isT d b) (h2 : textOf e = .none) (ρ : Rho) : foE 3 m_need_three_texts [d, e, f] ρ = .ex 0 (.int 1) ρ := by
  refine foE_ex (ρ' := [.im d, .im e, .im f]) ?_ rfl ρ
  unfold G_need_three_texts
  simp [retS, tupF, consD, clF, varF, cF, nilD, bd, bs, frz, dat, unS, v_need_text h1, v_need_bad h2]
theorem v_need_three3 {d e f : D} {b m : List Int} (h1 : isT d b) (h2 : isT e m) (h3 : textOf f = .none) (ρ : Rho) : foE 3 m_need_three_texts [d, e, f] ρ = .ex 0 (.int 2) ρ := by
  refine foE_ex (ρ' := [.im d, .im e, .im f]) ?_ rfl ρ
  unfold G_need_three_texts
  simp [retS, tupF, consD, clF, varF, cF, nilD, bd, bs, frz, dat, unS, v_need_text h1, v_need_text h2, v_need_bad h3]
/-- the first statement of each -/
abbrev s_three : Rho → So := tgS (tupU 3 (consT (nameT 0) (consT (nameT 1) (consT (nameT 2) nilT)))) (clF 3 m_need_three_texts (consD (varF 0) (consD (varF 1) (consD (varF 2) nilD))))
theorem t_three {d e f : D} {b m y : List Int} (h1 : isT d b) (h2 : isT e m) (h3 : isT f y) (r : Rho) : s_three (.im d :: .im e :: .im f :: r) = .nx (.im (ti b) :: .im (ti m) :: .im (ti y) :: r) := by
  simp [s_three, tgS, clF, consD, varF, nilD, bd, bs, frz, dat, v_need_three h1 h2 h3, tupU, consT, nameT, nilT, pinned]
theorem v_merge_texts {d e f : D} {b m y : List Int} (h1 : isT d b) (h2 : isT e m) (h3 : isT f y) (hb : b.length < 2 ^ 62) (hs : m.length + y.length ≤ sizeLine) (ρ : Rho) : foE 3 m_merge_texts [d, e, f] ρ = .ok (.im (mg b m y)) ρ := by
  refine foE_of ?_ rfl ρ
  unfold G_merge_texts
  show out (seqS _ _ [.im d, .im e, .im f]) = _
  rw [seq_nx (t_three h1 h2 h3 [])]
  simp [retS, clF, consD, varF, nilD, bd, bs, frz, dat, v_merged, hb, hs, out, retV]
/-- the lines that both claim -/
def cl (b m y : List Int) : D := if least b m ≤ grt b y then .none else .tuple [.int (grt b y : Nat), .int (least b m : Nat)]
/-- letters as pairs: once each, and the undone ones backwards -/
def pl (xs : List Int) : Wd := xs.map fun x => (x, 1)
def mi (xs : List Int) : Wd := xs.reverse.map fun x => (x, -1)
theorem mi_of (xs : List Int) : (pl xs).reverse.map (fun p => (p.1, -p.2)) = mi xs := by simp [pl, mi, List.map_reverse]
theorem v_pw (xs : List Int) (h : xs.length ≤ sizeLine) (ρ : Rho) : foE 1 m_word_of [ti xs] ρ = .ok (.im (wt (pl xs))) ρ := v_word_of xs h ρ
theorem v_pu (xs : List Int) (h : xs.length ≤ sizeLine) (ρ : Rho) : foE 1 m_undone [wt (pl xs)] ρ = .ok (.im (wt (mi xs))) ρ := by
  rw [v_undone _ (by simpa [pl] using h), mi_of]
abbrev b_prod : Rho → So := seqS (asgS 4 (clF 1 m_word_of (consD (varF 3) nilD)))
  (dropS (mutF xtD 1 (consD (ifF (truF (opF modD (varF 2) (cF (.int 2)))) (clF 1 m_undone (consD (varF 4) nilD)) (varF 4)) nilD)))
def turn (k : Nat) (xs : List Int) : Wd := if k % 2 = 1 then mi xs else pl xs
theorem t_prod (X : D) (k : Nat) (hk : k = 0 ∨ k = 1 ∨ k = 2) (w : Wd) (xs : List Int) (h : w.length + xs.length ≤ sizeLine) (y : Sl) (hy : Fr y) :
    b_prod [.im X, .ow false (w.map pr), .im (.int (k : Int)), .im (ti xs), y] = .nx [.im X, .ow false ((w ++ turn k xs).map pr), .im (.int (k : Int)), .im (ti xs), .im (wt (pl xs))] := by
  have h1 : xs.length ≤ sizeLine := by omega
  have x1 : xtD (w.map pr) [wt (pl xs)] = some (.none, (w ++ pl xs).map pr) := by
    simp [xtD, wt, pl, h]
  have x2 : xtD (w.map pr) [wt (mi xs)] = some (.none, (w ++ mi xs).map pr) := by
    simp [xtD, wt, mi, h]
  rcases hk with rfl | rfl | rfl <;> rcases hy with rfl | ⟨d, rfl⟩ <;>
  simp [b_prod, seqS, asgS, clF, consD, varF, nilD, bd, bs, frz, dat, v_pw, v_pu, h1, setN, pinned, dropS, mutF, isOw, ifF, truF, opF, op2, cF, dr, modD, intD, fin, truO, tru, mutO, x1, x2, turn]
theorem v_product (a b c : List Int) (h : a.length + b.length + c.length ≤ sizeLine) (ρ : Rho) : foE 1 m_product_by_turns [.list [ti a, ti b, ti c]] ρ = .ok (.im (wt (strike (pl a ++ mi b ++ pl c)))) ρ := by
  refine foE_of ?_ rfl ρ
  unfold G_product_by_turns
  have t0 := t_prod (.list [ti a, ti b, ti c]) 0 (.inl rfl) [] a (by simp; omega) .un fr_un
  have t1 := t_prod (.list [ti a, ti b, ti c]) 1 (.inr (.inl rfl)) (pl a) b (by simp [pl]; omega) (.im (wt (pl a))) fr_im
  have t2 := t_prod (.list [ti a, ti b, ti c]) 2 (.inr (.inr rfl)) (pl a ++ mi b) c (by simp [pl, mi]; omega) (.im (wt (pl b))) fr_im
  have A : asgS 1 (lstF nilD) [.im (.list [ti a, ti b, ti c]), .un, .un, .un, .un] = .nx [.im (.list [ti a, ti b, ti c]), .ow false [], .un, .un, .un] := by
    simp [asgS, lstF, nilD, bd, bs, lstD, setN, pinned]
  have B : forS (enumUI (varF 0)) (tupU 2 (consT (nameT 2) (consT (nameT 3) nilT))) b_prod [.im (.list [ti a, ti b, ti c]), .ow false [], .un, .un, .un] = .nx [.im (.list [ti a, ti b, ti c]), .ow false ((pl a ++ mi b ++ pl c).map pr), .im (.int 2), .im (ti c), .im (wt (pl c))] := by
    have E : enumUI (varF 0) [.im (.list [ti a, ti b, ti c]), .ow false [], .un, .un, .un] = .ok [.tuple [.int 0, ti a], .tuple [.int 1, ti b], .tuple [.int 2, ti c]] [.im (.list [ti a, ti b, ti c]), .ow false [], .un, .un, .un] := by
      simp [enumUI, varF, frz, bd, dat, enumUO, numD]
    rw [for_of E, forL_cons (ρ1 := [.im (.list [ti a, ti b, ti c]), .ow false [], .im (.int 0), .im (ti a), .un]) (by simp [tupU, consT, nameT, nilT, pinned])]
    have t0 : b_prod [.im (.list [ti a, ti b, ti c]), .ow false [], .im (.int 0), .im (ti a), .un] = _ := t0
    rw [t0]
    show forL _ _ _ _ = _
    rw [forL_cons (ρ1 := [.im (.list [ti a, ti b, ti c]), .ow false ((pl a).map pr), .im (.int 1), .im (ti b), .im (wt (pl a))]) (by simp [tupU, consT, nameT, nilT, pinned, turn])]
    have t1 : b_prod [.im (.list [ti a, ti b, ti c]), .ow false ((pl a).map pr), .im (.int 1), .im (ti b), .im (wt (pl a))] = _ := t1
    rw [t1]
    show forL _ _ _ _ = _
    rw [forL_cons (ρ1 := [.im (.list [ti a, ti b, ti c]), .ow false ((pl a ++ mi b).map pr), .im (.int 2), .im (ti c), .im (wt (pl b))]) (by simp [tupU, consT, nameT, nilT, pinned, turn])]
    have t2 : b_prod [.im (.list [ti a, ti b, ti c]), .ow false ((pl a ++ mi b).map pr), .im (.int 2), .im (ti c), .im (wt (pl b))] = _ := t2
    rw [t2]
    rfl
  show out (seqS _ _ [.im (.list [ti a, ti b, ti c]), .un, .un, .un, .un]) = _
  rw [seq_nx A, seq_nx B]
  have S := v_struck (pl a ++ mi b ++ pl c) (by simp [pl, mi]; omega)
  unfold wl at S
  simp [-List.map_append, -List.append_assoc, retS, clF, consD, varF, nilD, bd, bs, frz, dat, thaw, S, out, retV]
theorem v_merge_word {d e f : D} {b m y : List Int} (h1 : isT d b) (h2 : isT e m) (h3 : isT f y) (h : m.length + b.length + y.length ≤ sizeLine) (ρ : Rho) : foE 3 m_merge_word [d, e, f] ρ = .ok (.im (wt (strike (pl m ++ mi b ++ pl y)))) ρ := by
  refine foE_of ?_ rfl ρ
  unfold G_merge_word
  show out (seqS _ _ [.im d, .im e, .im f]) = _
  rw [seq_nx (t_three h1 h2 h3 [])]
  simp [retS, clF, lstF, consD, varF, nilD, bd, bs, frz, dat, lstD, sizeLine_eq, v_product m b y h, out, retV]
end K06
/-- signs -/
def Sgn (st : Wd) : Prop := ∀ p ∈ st, p.2 = 1 ∨ p.2 = -1
theorem push_sgn {st : Wd} {p : Int × Int} (h : Sgn st) (hp : p.2 = 1 ∨ p.2 = -1) : Sgn (push st p) := by
  unfold push
  split
  · intro q hq; simp at hq; subst hq; exact hp
  · rename_i q r
    split
    · exact fun z hz => h z (List.mem_cons_of_mem _ hz)
    · intro z hz
      rcases List.mem_cons.mp hz with rfl | hz
      · exact hp
      · exact h z hz
theorem run_sgn : ∀ (w st : Wd), Sgn st → Sgn w → Sgn (w.foldl push st)
  | [], _, h, _ => h
  | p :: w, st, h, hw => run_sgn w (push st p) (push_sgn h (hw p List.mem_cons_self)) fun q hq => hw q (List.mem_cons_of_mem _ hq)
theorem foI_of {n k : Nat} {G : Rho → So} {xs ys : List D} {ds : List D} {d : D} {r : Rho} (h : G ((.ow true xs :: ds.map .im) ++ unS k) = .rt (.im d) (.ow true ys :: r)) (hn : ds.length + 1 = n) {ρ : Rho} {i : Nat} {b : Bool} (hi : ρ[i]? = some (.ow b xs)) :
    foI n (mF n k G) i ds ρ = .ok (.im d) (ρ.set i (.ow b ys)) := by
  subst hn
  unfold foI mF
  rw [hi]
  dsimp only
  rw [if_pos rfl, h]
  unfold ofSo retV outA
  dsimp only
  rw [List.range_succ_eq_map]
  rfl
theorem foI_fr {n k : Nat} {G : Rho → So} {xs ys : List D} {ds : List D} {d : List D} {r : Rho} (h : G ((.ow true xs :: ds.map .im) ++ unS k) = .rt (.fr d) (.ow true ys :: r)) (hn : ds.length + 1 = n) {ρ : Rho} {i : Nat} {b : Bool} (hi : ρ[i]? = some (.ow b xs)) :
    foI n (mF n k G) i ds ρ = .ok (.fr d) (ρ.set i (.ow b ys)) := by
  subst hn
  unfold foI mF
  rw [hi]
  dsimp only
  rw [if_pos rfl, h]
  unfold ofSo retV outA
  dsimp only
  rw [List.range_succ_eq_map]
  rfl
namespace K06
theorem pl_sgn (xs : List Int) : Sgn (pl xs) := by
  intro p hp; simp [pl] at hp; obtain ⟨_, _, rfl⟩ := hp; exact .inl rfl
theorem mi_sgn (xs : List Int) : Sgn (mi xs) := by
  intro p hp; simp [mi] at hp; obtain ⟨_, _, rfl⟩ := hp; exact .inr rfl
/-! ### the law's own words -/
abbrev b_lw : Rho → So := iteS (andF (tstF (opF neD (varF 1) (lstF nilD))) (tstF (opF eqD (opF ixD (varF 1) (unF negD (cF (.int 1)))) (tupF (consD (varF 5) (consD (opF subD (cF (.int 0)) (varF 4)) nilD))))))
  (dropS (mutF popD 1 nilD))
  (dropS (mutF apD 1 (consD (tupF (consD (varF 5) (consD (varF 4) nilD))) nilD)))
theorem t_lw (X K Z : Sl) (st : Wd) (x s : Int) (hs : s = 1 ∨ s = -1) (g : Sgn st) (h : st.length < sizeLine) : b_lw [X, .ow false (st.reverse.map pr), K, Z, .im (.int s), .im (.int x)] = .nx [X, .ow false ((push st (x, s)).reverse.map pr), K, Z, .im (.int s), .im (.int x)] := by
  cases st with
  | nil =>
    have h : 0 < sizeLine := h
    have e : neD (.list []) (.list []) = some (.im (.bool false)) := neD_wl [] []
    simp [b_lw, iteS, andF, tstF, opF, op2, varF, lstF, nilD, bd, bs, frz, dr, lstD, e, fin, blO, dropS, mutF, isOw, consD, tupF, dat, tupD, sizeLine_eq, mutO, apD, push, pr]
  | cons q r =>
    have h : r.length + 1 < sizeLine := h
    have e : neD (.list (r.reverse.map pr ++ [pr q])) (.list []) = some (.im (.bool true)) := by
      have := neD_wl ((q :: r).reverse) []
      simp [wl] at this
      simpa using this
    have e2 : eqD (pr q) (.tuple [.int x, .int (-s)]) = some (.im (.bool (decide (q = (x, -s))))) := eqD_pr q (x, -s)
    have hq := g q List.mem_cons_self
    have hc : (q.1 = x ∧ q.2 ≠ s) ↔ q = (x, -s) := by
      obtain ⟨q1, q2⟩ := q
      simp only [Prod.mk.injEq] at hq ⊢
      constructor
      · rintro ⟨rfl, h2⟩; refine ⟨rfl, ?_⟩; omega
      · rintro ⟨rfl, h2⟩; refine ⟨rfl, ?_⟩; omega
    have C : andF (tstF (opF neD (varF 1) (lstF nilD))) (tstF (opF eqD (opF ixD (varF 1) (unF negD (cF (.int 1)))) (tupF (consD (varF 5) (consD (opF subD (cF (.int 0)) (varF 4)) nilD))))) [X, .ow false (r.reverse.map pr ++ [pr q]), K, Z, .im (.int s), .im (.int x)] = .ok (decide (q = (x, -s))) [X, .ow false (r.reverse.map pr ++ [pr q]), K, Z, .im (.int s), .im (.int x)] := by
      simp only [andF, tstF, opF, op2, varF, lstF, nilD, bd_ok, bd, frz, dr, lstD, e, fin, blO, unF, op1, negD, cF, ixD_last, consD, dat, subD, intD, tupF, tupD, e2, Int.zero_sub, List.getElem?_cons_zero, List.getElem?_cons_succ, if_true, List.length_nil, Nat.zero_le, List.length_cons, sizeLine_eq]
      simp [e2]
    by_cases hd : q = (x, -s)
    · have hp : push (q :: r) (x, s) = r := if_pos (hc.mpr hd)
      rw [hp]
      rw [List.reverse_cons, List.map_append, List.map_cons, List.map_nil]
      unfold b_lw iteS
      rw [C, bs_ok, decide_eq_true hd, if_pos rfl]
      simp [dropS, mutF, isOw, nilD, bd_ok, mutO, popD, bs_ok]
    · have hp : push (q :: r) (x, s) = (x, s) :: q :: r := if_neg fun z => hd (hc.mp z)
      rw [hp]
      rw [List.reverse_cons, List.map_append, List.map_cons, List.map_nil]
      unfold b_lw iteS
      rw [C, bs_ok, decide_eq_false hd, if_neg Bool.false_ne_true]
      simp [dropS, mutF, isOw, consD, tupF, nilD, varF, bd, bs, frz, dat, tupD, sizeLine_eq, mutO, apD, pr]
      rw [sizeLine_eq] at h
      simp [h]
theorem l_lw (X K Z : Sl) (s : Int) (hs : s = 1 ∨ s = -1) : ∀ (xs : List Int) (st : Wd) (y : Sl), Fr y → Sgn st → st.length + xs.length ≤ sizeLine → ∃ y', Fr y' ∧ forL (nameT 5) b_lw (xs.map .int) [X, .ow false (st.reverse.map pr), K, Z, .im (.int s), y] =
    .nx [X, .ow false (((xs.map fun x => (x, s)).foldl push st).reverse.map pr), K, Z, .im (.int s), y']
  | [], st, y, hy, _, _ => ⟨y, hy, rfl⟩
  | x :: xs, st, y, hy, g, hl => by
    rw [List.length_cons] at hl
    have := push_len st (x, s)
    obtain ⟨y', hy', ih⟩ := l_lw X K Z s hs xs (push st (x, s)) (.im (.int x)) fr_im (push_sgn g hs) (by omega)
    refine ⟨y', hy', ?_⟩
    rw [List.map_cons, List.map_cons, List.foldl_cons, forL_cons (ρ1 := [X, .ow false (st.reverse.map pr), K, Z, .im (.int s), .im (.int x)]) (by rcases hy with rfl | ⟨d, rfl⟩ <;> rfl), t_lw X K Z st x s hs g (by omega)]
    exact ih
abbrev b_lo : Rho → So := seqS (asgS 4 (opF subD (cF (.int 1)) (opF mulD (cF (.int 2)) (opF modD (varF 2) (cF (.int 2))))))
  (forS (seqI (stpF (varF 3) (parO (varF 4)))) (nameT 5) b_lw)
theorem turn_sgn (k : Nat) (xs : List Int) : Sgn (turn k xs) := by
  unfold turn; split
  · exact mi_sgn xs
  · exact pl_sgn xs
theorem t_lo (X : Sl) (k : Nat) (hk : k = 0 ∨ k = 1 ∨ k = 2) (st : Wd) (g : Sgn st) (xs : List Int) (h : st.length + xs.length ≤ sizeLine) (u y : Sl) (hu : Fr u) (hy : Fr y) :
    ∃ u' y', Fr u' ∧ Fr y' ∧ b_lo [X, .ow false (st.reverse.map pr), .im (.int (k : Int)), .im (ti xs), u, y] = .nx [X, .ow false (((turn k xs).foldl push st).reverse.map pr), .im (.int (k : Int)), .im (ti xs), u', y'] := by
  have m0 : ∀ k : Nat, k = 0 ∨ k = 1 ∨ k = 2 → asgS 4 (opF subD (cF (.int 1)) (opF mulD (cF (.int 2)) (opF modD (varF 2) (cF (.int 2))))) [X, .ow false (st.reverse.map pr), .im (.int (k : Int)), .im (ti xs), u, y] =
      .nx [X, .ow false (st.reverse.map pr), .im (.int (k : Int)), .im (ti xs), .im (.int (if k % 2 = 1 then -1 else 1)), y] := by
    intro k hk
    rcases hk with rfl | rfl | rfl <;> rcases hu with rfl | ⟨d, rfl⟩ <;> rfl
  have S : ∀ (s : Int) (zs : List Int), (s = 1 ∧ zs = xs) ∨ (s = -1 ∧ zs = xs.reverse) → seqI (stpF (varF 3) (parO (varF 4))) [X, .ow false (st.reverse.map pr), .im (.int (k : Int)), .im (ti xs), .im (.int s), y] = .ok (zs.map .int) [X, .ow false (st.reverse.map pr), .im (.int (k : Int)), .im (ti xs), .im (.int s), y] := by
    rintro s zs (⟨rfl, rfl⟩ | ⟨rfl, rfl⟩) <;> simp [seqI, stpF, varF, parO, bd, frz, intO, stpO, dr, stpD, ti, fin, dat, itD]
  unfold b_lo
  rw [seq_nx (m0 k hk)]
  by_cases hc : k % 2 = 1
  · have e : turn k xs = xs.reverse.map fun x => (x, -1) := if_pos hc
    obtain ⟨y', hy', L⟩ := l_lw X (.im (.int (k : Int))) (.im (ti xs)) (-1) (.inr rfl) xs.reverse st y hy g (by rw [List.length_reverse]; exact h)
    refine ⟨.im (.int (-1)), y', fr_im, hy', ?_⟩
    rw [if_pos hc, for_of (S (-1) xs.reverse (.inr ⟨rfl, rfl⟩)), L, e]
  · have e : turn k xs = xs.map fun x => (x, 1) := if_neg hc
    obtain ⟨y', hy', L⟩ := l_lw X (.im (.int (k : Int))) (.im (ti xs)) 1 (.inl rfl) xs st y hy g h
    refine ⟨.im (.int 1), y', fr_im, hy', ?_⟩
    rw [if_neg hc, for_of (S 1 xs (.inl ⟨rfl, rfl⟩)), L, e]
theorem v_law_word (a b c : List Int) (h : a.length + b.length + c.length ≤ sizeLine) (ρ : Rho) : foE 1 m_law_word [.list [ti a, ti b, ti c]] ρ = .ok (.im (wt (strike (pl a ++ mi b ++ pl c)))) ρ := by
  refine foE_of ?_ rfl ρ
  unfold G_law_word
  have lt : ∀ k xs, (turn k xs).length = xs.length := fun k xs => by unfold turn; split <;> simp [pl, mi]
  have r0 := run_len (turn 0 a) []
  have r1 := run_len (turn 1 b) ((turn 0 a).foldl push [])
  rw [lt] at r0 r1
  have g0 : Sgn ((turn 0 a).foldl push []) := run_sgn _ _ (fun _ z => nomatch z) (turn_sgn 0 a)
  have g1 : Sgn ((turn 1 b).foldl push ((turn 0 a).foldl push [])) := run_sgn _ _ g0 (turn_sgn 1 b)
  obtain ⟨u0, y0, hu0, hy0, t0⟩ := t_lo (.im (.list [ti a, ti b, ti c])) 0 (.inl rfl) [] (fun _ z => nomatch z) a (by simp; omega) .un .un fr_un fr_un
  obtain ⟨u1, y1, hu1, hy1, t1⟩ := t_lo (.im (.list [ti a, ti b, ti c])) 1 (.inr (.inl rfl)) _ g0 b (by simp at r0; omega) u0 y0 hu0 hy0
  obtain ⟨u2, y2, hu2, hy2, t2⟩ := t_lo (.im (.list [ti a, ti b, ti c])) 2 (.inr (.inr rfl)) _ g1 c (by simp at r0; omega) u1 y1 hu1 hy1
  have A : asgS 1 (lstF nilD) [.im (.list [ti a, ti b, ti c]), .un, .un, .un, .un, .un] = .nx [.im (.list [ti a, ti b, ti c]), .ow false [], .un, .un, .un, .un] := by
    simp [asgS, lstF, nilD, bd, bs, lstD, setN, pinned]
  have E : enumUI (varF 0) [.im (.list [ti a, ti b, ti c]), .ow false [], .un, .un, .un, .un] = .ok [.tuple [.int 0, ti a], .tuple [.int 1, ti b], .tuple [.int 2, ti c]] [.im (.list [ti a, ti b, ti c]), .ow false [], .un, .un, .un, .un] := by
    simp [enumUI, varF, frz, bd, dat, enumUO, numD]
  have B : forS (enumUI (varF 0)) (tupU 2 (consT (nameT 2) (consT (nameT 3) nilT))) b_lo [.im (.list [ti a, ti b, ti c]), .ow false [], .un, .un, .un, .un] = .nx [.im (.list [ti a, ti b, ti c]), .ow false (((turn 2 c).foldl push ((turn 1 b).foldl push ((turn 0 a).foldl push []))).reverse.map pr), .im (.int 2), .im (ti c), u2, y2] := by
    rw [for_of E, forL_cons (ρ1 := [.im (.list [ti a, ti b, ti c]), .ow false [], .im (.int 0), .im (ti a), .un, .un]) (by simp [tupU, consT, nameT, nilT, pinned])]
    have t0 : b_lo [.im (.list [ti a, ti b, ti c]), .ow false [], .im (.int 0), .im (ti a), .un, .un] = _ := t0
    rw [t0]
    show forL _ _ _ _ = _
    rw [forL_cons (ρ1 := [.im (.list [ti a, ti b, ti c]), .ow false (((turn 0 a).foldl push []).reverse.map pr), .im (.int 1), .im (ti b), u0, y0]) (by simp [tupU, consT, nameT, nilT, pinned])]
    have t1 : b_lo [.im (.list [ti a, ti b, ti c]), .ow false (((turn 0 a).foldl push []).reverse.map pr), .im (.int 1), .im (ti b), u0, y0] = _ := t1
    rw [t1]
    show forL _ _ _ _ = _
    rw [forL_cons (ρ1 := [.im (.list [ti a, ti b, ti c]), .ow false (((turn 1 b).foldl push ((turn 0 a).foldl push [])).reverse.map pr), .im (.int 2), .im (ti c), u1, y1]) (by simp [tupU, consT, nameT, nilT, pinned])]
    have t2 : b_lo [.im (.list [ti a, ti b, ti c]), .ow false (((turn 1 b).foldl push ((turn 0 a).foldl push [])).reverse.map pr), .im (.int 2), .im (ti c), u1, y1] = _ := t2
    rw [t2]
    rfl
  show out (seqS _ _ [.im (.list [ti a, ti b, ti c]), .un, .un, .un, .un, .un]) = _
  rw [seq_nx A, seq_nx B]
  have W : (turn 2 c).foldl push ((turn 1 b).foldl push ((turn 0 a).foldl push [])) = (pl a ++ mi b ++ pl c).foldl push [] := by
    rw [List.foldl_append, List.foldl_append]
    rfl
  rw [W]
  unfold strike wt
  simp [-List.foldl_append, -List.append_assoc, retS, unF, varF, bd, bs, frz, op1, dr, tupleD, fin, out, retV]
end K06
theorem log2_le {n k : Nat} (h : n < 2 ^ k) (hk : 0 < k) : n.log2 < k := by
  by_cases h0 : n = 0
  · subst h0; rw [Nat.log2_zero]; exact hk
  · exact (Nat.log2_lt h0).mpr h
theorem small_mul {i j : Int} (hi : i.natAbs < 2 ^ 70) (hj : j.natAbs < 2 ^ 70) : mulD (.int i) (.int j) = some (.im (.int (i * j))) := by
  have a := log2_le hi (by decide)
  have b := log2_le hj (by decide)
  unfold mulD intD
  dsimp only
  rw [if_pos (decide_eq_true (by omega))]
theorem mod_ok {i j : Int} (hj : 0 < j) : modD (.int i) (.int j) = some (.im (.int (i % j))) := by
  unfold modD intD
  dsimp only
  rw [if_pos (decide_eq_true hj)]
theorem fdv_ok {i j : Int} (hj : 0 < j) (h : j.natAbs < 2 ^ 70) : fdvD (.int i) (.int j) = some (.im (.int (i / j))) := by
  have b := log2_le h (by decide)
  unfold fdvD intD
  dsimp only
  rw [if_pos (decide_eq_true ⟨hj, by omega⟩)]
/-- the box: what is left of the cell, the state, how often it was drawn from -/
structure Bx (n : Nat) (c : Int × Int × Int) : Prop where
  a0 : 0 ≤ c.1
  b0 : 0 ≤ c.2.1
  b2 : c.2.1 < 2147483648
  c0 : 0 ≤ c.2.2
  c2 : c.2.2 ≤ n
def bx (c : Int × Int × Int) : List D := [.int c.1, .int c.2.1, .int c.2.2]
theorem Bx.mono {n m : Nat} {c : Int × Int × Int} (h : Bx n c) (k : n ≤ m) : Bx m c := ⟨h.a0, h.b0, h.b2, h.c0, by have := h.c2; omega⟩
namespace K06
/-- one draw -/
def raw (c : Int × Int × Int) : Int := ((c.2.1 + 101909 * (c.2.2 + 1)) * 67819 + 41) % 2147483563
def nxt (c : Int × Int × Int) : Int := (raw c * 39373 + 27901) % 2147483629 + 1
def dig (c : Int × Int × Int) (many : Int) : Int := if 0 < c.1 then c.1 % many else ((raw c * 2147483647 + nxt c) / 8191) % many
def box (c : Int × Int × Int) (many : Int) : Int × Int × Int := if 0 < c.1 then (c.1 / many, c.2.1, c.2.2) else (c.1, nxt c, c.2.2 + 1)
theorem raw_b (c : Int × Int × Int) : 0 ≤ raw c ∧ raw c < 2147483563 := ⟨Int.emod_nonneg _ (by decide), Int.emod_lt_of_pos _ (by decide)⟩
theorem nxt_b (c : Int × Int × Int) : 0 ≤ nxt c ∧ nxt c < 2147483648 := by
  have h1 : 0 ≤ (raw c * 39373 + 27901) % 2147483629 := Int.emod_nonneg _ (by decide)
  have h2 : (raw c * 39373 + 27901) % 2147483629 < 2147483629 := Int.emod_lt_of_pos _ (by decide)
  unfold nxt
  omega
theorem box_ok {n : Nat} {c : Int × Int × Int} (h : Bx n c) {many : Int} (hm : 0 < many) : Bx (n + 1) (box c many) := by
  have hn := nxt_b c
  obtain ⟨a, b, b2, c1, c2⟩ := h
  unfold box
  split
  · exact ⟨Int.ediv_nonneg a (Int.le_of_lt hm), b, b2, c1, by show c.2.2 ≤ _; omega⟩
  · exact ⟨a, hn.1, hn.2, by show 0 ≤ c.2.2 + 1; omega, by show c.2.2 + 1 ≤ _; omega⟩
theorem dig_b (c : Int × Int × Int) {many : Int} (hm : 0 < many) : 0 ≤ dig c many ∧ dig c many < many := by
  unfold dig
  split <;> exact ⟨Int.emod_nonneg _ (by omega), Int.emod_lt_of_pos _ hm⟩
theorem ix0 (x y z : D) : ixD (.list [x, y, z]) (.int 0) = some (.im x) := ixD_l (i := 0) rfl
theorem ix1 (x y z : D) : ixD (.list [x, y, z]) (.int 1) = some (.im y) := ixD_l (i := 1) rfl
theorem ix2 (x y z : D) : ixD (.list [x, y, z]) (.int 2) = some (.im z) := ixD_l (i := 2) rfl
theorem set0 (x y z d : D) (b : Bool) (r : Rho) : setO 0 d (.int 0) (.ow b [x, y, z] :: r) = .nx (.ow b [d, y, z] :: r) := rfl
theorem set1 (x y z d : D) (b : Bool) (r : Rho) : setO 0 d (.int 1) (.ow b [x, y, z] :: r) = .nx (.ow b [x, d, z] :: r) := rfl
theorem set2 (x y z d : D) (b : Bool) (r : Rho) : setO 0 d (.int 2) (.ow b [x, y, z] :: r) = .nx (.ow b [x, y, d] :: r) := rfl
theorem v_take {n : Nat} {c : Int × Int × Int} (h : Bx n c) (hn : n < 1000) {many : Int} (hm : 0 < many) (hm2 : many < 1000000) {ρ : Rho} {i : Nat} {b : Bool} (hi : ρ[i]? = some (.ow b (bx c))) :
    foI 2 m_law_take i [.int many] ρ = .ok (.im (.int (dig c many))) (ρ.set i (.ow b (bx (box c many)))) := by
  obtain ⟨c0, c1, c2⟩ := c
  obtain ⟨ha, hb, hb2, hc, hc2⟩ := h
  dsimp only at ha hb hb2 hc hc2
  by_cases h0 : 0 < c0
  · refine foI_of (r := [.im (.int many), .im (.int (c0 % many)), .un]) ?_ rfl hi
    have e1 := @fdv_ok c0 many hm (by omega)
    have e2 := @mod_ok c0 many hm
    simp only [bx, dig, box, h0, if_true]
    unfold G_law_take
    simp [seqS, iteS, tstF, opF, op2, varF, cF, bd_ok, bd, bs, frz, dr, unS, ix0, fin, gtD, intD, blO, h0, asgS, callF, consF, nilF, call1, drs, intOfD, e2, setN, pinned, setS, e1, dat, isOw, set0, retS]
  · have hraw := raw_b (c0, c1, c2)
    have hnx := nxt_b (c0, c1, c2)
    refine foI_of (r := [.im (.int many), .un, .im (.int (raw (c0, c1, c2)))]) ?_ rfl hi
    simp only [bx, dig, box, h0, if_false]
    have m1 := @small_mul 101909 (c2 + 1) (by decide) (by omega)
    have m2 := @small_mul (c1 + 101909 * (c2 + 1)) 67819 (by omega) (by decide)
    have m3 := @mod_ok ((c1 + 101909 * (c2 + 1)) * 67819 + 41) 2147483563 (by decide)
    have m3 : modD (.int ((c1 + 101909 * (c2 + 1)) * 67819 + 41)) (.int 2147483563) = some (.im (.int (raw (c0, c1, c2)))) := m3
    have m4 := @small_mul (raw (c0, c1, c2)) 39373 (by omega) (by decide)
    have m5 := @mod_ok (raw (c0, c1, c2) * 39373 + 27901) 2147483629 (by decide)
    have m6 := @small_mul (raw (c0, c1, c2)) 2147483647 (by omega) (by decide)
    have m7 := @fdv_ok (raw (c0, c1, c2) * 2147483647 + nxt (c0, c1, c2)) 8191 (by decide) (by decide)
    have m8 := @mod_ok ((raw (c0, c1, c2) * 2147483647 + nxt (c0, c1, c2)) / 8191) many hm
    have e5 : (raw (c0, c1, c2) * 39373 + 27901) % 2147483629 + 1 = nxt (c0, c1, c2) := rfl
    unfold G_law_take
    simp only [seqS, iteS, tstF, opF, op2, varF, cF, bd_ok, frz, dr, unS, List.map_cons, List.map_nil, List.cons_append, List.nil_append, List.replicate, List.getElem?_cons_zero, List.getElem?_cons_succ, ix0, ix1, ix2, fin, gtD, intD, if_true, blO, bs_ok, h0, decide_false, Bool.false_eq_true, if_false, nxS, setS, addD, dat, isOw, set2, set1, set0, asgS, callF, consF, nilF, call1, drs, intOfD, m1, m2, m3, m4, m5, m6, m7, m8, e5, setN, pinned, List.set_cons_succ, List.set_cons_zero, retS]
end K06
/-- a drawn text -/
structure Gt (n : Nat) (xs : List Int) : Prop where
  len : xs.length ≤ n
  let_ : ∀ x ∈ xs, x = 3 ∨ x = 47 ∨ x = 99
theorem Gt.app {n m : Nat} {xs ys : List Int} (a : Gt n xs) (b : Gt m ys) : Gt (n + m) (xs ++ ys) := by
  refine ⟨by have := a.len; have := b.len; rw [List.length_append]; omega, fun x hx => ?_⟩
  rcases List.mem_append.mp hx with h | h
  · exact a.let_ x h
  · exact b.let_ x h
theorem Gt.lt {n : Nat} {xs : List Int} (a : Gt n xs) : Lt xs := fun x hx => by
  rcases a.let_ x hx with rfl | rfl | rfl <;> omega
theorem lenD_li (x : List Int) : lenD [li x] = some (.im (.int (x.length : Nat))) := by simp [lenD, li]
namespace K06
/-! ### the box -/
theorem v_box (ns : List Int) (k : Nat) (hk : k < 3) : ∃ c, Bx 0 c ∧ ∀ ρ, foE 2 m_law_box [li ns, .int (k : Int)] ρ = .ok (.fr (bx c)) ρ := by
  have fin2 : ∀ cell : Int, ∃ c, Bx 0 c ∧ out (retS (lstF (consD (opF ixD (lstF (consD (cF (.int 0)) (consD (varF 2) nilD))) (callF intOfD (consF (opF geD (varF 2) (opF powD (cF (.int 10)) (cF (.int 18)))) nilF))) (consD (opF addD (opF modD (callF intOfD (consF (opF addD (opF mulD (opF modD (callF intOfD (consF (varF 2) nilF)) (cF (.int 2147483629))) (cF (.int 48271))) (opF mulD (cF (.int 50131)) (varF 1))) nilF)) (cF (.int 2147483629))) (cF (.int 1))) (consD (cF (.int 0)) nilD)))) [.im (li ns), .im (.int (k : Int)), .im (.int cell)]) = some (.fr (bx c)) := by
    intro cell
    have q1 : 0 ≤ cell % 2147483629 := Int.emod_nonneg _ (by decide)
    have q2 : cell % 2147483629 < 2147483629 := Int.emod_lt_of_pos _ (by decide)
    have m1 := @mod_ok cell 2147483629 (by decide)
    have m2 := @small_mul (cell % 2147483629) 48271 (by omega) (by decide)
    have m3 := @small_mul 50131 (k : Int) (by decide) (by omega)
    have m4 := @mod_ok (cell % 2147483629 * 48271 + 50131 * (k : Int)) 2147483629 (by decide)
    have r1 : 0 ≤ (cell % 2147483629 * 48271 + 50131 * (k : Int)) % 2147483629 := Int.emod_nonneg _ (by decide)
    have r2 : (cell % 2147483629 * 48271 + 50131 * (k : Int)) % 2147483629 < 2147483629 := Int.emod_lt_of_pos _ (by decide)
    have p : powD (.int 10) (.int 18) = some (.im (.int 1000000000000000000)) := by rfl
    have i0 : ixD (.list [.int 0, .int cell]) (.int 0) = some (.im (.int 0)) := ixD_l (i := 0) rfl
    have i1 : ixD (.list [.int 0, .int cell]) (.int 1) = some (.im (.int cell)) := ixD_l (i := 1) rfl
    by_cases hc : 1000000000000000000 ≤ cell
    · refine ⟨(cell, (cell % 2147483629 * 48271 + 50131 * (k : Int)) % 2147483629 + 1, 0), ⟨by show 0 ≤ cell; omega, by show 0 ≤ _ + (1 : Int); omega, by show _ + (1 : Int) < _; omega, Int.le_refl _, Int.le_refl _⟩, ?_⟩
      simp [retS, lstF, consD, consF, nilF, nilD, opF, op2, callF, call1, drs, dr, varF, cF, bd, bs, frz, fin, dat, lstD, sizeLine_eq, p, geD, intD, hc, intOfD, i0, i1, m1, m2, m3, m4, addD, out, retV, bx]
    · refine ⟨(0, (cell % 2147483629 * 48271 + 50131 * (k : Int)) % 2147483629 + 1, 0), ⟨Int.le_refl _, by show 0 ≤ _ + (1 : Int); omega, by show _ + (1 : Int) < _; omega, Int.le_refl _, Int.le_refl _⟩, ?_⟩
      simp [retS, lstF, consD, consF, nilF, nilD, opF, op2, callF, call1, drs, dr, varF, cF, bd, bs, frz, fin, dat, lstD, sizeLine_eq, p, geD, intD, hc, intOfD, i0, i1, m1, m2, m3, m4, addD, out, retV, bx]
  have M0 := @small_mul 41321 (k : Int) (by decide) (by omega)
  have A : asgS 2 (opF addD (opF mulD (cF (.int 41321)) (varF 1)) (cF (.int 3188))) [.im (li ns), .im (.int (k : Int)), .un] = .nx [.im (li ns), .im (.int (k : Int)), .im (.int (41321 * (k : Int) + 3188))] := by
    simp [asgS, opF, op2, cF, varF, bd, bs, frz, dr, fin, M0, addD, setN, pinned]
  have B : ∃ cell : Int, iteS (tstF (opF ltD (varF 1) (callF lenD (consF (varF 0) nilF))))
      (asgS 2 (callF absD (consF (opF ixD (varF 0) (varF 1)) nilF)))
      (iteS (tstF (opF gtD (callF lenD (consF (varF 0) nilF)) (cF (.int 0))))
      (asgS 2 (opF addD (varF 2) (opF mulD (opF modD (callF intOfD (consF (callF absD (consF (opF ixD (varF 0) (opF modD (callF intOfD (consF (varF 1) nilF)) (callF lenD (consF (varF 0) nilF)))) nilF)) nilF)) (cF (.int 2147483629))) (cF (.int 67103)))))
      nxS) [.im (li ns), .im (.int (k : Int)), .im (.int (41321 * (k : Int) + 3188))] = .nx [.im (li ns), .im (.int (k : Int)), .im (.int cell)] := by
    by_cases h1 : k < ns.length
    · have g : ixD (li ns) (.int (k : Int)) = some (.im (.int (ns[k]'h1))) := ixD_l (by rw [List.getElem?_map, List.getElem?_eq_getElem h1]; rfl)
      refine ⟨if ns[k]'h1 < 0 then -(ns[k]'h1) else ns[k]'h1, ?_⟩
      simp [iteS, tstF, opF, op2, callF, call1, drs, consF, nilF, varF, cF, bd, bs, frz, dr, fin, lenD_li, ltD, intD, blO, h1, asgS, g, absD, setN, pinned]
    · by_cases h2 : 0 < ns.length
      · have hm : k % ns.length < ns.length := Nat.mod_lt _ h2
        have m1 := @mod_ok (k : Int) (ns.length : Int) (by omega)
        have e1 : (k : Int) % (ns.length : Int) = ((k % ns.length : Nat) : Int) := (Int.natCast_emod k ns.length).symm
        rw [e1] at m1
        have g : ixD (li ns) (.int ((k % ns.length : Nat) : Int)) = some (.im (.int (ns[k % ns.length]'hm))) := ixD_l (by rw [List.getElem?_map, List.getElem?_eq_getElem hm]; rfl)
        have e2 : ∀ z : Int, absD [.int z] = some (.im (.int (if z < 0 then -z else z))) := fun z => rfl
        generalize (ns[k % ns.length]'hm) = z at g
        have e3 := e2 z
        generalize (if z < 0 then -z else z) = y at e3
        have m2 := @mod_ok y 2147483629 (by decide)
        have q1 : 0 ≤ y % 2147483629 := Int.emod_nonneg _ (by decide)
        have q2 : y % 2147483629 < 2147483629 := Int.emod_lt_of_pos _ (by decide)
        have m3 := @small_mul (y % 2147483629) 67103 (by omega) (by decide)
        refine ⟨41321 * (k : Int) + 3188 + y % 2147483629 * 67103, ?_⟩
        simp only [iteS, tstF, opF, op2, callF, call1, drs, consF, nilF, varF, cF, bd_ok, bs_ok, frz, dr, fin, lenD_li, ltD, gtD, intD, blO, asgS, g, e3, m1, m2, m3, intOfD, addD, setN, pinned, List.getElem?_cons_zero, List.getElem?_cons_succ, List.set_cons_zero, List.set_cons_succ, if_true, Bool.false_eq_true, if_false]
        rw [decide_eq_false (by omega), decide_eq_true (by omega)]
        simp
      · refine ⟨41321 * (k : Int) + 3188, ?_⟩
        have h3 : ns.length = 0 := by omega
        simp [iteS, tstF, opF, op2, callF, call1, drs, consF, nilF, varF, cF, bd, bs, frz, dr, fin, lenD_li, ltD, gtD, intD, blO, h3, nxS]
        omega
  obtain ⟨cell, B⟩ := B
  obtain ⟨c, hc, e⟩ := fin2 cell
  refine ⟨c, hc, fun ρ => foE_fr (n := 2) (k := 1) (G := G_law_box) (ds := [li ns, .int (k : Int)]) ?_ rfl ρ⟩
  unfold G_law_box
  show out (seqS _ _ [.im (li ns), .im (.int (k : Int)), .un]) = _
  rw [seq_nx A, seq_nx B]
  exact e
theorem v_pick {n : Nat} {c : Int × Int × Int} (h : Bx n c) (hn : n < 1000) {es : List D} (h0 : 0 < es.length) (h1 : es.length < 1000000) : ∃ d c', d ∈ es ∧ Bx (n + 1) c' ∧ ∀ (ρ : Rho) (i : Nat) (b : Bool), ρ[i]? = some (.ow b (bx c)) →
    foI 2 m_law_pick i [.list es] ρ = .ok (.im d) (ρ.set i (.ow b (bx c'))) := by
  have hm : (0 : Int) < (es.length : Int) := by omega
  obtain ⟨d0, d1⟩ := dig_b c hm
  obtain ⟨j, hj⟩ : ∃ j : Nat, dig c (es.length : Int) = (j : Int) := ⟨_, (Int.toNat_of_nonneg d0).symm⟩
  have hl : j < es.length := by omega
  refine ⟨es[j]'hl, box c (es.length : Int), List.getElem_mem hl, box_ok h hm, fun ρ i b hi => ?_⟩
  refine foI_of (r := [.im (.list es)]) ?_ rfl hi
  unfold G_law_pick
  have t := @v_take n c h hn (es.length : Int) hm (by omega) [.ow true (bx c), .im (.list es)] 0 true rfl
  have g : ixD (.list es) (.int (j : Int)) = some (.im (es[j]'hl)) := ixD_l (List.getElem?_eq_getElem hl)
  rw [hj] at t
  simp [retS, opF, op2, varF, clI, isOw, consD, callF, call1, drs, consF, nilF, nilD, lenD, bd, bs, frz, dr, fin, dat, unS, t, g]
/-! ### rows of letters -/
abbrev e_row : Rho → Ou Rs := opF ixD (tupF (consD (cF (.int 3)) (consD (cF (.int 47)) (consD (cF (.int 99)) nilD)))) (clI 2 m_law_take 0 (consD (varF 1) nilD))
theorem t_row {n : Nat} {c : Int × Int × Int} (h : Bx n c) (hn : n < 1000) {letters : Int} (l1 : 1 ≤ letters) (l3 : letters ≤ 3) (L y : Sl) :
    ∃ x, (x = 3 ∨ x = 47 ∨ x = 99) ∧ bd (frz (e_row [.ow true (bx c), .im (.int letters), L, y])) dat = .ok (.int x) [.ow true (bx (box c letters)), .im (.int letters), L, y] := by
  obtain ⟨d0, d1⟩ := dig_b c (show 0 < letters by omega)
  have t := @v_take n c h hn letters (by omega) (by omega) [.ow true (bx c), .im (.int letters), L, y] 0 true rfl
  have T : ∀ z x : Int, dig c letters = z → ixD (.tuple [.int 3, .int 47, .int 99]) (.int z) = some (.im (.int x)) → bd (frz (e_row [.ow true (bx c), .im (.int letters), L, y])) dat = .ok (.int x) [.ow true (bx (box c letters)), .im (.int letters), L, y] := by
    intro z x hz hx
    rw [hz] at t
    simp [e_row, opF, op2, tupF, consD, cF, nilD, bd, frz, dat, tupD, sizeLine_eq, clI, isOw, varF, t, dr, hx, fin]
  have hd : dig c letters = 0 ∨ dig c letters = 1 ∨ dig c letters = 2 := by omega
  rcases hd with hd | hd | hd
  · exact ⟨3, .inl rfl, T 0 3 hd rfl⟩
  · exact ⟨47, .inr (.inl rfl), T 1 47 hd rfl⟩
  · exact ⟨99, .inr (.inr rfl), T 2 99 hd rfl⟩
theorem l_row {letters : Int} (l1 : 1 ≤ letters) (l3 : letters ≤ 3) (L : Sl) : ∀ (ds acc : List D) (n : Nat) (c : Int × Int × Int), Bx n c → n + ds.length < 1000 → acc.length + ds.length ≤ sizeLine → ∃ c' xs, Bx (n + ds.length) c' ∧ Gt ds.length xs ∧
    lcL (nameT 3) yesF e_row [3] ds acc [.ow true (bx c), .im (.int letters), L, .un] = .ok (acc ++ xs.map .int) [.ow true (bx c'), .im (.int letters), L, .un]
  | [], acc, n, c, h, _, _ => ⟨c, [], h, ⟨Nat.le_refl _, fun _ z => nomatch z⟩, by simp [lcL]⟩
  | d :: ds, acc, n, c, h, hn, hl => by
    rw [List.length_cons] at hn hl
    obtain ⟨x, hx, e⟩ := t_row h (by omega) l1 l3 L (.im d)
    obtain ⟨c', xs, h', g, ih⟩ := l_row l1 l3 L ds (acc ++ [.int x]) (n + 1) (box c letters) (box_ok h (by omega)) (by omega) (by rw [List.length_append]; simp; omega)
    refine ⟨c', x :: xs, h'.mono (by rw [List.length_cons]; omega), ⟨by have := g.len; rw [List.length_cons, List.length_cons]; omega, fun z hz => ?_⟩, ?_⟩
    · rcases List.mem_cons.mp hz with rfl | hz
      · exact hx
      · exact g.let_ z hz
    · have e1 : nameT 3 d [.ow true (bx c), .im (.int letters), L, .un] = some [.ow true (bx c), .im (.int letters), L, .im d] := rfl
      unfold lcL
      rw [e1]
      simp only [yesF, bdn, if_true, e]
      rw [if_pos ⟨by omega, rfl⟩]
      have w : wipeR [.ow true (bx (box c letters)), .im (.int letters), L, .im d] [3] = [.ow true (bx (box c letters)), .im (.int letters), L, .un] := rfl
      rw [w, ih]
      simp
theorem v_row {n : Nat} {c : Int × Int × Int} (h : Bx n c) (hn : n + 10 < 1000) {letters : Int} (l1 : 1 ≤ letters) (l3 : letters ≤ 3) : ∃ xs c', Gt 3 xs ∧ Bx (n + 4) c' ∧ ∀ (ρ : Rho) (i : Nat) (b : Bool), ρ[i]? = some (.ow b (bx c)) →
    foI 3 m_law_row i [.int letters, .int 3] ρ = .ok (.im (ti xs)) (ρ.set i (.ow b (bx c'))) := by
  obtain ⟨d0, d1⟩ := dig_b c (show (0 : Int) < 4 by decide)
  obtain ⟨j, hj⟩ : ∃ j : Nat, dig c 4 = (j : Int) := ⟨_, (Int.toNat_of_nonneg d0).symm⟩
  have il : (idx 0 j).length = j := by simp [idx]
  obtain ⟨c', xs, h', g, e⟩ := l_row l1 l3 (.im (.int 3)) (idx 0 j) [] (n + 1) (box c 4) (box_ok h (by decide)) (by rw [il]; omega) (by rw [il, sizeLine_eq]; simp; omega)
  rw [il] at g h'
  refine ⟨xs, c', ⟨by have := g.len; omega, g.let_⟩, h'.mono (by omega), fun ρ i b hi => ?_⟩
  refine foI_of (r := [.im (.int letters), .im (.int 3), .un]) ?_ rfl hi
  have t := @v_take n c h (by omega) 4 (by decide) (by decide) [.ow true (bx c), .im (.int letters), .im (.int 3), .un] 0 true rfl
  rw [hj] at t
  have A : rng1I (clI 2 m_law_take 0 (consD (opF addD (varF 2) (cF (.int 1))) nilD)) [.ow true (bx c), .im (.int letters), .im (.int 3), .un] = .ok (idx 0 j) [.ow true (bx (box c 4)), .im (.int letters), .im (.int 3), .un] := by
    refine rng1_of ?_ (by omega)
    simp [clI, isOw, consD, opF, op2, varF, cF, nilD, bd, frz, dr, addD, fin, dat, t]
  show retS (unF tupleD (lcF _ _ yesF e_row [3])) [.ow true (bx c), .im (.int letters), .im (.int 3), .un] = _
  have B : lcF (rng1I (clI 2 m_law_take 0 (consD (opF addD (varF 2) (cF (.int 1))) nilD))) (nameT 3) yesF e_row [3] [.ow true (bx c), .im (.int letters), .im (.int 3), .un] = .ok (.fr (xs.map .int)) [.ow true (bx c'), .im (.int letters), .im (.int 3), .un] := by
    unfold lcF
    rw [A, bd_ok, if_pos (show plainAt _ _ = true from rfl)]
    have w : wipeR [.ow true (bx (box c 4)), .im (.int letters), .im (.int 3), .un] [3] = [.ow true (bx (box c 4)), .im (.int letters), .im (.int 3), .un] := rfl
    rw [w, e, bd_ok]
    rfl
  unfold retS unF
  rw [B]
  rfl
/-! ### three texts -/
abbrev e_three : Rho → Ou Rs := clI 3 m_law_row 0 (consD (varF 1) (consD (cF (.int 3)) nilD))
theorem l_three {letters : Int} (l1 : 1 ≤ letters) (l3 : letters ≤ 3) : ∀ (ds acc : List D) (n : Nat) (c : Int × Int × Int), Bx n c → n + 4 * ds.length + 10 < 1000 → acc.length + ds.length ≤ sizeLine → ∃ (c' : Int × Int × Int) (rs : List (List Int)), Bx (n + 4 * ds.length) c' ∧ rs.length = ds.length ∧ (∀ r ∈ rs, Gt 3 r) ∧
    lcL (nameT 5) yesF e_three [5] ds acc [.ow true (bx c), .im (.int letters), .un, .un, .un, .un] = .ok (acc ++ rs.map ti) [.ow true (bx c'), .im (.int letters), .un, .un, .un, .un]
  | [], acc, n, c, h, _, _ => ⟨c, [], h, rfl, (fun _ z => nomatch z), by simp [lcL]⟩
  | d :: ds, acc, n, c, h, hn, hl => by
    rw [List.length_cons] at hn hl
    obtain ⟨xs, c1, g, h1, e⟩ := v_row h (by omega) l1 l3
    have e2 := e [.ow true (bx c), .im (.int letters), .un, .un, .un, .im d] 0 true rfl
    obtain ⟨c', rs, h', hlen, gs, ih⟩ := l_three l1 l3 ds (acc ++ [ti xs]) (n + 4) c1 h1 (by omega) (by rw [List.length_append]; simp; omega)
    refine ⟨c', xs :: rs, h'.mono (by rw [List.length_cons]; omega), by rw [List.length_cons, List.length_cons, hlen], fun z hz => ?_, ?_⟩
    · rcases List.mem_cons.mp hz with rfl | hz
      · exact g
      · exact gs z hz
    · have e1 : nameT 5 d [.ow true (bx c), .im (.int letters), .un, .un, .un, .un] = some [.ow true (bx c), .im (.int letters), .un, .un, .un, .im d] := rfl
      have e3 : bd (frz (e_three [.ow true (bx c), .im (.int letters), .un, .un, .un, .im d])) dat = .ok (ti xs) [.ow true (bx c1), .im (.int letters), .un, .un, .un, .im d] := by
        simp [e_three, clI, isOw, consD, varF, cF, nilD, bd, frz, dat, e2]
      unfold lcL
      rw [e1]
      simp only [yesF, bdn, if_true, e3]
      rw [if_pos ⟨by omega, rfl⟩]
      have w : wipeR [.ow true (bx c1), .im (.int letters), .un, .un, .un, .im d] [5] = [.ow true (bx c1), .im (.int letters), .un, .un, .un, .un] := rfl
      rw [w, ih]
      simp
theorem v_three {n : Nat} {c : Int × Int × Int} (h : Bx n c) (hn : n + 100 < 1000) {letters : Int} (l1 : 1 ≤ letters) (l3 : letters ≤ 3) : ∃ b m y c', Gt 9 b ∧ Gt 9 m ∧ Gt 9 y ∧ Bx (n + 25) c' ∧ ∀ (ρ : Rho) (i : Nat) (p : Bool), ρ[i]? = some (.ow p (bx c)) →
    foI 2 m_law_three i [.int letters] ρ = .ok (.fr [ti b, ti m, ti y]) (ρ.set i (.ow p (bx c'))) := by
  obtain ⟨c1, rs, h1, hlen, gs, e⟩ := l_three l1 l3 (idx 0 6) [] n c h (by simp [idx]; omega) (by rw [sizeLine_eq]; simp [idx])
  have il : (idx 0 6).length = 6 := by simp [idx]
  rw [il] at h1 hlen
  obtain ⟨x0, x1, x2, x3, x4, x5, rfl⟩ : ∃ x0 x1 x2 x3 x4 x5, rs = [x0, x1, x2, x3, x4, x5] := by
    match rs, hlen with
    | [x0, x1, x2, x3, x4, x5], _ => exact ⟨x0, x1, x2, x3, x4, x5, rfl⟩
  have g0 := gs x0 (by simp)
  have g1 := gs x1 (by simp)
  have g2 := gs x2 (by simp)
  have g3 := gs x3 (by simp)
  have g4 := gs x4 (by simp)
  have A : asgS 2 (lcF (rng1I (cF (.int 6))) (nameT 5) yesF e_three [5]) [.ow true (bx c), .im (.int letters), .un, .un, .un, .un] = .nx [.ow true (bx c1), .im (.int letters), .ow false [ti x0, ti x1, ti x2, ti x3, ti x4, ti x5], .un, .un, .un] := by
    have I : rng1I (cF (.int 6)) [.ow true (bx c), .im (.int letters), .un, .un, .un, .un] = .ok (idx 0 6) [.ow true (bx c), .im (.int letters), .un, .un, .un, .un] := rng1_of (n := 6) rfl (by decide)
    unfold asgS lcF
    rw [I, bd_ok, if_pos (show plainAt _ _ = true from rfl)]
    have w : wipeR [.ow true (bx c), .im (.int letters), .un, .un, .un, .un] [5] = [.ow true (bx c), .im (.int letters), .un, .un, .un, .un] := rfl
    rw [w, e, bd_ok]
    rfl
  obtain ⟨d0, d1⟩ := dig_b c1 (show (0 : Int) < 4 by decide)
  have t := @v_take _ c1 h1 (by omega) 4 (by decide) (by decide) [.ow true (bx c1), .im (.int letters), .ow false [ti x0, ti x1, ti x2, ti x3, ti x4, ti x5], .un, .un, .un] 0 true rfl
  have hb := box_ok h1 (show (0 : Int) < 4 by decide)
  have B : asgS 3 (clI 2 m_law_take 0 (consD (cF (.int 4)) nilD)) [.ow true (bx c1), .im (.int letters), .ow false [ti x0, ti x1, ti x2, ti x3, ti x4, ti x5], .un, .un, .un] = .nx [.ow true (bx (box c1 4)), .im (.int letters), .ow false [ti x0, ti x1, ti x2, ti x3, ti x4, ti x5], .im (.int (dig c1 4)), .un, .un] := by
    simp [asgS, clI, isOw, consD, cF, nilD, bd, bs, frz, dat, t, setN, pinned]
  have eq0 : ∀ z k : Int, eqD (.int z) (.int k) = some (.im (.bool (decide (z = k)))) := eqD_int
  have i0 : ∀ z0 z1 z2 z3 z4 z5 : D, ixD (.list [z0, z1, z2, z3, z4, z5]) (.int 0) = some (.im z0) := fun _ _ _ _ _ _ => ixD_l (i := 0) rfl
  have i1 : ∀ z0 z1 z2 z3 z4 z5 : D, ixD (.list [z0, z1, z2, z3, z4, z5]) (.int 1) = some (.im z1) := fun _ _ _ _ _ _ => ixD_l (i := 1) rfl
  have i2 : ∀ z0 z1 z2 z3 z4 z5 : D, ixD (.list [z0, z1, z2, z3, z4, z5]) (.int 2) = some (.im z2) := fun _ _ _ _ _ _ => ixD_l (i := 2) rfl
  have i3 : ∀ z0 z1 z2 z3 z4 z5 : D, ixD (.list [z0, z1, z2, z3, z4, z5]) (.int 3) = some (.im z3) := fun _ _ _ _ _ _ => ixD_l (i := 3) rfl
  have i4 : ∀ z0 z1 z2 z3 z4 z5 : D, ixD (.list [z0, z1, z2, z3, z4, z5]) (.int 4) = some (.im z4) := fun _ _ _ _ _ _ => ixD_l (i := 4) rfl
  have ad : ∀ {n m : Nat} {a b : List Int}, Gt n a → Gt m b → n + m ≤ 9 → addD (ti a) (ti b) = some (.im (ti (a ++ b))) := fun ga gb hh => add_ti (by have := ga.len; have := gb.len; rw [sizeLine_eq]; omega)
  have p012 := ad (g0.app g1) g2 (by decide)
  have p01 := ad g0 g1 (by decide)
  have p03 := ad g0 g3 (by decide)
  have p032 := ad (g0.app g3) g2 (by decide)
  have p014 := ad (g0.app g1) g4 (by decide)
  have p31 := ad g3 g1 (by decide)
  have p312 := ad (g3.app g1) g2 (by decide)
  by_cases f0 : dig c1 4 = 0
  · refine ⟨x0, x1, x2, box c1 4, ⟨by have := g0.len; omega, g0.let_⟩, ⟨by have := g1.len; omega, g1.let_⟩, ⟨by have := g2.len; omega, g2.let_⟩, hb.mono (by omega), fun ρ i p hi => ?_⟩
    refine foI_fr (r := [.im (.int letters), .ow false [ti x0, ti x1, ti x2, ti x3, ti x4, ti x5], .im (.int 0), .un, .un]) ?_ rfl hi
    unfold G_law_three
    show seqS _ _ [.ow true (bx c), .im (.int letters), .un, .un, .un, .un] = _
    rw [seq_nx A, seq_nx B, f0]
    have sl : slD (.list [ti x0, ti x1, ti x2, ti x3, ti x4, ti x5]) none (some 3) = some (.fr [ti x0, ti x1, ti x2]) := by
      have := @cut_to [ti x0, ti x1, ti x2, ti x3, ti x4, ti x5] 3 (by simp)
      unfold slD
      dsimp only
      rw [show (3 : Int) = ((3 : Nat) : Int) from rfl, this]
      rfl
    simp [seqS, iteS, tstF, opF, op2, varF, cF, bd, bs, frz, dr, eq0, fin, blO, retS, slF, noO, parO, intO, slO, sl]
  · have C : iteS (tstF (opF eqD (varF 3) (cF (.int 0)))) (retS (slF (varF 2) noO (parO (cF (.int 3))))) nxS [.ow true (bx (box c1 4)), .im (.int letters), .ow false [ti x0, ti x1, ti x2, ti x3, ti x4, ti x5], .im (.int (dig c1 4)), .un, .un] = .nx [.ow true (bx (box c1 4)), .im (.int letters), .ow false [ti x0, ti x1, ti x2, ti x3, ti x4, ti x5], .im (.int (dig c1 4)), .un, .un] := by
      simp [iteS, tstF, opF, op2, varF, cF, bd, bs, frz, dr, eq0, fin, blO, f0, nxS]
    have D4 : asgS 4 (opF addD (opF addD (opF ixD (varF 2) (cF (.int 0))) (opF ixD (varF 2) (cF (.int 1)))) (opF ixD (varF 2) (cF (.int 2)))) [.ow true (bx (box c1 4)), .im (.int letters), .ow false [ti x0, ti x1, ti x2, ti x3, ti x4, ti x5], .im (.int (dig c1 4)), .un, .un] = .nx [.ow true (bx (box c1 4)), .im (.int letters), .ow false [ti x0, ti x1, ti x2, ti x3, ti x4, ti x5], .im (.int (dig c1 4)), .im (ti (x0 ++ x1 ++ x2)), .un] := by
      simp only [asgS, opF, op2, varF, cF, bd_ok, bs_ok, frz, dr, i0, i1, i2, fin, p01, p012, setN, pinned, List.getElem?_cons_zero, List.getElem?_cons_succ, List.set_cons_zero, List.set_cons_succ, Bool.false_eq_true, if_false]
    by_cases f1 : dig c1 4 = 1
    · refine ⟨x0 ++ x1 ++ x2, x0 ++ x3 ++ x2, x0 ++ x1 ++ x4, box c1 4, (g0.app g1).app g2, (g0.app g3).app g2, (g0.app g1).app g4, hb.mono (by omega), fun ρ i p hi => ?_⟩
      refine foI_fr (r := [.im (.int letters), .ow false [ti x0, ti x1, ti x2, ti x3, ti x4, ti x5], .im (.int 1), .im (ti (x0 ++ x1 ++ x2)), .un]) ?_ rfl hi
      unfold G_law_three
      show seqS _ _ [.ow true (bx c), .im (.int letters), .un, .un, .un, .un] = _
      rw [seq_nx A, seq_nx B, seq_nx C, seq_nx D4, f1]
      simp only [seqS, iteS, tstF, opF, op2, varF, cF, bd_ok, bs_ok, frz, dr, eq0, fin, blO, retS, lstF, consD, nilD, dat, i0, i1, i2, i3, i4, p01, p012, p03, p032, p014, List.getElem?_cons_zero, List.getElem?_cons_succ, eq_self, decide_true, if_true, lstD]
      rw [if_pos (show [ti (x0 ++ x1 ++ x2), ti (x0 ++ x3 ++ x2), ti (x0 ++ x1 ++ x4)].length ≤ sizeLine by rw [sizeLine_eq]; simp)]
      rfl
    · refine ⟨x0 ++ x1 ++ x2, x3 ++ x1 ++ x2, x0 ++ x1 ++ x4, box c1 4, (g0.app g1).app g2, (g3.app g1).app g2, (g0.app g1).app g4, hb.mono (by omega), fun ρ i p hi => ?_⟩
      refine foI_fr (r := [.im (.int letters), .ow false [ti x0, ti x1, ti x2, ti x3, ti x4, ti x5], .im (.int (dig c1 4)), .im (ti (x0 ++ x1 ++ x2)), .un]) ?_ rfl hi
      unfold G_law_three
      show seqS _ _ [.ow true (bx c), .im (.int letters), .un, .un, .un, .un] = _
      rw [seq_nx A, seq_nx B, seq_nx C, seq_nx D4]
      simp only [seqS, iteS, tstF, opF, op2, varF, cF, bd_ok, bs_ok, frz, dr, eq0, fin, blO, retS, lstF, consD, nilD, dat, i0, i1, i2, i3, i4, p01, p012, p31, p312, p014, List.getElem?_cons_zero, List.getElem?_cons_succ, f1, decide_false, Bool.false_eq_true, if_false, nxS, lstD]
      rw [if_pos (show [ti (x0 ++ x1 ++ x2), ti (x3 ++ x1 ++ x2), ti (x0 ++ x1 ++ x4)].length ≤ sizeLine by rw [sizeLine_eq]; simp)]
      rfl
end K06
theorem lcp_take : ∀ a b : List Int, a.take (lcp a b) = b.take (lcp a b)
  | [], b => by simp [lcp]
  | _ :: _, [] => by simp [lcp]
  | x :: xs, y :: ys => by
    unfold lcp
    by_cases h : x = y
    · rw [if_pos h, List.take_succ_cons, List.take_succ_cons, h, lcp_take xs ys]
    · rw [if_neg h]; simp
theorem lcp_max : ∀ (a b : List Int) (i : Nat), i ≤ a.length → a.take i = b.take i → i ≤ lcp a b
  | _, _, 0, _, _ => Nat.zero_le _
  | [], _, i + 1, h, _ => by simp at h
  | _ :: _, [], i + 1, _, e => by simp at e
  | x :: xs, y :: ys, i + 1, h, e => by
    rw [List.take_succ_cons, List.take_succ_cons] at e
    injection e with e1 e2
    have := lcp_max xs ys i (by simpa using h) e2
    unfold lcp
    rw [if_pos e1]
    omega
theorem end_rev (a : List Int) (i : Nat) : a.reverse.take i = (a.drop (a.length - i)).reverse := by rw [List.take_reverse]
theorem lcs_drop (a b : List Int) : a.drop (a.length - lcs a b) = b.drop (b.length - lcs a b) := by
  have := lcp_take a.reverse b.reverse
  rw [end_rev, end_rev] at this
  exact List.reverse_inj.mp this
theorem lcs_max (a b : List Int) (i : Nat) (h : i ≤ a.length) (e : a.drop (a.length - i) = b.drop (b.length - i)) : i ≤ lcs a b := by
  refine lcp_max a.reverse b.reverse i (by simpa using h) ?_
  rw [end_rev, end_rev, e]
theorem sl_to' {xs : List Int} {n : Nat} : slD (ti xs) none (some (n : Int)) = some (.im (ti (xs.take n))) := by
  by_cases h : n ≤ xs.length
  · exact sl_to h
  · unfold slD ti cutD HT.sIx
    dsimp only
    rw [if_neg (by omega), show min (n : Int).toNat (xs.map PyData.int).length = xs.length by rw [List.length_map]; omega]
    rw [List.take_of_length_le (by simp), List.take_of_length_le (by omega)]
    simp
theorem lcL_nat {T : Tg} {C : Rho → Ou Bool} {E : Rho → Ou Rs} {vs : List Nat} {ρ : Rho} {q : Nat → Bool} : ∀ (is : List Nat) (acc : List D), (∀ i ∈ is, ∃ ρ1, T (.int (i : Nat)) ρ = some ρ1 ∧ C ρ1 = .ok (q i) ρ1 ∧ bd (frz (E ρ1)) dat = .ok (.int (i : Nat)) ρ1 ∧ plainAt ρ1 vs = true ∧ wipeR ρ1 vs = ρ) → acc.length + is.length ≤ sizeLine →
    lcL T C E vs (is.map fun (i : Nat) => PyData.int (i : Int)) acc ρ = .ok (acc ++ (is.filter q).map fun (i : Nat) => PyData.int (i : Int)) ρ
  | [], acc, _, _ => by simp [lcL]
  | i :: is, acc, h, hl => by
    obtain ⟨ρ1, e1, e2, e3, e4, e5⟩ := h i List.mem_cons_self
    rw [List.length_cons] at hl
    have ih1 := lcL_nat (T := T) (C := C) (E := E) (vs := vs) (ρ := ρ) (q := q) is (acc ++ [.int (i : Nat)]) (fun c hc => h c (List.mem_cons_of_mem _ hc)) (by rw [List.length_append]; simp; omega)
    have ih2 := lcL_nat (T := T) (C := C) (E := E) (vs := vs) (ρ := ρ) (q := q) is acc (fun c hc => h c (List.mem_cons_of_mem _ hc)) (by omega)
    rw [List.map_cons]
    unfold lcL
    rw [e1]
    simp only [e2, bdn]
    cases hq : q i with
    | true =>
      simp only [if_true, e3]
      rw [if_pos ⟨by omega, e4⟩, e5, ih1, List.filter_cons_of_pos hq]
      simp
    | false =>
      rw [if_neg Bool.false_ne_true, if_pos e4, e5, ih2, List.filter_cons_of_neg (by rw [hq]; exact Bool.false_ne_true)]
theorem ints_nat : ∀ is : List Nat, intsD (is.map fun (i : Nat) => PyData.int (i : Int)) = some (is.map fun (i : Nat) => (i : Int))
  | [] => rfl
  | i :: is => by
    rw [List.map_cons, List.map_cons]
    show (intsD _).map _ = _
    rw [ints_nat is]
    rfl
theorem max_nat {is : List Nat} {m : Nat} (h1 : m ∈ is) (h2 : ∀ i ∈ is, i ≤ m) : maxLD [.list (is.map fun (i : Nat) => PyData.int (i : Int))] = some (.im (.int (m : Nat))) := by
  have e : (is.map fun (i : Nat) => (i : Int)).max? = some (m : Int) := List.max?_eq_some_iff.mpr ⟨List.mem_map.mpr ⟨m, h1, rfl⟩, fun b hb => by
    obtain ⟨i, hi, rfl⟩ := List.mem_map.mp hb
    have := h2 i hi
    omega⟩
  show ((intsD _).bind fun ns => ns.max?.map fun m => Rs.im (.int m)) = _
  rw [ints_nat]
  show (is.map fun (i : Nat) => (i : Int)).max?.map _ = _
  rw [e]
  rfl
namespace K06
abbrev c_tails : Rho → Ou Bool := andF (tstF (opF leD (varF 5) (callF lenD (consF (varF 1) nilF)))) (tstF (opF eqD (slF (varF 0) (parO (opF subD (callF lenD (consF (varF 0) nilF)) (varF 5))) noO) (slF (varF 1) (parO (opF subD (callF lenD (consF (varF 1) nilF)) (varF 5))) noO)))
abbrev c_heads : Rho → Ou Bool := tstF (opF eqD (slF (varF 0) noO (parO (varF 5))) (slF (varF 2) noO (parO (varF 5))))
theorem t_tails (b m : List Int) (Y u v : Sl) (i : Nat) (hi : i ≤ b.length) : c_tails [.im (ti b), .im (ti m), Y, u, v, .im (.int (i : Nat))] = .ok (decide (i ≤ m.length ∧ b.drop (b.length - i) = m.drop (m.length - i))) [.im (ti b), .im (ti m), Y, u, v, .im (.int (i : Nat))] := by
  by_cases h : i ≤ m.length
  · have e1 : ((b.length : Nat) : Int) - (i : Nat) = ((b.length - i : Nat) : Int) := by omega
    have e2 : ((m.length : Nat) : Int) - (i : Nat) = ((m.length - i : Nat) : Int) := by omega
    have s1 := @sl_from b (b.length - i) (by omega)
    have s2 := @sl_from m (m.length - i) (by omega)
    simp only [c_tails, andF, tstF, opF, op2, varF, callF, call1, drs, consF, nilF, bd_ok, frz, dr, fin, lenD_ti, leD, subD, intD, if_true, blO, slF, parO, noO, intO, slO, e1, e2, s1, s2, eqD_ti, List.getElem?_cons_zero, List.getElem?_cons_succ]
    have h' : ((i : Nat) : Int) ≤ ((m.length : Nat) : Int) := by omega
    simp [h, h']
  · have h' : ¬ ((i : Nat) : Int) ≤ ((m.length : Nat) : Int) := by omega
    simp [c_tails, andF, tstF, opF, op2, varF, callF, call1, drs, consF, nilF, bd, frz, dr, fin, lenD_ti, leD, intD, blO, h, h']
theorem t_heads (b y : List Int) (M u v : Sl) (i : Nat) : c_heads [.im (ti b), M, .im (ti y), u, v, .im (.int (i : Nat))] = .ok (decide (b.take i = y.take i)) [.im (ti b), M, .im (ti y), u, v, .im (.int (i : Nat))] := by
  simp [c_heads, tstF, opF, op2, varF, bd, frz, dr, fin, blO, slF, parO, noO, intO, slO, sl_to', eqD_ti]
end K06
def sg (s : Int) (xs : List Int) : Wd := xs.map fun x => (x, s)
theorem push_new {st : Wd} {p : Int × Int} (h : ∀ q r, st = q :: r → ¬ (q.1 = p.1 ∧ q.2 ≠ p.2)) : push st p = p :: st := by
  unfold push
  split
  · rfl
  · rename_i q r
    rw [if_neg (h q r rfl)]
theorem run_same (s : Int) : ∀ (xs : List Int) (st : Wd), (∀ q r x ys, st = q :: r → xs = x :: ys → ¬ (q.1 = x ∧ q.2 ≠ s)) → (sg s xs).foldl push st = (sg s xs).reverse ++ st
  | [], st, _ => rfl
  | x :: xs, st, h => by
    have e : push st (x, s) = (x, s) :: st := push_new fun q r hq => h q r x xs hq rfl
    show ((sg s xs).foldl push (push st (x, s))) = _
    rw [e, run_same s xs ((x, s) :: st) (fun q r y ys hq _ hh => by
      injection hq with h1 _
      subst h1
      exact hh.2 rfl)]
    simp [sg]
theorem run_cancel {s t : Int} (ht : t ≠ s) (st : Wd) : ∀ (B R : List Int), (sg s B).foldl push (sg t R ++ st) = (sg s (B.drop (lcp B R))).foldl push (sg t (R.drop (lcp B R)) ++ st)
  | [], R => by simp [lcp]
  | x :: B, [] => by simp [lcp]
  | x :: B, z :: R => by
    by_cases h : x = z
    · have e : lcp (x :: B) (z :: R) = lcp B R + 1 := by rw [lcp, if_pos h]
      have p : push (sg t (z :: R) ++ st) (x, s) = sg t R ++ st := by
        show (if z = x ∧ t ≠ s then sg t R ++ st else _) = _
        rw [if_pos ⟨h.symm, ht⟩]
      rw [e, List.drop_succ_cons, List.drop_succ_cons]
      show (sg s B).foldl push (push (sg t (z :: R) ++ st) (x, s)) = _
      rw [p]
      exact run_cancel ht st B R
    · have e : lcp (x :: B) (z :: R) = 0 := by rw [lcp, if_neg h]
      rw [e]; rfl
theorem lcp_stop : ∀ (B R : List Int) (x z : Int) (B' R' : List Int), B.drop (lcp B R) = x :: B' → R.drop (lcp B R) = z :: R' → x ≠ z
  | [], _, _, _, _, _, h, _ => by simp at h
  | _ :: _, [], _, _, _, _, _, h => by simp at h
  | a :: B, c :: R, x, z, B', R', h1, h2 => by
    by_cases h : a = c
    · have e : lcp (a :: B) (c :: R) = lcp B R + 1 := by rw [lcp, if_pos h]
      rw [e, List.drop_succ_cons] at h1 h2
      exact lcp_stop B R x z B' R' h1 h2
    · have e : lcp (a :: B) (c :: R) = 0 := by rw [lcp, if_neg h]
      rw [e, List.drop_zero] at h1 h2
      injection h1 with h3 _
      injection h2 with h4 _
      rw [← h3, ← h4]
      exact h
/-- both at once -/
theorem run_both {s t : Int} (ht : t ≠ s) (st : Wd) (B R : List Int) (hs : ∀ q r, st = q :: r → q.2 = s) : (sg s B).foldl push (sg t R ++ st) = (sg s (B.drop (lcp B R))).reverse ++ (sg t (R.drop (lcp B R)) ++ st) := by
  rw [run_cancel ht st B R, run_same]
  intro q r x ys hq hx hh
  cases hR : R.drop (lcp B R) with
  | nil =>
    rw [hR] at hq
    exact hh.2 (hs q r hq)
  | cons z R' =>
    rw [hR] at hq
    injection hq with h1 _
    subst h1
    exact lcp_stop B R x z ys R' hx hR hh.1.symm
theorem lcp_comm : ∀ a b : List Int, lcp a b = lcp b a
  | [], [] => rfl
  | [], _ :: _ => rfl
  | _ :: _, [] => rfl
  | x :: xs, y :: ys => by
    unfold lcp
    rw [lcp_comm xs ys]
    by_cases h : x = y
    · rw [if_pos h, if_pos h.symm]
    · rw [if_neg h, if_neg fun z => h z.symm]
theorem lcp_cut : ∀ (y b : List Int) (n : Nat), n ≤ b.length → lcp y (b.take n) = min (lcp b y) n
  | y, b, 0, _ => by
    cases y <;> simp [lcp]
  | [], b, n + 1, _ => by cases b <;> simp [lcp]
  | y :: ys, [], n + 1, h => by simp at h
  | y :: ys, x :: b, n + 1, h => by
    rw [List.take_succ_cons, lcp, lcp]
    by_cases e : y = x
    · rw [if_pos e, if_pos e.symm, lcp_cut ys b n (by simpa using h)]
      omega
    · rw [if_neg e, if_neg fun z => e z.symm]
      omega
namespace K06
theorem strike_is (m b y : List Int) : strike (pl m ++ mi b ++ pl y) = sg 1 (m.take (m.length - lcs b m)) ++ (sg (-1) ((b.take (least b m)).drop (min (grt b y) (least b m)))).reverse ++ sg 1 (y.drop (min (grt b y) (least b m))) := by
  have hl := lcs_le b m
  have hle : least b m ≤ b.length := by unfold least; omega
  unfold strike
  rw [List.foldl_append, List.foldl_append]
  have e0 : (pl m).foldl push [] = sg 1 m.reverse := by
    have := run_same 1 m [] (fun q r x ys h => nomatch h)
    rw [List.append_nil] at this
    show (sg 1 m).foldl push [] = _
    rw [this]
    simp [sg, List.map_reverse]
  have e1 : (mi b).foldl push (sg 1 m.reverse) = sg (-1) (b.take (least b m)) ++ sg 1 ((m.take (m.length - lcs b m)).reverse) := by
    have := run_both (s := -1) (t := 1) (by decide) [] b.reverse m.reverse (fun q r h => nomatch h)
    rw [List.append_nil, List.append_nil] at this
    show (sg (-1) b.reverse).foldl push (sg 1 m.reverse) = _
    rw [this]
    show (sg (-1) (b.reverse.drop (lcs b m))).reverse ++ sg 1 (m.reverse.drop (lcs b m)) = _
    rw [List.drop_reverse, List.drop_reverse]
    unfold sg least
    rw [List.map_reverse, List.reverse_reverse]
  rw [e0, e1]
  have e2 := run_both (s := 1) (t := -1) (by decide) (sg 1 ((m.take (m.length - lcs b m)).reverse)) y (b.take (least b m)) (fun q r h => by
    have : q ∈ sg 1 ((m.take (m.length - lcs b m)).reverse) := by rw [h]; exact List.mem_cons_self
    obtain ⟨_, _, rfl⟩ := List.mem_map.mp this
    rfl)
  show ((sg 1 y).foldl push _).reverse = _
  rw [e2, lcp_cut y b (least b m) hle]
  rw [List.reverse_append, List.reverse_append, List.reverse_reverse]
  unfold sg
  rw [List.map_reverse, List.reverse_reverse]
  rfl
theorem strike_clash {m b y : List Int} (h : grt b y < least b m) : strike (pl m ++ mi b ++ pl y) = pl (m.take (m.length - lcs b m)) ++ mi ((b.take (least b m)).drop (grt b y)) ++ pl (y.drop (grt b y)) := by
  rw [strike_is, show min (grt b y) (least b m) = grt b y by omega]
  unfold sg pl mi
  rw [List.map_reverse]
theorem strike_go {m b y : List Int} (h : least b m ≤ grt b y) : strike (pl m ++ mi b ++ pl y) = pl (m.take (m.length - lcs b m)) ++ pl (y.drop (least b m)) := by
  rw [strike_is, show min (grt b y) (least b m) = least b m by omega, List.drop_take_self]
  simp [sg, pl]
end K06
/-- small numbers -/
def Sm (i : Int) : Prop := i.natAbs < 10 ^ 12
theorem sm_log {i : Int} (h : Sm i) : i.natAbs.log2 < 40 := log2_le (Nat.lt_trans h (by decide)) (by decide)
theorem w_int {i : Int} (h : Sm i) : (PyData.int i).weight ≤ 40 := by
  have := sm_log h
  simp only [PyData.weight]
  split <;> omega
theorem short_all {w : Wd} (h : ∀ p ∈ w, Sm p.1 ∧ Sm p.2) : PyData.leavesShortAll 13 (w.map pr) = true ∧ PyData.showableAll (w.map pr) = true ∧ PyData.hasDictAll (w.map pr) = false ∧ PyData.depthAll (w.map pr) ≤ 1 ∧ PyData.weightAll (w.map pr) ≤ 100 * w.length := by
  induction w with
  | nil => simp [PyData.leavesShortAll, PyData.showableAll, PyData.hasDictAll, PyData.depthAll, PyData.weightAll]
  | cons p w ih =>
    obtain ⟨h1, h2⟩ := h p List.mem_cons_self
    obtain ⟨i1, i2, i3, i4, i5⟩ := ih fun q hq => h q (List.mem_cons_of_mem _ hq)
    have z1 := PyData.shown_int_le h1
    have z2 := PyData.shown_int_le h2
    have g1 : p.1.natAbs.log2 < 1920 := Nat.lt_trans (sm_log h1) (by decide)
    have g2 : p.2.natAbs.log2 < 1920 := Nat.lt_trans (sm_log h2) (by decide)
    have w1 := w_int h1
    have w2 := w_int h2
    refine ⟨?_, ?_, ?_, ?_, ?_⟩
    · simp [PyData.leavesShortAll, PyData.leavesShort, pr, i1, z1, z2]
    · simp [PyData.showableAll, PyData.showable, pr, i2, g1, g2]
    · simp [PyData.hasDictAll, PyData.hasDict, pr, i3]
    · simp [PyData.depthAll, PyData.depth, pr]; omega
    · rw [List.map_cons, PyData.weightAll, List.length_cons]
      have e : (pr p).weight = PyData.weightAll [.int p.1, .int p.2] := PyData.weight.eq_3 _
      rw [e]
      simp only [PyData.weightAll]
      omega
theorem shw_wt {w : Wd} (h : ∀ p ∈ w, Sm p.1 ∧ Sm p.2) (hl : w.length ≤ 1000) : ∃ x, shw (wt w) = some x := by
  obtain ⟨i1, i2, i3, i4, i5⟩ := short_all h
  refine ⟨(wt w).shown, ?_⟩
  have f : (wt w).shown.length ≤ sizeLine := PyData.shown_fits (B := 13) (by decide) (by decide) (by simpa [wt, PyData.leavesShort] using i1) (by rw [wt, PyData.weight]; omega)
  show (if (wt w).showable = true ∧ (wt w).hasDict = false ∧ (wt w).depth ≤ 64 ∧ (wt w).shown.length ≤ sizeLine then some (wt w).shown else none) = _
  rw [if_pos ⟨by simpa [wt, PyData.showable] using i2, by simpa [wt, PyData.hasDict] using i3, by rw [wt, PyData.depth]; omega, f⟩]
theorem shw_two {i j : Int} (h1 : Sm i) (h2 : Sm j) : ∃ x, shw (.tuple [.int i, .int j]) = some x := by
  have z1 := PyData.shown_int_le h1
  have z2 := PyData.shown_int_le h2
  have g1 : i.natAbs.log2 < 1920 := Nat.lt_trans (sm_log h1) (by decide)
  have g2 : j.natAbs.log2 < 1920 := Nat.lt_trans (sm_log h2) (by decide)
  have w1 := w_int h1
  have w2 := w_int h2
  refine ⟨(PyData.tuple [.int i, .int j]).shown, ?_⟩
  have f : (PyData.tuple [.int i, .int j]).shown.length ≤ sizeLine := PyData.shown_fits (B := 13) (by decide) (by decide) (by simp [PyData.leavesShort, PyData.leavesShortAll, z1, z2]) (by rw [PyData.weight.eq_3]; simp only [PyData.weightAll]; omega)
  show (if (PyData.tuple [.int i, .int j]).showable = true ∧ (PyData.tuple [.int i, .int j]).hasDict = false ∧ (PyData.tuple [.int i, .int j]).depth ≤ 64 ∧ (PyData.tuple [.int i, .int j]).shown.length ≤ sizeLine then some (PyData.tuple [.int i, .int j]).shown else none) = _
  rw [if_pos ⟨by simp [PyData.showable, PyData.showableAll, g1, g2], by simp [PyData.hasDict, PyData.hasDictAll], by simp [PyData.depth, PyData.depthAll], f⟩]
theorem reprD_of {d : D} {x : Str} (h : shw d = some x) : reprD [d] = some (.im (.str x)) := by
  unfold reprD
  dsimp only
  rw [h]
  rfl
theorem neSD_same (x : Str) : neSD (.str x) (.str x) = some (.im (.bool false)) := by simp [neSD]
namespace K06
theorem shw_cl {b m y : List Int} (hb : b.length < 1000) : ∃ x, shw (cl b m y) = some x := by
  have := grt_le b y
  unfold cl
  split
  · exact ⟨_, rfl⟩
  · refine shw_two ?_ ?_
    · show (grt b y : Nat) < 10 ^ 12
      omega
    · show (least b m : Nat) < 10 ^ 12
      unfold least
      omega
/-- a value that is no text -/
def noT (d : D) : Prop := textOf d = .none
end K06
def np (y : Sl) : Bool := match y with
  | .ow true _ => true
  | _ => false
theorem pin_0 (y : Sl) (l : Rho) : pinned (y :: l) 0 = np y := by
  unfold pinned np
  rw [List.getElem?_cons_zero]
  cases y with
  | ow b ds => cases b <;> rfl
  | _ => rfl
theorem pin_s (y : Sl) (l : Rho) (i : Nat) : pinned (y :: l) (i + 1) = pinned l i := by
  unfold pinned
  rw [List.getElem?_cons_succ]
theorem np_im (d : D) : np (.im d) = false := rfl
theorem np_un : np .un = false := rfl
theorem np_ow (d : List D) : np (.ow false d) = false := rfl
abbrev Ch := List Int × List Int
def chD (c : Ch) : D := .tuple [ti c.1, ti c.2]
namespace K06
theorem ix_row {d a b : D} (h : isSeq d = some [a, b]) : ixD d (.int 0) = some (.im a) ∧ ixD d (.int 1) = some (.im b) := by
  cases d with
  | list ds => cases Option.some.inj h; exact ⟨rfl, rfl⟩
  | tuple ds => cases Option.some.inj h; exact ⟨rfl, rfl⟩
  | _ => cases h
theorem apD_ok {xs : List D} {d : D} (h : xs.length < sizeLine) : apD xs [d] = some (.none, xs ++ [d]) := by
  unfold apD
  dsimp only
  rw [if_pos h]
theorem isNon_ti (xs : List Int) : isNon (ti xs) = false := rfl
theorem isNon_none : isNon .none = true := rfl
theorem textOf_cases (d : D) : textOf d = .none ∨ ∃ ds, textOf d = .tuple ds := by
  unfold textOf
  split
  · split
    · exact .inr ⟨_, rfl⟩
    · exact .inl rfl
  · exact .inl rfl
theorem nc_head {d : D} {ds : List D} (h : isSeq d = some ds) : iteS (notF (tstF (clF 1 m_is_sequence (consD (varF 0) nilD)))) (rseS 0 (consD (unF negD (cF (.int 1))) nilD)) nxS [.im d, .un, .un, .un, .un, .un] = .nx [.im d, .un, .un, .un, .un, .un] := by
  simp [retS, seqS, asgS, clF, clI, clKF, isOw, consD, consF, callF, call1, drs, opF, op2, unF, op1, varF, cF, nilD, nilF, bd, bs, frz, dr, fin, dat, setN, pin_0, pin_s, np_im, np_un, np_ow, iteS, tstF, blO, nxS, dropS, mutF, mutO, thaw, tupF, lstF, tupD, lstD, andF, orF, notF, andV, orV, notV, ifF, tgS, tupU, consT, nameT, nilT, parS, slF, noO, parO, intO, slO, isnD, unS, out, retV, negD, subD, intD, unF, op1, truF, truO, tru, ltD, gtD, leD, geD, v_is_sequence, h]
theorem nc_enum {d : D} {ds : List D} (h : isSeq d = some ds) : enumUI (varF 0) [.im d, .ow false [], .un, .un, .un, .un] = .ok (numD 0 ds) [.im d, .ow false [], .un, .un, .un, .un] := by
  cases d with
  | list es => cases Option.some.inj h; simp [enumUI, varF, bd, frz, dat, enumUO]
  | tuple es => cases Option.some.inj h; simp [enumUI, varF, bd, frz, dat, enumUO]
  | _ => cases h
theorem nc_A (X : Sl) : asgS 1 (lstF nilD) [X, .un, .un, .un, .un, .un] = .nx [X, .ow false [], .un, .un, .un, .un] := by simp [retS, seqS, asgS, clF, clI, clKF, isOw, consD, consF, callF, call1, drs, opF, op2, unF, op1, varF, cF, nilD, nilF, bd, bs, frz, dr, fin, dat, setN, pin_0, pin_s, np_im, np_un, np_ow, iteS, tstF, blO, nxS, dropS, mutF, mutO, thaw, tupF, lstF, tupD, lstD, andF, orF, notF, andV, orV, notV, ifF, tgS, tupU, consT, nameT, nilT, parS, slF, noO, parO, intO, slO, isnD, unS, out, retV, negD, subD, intD, unF, op1, truF, truO, tru, ltD, gtD, leD, geD]
/-! ### changes put in front, one after another -/
theorem lcp_pre : ∀ (o x : List Int) (k : Nat), k ≤ o.length → (k ≤ lcp o x ↔ o.take k <+: x)
  | _, _, 0, _ => by simp
  | [], _, k + 1, h => by simp at h
  | a :: o, [], k + 1, h => by simp [lcp]
  | a :: o, b :: x, k + 1, h => by
    have ih := lcp_pre o x k (by simpa using h)
    rw [List.take_succ_cons, List.cons_prefix_cons, lcp]
    by_cases e : a = b
    · rw [if_pos e]
      constructor
      · intro h1; exact ⟨e, ih.mp (by omega)⟩
      · intro h1; have := ih.mpr h1.2; omega
    · rw [if_neg e]
      constructor
      · intro h1; omega
      · intro h1; exact absurd h1.1 e
def cutE (c : Ch) : Ch := (c.1.take (c.1.length - lcs c.1 c.2), c.2.take (c.2.length - lcs c.1 c.2))
def rcStep (s c : Ch) : Option Ch := if lcp s.2 (cutE c).1 < s.2.length ∧ lcp s.2 (cutE c).1 < (cutE c).1.length then none else
  some (s.1 ++ (cutE c).1.drop (lcp s.2 (cutE c).1), (cutE c).2 ++ s.2.drop (lcp s.2 (cutE c).1))
def rc : Nat → Ch → List Ch → Nat ⊕ Ch
  | _, s, [] => .inr s
  | i, s, c :: cs => match rcStep s c with
    | none => .inl i
    | some t => rc (i + 1) t cs
def put1 (c : Ch) (x : List Int) : Option (List Int) := if (cutE c).1 <+: x then some ((cutE c).2 ++ x.drop (cutE c).1.length) else none
def putN (cs : List Ch) (t : Option (List Int)) : Option (List Int) := cs.foldl (fun t c => t.bind (put1 c)) t
def Sx (s : Ch) (x : List Int) : Option (List Int) := if s.1 <+: x then some (s.2 ++ x.drop s.1.length) else none
theorem Sx_nil (x : List Int) : Sx ([], []) x = some x := by simp [Sx]
theorem Sx_app (l h u : List Int) : Sx (l, h) (l ++ u) = some (h ++ u) := by simp [Sx]
theorem Sx_no {s : Ch} {x : List Int} (h : ¬ s.1 <+: x) : Sx s x = none := if_neg h
theorem lcp_full {a b : List Int} (h : b <+: a) : lcp a b = b.length := by
  have l := lcp_le a b
  obtain ⟨r, rfl⟩ := h
  have := (lcp_pre (b ++ r) b b.length (by simp)).mpr (by simp)
  omega
theorem lcp_sym : ∀ a b : List Int, lcp a b = lcp b a
  | [], [] => rfl
  | [], _ :: _ => rfl
  | _ :: _, [] => rfl
  | x :: xs, y :: ys => by
    unfold lcp
    rw [lcp_sym xs ys]
    by_cases h : x = y
    · rw [if_pos h, if_pos h.symm]
    · rw [if_neg h, if_neg fun z => h z.symm]
theorem pre_of_lcp {a b : List Int} (h : lcp a b = b.length) : b <+: a := by
  have := (lcp_pre b a b.length (Nat.le_refl _)).mp (by rw [lcp_sym]; omega)
  rwa [List.take_length] at this
theorem step_some {s c t : Ch} (h : rcStep s c = some t) (x : List Int) : (Sx s x).bind (put1 c) = Sx t x := by
  obtain ⟨l, e⟩ := s
  unfold rcStep at h
  split at h
  · cases h
  · rename_i hc
    cases Option.some.inj h
    have hl := lcp_le e (cutE c).1
    dsimp only at hc hl ⊢
    by_cases hx : l <+: x
    · obtain ⟨u, rfl⟩ := hx
      rw [Sx_app]
      show put1 c (e ++ u) = _
      by_cases hk : lcp e (cutE c).1 = (cutE c).1.length
      · obtain ⟨r, hr⟩ := pre_of_lcp hk
        rw [hk, List.drop_length, List.append_nil]
        unfold put1
        rw [Sx_app, ← hr]
        rw [if_pos (by rw [List.append_assoc]; exact List.prefix_append _ _)]
        simp
      · have hk2 : lcp e (cutE c).1 = e.length := by omega
        obtain ⟨r, hr⟩ := pre_of_lcp (a := (cutE c).1) (b := e) (by rw [lcp_sym]; exact hk2)
        rw [hk2, List.drop_length, List.append_nil]
        unfold put1 Sx
        rw [← hr]
        have i1 : e ++ r <+: e ++ u ↔ r <+: u := List.prefix_append_right_inj e
        have i2 : l ++ r <+: l ++ u ↔ r <+: u := List.prefix_append_right_inj l
        by_cases hr2 : r <+: u
        · obtain ⟨v, rfl⟩ := hr2
          rw [if_pos (i1.mpr (List.prefix_append _ _))]
          dsimp only
          rw [List.drop_left, if_pos (i2.mpr (List.prefix_append _ _))]
          rw [show e ++ (r ++ v) = (e ++ r) ++ v by simp, List.drop_left, show l ++ (r ++ v) = (l ++ r) ++ v by simp, List.drop_left]
        · rw [if_neg fun z => hr2 (i1.mp z)]
          dsimp only
          rw [List.drop_left, if_neg fun z => hr2 (i2.mp z)]
    · rw [Sx_no hx, Sx_no (s := (l ++ _, _)) fun z => hx (List.IsPrefix.trans (List.prefix_append _ _) z)]
      rfl
theorem step_none {s c : Ch} (h : rcStep s c = none) (x : List Int) : (Sx s x).bind (put1 c) = none := by
  obtain ⟨l, e⟩ := s
  unfold rcStep at h
  split at h
  · rename_i hc
    dsimp only at hc
    by_cases hx : l <+: x
    · obtain ⟨u, rfl⟩ := hx
      rw [Sx_app]
      show put1 c (e ++ u) = _
      unfold put1
      rw [if_neg]
      intro z
      by_cases hl : (cutE c).1.length ≤ e.length
      · have p := List.prefix_of_prefix_length_le z (List.prefix_append e u) hl
        have := lcp_full p
        omega
      · have p := List.prefix_of_prefix_length_le (List.prefix_append e u) z (by omega)
        have := lcp_full p
        rw [lcp_sym] at this
        omega
    · rw [Sx_no hx]
      rfl
  · cases h
theorem rc_change : ∀ (cs : List Ch) (i : Nat) (s t : Ch), rc i s cs = .inr t → ∀ x, putN cs (Sx s x) = Sx t x
  | [], i, s, t, h, x => by cases h; rfl
  | c :: cs, i, s, t, h, x => by
    unfold rc at h
    split at h
    · cases h
    · rename_i s' e
      have := rc_change cs (i + 1) s' t h x
      show putN cs ((Sx s x).bind (put1 c)) = _
      rw [step_some e, this]
theorem putN_none : ∀ cs : List Ch, putN cs none = none
  | [] => rfl
  | c :: cs => putN_none cs
theorem rc_never : ∀ (cs : List Ch) (i : Nat) (s : Ch) (k : Nat), rc i s cs = .inl k → i ≤ k ∧ k - i < cs.length ∧ (∀ x, putN (cs.take (k - i + 1)) (Sx s x) = none) ∧ ∃ t, rc i s (cs.take (k - i)) = .inr t
  | [], i, s, k, h => by cases h
  | c :: cs, i, s, k, h => by
    unfold rc at h
    split at h
    · rename_i e
      cases h
      refine ⟨Nat.le_refl _, by simp, fun x => ?_, ⟨s, by simp [rc]⟩⟩
      rw [Nat.sub_self]
      show (Sx s x).bind (put1 c) = none
      exact step_none e x
    · rename_i s' e
      obtain ⟨h1, h2, h3, t, h4⟩ := rc_never cs (i + 1) s' k h
      have ek : k - i = (k - (i + 1)) + 1 := by omega
      refine ⟨by omega, by rw [List.length_cons]; omega, fun x => ?_, t, ?_⟩
      · rw [ek, List.take_succ_cons]
        show putN _ ((Sx s x).bind (put1 c)) = none
        rw [step_some e]
        exact h3 x
      · rw [ek, List.take_succ_cons]
        unfold rc
        rw [e]
        exact h4
/-- lengths -/
def Cl (n : Nat) (c : Ch) : Prop := c.1.length ≤ n ∧ c.2.length ≤ n
theorem cutE_len {n : Nat} {c : Ch} (h : Cl n c) : Cl n (cutE c) := by
  obtain ⟨h1, h2⟩ := h
  constructor
  · show (c.1.take _).length ≤ n
    rw [List.length_take]; omega
  · show (c.2.take _).length ≤ n
    rw [List.length_take]; omega
theorem step_len {n m : Nat} {s c t : Ch} (hs : Cl m s) (hc : Cl n c) (h : rcStep s c = some t) : Cl (m + n) t := by
  obtain ⟨h1, h2⟩ := hs
  obtain ⟨h3, h4⟩ := cutE_len hc
  unfold rcStep at h
  split at h
  · cases h
  · cases Option.some.inj h
    constructor
    · show (s.1 ++ (cutE c).1.drop _).length ≤ _
      rw [List.length_append, List.length_drop]; omega
    · show ((cutE c).2 ++ s.2.drop _).length ≤ _
      rw [List.length_append, List.length_drop]; omega
theorem rc_len {n : Nat} : ∀ (cs : List Ch) (i m : Nat) (s t : Ch), (∀ c ∈ cs, Cl n c) → Cl m s → rc i s cs = .inr t → Cl (m + n * cs.length) t
  | [], i, m, s, t, _, h, e => by cases e; exact h
  | c :: cs, i, m, s, t, hc, h, e => by
    unfold rc at e
    split at e
    · cases e
    · rename_i s' e'
      have := rc_len cs (i + 1) (m + n) s' t (fun d hd => hc d (List.mem_cons_of_mem _ hd)) (step_len h (hc c List.mem_cons_self) e') e
      rw [List.length_cons, Nat.mul_succ]
      exact ⟨Nat.le_trans this.1 (by omega), Nat.le_trans this.2 (by omega)⟩
theorem put1_len {n : Nat} {c : Ch} {x y : List Int} (hc : Cl n c) (h : put1 c x = some y) : y.length ≤ x.length + n := by
  have h2 := (cutE_len hc).2
  unfold put1 at h
  split at h
  · cases Option.some.inj h
    rw [List.length_append, List.length_drop]; omega
  · cases h
/-- the least cut as it is told -/
theorem lcs_snoc (a b : List Int) (x y : Int) : lcs (a ++ [x]) (b ++ [y]) = if x = y then lcs a b + 1 else 0 := by
  simp [lcs, lcp]
theorem cutE_snoc (a b : List Int) (x : Int) : cutE (a ++ [x], b ++ [x]) = cutE (a, b) := by
  unfold cutE
  dsimp only
  rw [lcs_snoc, if_pos rfl]
  have l := lcs_le a b
  simp only [List.length_append, List.length_singleton, Nat.add_sub_add_right]
  rw [List.take_append_of_le_length (by omega), List.take_append_of_le_length (by omega)]
theorem cutE_id {a b : List Int} (h : lcs a b = 0) : cutE (a, b) = (a, b) := by
  unfold cutE
  dsimp only
  rw [h]
  simp
theorem lcs_nil_l (b : List Int) : lcs [] b = 0 := by simp [lcs, lcp]
theorem lcs_nil_r (b : List Int) : lcs b [] = 0 := by cases h : b.reverse <;> simp [lcs, lcp, h]
/-- as both sides look at it -/
theorem lcp_size {o e : List Int} : (o.take (min o.length e.length) ≠ e.take (min o.length e.length)) ↔ (lcp e o < e.length ∧ lcp e o < o.length) := by
  have l := lcp_le e o
  constructor
  · intro h
    constructor
    · apply Classical.byContradiction
      intro h1
      have h2 : lcp o e = e.length := by rw [lcp_sym]; omega
      obtain ⟨r, rfl⟩ := pre_of_lcp (a := o) (b := e) h2
      apply h
      simp
    · apply Classical.byContradiction
      intro h1
      have h2 : lcp e o = o.length := by omega
      obtain ⟨r, rfl⟩ := pre_of_lcp (a := e) (b := o) h2
      apply h
      simp
  · intro h h2
    have := (lcp_pre e o (min o.length e.length) (by omega)).mpr (by rw [← h2]; exact List.take_prefix _ _)
    omega
theorem lcp_min {o e : List Int} (h : ¬ (lcp e o < e.length ∧ lcp e o < o.length)) : lcp e o = min o.length e.length := by
  have l := lcp_le e o
  omega
theorem neD_ti (x y : List Int) : neD (ti x) (ti y) = some (.im (.bool (!decide (x = y)))) := (neD_dt (α := Tup Int) (by decide) ⟨x⟩ ⟨y⟩).trans (by simp)
theorem neD_nil (x : List Int) : neD (ti x) (.tuple []) = some (.im (.bool (!decide (x = [])))) := neD_ti x []
theorem ixD_lastT (a : List Int) (x : Int) : ixD (ti (a ++ [x])) (.int (-1)) = some (.im (.int x)) := by
  unfold ixD ti; dsimp only; rw [List.map_append]; show (atI (_ ++ [_]) _).map _ = _; rw [atI_last]; rfl
theorem slD_drop (a : List Int) (x : Int) : slD (ti (a ++ [x])) none (some (-1)) = some (.im (ti a)) := by
  unfold slD ti cutD HT.sIx
  dsimp only
  rw [if_pos (by omega)]
  have e : (-1 + ((a.length : Int) + 1)).toNat = (a.map PyData.int).length := by rw [List.length_map]; omega
  simp
  rw [e, List.take_left]
/-! ### the row of changes -/
def rcD : Nat ⊕ Ch → D
  | .inl k => .tuple [.str "never", .int (k : Int)]
  | .inr t => .tuple [.str "change", ti t.1, ti t.2]
theorem eqD_tie (x y : List Int) : eqD (ti x) (ti y) = some (.im (.bool (decide (x = y)))) := eqD_ti x y
theorem ite_t {C : Rho → Ou Bool} {F G : Rho → So} {ρ ρ' : Rho} (h : C ρ = .ok true ρ') : iteS C F G ρ = F ρ' := by unfold iteS; rw [h]; rfl
theorem ite_f {C : Rho → Ou Bool} {F G : Rho → So} {ρ ρ' : Rho} (h : C ρ = .ok false ρ') : iteS C F G ρ = G ρ' := by unfold iteS; rw [h]; rfl
theorem nil_or_snoc (l : List Int) : l = [] ∨ ∃ a x, l = a ++ [x] := by
  rcases List.eq_nil_or_concat l with h | ⟨a, x, h⟩
  · exact .inl h
  · exact .inr ⟨a, x, by rw [h, List.concat_eq_append]⟩
theorem comp_part {A : Sl} {w : Wd} {E : Rho → Ou Rs} {g : Int × Int → Int} (hl : w.length ≤ 2000) (hE : ∀ p : Int × Int, bd (frz (E [A, .im (wt w), .im (.int p.1), .im (.int p.2)])) dat = .ok (.int (g p)) [A, .im (wt w), .im (.int p.1), .im (.int p.2)]) :
    lcF (seqI (varF 1)) (tupU 2 (consT (nameT 2) (consT (nameT 3) nilT))) yesF E [2, 3] [A, .im (wt w), .un, .un] = .ok (.fr ((w.map g).map .int)) [A, .im (wt w), .un, .un] := by
  have L := lcL_map (T := tupU 2 (consT (nameT 2) (consT (nameT 3) nilT))) (E := E) (vs := [2, 3]) (ρ := [A, .im (wt w), .un, .un]) (f := fun d => match d with | .tuple [.int a, .int b] => .int (g (a, b)) | d => d) (w.map pr) [] (fun d hd => by
    obtain ⟨p, hp, rfl⟩ := List.mem_map.mp hd
    refine ⟨[A, .im (wt w), .im (.int p.1), .im (.int p.2)], [A, .im (wt w), .im (.int p.1), .im (.int p.2)], ?_, hE p, rfl, rfl⟩
    simp [tupU, pr, consT, nameT, nilT, pin_0, pin_s, np_un, np_im]) (by rw [sizeLine_eq]; simp; omega)
  have I : seqI (varF 1) [A, .im (wt w), .un, .un] = .ok (w.map pr) [A, .im (wt w), .un, .un] := by simp [seqI, varF, bd, frz, dat, wt, itD]
  unfold lcF
  rw [I, bd_ok, if_pos (show plainAt _ _ = true from rfl)]
  have ww : wipeR [A, .im (wt w), .un, .un] [2, 3] = [A, .im (wt w), .un, .un] := rfl
  rw [ww, L, bd_ok]
  have u : unwipe [A, .im (wt w), .un, .un] [A, .im (wt w), .un, .un] [2, 3] = [A, .im (wt w), .un, .un] := rfl
  rw [u, List.map_map, List.map_map]
  rfl
theorem in_ints (k : Int) (is : List Int) : inDl false (.int k) (.list (is.map .int)) = some (.im (.bool (decide (k ∈ is)))) := by
  have s1 : SeqAt.shaped (.int k) = true := shaped_dt (α := Int) (by decide) k
  have s2 : SeqAt.shaped (.list (is.map .int)) = true := shaped_dt (α := List Int) (by decide) is
  unfold inDl
  dsimp only
  rw [if_pos ⟨s1, s2⟩]
  unfold inO
  rw [if_neg Bool.false_ne_true]
  have e : (is.map PyData.int).any (fun z => PyData.eqv z (.int k)) = decide (k ∈ is) := by
    have q : ∀ i : Int, PyData.eqv (.int i) (.int k) = decide (i = k) := fun i => Datum.eqv i k
    rw [Bool.eq_iff_iff, List.any_eq_true, decide_eq_true_iff]
    constructor
    · rintro ⟨z, hz, h⟩
      obtain ⟨i, hi, rfl⟩ := List.mem_map.mp hz
      rw [q, decide_eq_true_iff] at h
      rw [← h]; exact hi
    · intro h
      exact ⟨.int k, List.mem_map.mpr ⟨k, h, rfl⟩, by rw [q]; simp⟩
  rw [e]
/-- a text, or None -/
def oD : Option (List Int) → D
  | none => .none
  | some x => ti x
theorem put1_is (a b c : List Int) : put1 (b, a) c = if lcp b c < least b a then none else some (a.take (a.length - lcs b a) ++ c.drop (least b a)) := by
  have h := lcs_le b a
  have hl : least b a ≤ b.length := by unfold least; omega
  have hp := lcp_pre b c (least b a) hl
  unfold put1
  have e : (cutE (b, a)).1 = b.take (least b a) := rfl
  rw [e]
  have e2 : (cutE (b, a)).2 = a.take (a.length - lcs b a) := rfl
  rw [e2, List.length_take, show min (least b a) b.length = least b a by omega]
  by_cases hh : least b a ≤ lcp b c
  · rw [if_pos (hp.mp hh), if_neg (by omega)]
  · rw [if_neg fun z => hh (hp.mpr z), if_pos (by omega)]
theorem v_law_text (a b c : List Int) (h : a.length + b.length + c.length ≤ 2000) (ρ : Rho) : foE 1 m_law_text [.list [ti a, ti b, ti c]] ρ = .ok (.im (oD (put1 (b, a) c))) ρ := by
  refine foE_of (n := 1) (k := 3) (G := G_law_text) (ds := [.list [ti a, ti b, ti c]]) ?_ rfl ρ
  unfold G_law_text
  have hw : (strike (pl a ++ mi b ++ pl c)).length ≤ 2000 := by
    have := run_len (pl a ++ mi b ++ pl c) []
    unfold strike
    rw [List.length_reverse]
    simp [pl, mi] at this ⊢
    omega
  have V := v_law_word a b c (by rw [sizeLine_eq]; omega)
  have key : (∃ xs, put1 (b, a) c = some xs ∧ strike (pl a ++ mi b ++ pl c) = pl xs) ∨ (put1 (b, a) c = none ∧ (-1 : Int) ∈ (strike (pl a ++ mi b ++ pl c)).map Prod.snd) := by
    rw [put1_is]
    by_cases hc : lcp b c < least b a
    · right
      rw [if_pos hc]
      refine ⟨rfl, ?_⟩
      rw [strike_clash hc]
      have hl : least b a ≤ b.length := by unfold least; omega
      have : ((b.take (least b a)).drop (grt b c)) ≠ [] := by
        intro z
        have := congrArg List.length z
        rw [List.length_drop, List.length_take] at this
        have : grt b c = lcp b c := rfl
        simp at *
        omega
      obtain ⟨y, ys, hy⟩ := List.exists_cons_of_ne_nil this
      rw [hy]
      simp [mi]
    · left
      rw [if_neg hc]
      refine ⟨_, rfl, ?_⟩
      rw [strike_go (by show least b a ≤ lcp b c; omega)]
      simp [pl]
  generalize strike (pl a ++ mi b ++ pl c) = w at *
  have A : asgS 1 (clF 1 m_law_word (consD (varF 0) nilD)) [.im (.list [ti a, ti b, ti c]), .un, .un, .un] = .nx [.im (.list [ti a, ti b, ti c]), .im (wt w), .un, .un] := by
    simp [retS, seqS, asgS, clF, clI, clKF, isOw, consD, consF, callF, call1, drs, opF, op2, unF, op1, varF, cF, nilD, nilF, bd, bs, frz, dr, fin, dat, setN, pin_0, pin_s, np_im, np_un, np_ow, iteS, tstF, blO, nxS, dropS, mutF, mutO, thaw, tupF, lstF, tupD, lstD, andF, orF, notF, andV, orV, notV, ifF, tgS, tupU, consT, nameT, nilT, parS, slF, noO, parO, intO, slO, isnD, unS, out, retV, negD, subD, intD, unF, op1, truF, truO, tru, ltD, gtD, leD, geD, V]
  show out (seqS _ _ [.im (.list [ti a, ti b, ti c]), .un, .un, .un]) = _
  rw [seq_nx A]
  have C1 := @comp_part (.im (.list [ti a, ti b, ti c])) w (varF 3) Prod.snd hw (fun p => by simp [varF, bd, frz, dat])
  have C2 := @comp_part (.im (.list [ti a, ti b, ti c])) w (varF 2) Prod.fst hw (fun p => by simp [varF, bd, frz, dat])
  have N := in_ints (-1) (w.map Prod.snd)
  rcases key with ⟨xs, e1, rfl⟩ | ⟨e1, e2⟩
  · have e3 : decide ((-1 : Int) ∈ (pl xs).map Prod.snd) = false := by simp [pl]
    rw [e3] at N
    have e4 : (pl xs).map Prod.fst = xs := by
      unfold pl
      rw [List.map_map]
      exact (List.map_congr_left (fun _ _ => rfl)).trans (List.map_id xs)
    rw [e4] at C2
    rw [e1]
    simp only [retS, ifF, tstF, opF, op2, unF, op1, negD, cF, bd_ok, frz, dr, fin, C1, N, blO, C2, bs_ok, tupleD, out, retV, Bool.false_eq_true, if_false, oD]
    rfl
  · rw [decide_eq_true e2] at N
    rw [e1]
    simp only [retS, ifF, tstF, opF, op2, unF, op1, negD, cF, bd_ok, frz, dr, fin, C1, N, blO, C2, bs_ok, tupleD, out, retV, if_true, oD]
end K06
/-! ### data whose repr is told -/
structure Rp (k W : Nat) (d : D) : Prop where
  ls : d.leavesShort 13 = true
  sw : d.showable = true
  hd : d.hasDict = false
  dp : d.depth ≤ k
  wg : d.weight ≤ W
theorem canStr (x : Str) (h : PyData.strOk x = true) : PyData.canLay0 (.str x) = true := by simp [PyData.canLay0, h]
theorem eqD_str {x y : Str} (hx : PyData.strOk x = true) (hy : PyData.strOk y = true) : eqD (.str x) (.str y) = some (.im (.bool (decide (x = y)))) := by
  unfold eqD
  rw [if_pos ⟨by unfold SeqAt.shaped; rw [canStr x hx]; simp [PyData.depth], by unfold SeqAt.shaped; rw [canStr y hy]; simp [PyData.depth]⟩]
  have this : PyData.eqv (.str x) (.str y) = decide (x = y) := Datum.eqv x y
  rw [this]
theorem neD_str {x y : Str} (hx : PyData.strOk x = true) (hy : PyData.strOk y = true) : neD (.str x) (.str y) = some (.im (.bool (!decide (x = y)))) := by
  unfold neD
  rw [if_pos ⟨by unfold SeqAt.shaped; rw [canStr x hx]; simp [PyData.depth], by unfold SeqAt.shaped; rw [canStr y hy]; simp [PyData.depth]⟩]
  have this : PyData.eqv (.str x) (.str y) = decide (x = y) := Datum.eqv x y
  rw [this]
theorem Lt.take {xs : List Int} (h : Lt xs) (n : Nat) : Lt (xs.take n) := fun x hx => h x (List.mem_of_mem_take hx)
theorem Lt.drop {xs : List Int} (h : Lt xs) (n : Nat) : Lt (xs.drop n) := fun x hx => h x (List.mem_of_mem_drop hx)
theorem Lt.app {xs ys : List Int} (h : Lt xs) (k : Lt ys) : Lt (xs ++ ys) := fun x hx => (List.mem_append.mp hx).elim (h x) (k x)
theorem Lt.sm {xs : List Int} (h : Lt xs) : ∀ x ∈ xs, Sm x := fun x hx => by
  have := h x hx
  show x.natAbs < 10 ^ 12
  omega
theorem Rp.mono {k l V W : Nat} {d : D} (h : Rp k V d) (h1 : k ≤ l) (h2 : V ≤ W) : Rp l W d := ⟨h.ls, h.sw, h.hd, Nat.le_trans h.dp h1, Nat.le_trans h.wg h2⟩
theorem wg_tuple (ds : List D) : (PyData.tuple ds).weight = PyData.weightAll ds := PyData.weight.eq_3 _
theorem wg_list (ds : List D) : (PyData.list ds).weight = PyData.weightAll ds := PyData.weight.eq_2 _
theorem seq_no {C : Rho → Ou Bool} {F G : Rho → So} {ρ ρ' : Rho} (h : C ρ = .ok false ρ') : seqS (iteS C F nxS) G ρ = G ρ' := by
  unfold seqS iteS
  rw [h]
  rfl
namespace K06
theorem rp_all {k W : Nat} : ∀ {ds : List D}, (∀ d ∈ ds, Rp k W d) → PyData.leavesShortAll 13 ds = true ∧ PyData.showableAll ds = true ∧ PyData.hasDictAll ds = false ∧ PyData.depthAll ds ≤ k ∧ PyData.weightAll ds ≤ (W + 1) * ds.length
  | [], _ => by simp [PyData.leavesShortAll, PyData.showableAll, PyData.hasDictAll, PyData.depthAll, PyData.weightAll]
  | x :: xs, h => by
    obtain ⟨a, b, c, d, e⟩ := h x List.mem_cons_self
    obtain ⟨i1, i2, i3, i4, i5⟩ := rp_all fun y hy => h y (List.mem_cons_of_mem _ hy)
    refine ⟨by simp [PyData.leavesShortAll, a, i1], by simp [PyData.showableAll, b, i2], by simp [PyData.hasDictAll, c, i3], by simp [PyData.depthAll]; omega, ?_⟩
    rw [PyData.weightAll, List.length_cons, Nat.mul_succ]
    omega
theorem rp_tup {k W : Nat} {ds : List D} (h : ∀ d ∈ ds, Rp k W d) : Rp (k + 1) ((W + 1) * ds.length) (.tuple ds) := by
  obtain ⟨i1, i2, i3, i4, i5⟩ := rp_all h
  exact ⟨by simpa [PyData.leavesShort] using i1, by simpa [PyData.showable] using i2, by simpa [PyData.hasDict] using i3, by rw [PyData.depth]; omega, by first | rw [wg_tuple]; exact i5 | rw [wg_list]; exact i5⟩
theorem rp_lst {k W : Nat} {ds : List D} (h : ∀ d ∈ ds, Rp k W d) : Rp (k + 1) ((W + 1) * ds.length) (.list ds) := by
  obtain ⟨i1, i2, i3, i4, i5⟩ := rp_all h
  exact ⟨by simpa [PyData.leavesShort] using i1, by simpa [PyData.showable] using i2, by simpa [PyData.hasDict] using i3, by rw [PyData.depth]; omega, by first | rw [wg_tuple]; exact i5 | rw [wg_list]; exact i5⟩
theorem rp_int {i : Int} (h : Sm i) : Rp 0 40 (.int i) :=
  ⟨by simp [PyData.leavesShort, PyData.shown_int_le h], by simp [PyData.showable, Nat.lt_trans (sm_log h) (by decide : 40 < 1920)], by simp [PyData.hasDict], by simp [PyData.depth], w_int h⟩
theorem rp_non : Rp 0 0 .none := ⟨by simp [PyData.leavesShort], by simp [PyData.showable], by simp [PyData.hasDict], by simp [PyData.depth], Nat.le_of_eq (by first | exact PyData.weight.eq_6 | exact PyData.weight.eq_5 | rfl)⟩
theorem rp_bool (b : Bool) : Rp 0 0 (.bool b) := ⟨by simp [PyData.leavesShort], by simp [PyData.showable], by simp [PyData.hasDict], by simp [PyData.depth], Nat.le_of_eq (by first | exact PyData.weight.eq_7 _ | exact PyData.weight.eq_6 _ | rfl)⟩
theorem rp_ti {xs : List Int} (h : ∀ x ∈ xs, Sm x) : Rp 1 (41 * xs.length) (ti xs) := by
  have := rp_tup (k := 0) (W := 40) (ds := xs.map .int) fun d hd => by
    obtain ⟨i, hi, rfl⟩ := List.mem_map.mp hd
    exact rp_int (h i hi)
  rw [List.length_map] at this
  exact this
theorem shw_tup {k W : Nat} {ds : List D} (h : Rp k W (.tuple ds)) (hk : k ≤ 64) (hW : W ≤ 2 ^ 20) : ∃ x, shw (.tuple ds) = some x := by
  have f : (PyData.tuple ds).shown.length ≤ sizeLine := PyData.shown_fits (B := 13) (by decide) (by decide) h.ls (Nat.le_trans h.wg hW)
  refine ⟨(PyData.tuple ds).shown, ?_⟩
  show (if (PyData.tuple ds).showable = true ∧ (PyData.tuple ds).hasDict = false ∧ (PyData.tuple ds).depth ≤ 64 ∧ (PyData.tuple ds).shown.length ≤ sizeLine then some (PyData.tuple ds).shown else none) = _
  rw [if_pos ⟨h.sw, h.hd, Nat.le_trans h.dp hk, f⟩]
theorem rp_str (x : Str) (h : x.cps.toList.all (fun c => decide (c < 16 ^ 8)) = true) : Rp 0 x.cps.size (.str x) :=
  ⟨by simpa [PyData.leavesShort] using h, by simp [PyData.showable], by simp [PyData.hasDict], by simp [PyData.depth], Nat.le_of_eq (by first | exact PyData.weight.eq_1 _ | rfl)⟩
theorem rcD_rp {r : Nat ⊕ Ch} (h : match r with | .inl k => k < 1000 | .inr t => Lt t.1 ∧ Lt t.2 ∧ t.1.length ≤ 1000 ∧ t.2.length ≤ 1000) : ∃ x, reprD [rcD r] = some (.im (.str x)) := by
  cases r with
  | inl k =>
    have h : k < 1000 := h
    have h1 : Rp 0 40 (.str "never") := (rp_str "never" (by decide)).mono (by decide) (by decide)
    have h2 : Rp 0 40 (.int (k : Int)) := rp_int (by show ((k : Int)).natAbs < 10 ^ 12; omega)
    have := rp_tup (k := 0) (W := 40) (ds := [.str "never", .int (k : Int)]) (by simp [h1, h2])
    obtain ⟨x, hx⟩ := shw_tup this (by decide) (by simp)
    exact ⟨x, reprD_of hx⟩
  | inr t =>
    obtain ⟨l1, l2, n1, n2⟩ := h
    have h1 : Rp 1 41000 (.str "change") := (rp_str "change" (by decide)).mono (by decide) (by decide)
    have h2 : Rp 1 41000 (ti t.1) := (rp_ti l1.sm).mono (by decide) (by omega)
    have h3 : Rp 1 41000 (ti t.2) := (rp_ti l2.sm).mono (by decide) (by omega)
    have := rp_tup (k := 1) (W := 41000) (ds := [.str "change", ti t.1, ti t.2]) (by simp [h1, h2, h3])
    obtain ⟨x, hx⟩ := shw_tup this (by decide) (by simp)
    exact ⟨x, reprD_of hx⟩
theorem oD_rp {t : Option (List Int)} (h : ∀ x, t = some x → (∀ i ∈ x, Sm i) ∧ x.length ≤ 10000) : ∃ x, reprD [oD t] = some (.im (.str x)) := by
  cases t with
  | none => exact ⟨_, rfl⟩
  | some x =>
    obtain ⟨h1, h2⟩ := h x rfl
    obtain ⟨y, hy⟩ := shw_tup (rp_ti h1) (by decide) (by omega)
    exact ⟨y, reprD_of hy⟩
/-! ### letters -/
def Lc (c : Ch) : Prop := Lt c.1 ∧ Lt c.2
theorem cutE_lc {c : Ch} (h : Lc c) : Lc (cutE c) := ⟨h.1.take _, h.2.take _⟩
theorem step_lc {s c t : Ch} (hs : Lc s) (hc : Lc c) (h : rcStep s c = some t) : Lc t := by
  have hq := cutE_lc hc
  unfold rcStep at h
  split at h
  · cases h
  · cases Option.some.inj h
    exact ⟨hs.1.app (hq.1.drop _), hq.2.app (hs.2.drop _)⟩
theorem rc_lc : ∀ (cs : List Ch) (i : Nat) (s t : Ch), (∀ c ∈ cs, Lc c) → Lc s → rc i s cs = .inr t → Lc t
  | [], i, s, t, _, h, e => by cases e; exact h
  | c :: cs, i, s, t, hc, h, e => by
    unfold rc at e
    split at e
    · cases e
    · rename_i s' e'
      exact rc_lc cs (i + 1) s' t (fun d hd => hc d (List.mem_cons_of_mem _ hd)) (step_lc h (hc c List.mem_cons_self) e') e
theorem lcL_no {T : Tg} {C : Rho → Ou Bool} {E : Rho → Ou Rs} {vs : List Nat} {ρ : Rho} : ∀ (ds acc : List D), (∀ d ∈ ds, ∃ ρ1 ρ2, T d ρ = some ρ1 ∧ C ρ1 = .ok false ρ2 ∧ plainAt ρ2 vs = true ∧ wipeR ρ2 vs = ρ) → lcL T C E vs ds acc ρ = .ok acc ρ
  | [], acc, _ => rfl
  | d :: ds, acc, h => by
    obtain ⟨ρ1, ρ2, e1, e2, e3, e4⟩ := h d List.mem_cons_self
    unfold lcL
    rw [e1]
    simp only [e2, bdn, Bool.false_eq_true, if_false]
    rw [if_pos e3, e4]
    exact lcL_no ds acc fun c hc => h c (List.mem_cons_of_mem _ hc)
structure Go (cs : List Ch) : Prop where
  lc : ∀ c ∈ cs, Lc c
  cl : ∀ c ∈ cs, Cl 30 c
  n : cs.length ≤ 10
theorem Go.take {cs : List Ch} (h : Go cs) (k : Nat) : Go (cs.take k) := ⟨fun c hc => h.lc c (List.mem_of_mem_take hc), fun c hc => h.cl c (List.mem_of_mem_take hc), by have := h.n; rw [List.length_take]; omega⟩
theorem eqS_nn : eqD (.str "never") (.str "never") = some (.im (.bool true)) := (eqD_str (by decide +kernel) (by decide +kernel)).trans (by rw [decide_eq_true rfl])
theorem eqS_cn : eqD (.str "change") (.str "never") = some (.im (.bool false)) := (eqD_str (by decide +kernel) (by decide +kernel)).trans (by rw [decide_eq_false (by decide +kernel)])
theorem eqS_cc : eqD (.str "change") (.str "change") = some (.im (.bool true)) := (eqD_str (by decide +kernel) (by decide +kernel)).trans (by rw [decide_eq_true rfl])
theorem neS_cc : neD (.str "change") (.str "change") = some (.im (.bool false)) := (neD_str (by decide +kernel) (by decide +kernel)).trans (by rw [decide_eq_true rfl]; rfl)
theorem sl_but (t : List Int) : ∃ y : List Int, slD (ti t) none (some ((t.length : Int) - 1)) = some (.im (ti y)) ∧ y.length ≤ t.length ∧ (Lt t → Lt y) := by
  rcases nil_or_snoc t with rfl | ⟨a, x, rfl⟩
  · exact ⟨[], rfl, Nat.le_refl _, id⟩
  · refine ⟨a, ?_, by simp, fun h => ?_⟩
    · have e : (((a ++ [x]).length : Nat) : Int) - 1 = (a.length : Nat) := by simp
      rw [e, sl_to (by simp)]
      simp
    · intro z hz
      exact h z (List.mem_append_left _ hz)
def nexts (xs : List (List Int)) : List (List Int) := xs.flatMap fun t => [t ++ [3], t ++ [47]]
/-- a list that is the slot's, or data -/
def Ls (y : Sl) (ds : List D) : Prop := y = .ow false ds ∨ y = .im (.list ds)
theorem Ls.np {y : Sl} {ds : List D} (h : Ls y ds) : np y = false := by rcases h with rfl | rfl <;> rfl
theorem nexts_len (xs : List (List Int)) : (nexts xs).length = 2 * xs.length := by
  induction xs with
  | nil => rfl
  | cons x xs ih =>
    have : nexts (x :: xs) = [x ++ [3], x ++ [47]] ++ nexts xs := by simp [nexts]
    rw [this, List.length_append, ih]
    simp
    omega
theorem nexts_in {xs : List (List Int)} {n : Nat} (h : ∀ x ∈ xs, x.length ≤ n ∧ Lt x) : ∀ x ∈ nexts xs, x.length ≤ n + 1 ∧ Lt x := by
  intro x hx
  obtain ⟨t, ht, h1⟩ := List.mem_flatMap.mp hx
  obtain ⟨h2, h3⟩ := h t ht
  simp only [List.mem_cons, List.not_mem_nil, or_false] at h1
  rcases h1 with rfl | rfl
  · exact ⟨by simp; omega, h3.app fun z hz => by simp at hz; omega⟩
  · exact ⟨by simp; omega, h3.app fun z hz => by simp at hz; omega⟩
/-! ### rows of any length -/
theorem v_rowN {n : Nat} {c : Int × Int × Int} (h : Bx n c) (hn : n + 20 < 1000) {letters : Int} (l1 : 1 ≤ letters) (l3 : letters ≤ 3) (k : Nat) (hk : k ≤ 10) : ∃ xs c', Gt k xs ∧ Bx (n + k + 1) c' ∧ ∀ (ρ : Rho) (i : Nat) (b : Bool), ρ[i]? = some (.ow b (bx c)) →
    foI 3 m_law_row i [.int letters, .int (k : Int)] ρ = .ok (.im (ti xs)) (ρ.set i (.ow b (bx c'))) := by
  obtain ⟨d0, d1⟩ := dig_b c (show (0 : Int) < (k : Int) + 1 by omega)
  obtain ⟨j, hj⟩ : ∃ j : Nat, dig c ((k : Int) + 1) = (j : Int) := ⟨_, (Int.toNat_of_nonneg d0).symm⟩
  have il : (idx 0 j).length = j := by simp [idx]
  obtain ⟨c', xs, h', g, e⟩ := l_row l1 l3 (.im (.int (k : Int))) (idx 0 j) [] (n + 1) (box c ((k : Int) + 1)) (box_ok h (by omega)) (by rw [il]; omega) (by rw [il, sizeLine_eq]; simp; omega)
  rw [il] at g h'
  refine ⟨xs, c', ⟨by have := g.len; omega, g.let_⟩, h'.mono (by omega), fun ρ i b hi => ?_⟩
  refine foI_of (r := [.im (.int letters), .im (.int (k : Int)), .un]) ?_ rfl hi
  have t := @v_take n c h (by omega) ((k : Int) + 1) (by omega) (by omega) [.ow true (bx c), .im (.int letters), .im (.int (k : Int)), .un] 0 true rfl
  rw [hj] at t
  have A : rng1I (clI 2 m_law_take 0 (consD (opF addD (varF 2) (cF (.int 1))) nilD)) [.ow true (bx c), .im (.int letters), .im (.int (k : Int)), .un] = .ok (idx 0 j) [.ow true (bx (box c ((k : Int) + 1))), .im (.int letters), .im (.int (k : Int)), .un] := by
    refine rng1_of ?_ (by omega)
    simp [clI, isOw, consD, opF, op2, varF, cF, nilD, bd, frz, dr, addD, fin, dat, t]
  show retS (unF tupleD (lcF _ _ yesF e_row [3])) [.ow true (bx c), .im (.int letters), .im (.int (k : Int)), .un] = _
  have B : lcF (rng1I (clI 2 m_law_take 0 (consD (opF addD (varF 2) (cF (.int 1))) nilD))) (nameT 3) yesF e_row [3] [.ow true (bx c), .im (.int letters), .im (.int (k : Int)), .un] = .ok (.fr (xs.map .int)) [.ow true (bx c'), .im (.int letters), .im (.int (k : Int)), .un] := by
    unfold lcF
    rw [A, bd_ok, if_pos (show plainAt _ _ = true from rfl)]
    have w : wipeR [.ow true (bx (box c ((k : Int) + 1))), .im (.int letters), .im (.int (k : Int)), .un] [3] = [.ow true (bx (box c ((k : Int) + 1))), .im (.int letters), .im (.int (k : Int)), .un] := rfl
    rw [w, e, bd_ok]
    rfl
  unfold retS unF
  rw [B]
  rfl
/-! ### merges by cuts -/
def M (b m y : List Int) : Option (List Int) := put1 (b, m) y
def Cut (b m y c : List Int) : Prop := ∃ u v p q, b = u ++ v ∧ m = p ++ v ∧ y = u ++ q ∧ c = p ++ q
theorem M_cut {b m y c : List Int} (h : M b m y = some c) : Cut b m y c := by
  unfold M at h
  rw [put1_is] at h
  have hl := lcs_le b m
  have hle : least b m ≤ b.length := by unfold least; omega
  split at h
  · cases h
  · rename_i hc
    cases Option.some.inj h
    refine ⟨b.take (least b m), b.drop (least b m), m.take (m.length - lcs b m), y.drop (least b m), (List.take_append_drop _ _).symm, ?_, ?_, rfl⟩
    · have := lcs_drop b m
      show m = m.take (m.length - lcs b m) ++ b.drop (b.length - lcs b m)
      rw [this, List.take_append_drop]
    · have hp := (lcp_pre b y (least b m) hle).mp (by omega)
      obtain ⟨r, hr⟩ := hp
      have e : (b.take (least b m)).length = least b m := by rw [List.length_take]; omega
      have : y.drop (least b m) = r := by rw [← hr, ← e]; simp
      rw [this]
      exact hr.symm
theorem cut_M {b m y c : List Int} (h : Cut b m y c) : M b m y = some c := by
  obtain ⟨u, v, p, q, rfl, rfl, rfl, rfl⟩ := h
  have h1 : v.length ≤ lcs (u ++ v) (p ++ v) := lcs_max (u ++ v) (p ++ v) v.length (by simp) (by simp)
  have h2 : u.length ≤ lcp (u ++ v) (u ++ q) := (lcp_pre (u ++ v) (u ++ q) u.length (by simp)).mpr (by simp)
  have hl := lcs_le (u ++ v) (p ++ v)
  have hd := lcs_drop (u ++ v) (p ++ v)
  unfold M
  rw [put1_is, if_neg (by unfold least; simp only [List.length_append]; omega)]
  unfold least
  obtain ⟨k, hk⟩ : ∃ k, lcs (u ++ v) (p ++ v) = v.length + k := ⟨_, (Nat.add_sub_cancel' h1).symm⟩
  rw [hk] at hd hl ⊢
  simp only [List.length_append] at hd hl ⊢
  have e1 : u.length + v.length - (v.length + k) = u.length - k := by omega
  have e2 : p.length + v.length - (v.length + k) = p.length - k := by omega
  rw [e1, e2] at hd ⊢
  rw [List.drop_append_of_le_length (by omega), List.drop_append_of_le_length (by omega)] at hd
  have hd2 := List.append_cancel_right hd
  rw [List.take_append_of_le_length (by omega), List.drop_append_of_le_length (by omega), hd2, ← List.append_assoc, List.take_append_drop]
/-- the other corners -/
theorem corner1 {c y m b : List Int} (h : M c y m = some b) : M b m y = some c := by
  obtain ⟨u, v, p, q, rfl, rfl, rfl, rfl⟩ := M_cut h
  exact cut_M ⟨p, q, u, v, rfl, rfl, rfl, rfl⟩
theorem corner2 {y c b m : List Int} (h : M y c b = some m) : M b m y = some c := by
  obtain ⟨u, v, p, q, rfl, rfl, rfl, rfl⟩ := M_cut h
  exact cut_M ⟨u, q, p, v, rfl, rfl, rfl, rfl⟩
theorem corner3 {m b c y : List Int} (h : M m b c = some y) : M b m y = some c := by
  obtain ⟨u, v, p, q, rfl, rfl, rfl, rfl⟩ := M_cut h
  exact cut_M ⟨p, v, u, q, rfl, rfl, rfl, rfl⟩
theorem back1 {b m y c : List Int} (h : M b m y = some c) : M c y m = some b := by
  obtain ⟨u, v, p, q, rfl, rfl, rfl, rfl⟩ := M_cut h
  exact cut_M ⟨p, q, u, v, rfl, rfl, rfl, rfl⟩
theorem back2 {b m y c : List Int} (h : M b m y = some c) : M y c b = some m := by
  obtain ⟨u, v, p, q, rfl, rfl, rfl, rfl⟩ := M_cut h
  exact cut_M ⟨u, q, p, v, rfl, rfl, rfl, rfl⟩
theorem back3 {b m y c : List Int} (h : M b m y = some c) : M m b c = some y := by
  obtain ⟨u, v, p, q, rfl, rfl, rfl, rfl⟩ := M_cut h
  exact cut_M ⟨p, v, u, q, rfl, rfl, rfl, rfl⟩
/-! ### words that are struck to one and the same -/
def inv (w : Wd) : Wd := (w.map fun p => (p.1, -p.2)).reverse
def Red : Wd → Prop
  | p :: q :: r => ¬ (q.1 = p.1 ∧ q.2 ≠ p.2) ∧ Red (q :: r)
  | _ => True
theorem Red.tail {p : Int × Int} {r : Wd} (h : Red (p :: r)) : Red r := by
  cases r with
  | nil => exact True.intro
  | cons q r => exact h.2
theorem push_red {st : Wd} {p : Int × Int} (h : Red st) : Red (push st p) := by
  cases st with
  | nil => exact True.intro
  | cons q r =>
    unfold push
    dsimp only
    split
    · exact h.tail
    · rename_i hc; exact ⟨hc, h⟩
theorem push_inv {st : Wd} {p : Int × Int} (h : Red st) (g : Sgn st) (hp : p.2 = 1 ∨ p.2 = -1) : push (push st p) (p.1, -p.2) = st := by
  cases st with
  | nil =>
    show (if p.1 = p.1 ∧ p.2 ≠ -p.2 then ([] : Wd) else _) = _
    rw [if_pos ⟨rfl, by omega⟩]
  | cons q r =>
    have hq := g q List.mem_cons_self
    by_cases hc : q.1 = p.1 ∧ q.2 ≠ p.2
    · have e : push (q :: r) p = r := if_pos hc
      have eq : q = (p.1, -p.2) := by
        obtain ⟨q1, q2⟩ := q
        obtain ⟨h1, h2⟩ := hc
        dsimp only at h1 h2 hq
        rw [h1, show q2 = -p.2 by omega]
      rw [e, ← eq]
      cases r with
      | nil => rfl
      | cons t r => exact if_neg h.1
    · have e : push (q :: r) p = p :: q :: r := if_neg hc
      rw [e]
      exact if_pos ⟨rfl, by show p.2 ≠ -p.2; omega⟩
theorem run_red : ∀ (w st : Wd), Red st → Red (w.foldl push st)
  | [], _, h => h
  | _ :: w, _, h => run_red w _ (push_red h)
theorem run_inv : ∀ (w st : Wd), Red st → Sgn st → Sgn w → (w ++ inv w).foldl push st = st
  | [], st, _, _, _ => rfl
  | p :: w, st, h, g, gw => by
    have hp := gw p List.mem_cons_self
    have e : (p :: w) ++ inv (p :: w) = p :: ((w ++ inv w) ++ [(p.1, -p.2)]) := by simp [inv]
    rw [e, List.foldl_cons, List.foldl_append, run_inv w (push st p) (push_red h) (push_sgn g hp) (fun q hq => gw q (List.mem_cons_of_mem _ hq))]
    exact push_inv h g hp
def Eqv (x y : Wd) : Prop := ∀ st, Red st → Sgn st → x.foldl push st = y.foldl push st
theorem Eqv.refl (x : Wd) : Eqv x x := fun _ _ _ => rfl
theorem Eqv.trans {x y z : Wd} (h : Eqv x y) (k : Eqv y z) : Eqv x z := fun st a b => (h st a b).trans (k st a b)
theorem Eqv.mid {x y : Wd} (h : Eqv x y) (u v : Wd) (gu : Sgn u) : Eqv (u ++ x ++ v) (u ++ y ++ v) := fun st a b => by
  rw [List.foldl_append, List.foldl_append, List.foldl_append, List.foldl_append, h _ (run_red u st a) (run_sgn u st b gu)]
theorem eqv_inv {w : Wd} (g : Sgn w) : Eqv (w ++ inv w) [] := fun st a b => run_inv w st a b g
theorem inv_pl (x : List Int) : inv (pl x) = mi x := by simp [inv, pl, mi, List.map_reverse]
theorem inv_mi (x : List Int) : inv (mi x) = pl x := by simp [inv, pl, mi, List.map_reverse]
theorem pl_app (x y : List Int) : pl (x ++ y) = pl x ++ pl y := by simp [pl]
theorem mi_app (x y : List Int) : mi (x ++ y) = mi y ++ mi x := by simp [mi]
theorem c_pm (x : List Int) : Eqv (pl x ++ mi x) [] := by rw [← inv_pl]; exact eqv_inv (pl_sgn x)
theorem c_mp (x : List Int) : Eqv (mi x ++ pl x) [] := by
  have := eqv_inv (mi_sgn x)
  rw [inv_mi] at this
  exact this
theorem Sgn.app {x y : Wd} (h : Sgn x) (k : Sgn y) : Sgn (x ++ y) := fun p hp => (List.mem_append.mp hp).elim (h p) (k p)
theorem cut_plus {b m y c : List Int} (h : Cut b m y c) : Eqv (pl m ++ mi b ++ pl y) (pl c) := by
  obtain ⟨u, v, p, q, rfl, rfl, rfl, rfl⟩ := h
  rw [pl_app, mi_app, pl_app, pl_app]
  have e1 := (c_pm v).mid (pl p) (mi u ++ pl u ++ pl q) (pl_sgn p)
  have e2 := (c_mp u).mid (pl p) (pl q) (pl_sgn p)
  simp only [List.append_assoc, List.append_nil, List.nil_append] at e1 e2 ⊢
  exact e1.trans e2
theorem cut_minus {c d b i : List Int} (h : Cut c d b i) : Eqv (mi b ++ pl c ++ mi d) (mi i) := by
  obtain ⟨u, v, p, q, rfl, rfl, rfl, rfl⟩ := h
  rw [mi_app, pl_app, mi_app, mi_app]
  have e1 := (c_mp u).mid (mi q) (pl v ++ mi v ++ mi p) (mi_sgn q)
  have e2 := (c_pm v).mid (mi q) (mi p) (mi_sgn q)
  simp only [List.append_assoc, List.append_nil, List.nil_append] at e1 e2 ⊢
  exact e1.trans e2
/-- the text that a struck word is -/
def txtO (w : Wd) : Option (List Int) := if (-1 : Int) ∈ w.map Prod.snd then none else some (w.map Prod.fst)
theorem strike_eqv {x y : Wd} (h : Eqv x y) : strike x = strike y := by
  unfold strike
  rw [h [] True.intro (fun _ z => nomatch z)]
theorem key3 (a b c : List Int) : (∃ xs, put1 (b, a) c = some xs ∧ strike (pl a ++ mi b ++ pl c) = pl xs) ∨ (put1 (b, a) c = none ∧ (-1 : Int) ∈ (strike (pl a ++ mi b ++ pl c)).map Prod.snd) := by
  rw [put1_is]
  by_cases hc : lcp b c < least b a
  · right
    rw [if_pos hc]
    refine ⟨rfl, ?_⟩
    rw [strike_clash hc]
    have hl : least b a ≤ b.length := by unfold least; omega
    have : ((b.take (least b a)).drop (grt b c)) ≠ [] := by
      intro z
      have := congrArg List.length z
      rw [List.length_drop, List.length_take] at this
      have : grt b c = lcp b c := rfl
      simp at *
      omega
    obtain ⟨y, ys, hy⟩ := List.exists_cons_of_ne_nil this
    rw [hy]
    simp [mi]
  · left
    rw [if_neg hc]
    refine ⟨_, rfl, ?_⟩
    rw [strike_go (by show least b a ≤ lcp b c; omega)]
    simp [pl]
theorem pl_fst (xs : List Int) : (pl xs).map Prod.fst = xs := by
  unfold pl
  rw [List.map_map]
  exact (List.map_congr_left (fun _ _ => rfl)).trans (List.map_id xs)
theorem txt_pl (xs : List Int) : txtO (pl xs) = some xs := by
  unfold txtO
  rw [if_neg (by simp [pl]), pl_fst]
theorem txt_M (b m y : List Int) : txtO (strike (pl m ++ mi b ++ pl y)) = M b m y := by
  rcases key3 m b y with ⟨xs, e1, e2⟩ | ⟨e1, e2⟩
  · rw [e2, txt_pl]; exact e1.symm
  · unfold txtO
    rw [if_pos e2]
    exact e1.symm
def five (a b c d e : List Int) : Wd := pl a ++ mi b ++ pl c ++ mi d ++ pl e
theorem way1 {a b c d e i : List Int} (h : M b a c = some i) : txtO (strike (five a b c d e)) = M d i e := by
  rw [← txt_M, strike_eqv]
  have := (cut_plus (M_cut h)).mid [] (mi d ++ pl e) (fun _ z => nomatch z)
  simp only [five, List.nil_append, List.append_assoc] at this ⊢
  exact this
theorem way2 {a b c d e i : List Int} (h : M d c e = some i) : txtO (strike (five a b c d e)) = M b a i := by
  rw [← txt_M, strike_eqv]
  have := (cut_plus (M_cut h)).mid (pl a ++ mi b) [] (Sgn.app (pl_sgn a) (mi_sgn b))
  simp only [five, List.append_nil, List.append_assoc] at this ⊢
  exact this
theorem way3 {a b c d e i : List Int} (h : M c d b = some i) : txtO (strike (five a b c d e)) = M i a e := by
  rw [← txt_M, strike_eqv]
  have := (cut_minus (M_cut h)).mid (pl a) (pl e) (pl_sgn a)
  simp only [five, List.append_assoc] at this ⊢
  exact this
theorem mg_M (b m y : List Int) : mg b m y = oD (M b m y) := by
  unfold mg M
  rw [put1_is]
  have e : grt b y = lcp b y := rfl
  rw [e]
  split <;> rfl
/-- three texts, each at most n long -/
structure Tx3 (n : Nat) (a : List Int) : Prop where
  l : Lt a
  n : a.length ≤ n
theorem M_ok {n k : Nat} {b m y c : List Int} (hm : Tx3 n m) (hy : Tx3 k y) (h : M b m y = some c) : Tx3 (n + k) c := by
  obtain ⟨u, v, p, q, rfl, rfl, rfl, rfl⟩ := M_cut h
  have h1 := hm.n
  have h2 := hy.n
  simp only [List.length_append] at h1 h2
  refine ⟨fun x hx => ?_, by simp only [List.length_append]; omega⟩
  rcases List.mem_append.mp hx with h | h
  · exact hm.l x (List.mem_append_left _ h)
  · exact hy.l x (List.mem_append_right _ h)
theorem v_mt {d e f : D} {b m y : List Int} (h1 : isT d b) (h2 : isT e m) (h3 : isT f y) (hb : b.length ≤ 1000) (hm : m.length ≤ 1000) (hy : y.length ≤ 1000) (ρ : Rho) : foE 3 m_merge_texts [d, e, f] ρ = .ok (.im (oD (M b m y))) ρ := by
  rw [← mg_M]
  exact v_merge_texts h1 h2 h3 (by omega) (by rw [sizeLine_eq]; omega) ρ
theorem v_mgd {b m y : List Int} (hb : b.length ≤ 1000) (hm : m.length ≤ 1000) (hy : y.length ≤ 1000) (ρ : Rho) : foE 3 m_merged [ti b, ti m, ti y] ρ = .ok (.im (oD (M b m y))) ρ := by
  rw [← mg_M]
  exact v_merged b m y (by omega) (by rw [sizeLine_eq]; omega) ρ
/-! ### what is refused -/
theorem s_ex {d e f : D} {k : Int} (h : ∀ ρ, foE 3 m_need_three_texts [d, e, f] ρ = .ex 0 (.int k) ρ) : s_three [.im d, .im e, .im f] = .ex 0 (.int k) [.im d, .im e, .im f] := by
  simp [s_three, tgS, clF, consD, varF, nilD, bd, bs, frz, dat, h]
/-! ### the law's texts of five -/
theorem t_lo5 (X : Sl) (k : Nat) (hk : k < 5) (st : Wd) (g : Sgn st) (xs : List Int) (h : st.length + xs.length ≤ sizeLine) (u y : Sl) (hu : Fr u) (hy : Fr y) :
    ∃ u' y', Fr u' ∧ Fr y' ∧ b_lo [X, .ow false (st.reverse.map pr), .im (.int (k : Int)), .im (ti xs), u, y] = .nx [X, .ow false (((turn k xs).foldl push st).reverse.map pr), .im (.int (k : Int)), .im (ti xs), u', y'] := by
  have m0 : asgS 4 (opF subD (cF (.int 1)) (opF mulD (cF (.int 2)) (opF modD (varF 2) (cF (.int 2))))) [X, .ow false (st.reverse.map pr), .im (.int (k : Int)), .im (ti xs), u, y] =
      .nx [X, .ow false (st.reverse.map pr), .im (.int (k : Int)), .im (ti xs), .im (.int (if k % 2 = 1 then -1 else 1)), y] := by
    match k, hk with
    | 0, _ => rcases hu with rfl | ⟨d, rfl⟩ <;> rfl
    | 1, _ => rcases hu with rfl | ⟨d, rfl⟩ <;> rfl
    | 2, _ => rcases hu with rfl | ⟨d, rfl⟩ <;> rfl
    | 3, _ => rcases hu with rfl | ⟨d, rfl⟩ <;> rfl
    | 4, _ => rcases hu with rfl | ⟨d, rfl⟩ <;> rfl
  have S : ∀ (s : Int) (zs : List Int), (s = 1 ∧ zs = xs) ∨ (s = -1 ∧ zs = xs.reverse) → seqI (stpF (varF 3) (parO (varF 4))) [X, .ow false (st.reverse.map pr), .im (.int (k : Int)), .im (ti xs), .im (.int s), y] = .ok (zs.map .int) [X, .ow false (st.reverse.map pr), .im (.int (k : Int)), .im (ti xs), .im (.int s), y] := by
    rintro s zs (⟨rfl, rfl⟩ | ⟨rfl, rfl⟩) <;> simp [seqI, stpF, varF, parO, bd, frz, intO, stpO, dr, stpD, ti, fin, dat, itD]
  unfold b_lo
  rw [seq_nx m0]
  by_cases hc : k % 2 = 1
  · have e : turn k xs = xs.reverse.map fun x => (x, -1) := if_pos hc
    obtain ⟨y', hy', L⟩ := l_lw X (.im (.int (k : Int))) (.im (ti xs)) (-1) (.inr rfl) xs.reverse st y hy g (by rw [List.length_reverse]; exact h)
    refine ⟨.im (.int (-1)), y', fr_im, hy', ?_⟩
    rw [if_pos hc, for_of (S (-1) xs.reverse (.inr ⟨rfl, rfl⟩)), L, e]
  · have e : turn k xs = xs.map fun x => (x, 1) := if_neg hc
    obtain ⟨y', hy', L⟩ := l_lw X (.im (.int (k : Int))) (.im (ti xs)) 1 (.inl rfl) xs st y hy g h
    refine ⟨.im (.int 1), y', fr_im, hy', ?_⟩
    rw [if_neg hc, for_of (S 1 xs (.inl ⟨rfl, rfl⟩)), L, e]
def wordOf : Nat → List (List Int) → Wd
  | _, [] => []
  | k, t :: ts => turn k t ++ wordOf (k + 1) ts
theorem turn_len (k : Nat) (xs : List Int) : (turn k xs).length = xs.length := by unfold turn; split <;> simp [pl, mi]
def total : List (List Int) → Nat
  | [] => 0
  | t :: ts => t.length + total ts
theorem l_lo {X : Sl} : ∀ (ts : List (List Int)) (k : Nat) (st : Wd) (a b u y : Sl), k + ts.length ≤ 5 → Sgn st → st.length + total ts ≤ 10000 → np a = false → np b = false → Fr u → Fr y →
    ∃ a' b' u' y', forL (tupU 2 (consT (nameT 2) (consT (nameT 3) nilT))) b_lo (numD k (ts.map ti)) [X, .ow false (st.reverse.map pr), a, b, u, y] = .nx [X, .ow false (((wordOf k ts).foldl push st).reverse.map pr), a', b', u', y']
  | [], k, st, a, b, u, y, _, _, _, _, _, _, _ => ⟨a, b, u, y, by simp [numD, forL, wordOf]⟩
  | t :: ts, k, st, a, b, u, y, hk, g, hl, na, nb, hu, hy => by
    rw [List.length_cons] at hk
    unfold total at hl
    obtain ⟨u1, y1, hu1, hy1, e⟩ := t_lo5 X k (by omega) st g t (by rw [sizeLine_eq]; omega) u y hu hy
    have rl := run_len (turn k t) st
    rw [turn_len] at rl
    obtain ⟨a', b', u', y', ih⟩ := l_lo (X := X) ts (k + 1) ((turn k t).foldl push st) (.im (.int (k : Int))) (.im (ti t)) u1 y1 (by omega) (run_sgn _ _ g (turn_sgn k t)) (by omega) rfl rfl hu1 hy1
    refine ⟨a', b', u', y', ?_⟩
    rw [List.map_cons, numD, forL_cons (ρ1 := [X, .ow false (st.reverse.map pr), .im (.int (k : Int)), .im (ti t), u, y]) (by simp [tupU, consT, nameT, nilT, pin_0, pin_s, na, nb]), e]
    show forL _ _ _ _ = _
    rw [ih, wordOf, List.foldl_append]
theorem v_wordN {ts : List (List Int)} (hn : ts.length ≤ 5) (h : total ts ≤ 10000) (ρ : Rho) : foE 1 m_law_word [.list (ts.map ti)] ρ = .ok (.im (wt (strike (wordOf 0 ts)))) ρ := by
  refine foE_of (n := 1) (k := 5) (G := G_law_word) (ds := [.list (ts.map ti)]) ?_ rfl ρ
  unfold G_law_word
  obtain ⟨a', b', u', y', e⟩ := l_lo (X := .im (.list (ts.map ti))) ts 0 [] .un .un .un .un (by omega) (fun _ z => nomatch z) (by simpa using h) rfl rfl fr_un fr_un
  have A : asgS 1 (lstF nilD) [.im (.list (ts.map ti)), .un, .un, .un, .un, .un] = .nx [.im (.list (ts.map ti)), .ow false [], .un, .un, .un, .un] := by simp [retS, seqS, asgS, clF, clI, clKF, isOw, consD, consF, callF, call1, drs, opF, op2, unF, op1, varF, cF, nilD, nilF, bd, bs, frz, dr, fin, dat, setN, pin_0, pin_s, np_im, np_un, np_ow, iteS, tstF, blO, nxS, dropS, mutF, mutO, thaw, tupF, lstF, tupD, lstD, andF, orF, notF, andV, orV, notV, ifF, tgS, tupU, consT, nameT, nilT, parS, slF, noO, parO, intO, slO, isnD, unS, out, retV, negD, subD, intD, unF, op1, truF, truO, tru, ltD, gtD, leD, geD]
  have I : enumUI (varF 0) [.im (.list (ts.map ti)), .ow false [], .un, .un, .un, .un] = .ok (numD 0 (ts.map ti)) [.im (.list (ts.map ti)), .ow false [], .un, .un, .un, .un] := by
    simp [enumUI, varF, bd, frz, dat, enumUO]
  show out (seqS _ (seqS (forS _ _ b_lo) _) [.im (.list (ts.map ti)), .un, .un, .un, .un, .un]) = _
  rw [seq_nx A, seq_nx ((for_of I).trans e)]
  unfold strike wt
  generalize (wordOf 0 ts).foldl push [] = z
  simp [retS, unF, varF, bd, bs, frz, op1, dr, tupleD, fin, out, retV]
theorem v_textN {ts : List (List Int)} (hn : ts.length ≤ 5) (h : total ts ≤ 1000) (hw : (strike (wordOf 0 ts)).length ≤ 2000) (ρ : Rho) : foE 1 m_law_text [.list (ts.map ti)] ρ = .ok (.im (oD (txtO (strike (wordOf 0 ts))))) ρ := by
  refine foE_of (n := 1) (k := 3) (G := G_law_text) (ds := [.list (ts.map ti)]) ?_ rfl ρ
  unfold G_law_text
  have V := v_wordN hn (by omega)
  generalize strike (wordOf 0 ts) = w at *
  have A : asgS 1 (clF 1 m_law_word (consD (varF 0) nilD)) [.im (.list (ts.map ti)), .un, .un, .un] = .nx [.im (.list (ts.map ti)), .im (wt w), .un, .un] := by
    simp [retS, seqS, asgS, clF, clI, clKF, isOw, consD, consF, callF, call1, drs, opF, op2, unF, op1, varF, cF, nilD, nilF, bd, bs, frz, dr, fin, dat, setN, pin_0, pin_s, np_im, np_un, np_ow, iteS, tstF, blO, nxS, dropS, mutF, mutO, thaw, tupF, lstF, tupD, lstD, andF, orF, notF, andV, orV, notV, ifF, tgS, tupU, consT, nameT, nilT, parS, slF, noO, parO, intO, slO, isnD, unS, out, retV, negD, subD, intD, unF, op1, truF, truO, tru, ltD, gtD, leD, geD, V]
  show out (seqS _ _ [.im (.list (ts.map ti)), .un, .un, .un]) = _
  rw [seq_nx A]
  have C1 := @comp_part (.im (.list (ts.map ti))) w (varF 3) Prod.snd hw (fun p => by simp [varF, bd, frz, dat])
  have C2 := @comp_part (.im (.list (ts.map ti))) w (varF 2) Prod.fst hw (fun p => by simp [varF, bd, frz, dat])
  have N := in_ints (-1) (w.map Prod.snd)
  unfold txtO
  by_cases h : (-1 : Int) ∈ w.map Prod.snd
  · rw [decide_eq_true h] at N
    rw [if_pos h]
    simp only [retS, ifF, tstF, opF, op2, unF, op1, negD, cF, bd_ok, frz, dr, fin, C1, N, blO, C2, bs_ok, tupleD, out, retV, if_true, oD]
  · rw [decide_eq_false h] at N
    rw [if_neg h]
    simp only [retS, ifF, tstF, opF, op2, unF, op1, negD, cF, bd_ok, frz, dr, fin, C1, N, blO, C2, bs_ok, tupleD, out, retV, Bool.false_eq_true, if_false, oD]
    rfl
theorem T9 {n : Nat} {xs : List Int} (g : Gt n xs) : Tx3 n xs := ⟨g.lt, g.len⟩
theorem listD_ti (x : List Int) : listD [ti x] = some (.fr (x.map .int)) := rfl
theorem Tx3.sm {n : Nat} {a : List Int} (h : Tx3 n a) : ∀ x ∈ a, Sm x := Lt.sm h.l
theorem rp3 {a b c : List Int} (ha : Tx3 100 a) (hb : Tx3 100 b) (hc : Tx3 100 c) : ∃ x, reprD [.list [ti a, ti b, ti c]] = some (.im (.str x)) := by
  have h1 : Rp 1 4100 (ti a) := (rp_ti ha.sm).mono (by decide) (by have := ha.n; omega)
  have h2 : Rp 1 4100 (ti b) := (rp_ti hb.sm).mono (by decide) (by have := hb.n; omega)
  have h3 : Rp 1 4100 (ti c) := (rp_ti hc.sm).mono (by decide) (by have := hc.n; omega)
  have := rp_lst (k := 1) (W := 4100) (ds := [ti a, ti b, ti c]) (by simp [h1, h2, h3])
  have f : (PyData.list [ti a, ti b, ti c]).shown.length ≤ sizeLine := PyData.shown_fits (B := 13) (by decide) (by decide) this.ls (Nat.le_trans this.wg (by simp))
  refine ⟨(PyData.list [ti a, ti b, ti c]).shown, reprD_of ?_⟩
  show (if (PyData.list [ti a, ti b, ti c]).showable = true ∧ (PyData.list [ti a, ti b, ti c]).hasDict = false ∧ (PyData.list [ti a, ti b, ti c]).depth ≤ 64 ∧ (PyData.list [ti a, ti b, ti c]).shown.length ≤ sizeLine then some (PyData.list [ti a, ti b, ti c]).shown else none) = _
  rw [if_pos ⟨this.sw, this.hd, Nat.le_trans this.dp (by decide), f⟩]
theorem oD_rp3 {n : Nat} {t : Option (List Int)} (hn : n ≤ 1000) (h : ∀ x, t = some x → Tx3 n x) : ∃ x, reprD [oD t] = some (.im (.str x)) :=
  oD_rp fun x hx => ⟨(h x hx).sm, by have := (h x hx).n; omega⟩
theorem eqSD_same (x : Str) : eqSD (.str x) (.str x) = some (.im (.bool true)) := by simp [eqSD]
theorem neD_same {d : D} (h : SeqAt.shaped d = true) : neD d d = some (.im (.bool false)) := by
  unfold neD
  rw [if_pos ⟨h, h⟩, SeqAt.eqv_refl d (SeqAt.canLay_of_shaped h)]
  rfl
theorem eqD_same {d : D} (h : SeqAt.shaped d = true) : eqD d d = some (.im (.bool true)) := by
  unfold eqD
  rw [if_pos ⟨h, h⟩, SeqAt.eqv_refl d (SeqAt.canLay_of_shaped h)]
theorem M_ok2 {n : Nat} {b m y c : List Int} (hm : Tx3 n m) (hy : Tx3 n y) (h : M b m y = some c) : Tx3 (2 * n) c := by
  have := M_ok hm hy h
  exact ⟨this.l, by have := this.n; omega⟩
theorem Tx3.mono {n k : Nat} {a : List Int} (h : Tx3 n a) (hk : n ≤ k) : Tx3 k a := ⟨h.l, by have := h.n; omega⟩
theorem seq_assoc (F G H : Rho → So) (ρ : Rho) : seqS F (seqS G H) ρ = seqS (seqS F G) H ρ := by
  unfold seqS
  cases F ρ <;> rfl
theorem app_of {F : Rho → Ou Rs} {i : Nat} {ρ ρ' : Rho} {xs ys : List D} {b : Bool} {z : D} (h : F ρ = .ok (.im z) ρ') (ho : isOw ρ i = true) (hi : ρ'[i]? = some (.ow b xs)) (ap : apD xs [z] = some (.none, ys)) : dropS (mutF apD i (consD F nilD)) ρ = .nx (ρ'.set i (.ow b ys)) := by
  have c : consD F nilD ρ = .ok [z] ρ' := by
    unfold consD
    rw [h]
    rfl
  unfold dropS mutF
  rw [if_pos ho, c, bd_ok]
  unfold mutO
  rw [hi]
  dsimp only
  rw [ap]
  rfl
theorem rep_snoc (n : Nat) (z : D) : List.replicate n z ++ [z] = List.replicate (n + 1) z := (List.replicate_succ' ).symm
end K06
end VL

namespace VL
open PySem PySem.Spec PyProof.Rows L2
open PySem.W (Datum Tup)

theorem np_fv (k : Nat) : np (.fv k) = false := rfl
namespace K06
/-! ### the cuts, one by one -/
def qc (b m y : List Int) (i : Nat) : Bool := decide (least b m ≤ i ∧ i ≤ lcp b y)
theorem tail_iff {b m : List Int} {i : Nat} (hi : i ≤ b.length) : (b.length - i ≤ m.length ∧ m.drop (m.length - (b.length - i)) = b.drop i) ↔ least b m ≤ i := by
  have hl := lcs_le b m
  have hd := lcs_drop b m
  constructor
  · rintro ⟨h1, h2⟩
    have := lcs_max b m (b.length - i) (by omega) (by rw [h2]; congr 1; omega)
    unfold least
    omega
  · intro h
    unfold least at h
    refine ⟨by omega, ?_⟩
    have e1 : m.length - (b.length - i) = (m.length - lcs b m) + (i - (b.length - lcs b m)) := by omega
    have e2 : i = (b.length - lcs b m) + (i - (b.length - lcs b m)) := by omega
    rw [e1, ← List.drop_drop, ← hd, List.drop_drop, ← e2]
theorem head_iff {b y : List Int} {i : Nat} (hi : i ≤ b.length) : y.take i = b.take i ↔ i ≤ lcp b y := by
  rw [lcp_pre b y i hi, List.prefix_iff_eq_take, List.length_take, Nat.min_eq_left hi]
  exact eq_comm
theorem cut_is {b m y : List Int} {i : Nat} (hi : i ≤ b.length) (h : qc b m y i = true) : M b m y = some (m.take (m.length - (b.length - i)) ++ y.drop i) := by
  have h := of_decide_eq_true h
  obtain ⟨h1, h2⟩ := (tail_iff hi).mpr h.1
  have h3 := (head_iff hi).mpr h.2
  refine cut_M ⟨b.take i, b.drop i, m.take (m.length - (b.length - i)), y.drop i, (List.take_append_drop _ _).symm, ?_, ?_, rfl⟩
  · rw [← h2, List.take_append_drop]
  · rw [← h3, List.take_append_drop]
theorem M_none_iff {b m y : List Int} : M b m y = none ↔ lcp b y < least b m := by
  unfold M
  rw [put1_is]
  split
  · rename_i h; simp [h]
  · rename_i h; simp [h]
/-- all cuts -/
def K (b m y : List Int) : List Nat := List.range' (least b m) (lcp b y + 1 - least b m)
theorem filter_all {p : Nat → Bool} : ∀ {l : List Nat}, (∀ i ∈ l, p i = true) → l.filter p = l := fun {l} h => List.filter_eq_self.mpr h
theorem filter_no {p : Nat → Bool} : ∀ {l : List Nat}, (∀ i ∈ l, p i = false) → l.filter p = [] := fun {l} h => List.filter_eq_nil_iff.mpr fun i hi => by rw [h i hi]; exact Bool.false_ne_true
theorem cuts_are (b m y : List Int) : (List.range' 0 (b.length + 1)).filter (qc b m y) = K b m y := by
  have h1 := lcs_le b m
  have h2 := lcp_le b y
  unfold K
  by_cases h : least b m ≤ lcp b y
  · have hl : least b m ≤ b.length := by unfold least; omega
    have e1 : List.range' 0 (b.length + 1) = List.range' 0 (least b m) ++ (List.range' (least b m) (lcp b y + 1 - least b m) ++ List.range' (lcp b y + 1) (b.length - lcp b y)) := by
      have a := @List.range'_append (least b m) (lcp b y + 1 - least b m) (b.length - lcp b y) 1
      rw [show least b m + 1 * (lcp b y + 1 - least b m) = lcp b y + 1 by omega] at a
      rw [a]
      have c := @List.range'_append 0 (least b m) (lcp b y + 1 - least b m + (b.length - lcp b y)) 1
      rw [show 0 + 1 * least b m = least b m by omega] at c
      rw [c]
      congr 1
      omega
    rw [e1, List.filter_append, List.filter_append, filter_no, filter_all, filter_no]
    · simp
    · intro i hi
      rw [List.mem_range'_1] at hi
      exact decide_eq_false (by omega)
    · intro i hi
      rw [List.mem_range'_1] at hi
      exact decide_eq_true (by omega)
    · intro i hi
      rw [List.mem_range'_1] at hi
      exact decide_eq_false (by omega)
  · rw [show lcp b y + 1 - least b m = 0 by omega, List.range'_zero]
    exact filter_no fun i _ => decide_eq_false (by omega)
def kD (b m y : List Int) : List D := (K b m y).map fun (i : Nat) => PyData.int (i : Int)
theorem rng_K (b m y : List Int) : rngD (least b m : Nat) ((lcp b y : Nat) + 1) = kD b m y := by
  unfold rngD kD K
  rw [List.range'_eq_map_range, List.map_map]
  have e : (((lcp b y : Nat) : Int) + 1 - (least b m : Nat)).toNat = lcp b y + 1 - least b m := by omega
  rw [e]
  exact List.map_congr_left fun i _ => by simp
/-! ### the program's and the law's -/
theorem v_merge_cuts {d e f : D} {b m y : List Int} (h1 : isT d b) (h2 : isT e m) (h3 : isT f y) (hb : b.length ≤ 1000) (hm : m.length ≤ 1000) (hy : y.length ≤ 1000) (ρ : Rho) : foE 3 m_merge_cuts [d, e, f] ρ = .ok (.im (.tuple (kD b m y))) ρ := by
  refine foE_of (n := 3) (k := 2) (G := G_merge_cuts) (ds := [d, e, f]) ?_ rfl ρ
  have l1 := lcs_le b m
  have l2 := lcp_le b y
  unfold G_merge_cuts
  have A : tgS (tupU 2 (consT (nameT 3) (consT (nameT 4) nilT))) (clF 3 m_cut_bounds (consD (varF 0) (consD (varF 1) (consD (varF 2) nilD)))) [.im (ti b), .im (ti m), .im (ti y), .un, .un] = .nx [.im (ti b), .im (ti m), .im (ti y), .im (.int (least b m : Nat)), .im (.int (grt b y : Nat))] := by
    simp [retS, seqS, asgS, clF, clI, clKF, isOw, consD, consF, callF, call1, drs, opF, op2, unF, op1, varF, cF, nilD, nilF, bd, bs, frz, dr, fin, dat, setN, pin_0, pin_s, np_im, np_un, np_ow, iteS, tstF, blO, nxS, dropS, mutF, mutO, thaw, tupF, lstF, tupD, lstD, andF, orF, notF, andV, orV, notV, ifF, tgS, tupU, consT, nameT, nilT, parS, slF, noO, parO, intO, slO, isnD, unS, out, retV, negD, subD, intD, unF, op1, truF, truO, tru, parN, consL, addL, nilL, parM, setL, slOf, nrm, two, ltD, gtD, leD, geD, v_cut_bounds b m y (by omega)]
  show out (seqS _ _ [.im d, .im e, .im f, .un, .un]) = _
  rw [seq_nx (t_three h1 h2 h3 [.un, .un]), seq_nx A]
  have ok : rgB (least b m : Nat) ((grt b y : Nat) + 1) = true := by
    unfold rgB least grt
    simp only [Bool.and_eq_true, decide_eq_true_eq]
    omega
  have r : rngD (least b m : Nat) ((grt b y : Nat) + 1) = kD b m y := rng_K b m y
  simp [retS, rgT2F, rgT2, consD, nilD, opF, op2, varF, cF, bd, bs, frz, dr, dat, addD, fin, ok, r, out, retV]
theorem x_cuts {d e f : D} {k : Int} (h : ∀ ρ, foE 3 m_need_three_texts [d, e, f] ρ = .ex 0 (.int k) ρ) (ρ : Rho) : foE 3 m_merge_cuts [d, e, f] ρ = .ex 0 (.int k) ρ :=
  foE_ex (n := 3) (k := 2) (G := G_merge_cuts) (ds := [d, e, f]) (ρ' := [.im d, .im e, .im f, .un, .un]) (by
    unfold G_merge_cuts
    refine seq_ex ?_
    simp [retS, seqS, asgS, clF, clI, clKF, isOw, consD, consF, callF, call1, drs, opF, op2, unF, op1, varF, cF, nilD, nilF, bd, bs, frz, dr, fin, dat, setN, pin_0, pin_s, np_im, np_un, np_ow, iteS, tstF, blO, nxS, dropS, mutF, mutO, thaw, tupF, lstF, tupD, lstD, andF, orF, notF, andV, orV, notV, ifF, tgS, tupU, consT, nameT, nilT, parS, slF, noO, parO, intO, slO, isnD, unS, out, retV, negD, subD, intD, unF, op1, truF, truO, tru, parN, consL, addL, nilL, parM, setL, slOf, nrm, two, ltD, gtD, leD, geD, h]) rfl ρ
theorem x_texts {d e f : D} {k : Int} (h : ∀ ρ, foE 3 m_need_three_texts [d, e, f] ρ = .ex 0 (.int k) ρ) (ρ : Rho) : foE 3 m_merge_texts [d, e, f] ρ = .ex 0 (.int k) ρ :=
  foE_ex (n := 3) (k := 0) (G := G_merge_texts) (ds := [d, e, f]) (ρ' := [.im d, .im e, .im f]) (by unfold G_merge_texts; exact seq_ex (s_ex h)) rfl ρ
theorem x_word {d e f : D} {k : Int} (h : ∀ ρ, foE 3 m_need_three_texts [d, e, f] ρ = .ex 0 (.int k) ρ) (ρ : Rho) : foE 3 m_merge_word [d, e, f] ρ = .ex 0 (.int k) ρ :=
  foE_ex (n := 3) (k := 0) (G := G_merge_word) (ds := [d, e, f]) (ρ' := [.im d, .im e, .im f]) (by unfold G_merge_word; exact seq_ex (s_ex h)) rfl ρ
theorem v_refused {d e f : D} {k : Int} (j : Nat) (hj : j < 3) (h : ∀ ρ, foE 3 m_need_three_texts [d, e, f] ρ = .ex 0 (.int k) ρ) (ρ : Rho) : foV 4 m_law_refused j [d, e, f] ρ = .ok (.im (.int k)) ρ := by
  have lk : ∃ m, look tb_law_refused j = some (3, m) ∧ ∀ ρ, foE 3 m [d, e, f] ρ = .ex 0 (.int k) ρ := by
    match j, hj with
    | 0, _ => exact ⟨_, rfl, x_texts h⟩
    | 1, _ => exact ⟨_, rfl, x_cuts h⟩
    | 2, _ => exact ⟨_, rfl, x_word h⟩
  obtain ⟨m, e1, e2⟩ := lk
  have B : dropS (clW 0 tb_law_refused (consD (varF 1) (consD (varF 2) (consD (varF 3) nilD)))) [.fv j, .im d, .im e, .im f, .un] = .ex 0 (.int k) [.fv j, .im d, .im e, .im f, .un] := by
    simp [dropS, clW, e1, consD, varF, nilD, bd, bs, frz, dat, e2]
  have G : G_law_refused ((.fv j :: [d, e, f].map .im) ++ unS 1) = .rt (.im (.int k)) [.fv j, .im d, .im e, .im f, .un] := by
    unfold G_law_refused
    show seqS (tryS 0 4 _ _) _ [.fv j, .im d, .im e, .im f, .un] = _
    unfold seqS tryS
    rw [B]
    rfl
  unfold foV m_law_refused mF
  rw [G]
  rfl
abbrev b_lc : Rho → So := (seqS (asgS 6 (opF subD (callF lenD (consF (varF 0) nilF)) (varF 5)))
  (iteS (andF (tstF (opF leD (varF 6) (callF lenD (consF (varF 1) nilF)))) (andF (tstF (opF eqD (slF (varF 1) (parO (opF subD (callF lenD (consF (varF 1) nilF)) (varF 6))) noO) (slF (varF 0) (parO (varF 5)) noO))) (tstF (opF eqD (slF (varF 2) noO (parO (varF 5))) (slF (varF 0) noO (parO (varF 5)))))))
  (seqS (dropS (mutF apD 3 (consD (varF 5) nilD)))
  (dropS (mutF apD 4 (consD (opF addD (slF (varF 1) noO (parO (opF subD (callF lenD (consF (varF 1) nilF)) (varF 6)))) (slF (varF 2) (parO (varF 5)) noO)) nilD))))
  nxS))
theorem t_lc {b m y : List Int} (hm : m.length ≤ 1000) (hy : y.length ≤ 1000) {i : Nat} (hi : i ≤ b.length) {xs zs : List D} (hx : xs.length < 1000) (hz : zs.length < 1000) {a6 : Sl} (n6 : np a6 = false) :
    ∃ b6, np b6 = false ∧ b_lc [.im (ti b), .im (ti m), .im (ti y), .ow false xs, .ow false zs, .im (.int (i : Int)), a6] = if qc b m y i = true then .nx [.im (ti b), .im (ti m), .im (ti y), .ow false (xs ++ [.int (i : Int)]), .ow false (zs ++ [oD (M b m y)]), .im (.int (i : Int)), b6] else .nx [.im (ti b), .im (ti m), .im (ti y), .ow false xs, .ow false zs, .im (.int (i : Int)), b6] := by
  have e1 : ((b.length : Nat) : Int) - (i : Int) = ((b.length - i : Nat) : Int) := by omega
  have A : asgS 6 (opF subD (callF lenD (consF (varF 0) nilF)) (varF 5)) [.im (ti b), .im (ti m), .im (ti y), .ow false xs, .ow false zs, .im (.int (i : Int)), a6] = .nx [.im (ti b), .im (ti m), .im (ti y), .ow false xs, .ow false zs, .im (.int (i : Int)), .im (.int (b.length - i : Nat))] := by
    rw [← e1]
    simp [retS, seqS, asgS, clF, clI, clKF, isOw, consD, consF, callF, call1, drs, opF, op2, unF, op1, varF, cF, nilD, nilF, bd, bs, frz, dr, fin, dat, setN, pin_0, pin_s, np_im, np_un, np_ow, iteS, tstF, blO, nxS, dropS, mutF, mutO, thaw, tupF, lstF, tupD, lstD, andF, orF, notF, andV, orV, notV, ifF, tgS, tupU, consT, nameT, nilT, parS, slF, noO, parO, intO, slO, isnD, unS, out, retV, negD, subD, intD, unF, op1, truF, truO, tru, parN, consL, addL, nilL, parM, setL, slOf, nrm, two, ltD, gtD, leD, geD, lenD_ti, n6]
  refine ⟨.im (.int (b.length - i : Nat)), rfl, ?_⟩
  unfold b_lc
  rw [seq_nx A]
  have C : (andF (tstF (opF leD (varF 6) (callF lenD (consF (varF 1) nilF)))) (andF (tstF (opF eqD (slF (varF 1) (parO (opF subD (callF lenD (consF (varF 1) nilF)) (varF 6))) noO) (slF (varF 0) (parO (varF 5)) noO))) (tstF (opF eqD (slF (varF 2) noO (parO (varF 5))) (slF (varF 0) noO (parO (varF 5))))))) [.im (ti b), .im (ti m), .im (ti y), .ow false xs, .ow false zs, .im (.int (i : Int)), .im (.int (b.length - i : Nat))] = .ok (qc b m y i) [.im (ti b), .im (ti m), .im (ti y), .ow false xs, .ow false zs, .im (.int (i : Int)), .im (.int (b.length - i : Nat))] := by
    have q : qc b m y i = (decide (b.length - i ≤ m.length) && (decide (m.drop (m.length - (b.length - i)) = b.drop i) && decide (y.take i = b.take i))) := by
      unfold qc
      rw [← Bool.decide_and, ← Bool.decide_and]
      refine decide_eq_decide.mpr ?_
      rw [← tail_iff hi, ← head_iff hi, and_assoc]
    rw [q]
    by_cases h1 : b.length - i ≤ m.length
    · have e2 : ((m.length : Nat) : Int) - ((b.length - i : Nat) : Int) = ((m.length - (b.length - i) : Nat) : Int) := by omega
      have h1' : ((b.length - i : Nat) : Int) ≤ ((m.length : Nat) : Int) := by omega
      have s1 := @sl_from m (m.length - (b.length - i)) (by omega)
      have s2 := @sl_from b i hi
      have s3 := @sl_to' y i
      have s4 := @sl_to' b i
      generalize b.length - i = r at *
      by_cases h2 : m.drop (m.length - r) = b.drop i
      · simp only [retS, seqS, asgS, clF, clI, clKF, isOw, consD, consF, callF, call1, drs, opF, op2, unF, op1, varF, cF, nilD, nilF, bd, bs, frz, dr, fin, dat, setN, pin_0, pin_s, np_im, np_un, np_ow, iteS, tstF, blO, nxS, dropS, mutF, mutO, thaw, tupF, lstF, tupD, lstD, andF, orF, notF, andV, orV, notV, ifF, tgS, tupU, consT, nameT, nilT, parS, slF, noO, parO, intO, slO, isnD, unS, out, retV, negD, subD, intD, unF, op1, truF, truO, tru, parN, consL, addL, nilL, parM, setL, slOf, nrm, two, ltD, gtD, leD, geD, lenD_ti, e2, s1, s2, s3, s4, eqD_tie, h1', decide_true, h2, h1, List.getElem?_cons_zero, List.getElem?_cons_succ, if_true, Bool.true_and]
      · simp only [retS, seqS, asgS, clF, clI, clKF, isOw, consD, consF, callF, call1, drs, opF, op2, unF, op1, varF, cF, nilD, nilF, bd, bs, frz, dr, fin, dat, setN, pin_0, pin_s, np_im, np_un, np_ow, iteS, tstF, blO, nxS, dropS, mutF, mutO, thaw, tupF, lstF, tupD, lstD, andF, orF, notF, andV, orV, notV, ifF, tgS, tupU, consT, nameT, nilT, parS, slF, noO, parO, intO, slO, isnD, unS, out, retV, negD, subD, intD, unF, op1, truF, truO, tru, parN, consL, addL, nilL, parM, setL, slOf, nrm, two, ltD, gtD, leD, geD, lenD_ti, e2, s1, s2, s3, s4, eqD_tie, h1', decide_true, h2, h1, decide_false, List.getElem?_cons_zero, List.getElem?_cons_succ, if_true, Bool.true_and, Bool.false_and, Bool.false_eq_true, if_false]
    · have h1' : ¬ ((b.length - i : Nat) : Int) ≤ ((m.length : Nat) : Int) := by omega
      generalize b.length - i = r at *
      simp only [retS, seqS, asgS, clF, clI, clKF, isOw, consD, consF, callF, call1, drs, opF, op2, unF, op1, varF, cF, nilD, nilF, bd, bs, frz, dr, fin, dat, setN, pin_0, pin_s, np_im, np_un, np_ow, iteS, tstF, blO, nxS, dropS, mutF, mutO, thaw, tupF, lstF, tupD, lstD, andF, orF, notF, andV, orV, notV, ifF, tgS, tupU, consT, nameT, nilT, parS, slF, noO, parO, intO, slO, isnD, unS, out, retV, negD, subD, intD, unF, op1, truF, truO, tru, parN, consL, addL, nilL, parM, setL, slOf, nrm, two, ltD, gtD, leD, geD, lenD_ti, h1', h1, decide_false, Bool.false_and, Bool.false_eq_true, if_false, if_true, List.getElem?_cons_zero, List.getElem?_cons_succ]
  cases hq : qc b m y i with
  | false =>
    rw [hq] at C
    rw [if_neg Bool.false_ne_true]
    exact ite_f C
  | true =>
    rw [hq] at C
    rw [if_pos rfl, ite_t C]
    have hm2 := cut_is hi hq
    have h1 := ((tail_iff hi).mpr (of_decide_eq_true hq).1).1
    have h2 := (lcp_le b y).2
    have h3 := (of_decide_eq_true hq).2
    have e2 : ((m.length : Nat) : Int) - ((b.length - i : Nat) : Int) = ((m.length - (b.length - i) : Nat) : Int) := by omega
    have s1 := @sl_to' m (m.length - (b.length - i))
    have s2 := @sl_from y i (by omega)
    have a1 := @add_ti (m.take (m.length - (b.length - i))) (y.drop i) (by rw [sizeLine_eq, List.length_take, List.length_drop]; omega)
    have P1 : dropS (mutF apD 3 (consD (varF 5) nilD)) [.im (ti b), .im (ti m), .im (ti y), .ow false xs, .ow false zs, .im (.int (i : Int)), .im (.int (b.length - i : Nat))] = .nx [.im (ti b), .im (ti m), .im (ti y), .ow false (xs ++ [.int (i : Int)]), .ow false zs, .im (.int (i : Int)), .im (.int (b.length - i : Nat))] :=
      app_of (F := varF 5) (i := 3) (b := false) (ρ' := [.im (ti b), .im (ti m), .im (ti y), .ow false xs, .ow false zs, .im (.int (i : Int)), .im (.int (b.length - i : Nat))]) (z := .int (i : Int)) rfl rfl rfl (apD_ok (xs := xs) (by rw [sizeLine_eq]; omega))
    rw [seq_nx P1]
    have e5 : (opF addD (slF (varF 1) noO (parO (opF subD (callF lenD (consF (varF 1) nilF)) (varF 6)))) (slF (varF 2) (parO (varF 5)) noO)) [.im (ti b), .im (ti m), .im (ti y), .ow false (xs ++ [.int (i : Int)]), .ow false zs, .im (.int (i : Int)), .im (.int (b.length - i : Nat))] = .ok (.im (oD (M b m y))) [.im (ti b), .im (ti m), .im (ti y), .ow false (xs ++ [.int (i : Int)]), .ow false zs, .im (.int (i : Int)), .im (.int (b.length - i : Nat))] := by
      rw [hm2]
      generalize b.length - i = r at *
      simp only [retS, seqS, asgS, clF, clI, clKF, isOw, consD, consF, callF, call1, drs, opF, op2, unF, op1, varF, cF, nilD, nilF, bd, bs, frz, dr, fin, dat, setN, pin_0, pin_s, np_im, np_un, np_ow, iteS, tstF, blO, nxS, dropS, mutF, mutO, thaw, tupF, lstF, tupD, lstD, andF, orF, notF, andV, orV, notV, ifF, tgS, tupU, consT, nameT, nilT, parS, slF, noO, parO, intO, slO, isnD, unS, out, retV, negD, subD, intD, unF, op1, truF, truO, tru, parN, consL, addL, nilL, parM, setL, slOf, nrm, two, ltD, gtD, leD, geD, lenD_ti, e2, s1, s2, a1, oD, if_true, List.getElem?_cons_zero, List.getElem?_cons_succ]
    exact app_of (i := 4) (b := false) (xs := zs) e5 rfl rfl (apD_ok (by rw [sizeLine_eq]; omega))
theorem l_lc {b m y : List Int} (hm : m.length ≤ 1000) (hy : y.length ≤ 1000) : ∀ (n s : Nat) (xs zs : List D) (a5 a6 : Sl), s + n ≤ b.length + 1 → xs.length + n < 1000 → zs.length + n < 1000 → np a5 = false → np a6 = false →
    ∃ b5 b6, forL (nameT 5) b_lc (idx s n) [.im (ti b), .im (ti m), .im (ti y), .ow false xs, .ow false zs, a5, a6] = .nx [.im (ti b), .im (ti m), .im (ti y), .ow false (xs ++ ((List.range' s n).filter (qc b m y)).map fun (i : Nat) => PyData.int (i : Int)), .ow false (zs ++ List.replicate ((List.range' s n).filter (qc b m y)).length (oD (M b m y))), b5, b6]
  | 0, s, xs, zs, a5, a6, _, _, _, _, _ => ⟨a5, a6, by simp [idx_zero, forL]⟩
  | n + 1, s, xs, zs, a5, a6, hs, hx, hz, n5, n6 => by
    obtain ⟨b6, m6, e⟩ := t_lc hm hy (b := b) (i := s) (by omega) (xs := xs) (zs := zs) (by omega) (by omega) n6
    have st : forL (nameT 5) b_lc (.int (s : Int) :: idx (s + 1) n) [.im (ti b), .im (ti m), .im (ti y), .ow false xs, .ow false zs, a5, a6] = stepL (b_lc [.im (ti b), .im (ti m), .im (ti y), .ow false xs, .ow false zs, .im (.int (s : Int)), a6]) (forL (nameT 5) b_lc (idx (s + 1) n)) :=
      forL_cons (ρ1 := [.im (ti b), .im (ti m), .im (ti y), .ow false xs, .ow false zs, .im (.int (s : Int)), a6]) (by simp [nameT, pin_0, pin_s, n5])
    rw [idx_succ, st, e, List.range'_succ]
    cases hq : qc b m y s with
    | true =>
      obtain ⟨c5, c6, ih⟩ := l_lc hm hy (b := b) n (s + 1) (xs ++ [.int (s : Int)]) (zs ++ [oD (M b m y)]) (.im (.int (s : Int))) b6 (by omega) (by simp; omega) (by simp; omega) rfl m6
      refine ⟨c5, c6, ?_⟩
      rw [if_pos rfl]
      show forL _ _ _ _ = _
      rw [ih, List.filter_cons_of_pos hq]
      simp [List.replicate_succ]
    | false =>
      obtain ⟨c5, c6, ih⟩ := l_lc hm hy (b := b) n (s + 1) xs zs (.im (.int (s : Int))) b6 (by omega) (by omega) (by omega) rfl m6
      refine ⟨c5, c6, ?_⟩
      rw [if_neg Bool.false_ne_true]
      show forL _ _ _ _ = _
      rw [ih, List.filter_cons_of_neg (by rw [hq]; exact Bool.false_ne_true)]
theorem v_law_cuts {b m y : List Int} (hb : b.length ≤ 900) (hm : m.length ≤ 900) (hy : y.length ≤ 900) (ρ : Rho) : foE 3 m_law_cuts [ti b, ti m, ti y] ρ = .ok (.im (.tuple [.list (kD b m y), .list (List.replicate (K b m y).length (oD (M b m y)))])) ρ := by
  refine foE_of (n := 3) (k := 4) (G := G_law_cuts) (ds := [ti b, ti m, ti y]) ?_ rfl ρ
  unfold G_law_cuts
  obtain ⟨b5, b6, e⟩ := l_lc (m := m) (y := y) (by omega) (by omega) (b := b) (b.length + 1) 0 [] [] .un .un (by omega) (by simp; omega) (by simp; omega) rfl rfl
  rw [cuts_are] at e
  have A : parS 3 4 (lstF nilD) (lstF nilD) [.im (ti b), .im (ti m), .im (ti y), .un, .un, .un, .un] = .nx [.im (ti b), .im (ti m), .im (ti y), .ow false [], .ow false [], .un, .un] := by simp [retS, seqS, asgS, clF, clI, clKF, isOw, consD, consF, callF, call1, drs, opF, op2, unF, op1, varF, cF, nilD, nilF, bd, bs, frz, dr, fin, dat, setN, pin_0, pin_s, np_im, np_un, np_ow, iteS, tstF, blO, nxS, dropS, mutF, mutO, thaw, tupF, lstF, tupD, lstD, andF, orF, notF, andV, orV, notV, ifF, tgS, tupU, consT, nameT, nilT, parS, slF, noO, parO, intO, slO, isnD, unS, out, retV, negD, subD, intD, unF, op1, truF, truO, tru, parN, consL, addL, nilL, parM, setL, slOf, nrm, two, ltD, gtD, leD, geD]
  have I : rng1I (opF addD (callF lenD (consF (varF 0) nilF)) (cF (.int 1))) [.im (ti b), .im (ti m), .im (ti y), .ow false [], .ow false [], .un, .un] = .ok (idx 0 (b.length + 1)) [.im (ti b), .im (ti m), .im (ti y), .ow false [], .ow false [], .un, .un] := by
    refine rng1_of ?_ (by omega)
    simp [retS, seqS, asgS, clF, clI, clKF, isOw, consD, consF, callF, call1, drs, opF, op2, unF, op1, varF, cF, nilD, nilF, bd, bs, frz, dr, fin, dat, setN, pin_0, pin_s, np_im, np_un, np_ow, iteS, tstF, blO, nxS, dropS, mutF, mutO, thaw, tupF, lstF, tupD, lstD, andF, orF, notF, andV, orV, notV, ifF, tgS, tupU, consT, nameT, nilT, parS, slF, noO, parO, intO, slO, isnD, unS, out, retV, negD, subD, intD, unF, op1, truF, truO, tru, parN, consL, addL, nilL, parM, setL, slOf, nrm, two, ltD, gtD, leD, geD, lenD_ti, addD]
  show out (seqS _ (seqS (forS _ _ b_lc) _) [.im (ti b), .im (ti m), .im (ti y), .un, .un, .un, .un]) = _
  rw [seq_nx A, seq_nx ((for_of I).trans e)]
  show out (retS _ [.im (ti b), .im (ti m), .im (ti y), .ow false ([] ++ kD b m y), .ow false ([] ++ List.replicate (K b m y).length (oD (M b m y))), b5, b6]) = _
  generalize kD b m y = X
  generalize List.replicate (K b m y).length (oD (M b m y)) = Y
  simp [retS, seqS, asgS, clF, clI, clKF, isOw, consD, consF, callF, call1, drs, opF, op2, unF, op1, varF, cF, nilD, nilF, bd, bs, frz, dr, fin, dat, setN, pin_0, pin_s, np_im, np_un, np_ow, iteS, tstF, blO, nxS, dropS, mutF, mutO, thaw, tupF, lstF, tupD, lstD, andF, orF, notF, andV, orV, notV, ifF, tgS, tupU, consT, nameT, nilT, parS, slF, noO, parO, intO, slO, isnD, unS, out, retV, negD, subD, intD, unF, op1, truF, truO, tru, parN, consL, addL, nilL, parM, setL, slOf, nrm, two, ltD, gtD, leD, geD, sizeLine_eq]
end K06
end VL

namespace VL
open PySem PySem.Spec PyProof.Rows L2
open PySem.W (Datum Tup)

namespace K06
abbrev g_0 : Rho → So := (iteS (orF (tstF (opF neD (clKF 3 m_merge_texts [0, 1, 2] 0 3 nilD (consD (tupF (consD (cF (.int 1)) (consD (cF (.int 2)) (consD (cF (.int 2)) (consD (cF (.int 3)) nilD))))) (consD (tupF (consD (cF (.int 4)) (consD (cF (.int 2)) (consD (cF (.int 2)) (consD (cF (.int 3)) nilD))))) (consD (tupF (consD (cF (.int 1)) (consD (cF (.int 2)) (consD (cF (.int 2)) (consD (cF (.int 5)) nilD))))) nilD)))) (tupF (consD (cF (.int 4)) (consD (cF (.int 2)) (consD (cF (.int 2)) (consD (cF (.int 5)) nilD))))))) (tstF (unF (isnD true) (clF 3 m_merge_texts (consD (tupF (consD (cF (.int 1)) (consD (cF (.int 2)) nilD))) (consD (tupF (consD (cF (.int 1)) (consD (cF (.int 3)) nilD))) (consD (tupF (consD (cF (.int 1)) (consD (cF (.int 4)) nilD))) nilD)))))))
  (retS (cF (.bool false)))
  nxS)
abbrev g_1 : Rho → So := (iteS (orF (tstF (opF neD (clKF 3 m_merge_cuts [0, 1, 2] 0 3 nilD (consD (tupF (consD (cF (.int 1)) (consD (cF (.int 2)) (consD (cF (.int 2)) (consD (cF (.int 3)) nilD))))) (consD (tupF (consD (cF (.int 4)) (consD (cF (.int 2)) (consD (cF (.int 2)) (consD (cF (.int 3)) nilD))))) (consD (tupF (consD (cF (.int 1)) (consD (cF (.int 2)) (consD (cF (.int 2)) (consD (cF (.int 5)) nilD))))) nilD)))) (tupF (consD (cF (.int 1)) (consD (cF (.int 2)) (consD (cF (.int 3)) nilD)))))) (tstF (opF neD (clF 3 m_merge_texts (consD (tupF nilD) (consD (tupF (consD (cF (.int 7)) nilD)) (consD (tupF (consD (cF (.int 8)) nilD)) nilD)))) (tupF (consD (cF (.int 7)) (consD (cF (.int 8)) nilD))))))
  (retS (cF (.bool false)))
  nxS)
abbrev h_0 : Rho → So := (asgS 2 (clF 2 m_law_box (consD (varF 0) (consD (varF 1) nilD))))
abbrev h_1 : Rho → So := (tgS (tupU 3 (consT (nameT 3) (consT (nameT 4) (consT (nameT 5) nilT)))) (clI 2 m_law_three 2 (consD (opF addD (cF (.int 1)) (clI 2 m_law_take 2 (consD (cF (.int 3)) nilD))) nilD)))
abbrev h_2 : Rho → So := (tgS (tupU 2 (consT (nameT 6) (consT (nameT 7) nilT))) (clF 3 m_law_cuts (consD (varF 3) (consD (varF 4) (consD (varF 5) nilD)))))
abbrev h_3 : Rho → So := (asgS 8 (clF 1 m_law_text (consD (lstF (consD (varF 4) (consD (varF 3) (consD (varF 5) nilD)))) nilD)))
abbrev h_4 : Rho → So := (iteS (orF (tstF (opF neSD (callF reprD (consF (clF 3 m_merge_cuts (consD (varF 3) (consD (callF listD (consF (varF 4) nilF)) (consD (varF 5) nilD)))) nilF)) (callF reprD (consF (unF tupleD (varF 6)) nilF)))) (tstF (opF neD (lcF (seqI (varF 7)) (nameT 12) (tstF (opF neD (varF 12) (varF 8))) (varF 12) [12]) (lstF nilD))))
  (retS (cF (.bool false)))
  nxS)
abbrev h_5 : Rho → So := (iteS (orF (tstF (opF neSD (callF reprD (consF (clF 3 m_merge_texts (consD (callF listD (consF (varF 3) nilF)) (consD (varF 4) (consD (callF listD (consF (varF 5) nilF)) nilD)))) nilF)) (callF reprD (consF (varF 8) nilF)))) (tstF (opF neD (unF (isnD false) (varF 8)) (opF eqD (varF 6) (lstF nilD)))))
  (retS (cF (.bool false)))
  nxS)
abbrev h_6 : Rho → So := (iteS (tstF (opF neSD (callF reprD (consF (clKF 3 m_merge_word [2, 1, 0] 0 3 nilD (consD (varF 5) (consD (varF 4) (consD (varF 3) nilD)))) nilF)) (callF reprD (consF (clF 1 m_law_word (consD (lstF (consD (varF 4) (consD (varF 3) (consD (varF 5) nilD)))) nilD)) nilF))))
  (retS (cF (.bool false)))
  nxS)
abbrev h_7 : Rho → So := (iteS (andF (tstF (opF neD (varF 6) (lstF nilD))) (tstF (opF neD (varF 6) (rgL2F (consD (opF ixD (varF 6) (cF (.int 0))) (consD (opF addD (opF ixD (varF 6) (unF negD (cF (.int 1)))) (cF (.int 1))) nilD))))))
  (retS (cF (.bool false)))
  nxS)
abbrev h_8 : Rho → So := (iteS (orF (tstF (opF neD (clF 3 m_merge_texts (consD (varF 3) (consD (varF 3) (consD (varF 5) nilD)))) (varF 5))) (tstF (opF neD (clF 3 m_merge_texts (consD (varF 3) (consD (varF 4) (consD (varF 3) nilD)))) (varF 4))))
  (retS (cF (.bool false)))
  nxS)
abbrev h_9 : Rho → So := (asgS 9 (clI 2 m_law_pick 2 (consD (lstF (consD (cF .none) (consD (cF (.int 3)) (consD (cF (.str "ab")) (consD (tupF (consD (cF (.int 100)) nilD)) (consD (lstF (consD (cF (.int 0)) (consD (cF .none) nilD))) (consD (tupF (consD (opF subD (cF (.int 0)) (cF (.int 1))) nilD)) (consD (tupF (consD (cF (.bool true)) nilD)) (consD (tupF (consD (tupF (consD (cF (.int 0)) nilD)) nilD)) nilD))))))))) nilD)))
abbrev h_11 : Rho → So := (iteS (tstF (opF neSD (callF reprD (consF (clF 3 m_merge_texts (consD (varF 3) (consD (varF 4) (consD (varF 5) nilD)))) nilF)) (callF reprD (consF (varF 8) nilF))))
  (retS (cF (.bool false)))
  nxS)
abbrev v_S : Rho → So := (seqS (asgS 11 (lstF (consD (clVv 4 m_law_refused 10 (consD (varF 9) (consD (varF 9) (consD (cF .none) nilD)))) (consD (clVv 4 m_law_refused 10 (consD (varF 3) (consD (varF 9) (consD (varF 9) nilD)))) (consD (clVv 4 m_law_refused 10 (consD (varF 3) (consD (varF 4) (consD (varF 9) nilD)))) nilD)))))
  (iteS (tstF (opF neD (varF 11) (lstF (consD (cF (.int 0)) (consD (cF (.int 1)) (consD (cF (.int 2)) nilD))))))
  (retS (cF (.bool false)))
  nxS))
abbrev h_10 : Rho → So := forVL 10 v_S [0, 1, 2]
abbrev bodyS : Rho → So := (seqS h_0 (seqS h_1 (seqS h_2 (seqS h_3 (seqS h_4 (seqS h_5 (seqS h_6 (seqS h_7 (seqS h_8 (seqS h_9 (seqS h_10 h_11)))))))))))
theorem t_g0 (ns : List Int) (r : Rho) : g_0 (.im (li ns) :: r) = .nx (.im (li ns) :: r) := by
  have A1 := v_mt (d := ti [1, 2, 2, 3]) (e := ti [4, 2, 2, 3]) (f := ti [1, 2, 2, 5]) (isT_ti (by unfold Lt; decide)) (isT_ti (by unfold Lt; decide)) (isT_ti (by unfold Lt; decide)) (by decide) (by decide) (by decide)
  have A2 := v_mt (d := ti [1, 2]) (e := ti [1, 3]) (f := ti [1, 4]) (isT_ti (by unfold Lt; decide)) (isT_ti (by unfold Lt; decide)) (isT_ti (by unfold Lt; decide)) (by decide) (by decide) (by decide)
  have B1 : ∀ ρ, foE 3 m_merge_texts [.tuple [.int 1, .int 2, .int 2, .int 3], .tuple [.int 4, .int 2, .int 2, .int 3], .tuple [.int 1, .int 2, .int 2, .int 5]] ρ = .ok (.im (.tuple [.int 4, .int 2, .int 2, .int 5])) ρ := A1
  have B2 : ∀ ρ, foE 3 m_merge_texts [.tuple [.int 1, .int 2], .tuple [.int 1, .int 3], .tuple [.int 1, .int 4]] ρ = .ok (.im .none) ρ := A2
  have n1 : neD (.tuple [.int 4, .int 2, .int 2, .int 5]) (.tuple [.int 4, .int 2, .int 2, .int 5]) = some (.im (.bool false)) := neD_same (by decide +kernel)
  have g : ∀ u v w : D, gP [0, 1, 2] 0 3 ([] : List D) [u, v, w] = [u, v, w] := fun _ _ _ => rfl
  have i0 : isNon .none = true := rfl
  simp [g_0, retS, seqS, asgS, clF, clI, clKF, isOw, consD, consF, callF, call1, drs, opF, op2, unF, op1, varF, cF, nilD, nilF, bd, bs, frz, dr, fin, dat, setN, pin_0, pin_s, np_im, np_un, np_ow, iteS, tstF, blO, nxS, dropS, mutF, mutO, thaw, tupF, lstF, tupD, lstD, andF, orF, notF, andV, orV, notV, ifF, tgS, tupU, consT, nameT, nilT, parS, slF, noO, parO, intO, slO, isnD, unS, out, retV, negD, subD, intD, unF, op1, truF, truO, tru, parN, consL, addL, nilL, parM, setL, slOf, nrm, two, ltD, gtD, leD, geD, clKF, g, sizeLine_eq, B1, B2, n1, i0]
theorem t_g1 (ns : List Int) (r : Rho) : g_1 (.im (li ns) :: r) = .nx (.im (li ns) :: r) := by
  have A1 := v_merge_cuts (d := ti [1, 2, 2, 3]) (e := ti [4, 2, 2, 3]) (f := ti [1, 2, 2, 5]) (isT_ti (by unfold Lt; decide)) (isT_ti (by unfold Lt; decide)) (isT_ti (by unfold Lt; decide)) (by decide) (by decide) (by decide)
  have A2 := v_mt (d := ti []) (e := ti [7]) (f := ti [8]) (isT_ti (by unfold Lt; decide)) (isT_ti (by unfold Lt; decide)) (isT_ti (by unfold Lt; decide)) (by decide) (by decide) (by decide)
  have B1 : ∀ ρ, foE 3 m_merge_cuts [.tuple [.int 1, .int 2, .int 2, .int 3], .tuple [.int 4, .int 2, .int 2, .int 3], .tuple [.int 1, .int 2, .int 2, .int 5]] ρ = .ok (.im (.tuple [.int 1, .int 2, .int 3])) ρ := A1
  have B2 : ∀ ρ, foE 3 m_merge_texts [.tuple [], .tuple [.int 7], .tuple [.int 8]] ρ = .ok (.im (.tuple [.int 7, .int 8])) ρ := A2
  have n1 : neD (.tuple [.int 1, .int 2, .int 3]) (.tuple [.int 1, .int 2, .int 3]) = some (.im (.bool false)) := neD_same (by decide +kernel)
  have n2 : neD (.tuple [.int 7, .int 8]) (.tuple [.int 7, .int 8]) = some (.im (.bool false)) := neD_same (by decide +kernel)
  have g : ∀ u v w : D, gP [0, 1, 2] 0 3 ([] : List D) [u, v, w] = [u, v, w] := fun _ _ _ => rfl
  simp [g_1, retS, seqS, asgS, clF, clI, clKF, isOw, consD, consF, callF, call1, drs, opF, op2, unF, op1, varF, cF, nilD, nilF, bd, bs, frz, dr, fin, dat, setN, pin_0, pin_s, np_im, np_un, np_ow, iteS, tstF, blO, nxS, dropS, mutF, mutO, thaw, tupF, lstF, tupD, lstD, andF, orF, notF, andV, orV, notV, ifF, tgS, tupU, consT, nameT, nilT, parS, slF, noO, parO, intO, slO, isnD, unS, out, retV, negD, subD, intD, unF, op1, truF, truO, tru, parN, consL, addL, nilL, parM, setL, slOf, nrm, two, ltD, gtD, leD, geD, clKF, g, sizeLine_eq, B1, B2, n1, n2]

theorem t_h0 {ns : List Int} {k : Nat} {c : Int × Int × Int} {a2 a3 a4 a5 a6 a7 a8 a9 a10 a11 : Sl} (e : ∀ ρ, foE 2 m_law_box [li ns, .int (k : Int)] ρ = .ok (.fr (bx c)) ρ) (n2 : np a2 = false) : h_0 [.im (li ns), .im (.int (k : Int)), a2, a3, a4, a5, a6, a7, a8, a9, a10, a11, .un] = .nx [.im (li ns), .im (.int (k : Int)), .ow false (bx c), a3, a4, a5, a6, a7, a8, a9, a10, a11, .un] := by
  simp [h_0, retS, seqS, asgS, clF, clI, clKF, isOw, consD, consF, callF, call1, drs, opF, op2, unF, op1, varF, cF, nilD, nilF, bd, bs, frz, dr, fin, dat, setN, pin_0, pin_s, np_im, np_un, np_ow, iteS, tstF, blO, nxS, dropS, mutF, mutO, thaw, tupF, lstF, tupD, lstD, andF, orF, notF, andV, orV, notV, ifF, tgS, tupU, consT, nameT, nilT, parS, slF, noO, parO, intO, slO, isnD, unS, out, retV, negD, subD, intD, unF, op1, truF, truO, tru, parN, consL, addL, nilL, parM, setL, slOf, nrm, two, ltD, gtD, leD, geD, e, n2]

theorem t_h1 {ns : List Int} {c : Int × Int × Int} (h : Bx 0 c) {a1 a3 a4 a5 a6 a7 a8 a9 a10 a11 : Sl} (n3 : np a3 = false) (n4 : np a4 = false) (n5 : np a5 = false) : ∃ b m y c', Gt 9 b ∧ Gt 9 m ∧ Gt 9 y ∧ Bx 26 c' ∧ h_1 [.im (li ns), a1, .ow false (bx c), a3, a4, a5, a6, a7, a8, a9, a10, a11, .un] = .nx [.im (li ns), a1, (.ow false (bx c')), .im (ti b), .im (ti m), .im (ti y), a6, a7, a8, a9, a10, a11, .un] := by
  obtain ⟨d0, d1⟩ := dig_b c (show (0 : Int) < 3 by decide)
  obtain ⟨b, m, y, c', gb, gm, gy, hb, e⟩ := v_three (box_ok h (show (0 : Int) < 3 by decide)) (by decide) (letters := 1 + dig c 3) (by omega) (by omega)
  refine ⟨b, m, y, c', gb, gm, gy, hb, ?_⟩
  have t := @v_take 0 c h (by decide) 3 (by decide) (by decide) [.im (li ns), a1, .ow false (bx c), a3, a4, a5, a6, a7, a8, a9, a10, a11, .un] 2 false rfl
  have e2 := e [.im (li ns), a1, .ow false (bx (box c 3)), a3, a4, a5, a6, a7, a8, a9, a10, a11, .un] 2 false rfl
  simp [h_1, retS, seqS, asgS, clF, clI, clKF, isOw, consD, consF, callF, call1, drs, opF, op2, unF, op1, varF, cF, nilD, nilF, bd, bs, frz, dr, fin, dat, setN, pin_0, pin_s, np_im, np_un, np_ow, iteS, tstF, blO, nxS, dropS, mutF, mutO, thaw, tupF, lstF, tupD, lstD, andF, orF, notF, andV, orV, notV, ifF, tgS, tupU, consT, nameT, nilT, parS, slF, noO, parO, intO, slO, isnD, unS, out, retV, negD, subD, intD, unF, op1, truF, truO, tru, parN, consL, addL, nilL, parM, setL, slOf, nrm, two, ltD, gtD, leD, geD, t, addD, e2, n3, n4, n5]

theorem cl_of {n : Nat} {m : List Sl → Fo} {F : Rho → Ou (List D)} {ρ ρ' : Rho} {ds : List D} {z : Ou Rs} (h : F ρ = .ok ds ρ') (e : foE n m ds ρ' = z) : clF n m F ρ = z := by
  unfold clF
  rw [h]
  exact e
theorem t_h2 {ns b m y : List Int} (gb : Gt 9 b) (gm : Gt 9 m) (gy : Gt 9 y) {a1 a2 a6 a7 a8 a9 a10 a11 : Sl} (n6 : np a6 = false) (n7 : np a7 = false) : h_2 [.im (li ns), a1, a2, .im (ti b), .im (ti m), .im (ti y), a6, a7, a8, a9, a10, a11, .un] = .nx [.im (li ns), a1, a2, .im (ti b), .im (ti m), .im (ti y), .im (.list (kD b m y)), .im (.list (List.replicate (K b m y).length (oD (M b m y)))), a8, a9, a10, a11, .un] := by
  have e := v_law_cuts (b := b) (m := m) (y := y) (by have := gb.len; omega) (by have := gm.len; omega) (by have := gy.len; omega)
  have g : clF 3 m_law_cuts (consD (varF 3) (consD (varF 4) (consD (varF 5) nilD))) [.im (li ns), a1, a2, .im (ti b), .im (ti m), .im (ti y), a6, a7, a8, a9, a10, a11, .un] = .ok (.im (.tuple [.list (kD b m y), .list (List.replicate (K b m y).length (oD (M b m y)))])) [.im (li ns), a1, a2, .im (ti b), .im (ti m), .im (ti y), a6, a7, a8, a9, a10, a11, .un] := cl_of (ds := [ti b, ti m, ti y]) (by simp [consD, varF, nilD, bd, frz, dat]) (e _)
  unfold h_2 tgS
  rw [g]
  clear g e
  generalize PyData.list (kD b m y) = X
  generalize PyData.list (List.replicate (K b m y).length (oD (M b m y))) = Y
  simp [frz, bd, dat, bs, tupU, consT, nameT, nilT, pin_0, pin_s, n6, n7]
theorem t_h3 {ns b m y : List Int} (gb : Gt 9 b) (gm : Gt 9 m) (gy : Gt 9 y) {a1 a2 a6 a7 a8 a9 a10 a11 : Sl} (n8 : np a8 = false) : h_3 [.im (li ns), a1, a2, .im (ti b), .im (ti m), .im (ti y), a6, a7, a8, a9, a10, a11, .un] = .nx [.im (li ns), a1, a2, .im (ti b), .im (ti m), .im (ti y), a6, a7, .im (oD (M b m y)), a9, a10, a11, .un] := by
  have e : ∀ ρ, foE 1 m_law_text [.list [ti m, ti b, ti y]] ρ = .ok (.im (oD (M b m y))) ρ := v_law_text m b y (by have := gb.len; have := gm.len; have := gy.len; omega)
  simp [h_3, retS, seqS, asgS, clF, clI, clKF, isOw, consD, consF, callF, call1, drs, opF, op2, unF, op1, varF, cF, nilD, nilF, bd, bs, frz, dr, fin, dat, setN, pin_0, pin_s, np_im, np_un, np_ow, iteS, tstF, blO, nxS, dropS, mutF, mutO, thaw, tupF, lstF, tupD, lstD, andF, orF, notF, andV, orV, notV, ifF, tgS, tupU, consT, nameT, nilT, parS, slF, noO, parO, intO, slO, isnD, unS, out, retV, negD, subD, intD, unF, op1, truF, truO, tru, parN, consL, addL, nilL, parM, setL, slOf, nrm, two, ltD, gtD, leD, geD, sizeLine_eq, e, n8]

theorem k_small {b m y : List Int} (gb : Gt 9 b) (gm : Gt 9 m) (gy : Gt 9 y) : ∀ i ∈ K b m y, i ≤ 100 := by
  intro i hi
  unfold K at hi
  rw [List.mem_range'_1] at hi
  have := (lcp_le b y).1
  have := gb.len
  omega
theorem k_len {b m y : List Int} (gb : Gt 9 b) (gm : Gt 9 m) (gy : Gt 9 y) : (K b m y).length ≤ 100 := by
  unfold K
  rw [List.length_range']
  have := (lcp_le b y).1
  have := gb.len
  omega
theorem kD_rp {b m y : List Int} (gb : Gt 9 b) (gm : Gt 9 m) (gy : Gt 9 y) : ∃ x, reprD [.tuple (kD b m y)] = some (.im (.str x)) := by
  have := rp_tup (k := 0) (W := 40) (ds := kD b m y) fun d hd => by
    obtain ⟨i, hi, rfl⟩ := List.mem_map.mp hd
    have := k_small gb gm gy i hi
    exact rp_int (by show ((i : Int)).natAbs < 10 ^ 12; omega)
  have hl := k_len gb gm gy
  obtain ⟨x, hx⟩ := shw_tup this (by decide) (by unfold kD; rw [List.length_map]; omega)
  exact ⟨x, reprD_of hx⟩
theorem lay_oD (t : Option (List Int)) : SeqAt.shaped (oD t) = true := by
  cases t with
  | none => decide +kernel
  | some x => exact shaped_dt (α := Tup Int) (by decide) ⟨x⟩
theorem M_rp {b m y : List Int} (gb : Gt 9 b) (gm : Gt 9 m) (gy : Gt 9 y) : ∃ x, reprD [oD (M b m y)] = some (.im (.str x)) := oD_rp3 (n := 18) (by decide) fun x hx => M_ok (T9 gm) (T9 gy) hx
theorem kD_li (b m y : List Int) : PyData.list (kD b m y) = li ((K b m y).map fun (i : Nat) => (i : Int)) := by
  unfold kD li
  rw [List.map_map]
  rfl
theorem eqD_li (x y : List Int) : eqD (li x) (li y) = some (.im (.bool (decide (x = y)))) := (eqD_dt (α := List Int) (by decide) x y).trans (by simp)
theorem neD_li (x y : List Int) : neD (li x) (li y) = some (.im (.bool (!decide (x = y)))) := (neD_dt (α := List Int) (by decide) x y).trans (by simp)
theorem K_nil {b m y : List Int} : K b m y = [] ↔ M b m y = none := by
  rw [M_none_iff]
  unfold K
  rw [← List.length_eq_zero_iff, List.length_range']
  omega
theorem t_h4 {ns b m y : List Int} (gb : Gt 9 b) (gm : Gt 9 m) (gy : Gt 9 y) {a1 a2 a9 a10 a11 : Sl} : h_4 [.im (li ns), a1, a2, .im (ti b), .im (ti m), .im (ti y), .im (.list (kD b m y)), .im (.list (List.replicate (K b m y).length (oD (M b m y)))), .im (oD (M b m y)), a9, a10, a11, .un] = .nx [.im (li ns), a1, a2, .im (ti b), .im (ti m), .im (ti y), .im (.list (kD b m y)), .im (.list (List.replicate (K b m y).length (oD (M b m y)))), .im (oD (M b m y)), a9, a10, a11, .un] := by
  obtain ⟨x, hx⟩ := kD_rp gb gm gy
  have e := v_merge_cuts (isT_ti gb.lt) (isT_li gm.lt) (isT_ti gy.lt) (by have := gb.len; omega) (by have := gm.len; omega) (by have := gy.len; omega)
  have nn := neD_same (lay_oD (M b m y))
  have n0 : neD (.list []) (.list []) = some (.im (.bool false)) := neD_wl [] []
  have F : lcF (seqI (varF 7)) (nameT 12) (tstF (opF neD (varF 12) (varF 8))) (varF 12) [12] [.im (li ns), a1, a2, .im (ti b), .im (ti m), .im (ti y), .im (.list (kD b m y)), .im (.list (List.replicate (K b m y).length (oD (M b m y)))), .im (oD (M b m y)), a9, a10, a11, .un] = .ok (.fr []) [.im (li ns), a1, a2, .im (ti b), .im (ti m), .im (ti y), .im (.list (kD b m y)), .im (.list (List.replicate (K b m y).length (oD (M b m y)))), .im (oD (M b m y)), a9, a10, a11, .un] := by
    have I : seqI (varF 7) [.im (li ns), a1, a2, .im (ti b), .im (ti m), .im (ti y), .im (.list (kD b m y)), .im (.list (List.replicate (K b m y).length (oD (M b m y)))), .im (oD (M b m y)), a9, a10, a11, .un] = .ok (List.replicate (K b m y).length (oD (M b m y))) [.im (li ns), a1, a2, .im (ti b), .im (ti m), .im (ti y), .im (.list (kD b m y)), .im (.list (List.replicate (K b m y).length (oD (M b m y)))), .im (oD (M b m y)), a9, a10, a11, .un] := by
      generalize List.replicate (K b m y).length (oD (M b m y)) = Y
      simp [seqI, varF, bd, frz, dat, itD]
    unfold lcF
    rw [I, bd_ok, if_pos (show plainAt _ _ = true from rfl)]
    have ww : wipeR [.im (li ns), a1, a2, .im (ti b), .im (ti m), .im (ti y), .im (.list (kD b m y)), .im (.list (List.replicate (K b m y).length (oD (M b m y)))), .im (oD (M b m y)), a9, a10, a11, .un] [12] = [.im (li ns), a1, a2, .im (ti b), .im (ti m), .im (ti y), .im (.list (kD b m y)), .im (.list (List.replicate (K b m y).length (oD (M b m y)))), .im (oD (M b m y)), a9, a10, a11, .un] := rfl
    rw [ww, lcL_no _ [] fun z hz => ?_]
    · rfl
    · rw [List.eq_of_mem_replicate hz]
      refine ⟨[.im (li ns), a1, a2, .im (ti b), .im (ti m), .im (ti y), .im (.list (kD b m y)), .im (.list (List.replicate (K b m y).length (oD (M b m y)))), .im (oD (M b m y)), a9, a10, a11, .im (oD (M b m y))], [.im (li ns), a1, a2, .im (ti b), .im (ti m), .im (ti y), .im (.list (kD b m y)), .im (.list (List.replicate (K b m y).length (oD (M b m y)))), .im (oD (M b m y)), a9, a10, a11, .im (oD (M b m y))], rfl, ?_, rfl, rfl⟩
      generalize oD (M b m y) = Z at *
      simp [retS, seqS, asgS, clF, clI, clKF, isOw, consD, consF, callF, call1, drs, opF, op2, unF, op1, varF, cF, nilD, nilF, bd, bs, frz, dr, fin, dat, setN, pin_0, pin_s, np_im, np_un, np_ow, iteS, tstF, blO, nxS, dropS, mutF, mutO, thaw, tupF, lstF, tupD, lstD, andF, orF, notF, andV, orV, notV, ifF, tgS, tupU, consT, nameT, nilT, parS, slF, noO, parO, intO, slO, isnD, unS, out, retV, negD, subD, intD, unF, op1, truF, truO, tru, parN, consL, addL, nilL, parM, setL, slOf, nrm, two, ltD, gtD, leD, geD, nn]
  unfold li at e
  have A : tstF (opF neSD (callF reprD (consF (clF 3 m_merge_cuts (consD (varF 3) (consD (callF listD (consF (varF 4) nilF)) (consD (varF 5) nilD)))) nilF)) (callF reprD (consF (unF tupleD (varF 6)) nilF))) [.im (li ns), a1, a2, .im (ti b), .im (ti m), .im (ti y), .im (.list (kD b m y)), .im (.list (List.replicate (K b m y).length (oD (M b m y)))), .im (oD (M b m y)), a9, a10, a11, .un] = .ok false [.im (li ns), a1, a2, .im (ti b), .im (ti m), .im (ti y), .im (.list (kD b m y)), .im (.list (List.replicate (K b m y).length (oD (M b m y)))), .im (oD (M b m y)), a9, a10, a11, .un] := by
    generalize kD b m y = X at *
    simp [retS, seqS, asgS, clF, clI, clKF, isOw, consD, consF, callF, call1, drs, opF, op2, unF, op1, varF, cF, nilD, nilF, bd, bs, frz, dr, fin, dat, setN, pin_0, pin_s, np_im, np_un, np_ow, iteS, tstF, blO, nxS, dropS, mutF, mutO, thaw, tupF, lstF, tupD, lstD, andF, orF, notF, andV, orV, notV, ifF, tgS, tupU, consT, nameT, nilT, parS, slF, noO, parO, intO, slO, isnD, unS, out, retV, negD, subD, intD, unF, op1, truF, truO, tru, parN, consL, addL, nilL, parM, setL, slOf, nrm, two, ltD, gtD, leD, geD, listD_ti, e, hx, tupleD, neSD_same]
  have Bb : tstF (opF neD (lcF (seqI (varF 7)) (nameT 12) (tstF (opF neD (varF 12) (varF 8))) (varF 12) [12]) (lstF nilD)) [.im (li ns), a1, a2, .im (ti b), .im (ti m), .im (ti y), .im (.list (kD b m y)), .im (.list (List.replicate (K b m y).length (oD (M b m y)))), .im (oD (M b m y)), a9, a10, a11, .un] = .ok false [.im (li ns), a1, a2, .im (ti b), .im (ti m), .im (ti y), .im (.list (kD b m y)), .im (.list (List.replicate (K b m y).length (oD (M b m y)))), .im (oD (M b m y)), a9, a10, a11, .un] := by
    simp only [tstF, opF, F, bd_ok, frz, lstF, nilD, lstD, List.length_nil, Nat.zero_le, if_true, op2, dr, n0, fin, blO]
  unfold h_4
  exact ite_f (by
    unfold orF
    rw [A, bd_ok, if_neg Bool.false_ne_true, Bb])
theorem t_h5 {ns b m y : List Int} (gb : Gt 9 b) (gm : Gt 9 m) (gy : Gt 9 y) {a1 a2 a7 a9 a10 a11 : Sl} : h_5 [.im (li ns), a1, a2, .im (ti b), .im (ti m), .im (ti y), .im (.list (kD b m y)), a7, .im (oD (M b m y)), a9, a10, a11, .un] = .nx [.im (li ns), a1, a2, .im (ti b), .im (ti m), .im (ti y), .im (.list (kD b m y)), a7, .im (oD (M b m y)), a9, a10, a11, .un] := by
  obtain ⟨x, hx⟩ := M_rp gb gm gy
  have e := v_mt (isT_li gb.lt) (isT_ti gm.lt) (isT_li gy.lt) (by have := gb.len; omega) (by have := gm.len; omega) (by have := gy.len; omega)
  have q : eqD (.list (kD b m y)) (.list []) = some (.im (.bool (decide (M b m y = none)))) := by
    rw [kD_li]
    have : PyData.list [] = li [] := rfl
    rw [this, eqD_li]
    refine congrArg (fun z => some (Rs.im (.bool z))) (decide_eq_decide.mpr ?_)
    rw [List.map_eq_nil_iff, K_nil]
  have i : isNon (oD (M b m y)) = decide (M b m y = none) := by
    cases M b m y with
    | none => rfl
    | some x => rfl
  have bb : ∀ z : Bool, neD (.bool z) (.bool z) = some (.im (.bool false)) := fun z => neD_same (by cases z <;> decide +kernel)
  unfold li at e
  unfold h_5
  generalize kD b m y = X at *
  generalize decide (M b m y = none) = z at *
  generalize oD (M b m y) = Z at *
  simp [retS, seqS, asgS, clF, clI, clKF, isOw, consD, consF, callF, call1, drs, opF, op2, unF, op1, varF, cF, nilD, nilF, bd, bs, frz, dr, fin, dat, setN, pin_0, pin_s, np_im, np_un, np_ow, iteS, tstF, blO, nxS, dropS, mutF, mutO, thaw, tupF, lstF, tupD, lstD, andF, orF, notF, andV, orV, notV, ifF, tgS, tupU, consT, nameT, nilT, parS, slF, noO, parO, intO, slO, isnD, unS, out, retV, negD, subD, intD, unF, op1, truF, truO, tru, parN, consL, addL, nilL, parM, setL, slOf, nrm, two, ltD, gtD, leD, geD, listD_ti, e, hx, neSD_same, i, q, bb]
theorem t_h6 {ns b m y : List Int} (gb : Gt 9 b) (gm : Gt 9 m) (gy : Gt 9 y) {a1 a2 a6 a7 a8 a9 a10 a11 : Sl} : h_6 [.im (li ns), a1, a2, .im (ti b), .im (ti m), .im (ti y), a6, a7, a8, a9, a10, a11, .un] = .nx [.im (li ns), a1, a2, .im (ti b), .im (ti m), .im (ti y), a6, a7, a8, a9, a10, a11, .un] := by
  have bl := gb.len
  have ml := gm.len
  have yl := gy.len
  have e1 := v_merge_word (isT_ti gb.lt) (isT_ti gm.lt) (isT_ti gy.lt) (by rw [sizeLine_eq]; omega)
  have e2 := v_law_word m b y (by rw [sizeLine_eq]; omega)
  obtain ⟨x, hx⟩ : ∃ x, shw (wt (strike (pl m ++ mi b ++ pl y))) = some x := by
    have hl := run_len (pl m ++ mi b ++ pl y) []
    refine shw_wt (fun p hp => ?_) ?_
    · have sub : ∀ (w st : Wd), ∀ p ∈ w.foldl push st, p ∈ st ∨ p ∈ w := by
        intro w
        induction w with
        | nil => intro st p hp; exact .inl hp
        | cons q w ih =>
          intro st p hp
          rcases ih (push st q) p hp with h1 | h1
          · unfold push at h1
            split at h1
            · simp at h1; subst h1; exact .inr List.mem_cons_self
            · split at h1
              · exact .inl (List.mem_cons_of_mem _ h1)
              · rcases List.mem_cons.mp h1 with h2 | h2
                · subst h2; exact .inr List.mem_cons_self
                · exact .inl h2
          · exact .inr (List.mem_cons_of_mem _ h1)
      unfold strike at hp
      rw [List.mem_reverse] at hp
      rcases sub _ _ p hp with h1 | h1
      · cases h1
      · have sm : ∀ z : Int, z = 3 ∨ z = 47 ∨ z = 99 → Sm z := by
          rintro z (rfl | rfl | rfl) <;> (show Int.natAbs _ < 10 ^ 12; decide)
        simp only [pl, mi, List.mem_append, List.mem_map, List.mem_reverse] at h1
        rcases h1 with (⟨z, hz, rfl⟩ | ⟨z, hz, rfl⟩) | ⟨z, hz, rfl⟩
        · exact ⟨sm z (gm.let_ z hz), by show Int.natAbs (1 : Int) < 10 ^ 12; decide⟩
        · exact ⟨sm z (gb.let_ z hz), by show Int.natAbs (-1 : Int) < 10 ^ 12; decide⟩
        · exact ⟨sm z (gy.let_ z hz), by show Int.natAbs (1 : Int) < 10 ^ 12; decide⟩
    · unfold strike
      rw [List.length_reverse]
      simp [pl, mi] at hl ⊢
      omega
  have r := reprD_of hx
  have g : ∀ u v w : D, gP [2, 1, 0] 0 3 ([] : List D) [u, v, w] = [w, v, u] := fun _ _ _ => rfl
  unfold h_6
  generalize wt (strike (pl m ++ mi b ++ pl y)) = Z at *
  simp [retS, seqS, asgS, clF, clI, clKF, isOw, consD, consF, callF, call1, drs, opF, op2, unF, op1, varF, cF, nilD, nilF, bd, bs, frz, dr, fin, dat, setN, pin_0, pin_s, np_im, np_un, np_ow, iteS, tstF, blO, nxS, dropS, mutF, mutO, thaw, tupF, lstF, tupD, lstD, andF, orF, notF, andV, orV, notV, ifF, tgS, tupU, consT, nameT, nilT, parS, slF, noO, parO, intO, slO, isnD, unS, out, retV, negD, subD, intD, unF, op1, truF, truO, tru, parN, consL, addL, nilL, parM, setL, slOf, nrm, two, ltD, gtD, leD, geD, sizeLine_eq, clKF, g, e1, e2, r, neSD_same]
theorem t_h7 {ns b m y : List Int} (gb : Gt 9 b) (gm : Gt 9 m) (gy : Gt 9 y) {a1 a2 a3 a4 a5 a7 a8 a9 a10 a11 : Sl} : h_7 [.im (li ns), a1, a2, a3, a4, a5, .im (.list (kD b m y)), a7, a8, a9, a10, a11, .un] = .nx [.im (li ns), a1, a2, a3, a4, a5, .im (.list (kD b m y)), a7, a8, a9, a10, a11, .un] := by
  have l1 := lcs_le b m
  have l2 := lcp_le b y
  have bl := gb.len
  have en : PyData.list [] = li [] := rfl
  by_cases h : K b m y = []
  · have n1 : neD (.list (kD b m y)) (.list []) = some (.im (.bool false)) := by
      rw [kD_li, en, neD_li, h]
      rfl
    unfold h_7
    generalize kD b m y = X at *
    simp [retS, seqS, asgS, clF, clI, clKF, isOw, consD, consF, callF, call1, drs, opF, op2, unF, op1, varF, cF, nilD, nilF, bd, bs, frz, dr, fin, dat, setN, pin_0, pin_s, np_im, np_un, np_ow, iteS, tstF, blO, nxS, dropS, mutF, mutO, thaw, tupF, lstF, tupD, lstD, andF, orF, notF, andV, orV, notV, ifF, tgS, tupU, consT, nameT, nilT, parS, slF, noO, parO, intO, slO, isnD, unS, out, retV, negD, subD, intD, unF, op1, truF, truO, tru, parN, consL, addL, nilL, parM, setL, slOf, nrm, two, ltD, gtD, leD, geD, n1]
  · have hle : least b m ≤ lcp b y := by
      have h2 : ¬ (K b m y).length = 0 := fun z => h (List.length_eq_zero_iff.mp z)
      unfold K at h2
      rw [List.length_range'] at h2
      omega
    have n1 : neD (.list (kD b m y)) (.list []) = some (.im (.bool true)) := by
      rw [kD_li, en, neD_li, decide_eq_false (by rw [List.map_eq_nil_iff]; exact h)]
      rfl
    have x0 : ixD (.list (kD b m y)) (.int 0) = some (.im (.int (least b m : Nat))) := by
      unfold kD K
      rw [show lcp b y + 1 - least b m = (lcp b y - least b m) + 1 by omega, List.range'_succ, List.map_cons]
      exact ixD_l (i := 0) rfl
    have x1 : ixD (.list (kD b m y)) (.int (-1)) = some (.im (.int (lcp b y : Nat))) := by
      unfold kD K
      rw [show lcp b y + 1 - least b m = (lcp b y - least b m) + 1 by omega, List.range'_concat, List.map_append]
      have : least b m + 1 * (lcp b y - least b m) = lcp b y := by omega
      rw [this]
      exact ixD_last _ _
    have rk := rng_K b m y
    have nn : neD (.list (kD b m y)) (.list (kD b m y)) = some (.im (.bool false)) := by
      rw [kD_li]
      exact neD_same (shaped_dt (α := List Int) (by decide) _)
    have ok : rgB (least b m : Nat) ((lcp b y : Nat) + 1) = true := by
      unfold rgB least
      simp only [Bool.and_eq_true, decide_eq_true_eq]
      omega
    unfold h_7
    generalize kD b m y = X at *
    simp [retS, seqS, asgS, clF, clI, clKF, isOw, consD, consF, callF, call1, drs, opF, op2, unF, op1, varF, cF, nilD, nilF, bd, bs, frz, dr, fin, dat, setN, pin_0, pin_s, np_im, np_un, np_ow, iteS, tstF, blO, nxS, dropS, mutF, mutO, thaw, tupF, lstF, tupD, lstD, andF, orF, notF, andV, orV, notV, ifF, tgS, tupU, consT, nameT, nilT, parS, slF, noO, parO, intO, slO, isnD, unS, out, retV, negD, subD, intD, unF, op1, truF, truO, tru, parN, consL, addL, nilL, parM, setL, slOf, nrm, two, ltD, gtD, leD, geD, rgL2F, rgL2, addD, n1, x0, x1, ok, rk, nn]
theorem t_h8 {ns b m y : List Int} (gb : Gt 9 b) (gm : Gt 9 m) (gy : Gt 9 y) {a1 a2 a6 a7 a8 a9 a10 a11 : Sl} : h_8 [.im (li ns), a1, a2, .im (ti b), .im (ti m), .im (ti y), a6, a7, a8, a9, a10, a11, .un] = .nx [.im (li ns), a1, a2, .im (ti b), .im (ti m), .im (ti y), a6, a7, a8, a9, a10, a11, .un] := by
  have e1 := v_mt (isT_ti gb.lt) (isT_ti gb.lt) (isT_ti gy.lt) (by have := gb.len; omega) (by have := gb.len; omega) (by have := gy.len; omega)
  have e2 := v_mt (isT_ti gb.lt) (isT_ti gm.lt) (isT_ti gb.lt) (by have := gb.len; omega) (by have := gm.len; omega) (by have := gb.len; omega)
  have m1 : M b b y = some y := cut_M ⟨[], b, [], y, rfl, rfl, rfl, rfl⟩
  have m2 : M b m b = some m := cut_M ⟨b, [], m, [], by simp, by simp, by simp, by simp⟩
  rw [m1] at e1
  rw [m2] at e2
  have n1 : neD (ti y) (ti y) = some (.im (.bool false)) := (neD_ti _ _).trans (by simp)
  have n2 : neD (ti m) (ti m) = some (.im (.bool false)) := (neD_ti _ _).trans (by simp)
  simp [h_8, retS, seqS, asgS, clF, clI, clKF, isOw, consD, consF, callF, call1, drs, opF, op2, unF, op1, varF, cF, nilD, nilF, bd, bs, frz, dr, fin, dat, setN, pin_0, pin_s, np_im, np_un, np_ow, iteS, tstF, blO, nxS, dropS, mutF, mutO, thaw, tupF, lstF, tupD, lstD, andF, orF, notF, andV, orV, notV, ifF, tgS, tupU, consT, nameT, nilT, parS, slF, noO, parO, intO, slO, isnD, unS, out, retV, negD, subD, intD, unF, op1, truF, truO, tru, parN, consL, addL, nilL, parM, setL, slOf, nrm, two, ltD, gtD, leD, geD, e1, e2, oD, n1, n2]
theorem t_h11 {ns b m y : List Int} (gb : Gt 9 b) (gm : Gt 9 m) (gy : Gt 9 y) {a1 a2 a6 a7 a9 a10 a11 : Sl} : h_11 [.im (li ns), a1, a2, .im (ti b), .im (ti m), .im (ti y), a6, a7, .im (oD (M b m y)), a9, a10, a11, .un] = .nx [.im (li ns), a1, a2, .im (ti b), .im (ti m), .im (ti y), a6, a7, .im (oD (M b m y)), a9, a10, a11, .un] := by
  obtain ⟨x, hx⟩ := M_rp gb gm gy
  have e := v_mt (isT_ti gb.lt) (isT_ti gm.lt) (isT_ti gy.lt) (by have := gb.len; omega) (by have := gm.len; omega) (by have := gy.len; omega)
  unfold h_11
  generalize oD (M b m y) = Z at *
  simp [retS, seqS, asgS, clF, clI, clKF, isOw, consD, consF, callF, call1, drs, opF, op2, unF, op1, varF, cF, nilD, nilF, bd, bs, frz, dr, fin, dat, setN, pin_0, pin_s, np_im, np_un, np_ow, iteS, tstF, blO, nxS, dropS, mutF, mutO, thaw, tupF, lstF, tupD, lstD, andF, orF, notF, andV, orV, notV, ifF, tgS, tupU, consT, nameT, nilT, parS, slF, noO, parO, intO, slO, isnD, unS, out, retV, negD, subD, intD, unF, op1, truF, truO, tru, parN, consL, addL, nilL, parM, setL, slOf, nrm, two, ltD, gtD, leD, geD, e, hx, neSD_same]

abbrev wrongs6 : List D := [.none, .int 3, .str "ab", .tuple [.int 100], .list [.int 0, .none], .tuple [.int (-1)], .tuple [.bool true], .tuple [.tuple [.int 0]]]
theorem wrong_no {d : D} (h : d ∈ wrongs6) : textOf d = .none := by
  simp only [wrongs6, List.mem_cons, List.not_mem_nil, or_false] at h
  rcases h with rfl | rfl | rfl | rfl | rfl | rfl | rfl | rfl <;> rfl
theorem t_h9 {ns : List Int} {n : Nat} {c : Int × Int × Int} (h : Bx n c) (hn : n < 900) {a1 a3 a4 a5 a6 a7 a8 a9 a10 a11 : Sl} (n9 : np a9 = false) : ∃ d c', d ∈ wrongs6 ∧ h_9 [.im (li ns), a1, .ow false (bx c), a3, a4, a5, a6, a7, a8, a9, a10, a11, .un] = .nx [.im (li ns), a1, (.ow false (bx c')), a3, a4, a5, a6, a7, a8, .im d, a10, a11, .un] := by
  obtain ⟨d, c', hd, b, e⟩ := v_pick h (by omega) (es := wrongs6) (by decide) (by decide)
  refine ⟨d, c', hd, ?_⟩
  have e2 := e [.im (li ns), a1, .ow false (bx c), a3, a4, a5, a6, a7, a8, a9, a10, a11, .un] 2 false rfl
  unfold wrongs6 at e2
  simp [h_9, retS, seqS, asgS, clF, clI, clKF, isOw, consD, consF, callF, call1, drs, opF, op2, unF, op1, varF, cF, nilD, nilF, bd, bs, frz, dr, fin, dat, setN, pin_0, pin_s, np_im, np_un, np_ow, iteS, tstF, blO, nxS, dropS, mutF, mutO, thaw, tupF, lstF, tupD, lstD, andF, orF, notF, andV, orV, notV, ifF, tgS, tupU, consT, nameT, nilT, parS, slF, noO, parO, intO, slO, isnD, unS, out, retV, negD, subD, intD, unF, op1, truF, truO, tru, parN, consL, addL, nilL, parM, setL, slOf, nrm, two, ltD, gtD, leD, geD, sizeLine_eq, e2, n9]

theorem t_v {ns b m : List Int} (gb : Gt 9 b) (gm : Gt 9 m) {d : D} (hd : d ∈ wrongs6) (j : Nat) (hj : j < 3) {a1 a2 a5 a6 a7 a8 a11 : Sl} (n11 : np a11 = false) : ∃ b11, np b11 = false ∧ v_S [.im (li ns), a1, a2, .im (ti b), .im (ti m), a5, a6, a7, a8, .im d, .fv j, a11, .un] = .nx [.im (li ns), a1, a2, .im (ti b), .im (ti m), a5, a6, a7, a8, .im d, .fv j, b11, .un] := by
  have w := wrong_no hd
  have r1 := v_refused (d := d) (e := d) (f := .none) (k := 0) j hj (v_need_three1 w)
  have r2 := v_refused (d := ti b) (e := d) (f := d) (k := 1) j hj (v_need_three2 (isT_ti gb.lt) w)
  have r3 := v_refused (d := ti b) (e := ti m) (f := d) (k := 2) j hj (v_need_three3 (isT_ti gb.lt) (isT_ti gm.lt) w)
  have nn : neD (.list [.int 0, .int 1, .int 2]) (.list [.int 0, .int 1, .int 2]) = some (.im (.bool false)) := neD_same (by decide +kernel)
  refine ⟨.ow false [.int 0, .int 1, .int 2], rfl, ?_⟩
  simp [v_S, retS, seqS, asgS, clF, clI, clKF, isOw, consD, consF, callF, call1, drs, opF, op2, unF, op1, varF, cF, nilD, nilF, bd, bs, frz, dr, fin, dat, setN, pin_0, pin_s, np_im, np_un, np_ow, iteS, tstF, blO, nxS, dropS, mutF, mutO, thaw, tupF, lstF, tupD, lstD, andF, orF, notF, andV, orV, notV, ifF, tgS, tupU, consT, nameT, nilT, parS, slF, noO, parO, intO, slO, isnD, unS, out, retV, negD, subD, intD, unF, op1, truF, truO, tru, parN, consL, addL, nilL, parM, setL, slOf, nrm, two, ltD, gtD, leD, geD, clVv, sizeLine_eq, r1, r2, r3, nn, n11]
theorem t_h10 {ns b m : List Int} (gb : Gt 9 b) (gm : Gt 9 m) {d : D} (hd : d ∈ wrongs6) {a1 a2 a5 a6 a7 a8 a10 a11 : Sl} (n11 : np a11 = false) : ∃ b11, np b11 = false ∧ h_10 [.im (li ns), a1, a2, .im (ti b), .im (ti m), a5, a6, a7, a8, .im d, a10, a11, .un] = .nx [.im (li ns), a1, a2, .im (ti b), .im (ti m), a5, a6, a7, a8, .im d, .fv 2, b11, .un] := by
  obtain ⟨x0, m0, e0⟩ := t_v (ns := ns) gb gm hd 0 (by decide) (a1 := a1) (a2 := a2) (a5 := a5) (a6 := a6) (a7 := a7) (a8 := a8) n11
  obtain ⟨x1, m1, e1⟩ := t_v (ns := ns) gb gm hd 1 (by decide) (a1 := a1) (a2 := a2) (a5 := a5) (a6 := a6) (a7 := a7) (a8 := a8) m0
  obtain ⟨x2, m2, e2⟩ := t_v (ns := ns) gb gm hd 2 (by decide) (a1 := a1) (a2 := a2) (a5 := a5) (a6 := a6) (a7 := a7) (a8 := a8) m1
  refine ⟨x2, m2, ?_⟩
  have s0 : [.im (li ns), a1, a2, .im (ti b), .im (ti m), a5, a6, a7, a8, .im d, a10, a11, .un].set 10 (.fv 0) = [.im (li ns), a1, a2, .im (ti b), .im (ti m), a5, a6, a7, a8, .im d, .fv 0, a11, .un] := rfl
  have s1 : [.im (li ns), a1, a2, .im (ti b), .im (ti m), a5, a6, a7, a8, .im d, .fv 0, x0, .un].set 10 (.fv 1) = [.im (li ns), a1, a2, .im (ti b), .im (ti m), a5, a6, a7, a8, .im d, .fv 1, x0, .un] := rfl
  have s2 : [.im (li ns), a1, a2, .im (ti b), .im (ti m), a5, a6, a7, a8, .im d, .fv 1, x1, .un].set 10 (.fv 2) = [.im (li ns), a1, a2, .im (ti b), .im (ti m), a5, a6, a7, a8, .im d, .fv 2, x1, .un] := rfl
  show forVL 10 v_S [0, 1, 2] _ = _
  unfold forVL
  rw [s0, e0]
  dsimp only
  unfold forVL
  rw [s1, e1]
  dsimp only
  unfold forVL
  rw [s2, e2]
  rfl

/-- what a turn begins with -/
def Okr (ns : List Int) (ρ : Rho) : Prop := ∃ a1 a2 a3 a4 a5 a6 a7 a8 a9 a10 a11, ρ = [.im (li ns), a1, a2, a3, a4, a5, a6, a7, a8, a9, a10, a11, .un] ∧ np a1 = false ∧ np a2 = false ∧ np a3 = false ∧ np a4 = false ∧ np a5 = false ∧ np a6 = false ∧ np a7 = false ∧ np a8 = false ∧ np a9 = false ∧ np a10 = false ∧ np a11 = false

theorem t_body {ns : List Int} {k : Nat} (hk : k < 3) {ρ : Rho} (h : Okr ns ρ) : ∃ ρ1 ρ2, nameT 1 (.int (k : Int)) ρ = some ρ1 ∧ bodyS ρ1 = .nx ρ2 ∧ Okr ns ρ2 := by
  obtain ⟨a1, a2, a3, a4, a5, a6, a7, a8, a9, a10, a11, rfl, n1, n2, n3, n4, n5, n6, n7, n8, n9, n10, n11⟩ := h
  obtain ⟨c0, b0, e0⟩ := v_box ns k hk
  have q0 := t_h0 (ns := ns) (k := k) (a2 := a2) (a3 := a3) (a4 := a4) (a5 := a5) (a6 := a6) (a7 := a7) (a8 := a8) (a9 := a9) (a10 := a10) (a11 := a11) e0 n2
  obtain ⟨b, m, y, c1, gb, gm, gy, b1, q1⟩ := t_h1 (ns := ns) b0 (a1 := .im (.int (k : Int))) (a3 := a3) (a4 := a4) (a5 := a5) (a6 := a6) (a7 := a7) (a8 := a8) (a9 := a9) (a10 := a10) (a11 := a11) n3 n4 n5
  have q2 := t_h2 (ns := ns) gb gm gy (a1 := .im (.int (k : Int))) (a2 := .ow false (bx c1)) (a6 := a6) (a7 := a7) (a8 := a8) (a9 := a9) (a10 := a10) (a11 := a11) n6 n7
  have q3 := t_h3 (ns := ns) gb gm gy (a1 := .im (.int (k : Int))) (a2 := .ow false (bx c1)) (a6 := .im (.list (kD b m y))) (a7 := .im (.list (List.replicate (K b m y).length (oD (M b m y))))) (a8 := a8) (a9 := a9) (a10 := a10) (a11 := a11) n8
  have q4 := t_h4 (ns := ns) gb gm gy (a1 := .im (.int (k : Int))) (a2 := .ow false (bx c1)) (a9 := a9) (a10 := a10) (a11 := a11)
  have q5 := t_h5 (ns := ns) gb gm gy (a1 := .im (.int (k : Int))) (a2 := .ow false (bx c1)) (a7 := .im (.list (List.replicate (K b m y).length (oD (M b m y))))) (a9 := a9) (a10 := a10) (a11 := a11)
  have q6 := t_h6 (ns := ns) gb gm gy (a1 := .im (.int (k : Int))) (a2 := .ow false (bx c1)) (a6 := .im (.list (kD b m y))) (a7 := .im (.list (List.replicate (K b m y).length (oD (M b m y))))) (a8 := .im (oD (M b m y))) (a9 := a9) (a10 := a10) (a11 := a11)
  have q7 := t_h7 (ns := ns) gb gm gy (a1 := .im (.int (k : Int))) (a2 := .ow false (bx c1)) (a3 := .im (ti b)) (a4 := .im (ti m)) (a5 := .im (ti y)) (a7 := .im (.list (List.replicate (K b m y).length (oD (M b m y))))) (a8 := .im (oD (M b m y))) (a9 := a9) (a10 := a10) (a11 := a11)
  have q8 := t_h8 (ns := ns) gb gm gy (a1 := .im (.int (k : Int))) (a2 := .ow false (bx c1)) (a6 := .im (.list (kD b m y))) (a7 := .im (.list (List.replicate (K b m y).length (oD (M b m y))))) (a8 := .im (oD (M b m y))) (a9 := a9) (a10 := a10) (a11 := a11)
  obtain ⟨d, c9, hd, q9⟩ := t_h9 (ns := ns) b1 (by decide) (a1 := .im (.int (k : Int))) (a3 := .im (ti b)) (a4 := .im (ti m)) (a5 := .im (ti y)) (a6 := .im (.list (kD b m y))) (a7 := .im (.list (List.replicate (K b m y).length (oD (M b m y))))) (a8 := .im (oD (M b m y))) (a9 := a9) (a10 := a10) (a11 := a11) n9
  obtain ⟨x11, m11, q10⟩ := t_h10 (ns := ns) gb gm hd (a1 := .im (.int (k : Int))) (a2 := .ow false (bx c9)) (a5 := .im (ti y)) (a6 := .im (.list (kD b m y))) (a7 := .im (.list (List.replicate (K b m y).length (oD (M b m y))))) (a8 := .im (oD (M b m y))) (a10 := a10) (a11 := a11) n11
  have q11 := t_h11 (ns := ns) gb gm gy (a1 := .im (.int (k : Int))) (a2 := .ow false (bx c9)) (a6 := .im (.list (kD b m y))) (a7 := .im (.list (List.replicate (K b m y).length (oD (M b m y))))) (a9 := .im d) (a10 := .fv 2) (a11 := x11)
  refine ⟨[.im (li ns), .im (.int (k : Int)), a2, a3, a4, a5, a6, a7, a8, a9, a10, a11, .un], [.im (li ns), .im (.int (k : Int)), .ow false (bx c9), .im (ti b), .im (ti m), .im (ti y), .im (.list (kD b m y)), .im (.list (List.replicate (K b m y).length (oD (M b m y)))), .im (oD (M b m y)), .im d, .fv 2, x11, .un], by simp [nameT, pin_0, pin_s, n1], ?_, ?_⟩
  · unfold bodyS
    rw [seq_nx q0, seq_nx q1, seq_nx q2, seq_nx q3, seq_nx q4, seq_nx q5, seq_nx q6, seq_nx q7, seq_nx q8, seq_nx q9, seq_nx q10, q11]
  · exact ⟨_, _, _, _, _, _, _, _, _, _, _, rfl, rfl, rfl, rfl, rfl, rfl, rfl, rfl, rfl, rfl, rfl, m11⟩

theorem t_loop {ns : List Int} : ∀ (n s : Nat) (ρ : Rho), s + n ≤ 3 → Okr ns ρ → ∃ ρ', forL (nameT 1) bodyS (idx s n) ρ = .nx ρ'
  | 0, s, ρ, _, _ => ⟨ρ, rfl⟩
  | n + 1, s, ρ, hs, h => by
    obtain ⟨ρ1, ρ2, e1, e2, h2⟩ := t_body (k := s) (by omega) h
    obtain ⟨ρ', e⟩ := t_loop n (s + 1) ρ2 (by omega) h2
    refine ⟨ρ', ?_⟩
    rw [idx_succ, forL_cons e1, e2]
    exact e
theorem law_true (ns : List Int) : ∃ as, m_law [.im (li ns)] = .rt (.im (.bool true)) as := by
  have ok : Okr ns [.im (li ns), .un, .un, .un, .un, .un, .un, .un, .un, .un, .un, .un, .un] := ⟨.un, .un, .un, .un, .un, .un, .un, .un, .un, .un, .un, rfl, rfl, rfl, rfl, rfl, rfl, rfl, rfl, rfl, rfl, rfl, rfl⟩
  obtain ⟨ρ', e⟩ := t_loop 3 0 _ (by decide) ok
  have I : rng1I (cF (.int 3)) [.im (li ns), .un, .un, .un, .un, .un, .un, .un, .un, .un, .un, .un, .un] = .ok (idx 0 3) [.im (li ns), .un, .un, .un, .un, .un, .un, .un, .un, .un, .un, .un, .un] := rng1_of (n := 3) rfl (by decide)
  have G : G_law ([.im (li ns)] ++ unS 12) = .rt (.im (.bool true)) ρ' := by
    show seqS g_0 (seqS g_1 (seqS (forS (rng1I (cF (.int 3))) (nameT 1) bodyS) (retS (cF (.bool true))))) _ = _
    have z0 : g_0 ([.im (li ns)] ++ unS 12) = _ := t_g0 ns (unS 12)
    have z1 : g_1 (.im (li ns) :: unS 12) = _ := t_g1 ns (unS 12)
    rw [seq_nx z0, seq_nx z1]
    have z2 : forS (rng1I (cF (.int 3))) (nameT 1) bodyS (.im (li ns) :: unS 12) = .nx ρ' := (for_of I).trans e
    rw [seq_nx z2]
    rfl
  refine ⟨outA 1 ρ', ?_⟩
  unfold m_law mF
  rw [G]
  rfl
end K06
end VL

namespace VL
open PySem PySem.Spec PyProof.Rows L2
namespace K06
/-- an error of the class at C is one of the class at B -/
theorem kit_sub {K : PySem.W.Frag} {C B : Addr} (h2 : PySem.W.isClsIn K B = true) (h3 : PySem.W.typeIn K (.ref B) = some (.type "type")) (h4 : PySem.W.subIn K (.ref C) (.ref B) = some true) : PySem.W.kitOne K (.ref C) (.ref B) = some true := by
  have e2 : ((PySem.W.clsIn K B).isSome && PySem.W.typeIn K (.ref B) == some (.type "type")) = true := by
    have h2' : (PySem.W.clsIn K B).isSome = true := h2
    rw [h2', h3] <;> rfl
  unfold PySem.W.kitOne
  split
  · rfl
  · show (if ((PySem.W.clsIn K B).isSome && PySem.W.typeIn K (.ref B) == some (.type "type")) = true then PySem.W.subIn K (.ref C) (.ref B) else none) = some true
    rw [if_pos e2]
    exact h4
/-- an error of the class at S is what «except S» names -/
theorem exm_self {K : PySem.W.Frag} {S : Addr} (h1 : PySem.W.subIn K (.ref S) (.type "BaseException") = some true) (h2 : PySem.W.isClsIn K S = true) (h3 : PySem.W.typeIn K (.ref S) = some (.type "type")) (h4 : PySem.W.subIn K (.ref S) (.ref S) = some true) :
    PySem.W.exmOne K (.ref S) (.ref S) = some true := by
  have e1 : (PySem.W.subIn K (.ref S) (.type "BaseException") == some true) = true := by rw [h1] <;> rfl
  have e2 : ((PySem.W.clsIn K S).isSome && PySem.W.typeIn K (.ref S) == some (.type "type")) = true := by
    have h2' : (PySem.W.clsIn K S).isSome = true := h2
    rw [h2', h3] <;> rfl
  show (if (PySem.W.subIn K (.ref S) (.type "BaseException") == some true) = true then (if ((PySem.W.clsIn K S).isSome && PySem.W.typeIn K (.ref S) == some (.type "type")) = true then PySem.W.subIn K (.ref S) (.ref S) else none) else none) = some true
  rw [if_pos e1, if_pos e2]
  exact h4
theorem all_mk {P : Program} {w : World} {K : PySem.W.Frag} {h : Heap} {mg : Str → Option Value} {fa : Addr} (X : K.In h) (G : h.Ns mainGlobals mg) (hfa : mg "law" = some (.ref fa))
    {a_MergeError : Addr} {C0 B0 f0 : Addr} {nm0 q0 : Str} {N0 : Addr} {bs0 sub0 : List Value} {sn0 : List Str} {ab0 : Bool} {col0 : Option Bool} {dd0 od0 an0 : Option Addr} {y00 y01 y02 y03 y05 : Option Value} {osl0 : Array (Option Value)} {oc0 doc0 pm0 cdv0 ct0 : Value} {f_is_integer : Addr} {od_is_integer an_is_integer : Option Addr} {sl_is_integer : Array (Option Value)} {oc_is_integer kV_is_integer dc_is_integer pm_is_integer cd_is_integer ct_is_integer : Value} {f_is_number : Addr} {od_is_number an_is_number : Option Addr} {sl_is_number : Array (Option Value)} {oc_is_number kV_is_number dc_is_number pm_is_number cd_is_number ct_is_number : Value} {f_is_number_below : Addr} {od_is_number_below an_is_number_below : Option Addr} {sl_is_number_below : Array (Option Value)} {oc_is_number_below kV_is_number_below dc_is_number_below pm_is_number_below cd_is_number_below ct_is_number_below : Value} {f_is_sequence : Addr} {od_is_sequence an_is_sequence : Option Addr} {sl_is_sequence : Array (Option Value)} {oc_is_sequence kV_is_sequence dc_is_sequence pm_is_sequence cd_is_sequence ct_is_sequence : Value} {f_is_letter : Addr} {od_is_letter an_is_letter : Option Addr} {sl_is_letter : Array (Option Value)} {oc_is_letter kV_is_letter dc_is_letter pm_is_letter cd_is_letter ct_is_letter : Value} {f_text_or_none : Addr} {od_text_or_none an_text_or_none : Option Addr} {sl_text_or_none : Array (Option Value)} {oc_text_or_none kV_text_or_none dc_text_or_none pm_text_or_none cd_text_or_none ct_text_or_none : Value} {f_need_text : Addr} {od_need_text an_need_text : Option Addr} {sl_need_text : Array (Option Value)} {oc_need_text kV_need_text dc_need_text pm_need_text cd_need_text ct_need_text : Value} {f_need_three_texts : Addr} {od_need_three_texts an_need_three_texts : Option Addr} {sl_need_three_texts : Array (Option Value)} {oc_need_three_texts kV_need_three_texts dc_need_three_texts pm_need_three_texts cd_need_three_texts ct_need_three_texts : Value} {f_undo_each_other : Addr} {od_undo_each_other an_undo_each_other : Option Addr} {sl_undo_each_other : Array (Option Value)} {oc_undo_each_other kV_undo_each_other dc_undo_each_other pm_undo_each_other cd_undo_each_other ct_undo_each_other : Value} {f_struck : Addr} {od_struck an_struck : Option Addr} {sl_struck : Array (Option Value)} {oc_struck kV_struck dc_struck pm_struck cd_struck ct_struck : Value} {f_undone : Addr} {od_undone an_undone : Option Addr} {sl_undone : Array (Option Value)} {oc_undone kV_undone dc_undone pm_undone cd_undone ct_undone : Value} {f_word_of : Addr} {od_word_of an_word_of : Option Addr} {sl_word_of : Array (Option Value)} {oc_word_of kV_word_of dc_word_of pm_word_of cd_word_of ct_word_of : Value} {f_product_by_turns : Addr} {od_product_by_turns an_product_by_turns : Option Addr} {sl_product_by_turns : Array (Option Value)} {oc_product_by_turns kV_product_by_turns dc_product_by_turns pm_product_by_turns cd_product_by_turns ct_product_by_turns : Value} {f_front_length : Addr} {od_front_length an_front_length : Option Addr} {sl_front_length : Array (Option Value)} {oc_front_length kV_front_length dc_front_length pm_front_length cd_front_length ct_front_length : Value} {f_end_length : Addr} {od_end_length an_end_length : Option Addr} {sl_end_length : Array (Option Value)} {oc_end_length kV_end_length dc_end_length pm_end_length cd_end_length ct_end_length : Value} {f_cut_bounds : Addr} {od_cut_bounds an_cut_bounds : Option Addr} {sl_cut_bounds : Array (Option Value)} {oc_cut_bounds kV_cut_bounds dc_cut_bounds pm_cut_bounds cd_cut_bounds ct_cut_bounds : Value} {f_merged : Addr} {od_merged an_merged : Option Addr} {sl_merged : Array (Option Value)} {oc_merged kV_merged dc_merged pm_merged cd_merged ct_merged : Value} {f_merge_texts : Addr} {od_merge_texts an_merge_texts : Option Addr} {sl_merge_texts : Array (Option Value)} {oc_merge_texts kV_merge_texts dc_merge_texts pm_merge_texts cd_merge_texts ct_merge_texts : Value} {f_merge_cuts : Addr} {od_merge_cuts an_merge_cuts : Option Addr} {sl_merge_cuts : Array (Option Value)} {oc_merge_cuts kV_merge_cuts dc_merge_cuts pm_merge_cuts cd_merge_cuts ct_merge_cuts : Value} {f_merge_word : Addr} {od_merge_word an_merge_word : Option Addr} {sl_merge_word : Array (Option Value)} {oc_merge_word kV_merge_word dc_merge_word pm_merge_word cd_merge_word ct_merge_word : Value} {f_law_box : Addr} {od_law_box an_law_box : Option Addr} {sl_law_box : Array (Option Value)} {oc_law_box kV_law_box dc_law_box pm_law_box cd_law_box ct_law_box : Value} {f_law_take : Addr} {od_law_take an_law_take : Option Addr} {sl_law_take : Array (Option Value)} {oc_law_take kV_law_take dc_law_take pm_law_take cd_law_take ct_law_take : Value} {f_law_pick : Addr} {od_law_pick an_law_pick : Option Addr} {sl_law_pick : Array (Option Value)} {oc_law_pick kV_law_pick dc_law_pick pm_law_pick cd_law_pick ct_law_pick : Value} {f_law_word : Addr} {od_law_word an_law_word : Option Addr} {sl_law_word : Array (Option Value)} {oc_law_word kV_law_word dc_law_word pm_law_word cd_law_word ct_law_word : Value} {f_law_text : Addr} {od_law_text an_law_text : Option Addr} {sl_law_text : Array (Option Value)} {oc_law_text kV_law_text dc_law_text pm_law_text cd_law_text ct_law_text : Value} {f_law_row : Addr} {od_law_row an_law_row : Option Addr} {sl_law_row : Array (Option Value)} {oc_law_row kV_law_row dc_law_row pm_law_row cd_law_row ct_law_row : Value} {f_law_three : Addr} {od_law_three an_law_three : Option Addr} {sl_law_three : Array (Option Value)} {oc_law_three kV_law_three dc_law_three pm_law_three cd_law_three ct_law_three : Value} {f_law_refused : Addr} {od_law_refused an_law_refused : Option Addr} {sl_law_refused : Array (Option Value)} {oc_law_refused kV_law_refused dc_law_refused pm_law_refused cd_law_refused ct_law_refused : Value} {f_law_cuts : Addr} {od_law_cuts an_law_cuts : Option Addr} {sl_law_cuts : Array (Option Value)} {oc_law_cuts kV_law_cuts dc_law_cuts pm_law_cuts cd_law_cuts ct_law_cuts : Value} {f_law : Addr} {od_law an_law : Option Addr} {sl_law : Array (Option Value)} {oc_law kV_law dc_law pm_law cd_law ct_law : Value}
    (z_abs : PySem.W.nsIn K mainGlobals "abs" = some none)
    (z_bool : PySem.W.nsIn K mainGlobals "bool" = some none)
    (z_enumerate : PySem.W.nsIn K mainGlobals "enumerate" = some none)
    (z_int : PySem.W.nsIn K mainGlobals "int" = some none)
    (z_isinstance : PySem.W.nsIn K mainGlobals "isinstance" = some none)
    (z_len : PySem.W.nsIn K mainGlobals "len" = some none)
    (z_list : PySem.W.nsIn K mainGlobals "list" = some none)
    (z_min : PySem.W.nsIn K mainGlobals "min" = some none)
    (z_range : PySem.W.nsIn K mainGlobals "range" = some none)
    (z_repr : PySem.W.nsIn K mainGlobals "repr" = some none)
    (z_tuple : PySem.W.nsIn K mainGlobals "tuple" = some none)
    (hB_MergeError : PySem.W.nsIn K mainGlobals "MergeError" = some (some (.ref a_MergeError)))
    (e0_g : PySem.W.nsIn K mainGlobals "InvalidText" = some (some (.ref C0)))
    (e0_l : K.lookup C0 = some (excClassObj nm0 q0 C0 N0 bs0 (.ref B0 :: PySem.ErX.baseTail) true sn0 sub0 ab0 col0 dd0 y00 y01 y02 y03 y05 "Exception.__new__"))
    (e0_sa : PySem.W.findIn K (.ref C0) "__setattr__" = some (some (.builtin "object.__setattr__")))
    (e0_ga : PySem.W.findIn K (.ref C0) "__getattribute__" = some (some (.builtin "BaseException.__getattribute__")))
    (e0_gg : PySem.W.findIn K (.ref C0) "__getattr__" = some none)
    (e0_no : PySem.W.findIn K (.ref C0) "at" = some none)
    (e0_i : PySem.W.findIn K (.ref C0) "__init__" = some (some (.ref f0)))
    (e0_t : PySem.W.typeIn K (.ref f0) = some (.type "function"))
    (e0_lf : K.lookup f0 = some ⟨oc0, od0, .func (PySem.W.fnOf "__init__" "InvalidText.__init__" (PySem.ErX.iA ⟨6, 17, 6, 21⟩ ⟨6, 23, 6, 25⟩) (PySem.ErX.iB ⟨7, 8, 7, 12⟩ ⟨7, 8, 7, 15⟩ ⟨7, 18, 7, 20⟩ ⟨7, 8, 7, 20⟩) PySem.ErX.iS .none .none doc0 pm0 an0 cdv0 ct0), osl0⟩)
    (e0_cf : PySem.W.codeIn K cdv0 "InvalidText.__init__" = true)
    (e0_k : PySem.W.keepIn K (.ref C0) = true)
    (e0_ex : PySem.W.subIn K (.ref C0) (.type "BaseException") = some true)
    (e0_ty : PySem.W.typeIn K (.ref C0) = some (.type "type"))
    (e0_hd : PySem.W.hasDictIn K C0 = true)
    (e0_ic : PySem.W.isClsIn K C0 = true)
    (e0_ss : PySem.W.subIn K (.ref C0) (.ref C0) = some true)
    (e0_ca : PySem.W.findIn K (.ref C0) "__class__" = some (some (.builtin "object.__class__")))
    (e0_cn : PySem.W.specialIn K (.builtin "object.__class__") "__get__" = some (some (.builtin "getset_descriptor.__get__")))
    (e0_ct : PySem.W.takesIn K (.builtin "object.__class__") = some true)
    (e0_cm : PySem.W.mroIn K C0 (.type "object") = some true)
    (e0_iMergeError : PySem.W.isClsIn K a_MergeError = true)
    (e0_tMergeError : PySem.W.typeIn K (.ref a_MergeError) = some (.type "type"))
    (e0_sMergeError : PySem.W.subIn K (.ref C0) (.ref a_MergeError) = some true)
    (a_is_integer : PySem.W.nsIn K mainGlobals "is_integer" = some (some (.ref f_is_integer)))
    (l_is_integer_ : K.lookup f_is_integer = some ⟨oc_is_integer, od_is_integer, .func (PySem.W.fnOf "is_integer" "is_integer" (defArgs s_is_integer) (defBody s_is_integer) (defScope s_is_integer) .none kV_is_integer dc_is_integer pm_is_integer an_is_integer cd_is_integer ct_is_integer), sl_is_integer⟩)
    (c_is_integer_ : PySem.W.codeIn K cd_is_integer "is_integer" = true)
    (k_is_integer_ : PySem.W.keepIn K (.ref f_is_integer) = true)
    (a_is_number : PySem.W.nsIn K mainGlobals "is_number" = some (some (.ref f_is_number)))
    (l_is_number_ : K.lookup f_is_number = some ⟨oc_is_number, od_is_number, .func (PySem.W.fnOf "is_number" "is_number" (defArgs s_is_number) (defBody s_is_number) (defScope s_is_number) .none kV_is_number dc_is_number pm_is_number an_is_number cd_is_number ct_is_number), sl_is_number⟩)
    (c_is_number_ : PySem.W.codeIn K cd_is_number "is_number" = true)
    (k_is_number_ : PySem.W.keepIn K (.ref f_is_number) = true)
    (a_is_number_below : PySem.W.nsIn K mainGlobals "is_number_below" = some (some (.ref f_is_number_below)))
    (l_is_number_below_ : K.lookup f_is_number_below = some ⟨oc_is_number_below, od_is_number_below, .func (PySem.W.fnOf "is_number_below" "is_number_below" (defArgs s_is_number_below) (defBody s_is_number_below) (defScope s_is_number_below) .none kV_is_number_below dc_is_number_below pm_is_number_below an_is_number_below cd_is_number_below ct_is_number_below), sl_is_number_below⟩)
    (c_is_number_below_ : PySem.W.codeIn K cd_is_number_below "is_number_below" = true)
    (k_is_number_below_ : PySem.W.keepIn K (.ref f_is_number_below) = true)
    (a_is_sequence : PySem.W.nsIn K mainGlobals "is_sequence" = some (some (.ref f_is_sequence)))
    (l_is_sequence_ : K.lookup f_is_sequence = some ⟨oc_is_sequence, od_is_sequence, .func (PySem.W.fnOf "is_sequence" "is_sequence" (defArgs s_is_sequence) (defBody s_is_sequence) (defScope s_is_sequence) .none kV_is_sequence dc_is_sequence pm_is_sequence an_is_sequence cd_is_sequence ct_is_sequence), sl_is_sequence⟩)
    (c_is_sequence_ : PySem.W.codeIn K cd_is_sequence "is_sequence" = true)
    (k_is_sequence_ : PySem.W.keepIn K (.ref f_is_sequence) = true)
    (a_is_letter : PySem.W.nsIn K mainGlobals "is_letter" = some (some (.ref f_is_letter)))
    (l_is_letter_ : K.lookup f_is_letter = some ⟨oc_is_letter, od_is_letter, .func (PySem.W.fnOf "is_letter" "is_letter" (defArgs s_is_letter) (defBody s_is_letter) (defScope s_is_letter) .none kV_is_letter dc_is_letter pm_is_letter an_is_letter cd_is_letter ct_is_letter), sl_is_letter⟩)
    (c_is_letter_ : PySem.W.codeIn K cd_is_letter "is_letter" = true)
    (k_is_letter_ : PySem.W.keepIn K (.ref f_is_letter) = true)
    (a_text_or_none : PySem.W.nsIn K mainGlobals "text_or_none" = some (some (.ref f_text_or_none)))
    (l_text_or_none_ : K.lookup f_text_or_none = some ⟨oc_text_or_none, od_text_or_none, .func (PySem.W.fnOf "text_or_none" "text_or_none" (defArgs s_text_or_none) (defBody s_text_or_none) (defScope s_text_or_none) .none kV_text_or_none dc_text_or_none pm_text_or_none an_text_or_none cd_text_or_none ct_text_or_none), sl_text_or_none⟩)
    (c_text_or_none_ : PySem.W.codeIn K cd_text_or_none "text_or_none" = true)
    (k_text_or_none_ : PySem.W.keepIn K (.ref f_text_or_none) = true)
    (a_need_text : PySem.W.nsIn K mainGlobals "need_text" = some (some (.ref f_need_text)))
    (l_need_text_ : K.lookup f_need_text = some ⟨oc_need_text, od_need_text, .func (PySem.W.fnOf "need_text" "need_text" (defArgs s_need_text) (defBody s_need_text) (defScope s_need_text) .none kV_need_text dc_need_text pm_need_text an_need_text cd_need_text ct_need_text), sl_need_text⟩)
    (c_need_text_ : PySem.W.codeIn K cd_need_text "need_text" = true)
    (k_need_text_ : PySem.W.keepIn K (.ref f_need_text) = true)
    (a_need_three_texts : PySem.W.nsIn K mainGlobals "need_three_texts" = some (some (.ref f_need_three_texts)))
    (l_need_three_texts_ : K.lookup f_need_three_texts = some ⟨oc_need_three_texts, od_need_three_texts, .func (PySem.W.fnOf "need_three_texts" "need_three_texts" (defArgs s_need_three_texts) (defBody s_need_three_texts) (defScope s_need_three_texts) .none kV_need_three_texts dc_need_three_texts pm_need_three_texts an_need_three_texts cd_need_three_texts ct_need_three_texts), sl_need_three_texts⟩)
    (c_need_three_texts_ : PySem.W.codeIn K cd_need_three_texts "need_three_texts" = true)
    (k_need_three_texts_ : PySem.W.keepIn K (.ref f_need_three_texts) = true)
    (a_undo_each_other : PySem.W.nsIn K mainGlobals "undo_each_other" = some (some (.ref f_undo_each_other)))
    (l_undo_each_other_ : K.lookup f_undo_each_other = some ⟨oc_undo_each_other, od_undo_each_other, .func (PySem.W.fnOf "undo_each_other" "undo_each_other" (defArgs s_undo_each_other) (defBody s_undo_each_other) (defScope s_undo_each_other) .none kV_undo_each_other dc_undo_each_other pm_undo_each_other an_undo_each_other cd_undo_each_other ct_undo_each_other), sl_undo_each_other⟩)
    (c_undo_each_other_ : PySem.W.codeIn K cd_undo_each_other "undo_each_other" = true)
    (k_undo_each_other_ : PySem.W.keepIn K (.ref f_undo_each_other) = true)
    (a_struck : PySem.W.nsIn K mainGlobals "struck" = some (some (.ref f_struck)))
    (l_struck_ : K.lookup f_struck = some ⟨oc_struck, od_struck, .func (PySem.W.fnOf "struck" "struck" (defArgs s_struck) (defBody s_struck) (defScope s_struck) .none kV_struck dc_struck pm_struck an_struck cd_struck ct_struck), sl_struck⟩)
    (c_struck_ : PySem.W.codeIn K cd_struck "struck" = true)
    (k_struck_ : PySem.W.keepIn K (.ref f_struck) = true)
    (a_undone : PySem.W.nsIn K mainGlobals "undone" = some (some (.ref f_undone)))
    (l_undone_ : K.lookup f_undone = some ⟨oc_undone, od_undone, .func (PySem.W.fnOf "undone" "undone" (defArgs s_undone) (defBody s_undone) (defScope s_undone) .none kV_undone dc_undone pm_undone an_undone cd_undone ct_undone), sl_undone⟩)
    (c_undone_ : PySem.W.codeIn K cd_undone "undone" = true)
    (k_undone_ : PySem.W.keepIn K (.ref f_undone) = true)
    (a_word_of : PySem.W.nsIn K mainGlobals "word_of" = some (some (.ref f_word_of)))
    (l_word_of_ : K.lookup f_word_of = some ⟨oc_word_of, od_word_of, .func (PySem.W.fnOf "word_of" "word_of" (defArgs s_word_of) (defBody s_word_of) (defScope s_word_of) .none kV_word_of dc_word_of pm_word_of an_word_of cd_word_of ct_word_of), sl_word_of⟩)
    (c_word_of_ : PySem.W.codeIn K cd_word_of "word_of" = true)
    (k_word_of_ : PySem.W.keepIn K (.ref f_word_of) = true)
    (a_product_by_turns : PySem.W.nsIn K mainGlobals "product_by_turns" = some (some (.ref f_product_by_turns)))
    (l_product_by_turns_ : K.lookup f_product_by_turns = some ⟨oc_product_by_turns, od_product_by_turns, .func (PySem.W.fnOf "product_by_turns" "product_by_turns" (defArgs s_product_by_turns) (defBody s_product_by_turns) (defScope s_product_by_turns) .none kV_product_by_turns dc_product_by_turns pm_product_by_turns an_product_by_turns cd_product_by_turns ct_product_by_turns), sl_product_by_turns⟩)
    (c_product_by_turns_ : PySem.W.codeIn K cd_product_by_turns "product_by_turns" = true)
    (k_product_by_turns_ : PySem.W.keepIn K (.ref f_product_by_turns) = true)
    (a_front_length : PySem.W.nsIn K mainGlobals "front_length" = some (some (.ref f_front_length)))
    (l_front_length_ : K.lookup f_front_length = some ⟨oc_front_length, od_front_length, .func (PySem.W.fnOf "front_length" "front_length" (defArgs s_front_length) (defBody s_front_length) (defScope s_front_length) .none kV_front_length dc_front_length pm_front_length an_front_length cd_front_length ct_front_length), sl_front_length⟩)
    (c_front_length_ : PySem.W.codeIn K cd_front_length "front_length" = true)
    (k_front_length_ : PySem.W.keepIn K (.ref f_front_length) = true)
    (a_end_length : PySem.W.nsIn K mainGlobals "end_length" = some (some (.ref f_end_length)))
    (l_end_length_ : K.lookup f_end_length = some ⟨oc_end_length, od_end_length, .func (PySem.W.fnOf "end_length" "end_length" (defArgs s_end_length) (defBody s_end_length) (defScope s_end_length) .none kV_end_length dc_end_length pm_end_length an_end_length cd_end_length ct_end_length), sl_end_length⟩)
    (c_end_length_ : PySem.W.codeIn K cd_end_length "end_length" = true)
    (k_end_length_ : PySem.W.keepIn K (.ref f_end_length) = true)
    (a_cut_bounds : PySem.W.nsIn K mainGlobals "cut_bounds" = some (some (.ref f_cut_bounds)))
    (l_cut_bounds_ : K.lookup f_cut_bounds = some ⟨oc_cut_bounds, od_cut_bounds, .func (PySem.W.fnOf "cut_bounds" "cut_bounds" (defArgs s_cut_bounds) (defBody s_cut_bounds) (defScope s_cut_bounds) .none kV_cut_bounds dc_cut_bounds pm_cut_bounds an_cut_bounds cd_cut_bounds ct_cut_bounds), sl_cut_bounds⟩)
    (c_cut_bounds_ : PySem.W.codeIn K cd_cut_bounds "cut_bounds" = true)
    (k_cut_bounds_ : PySem.W.keepIn K (.ref f_cut_bounds) = true)
    (a_merged : PySem.W.nsIn K mainGlobals "merged" = some (some (.ref f_merged)))
    (l_merged_ : K.lookup f_merged = some ⟨oc_merged, od_merged, .func (PySem.W.fnOf "merged" "merged" (defArgs s_merged) (defBody s_merged) (defScope s_merged) .none kV_merged dc_merged pm_merged an_merged cd_merged ct_merged), sl_merged⟩)
    (c_merged_ : PySem.W.codeIn K cd_merged "merged" = true)
    (k_merged_ : PySem.W.keepIn K (.ref f_merged) = true)
    (a_merge_texts : PySem.W.nsIn K mainGlobals "merge_texts" = some (some (.ref f_merge_texts)))
    (l_merge_texts_ : K.lookup f_merge_texts = some ⟨oc_merge_texts, od_merge_texts, .func (PySem.W.fnOf "merge_texts" "merge_texts" (defArgs s_merge_texts) (defBody s_merge_texts) (defScope s_merge_texts) .none kV_merge_texts dc_merge_texts pm_merge_texts an_merge_texts cd_merge_texts ct_merge_texts), sl_merge_texts⟩)
    (c_merge_texts_ : PySem.W.codeIn K cd_merge_texts "merge_texts" = true)
    (k_merge_texts_ : PySem.W.keepIn K (.ref f_merge_texts) = true)
    (a_merge_cuts : PySem.W.nsIn K mainGlobals "merge_cuts" = some (some (.ref f_merge_cuts)))
    (l_merge_cuts_ : K.lookup f_merge_cuts = some ⟨oc_merge_cuts, od_merge_cuts, .func (PySem.W.fnOf "merge_cuts" "merge_cuts" (defArgs s_merge_cuts) (defBody s_merge_cuts) (defScope s_merge_cuts) .none kV_merge_cuts dc_merge_cuts pm_merge_cuts an_merge_cuts cd_merge_cuts ct_merge_cuts), sl_merge_cuts⟩)
    (c_merge_cuts_ : PySem.W.codeIn K cd_merge_cuts "merge_cuts" = true)
    (k_merge_cuts_ : PySem.W.keepIn K (.ref f_merge_cuts) = true)
    (a_merge_word : PySem.W.nsIn K mainGlobals "merge_word" = some (some (.ref f_merge_word)))
    (l_merge_word_ : K.lookup f_merge_word = some ⟨oc_merge_word, od_merge_word, .func (PySem.W.fnOf "merge_word" "merge_word" (defArgs s_merge_word) (defBody s_merge_word) (defScope s_merge_word) .none kV_merge_word dc_merge_word pm_merge_word an_merge_word cd_merge_word ct_merge_word), sl_merge_word⟩)
    (c_merge_word_ : PySem.W.codeIn K cd_merge_word "merge_word" = true)
    (k_merge_word_ : PySem.W.keepIn K (.ref f_merge_word) = true)
    (a_law_box : PySem.W.nsIn K mainGlobals "_law_box" = some (some (.ref f_law_box)))
    (l_law_box_ : K.lookup f_law_box = some ⟨oc_law_box, od_law_box, .func (PySem.W.fnOf "_law_box" "_law_box" (defArgs s_law_box) (defBody s_law_box) (defScope s_law_box) .none kV_law_box dc_law_box pm_law_box an_law_box cd_law_box ct_law_box), sl_law_box⟩)
    (c_law_box_ : PySem.W.codeIn K cd_law_box "_law_box" = true)
    (k_law_box_ : PySem.W.keepIn K (.ref f_law_box) = true)
    (a_law_take : PySem.W.nsIn K mainGlobals "_law_take" = some (some (.ref f_law_take)))
    (l_law_take_ : K.lookup f_law_take = some ⟨oc_law_take, od_law_take, .func (PySem.W.fnOf "_law_take" "_law_take" (defArgs s_law_take) (defBody s_law_take) (defScope s_law_take) .none kV_law_take dc_law_take pm_law_take an_law_take cd_law_take ct_law_take), sl_law_take⟩)
    (c_law_take_ : PySem.W.codeIn K cd_law_take "_law_take" = true)
    (k_law_take_ : PySem.W.keepIn K (.ref f_law_take) = true)
    (a_law_pick : PySem.W.nsIn K mainGlobals "_law_pick" = some (some (.ref f_law_pick)))
    (l_law_pick_ : K.lookup f_law_pick = some ⟨oc_law_pick, od_law_pick, .func (PySem.W.fnOf "_law_pick" "_law_pick" (defArgs s_law_pick) (defBody s_law_pick) (defScope s_law_pick) .none kV_law_pick dc_law_pick pm_law_pick an_law_pick cd_law_pick ct_law_pick), sl_law_pick⟩)
    (c_law_pick_ : PySem.W.codeIn K cd_law_pick "_law_pick" = true)
    (k_law_pick_ : PySem.W.keepIn K (.ref f_law_pick) = true)
    (a_law_word : PySem.W.nsIn K mainGlobals "_law_word" = some (some (.ref f_law_word)))
    (l_law_word_ : K.lookup f_law_word = some ⟨oc_law_word, od_law_word, .func (PySem.W.fnOf "_law_word" "_law_word" (defArgs s_law_word) (defBody s_law_word) (defScope s_law_word) .none kV_law_word dc_law_word pm_law_word an_law_word cd_law_word ct_law_word), sl_law_word⟩)
    (c_law_word_ : PySem.W.codeIn K cd_law_word "_law_word" = true)
    (k_law_word_ : PySem.W.keepIn K (.ref f_law_word) = true)
    (a_law_text : PySem.W.nsIn K mainGlobals "_law_text" = some (some (.ref f_law_text)))
    (l_law_text_ : K.lookup f_law_text = some ⟨oc_law_text, od_law_text, .func (PySem.W.fnOf "_law_text" "_law_text" (defArgs s_law_text) (defBody s_law_text) (defScope s_law_text) .none kV_law_text dc_law_text pm_law_text an_law_text cd_law_text ct_law_text), sl_law_text⟩)
    (c_law_text_ : PySem.W.codeIn K cd_law_text "_law_text" = true)
    (k_law_text_ : PySem.W.keepIn K (.ref f_law_text) = true)
    (a_law_row : PySem.W.nsIn K mainGlobals "_law_row" = some (some (.ref f_law_row)))
    (l_law_row_ : K.lookup f_law_row = some ⟨oc_law_row, od_law_row, .func (PySem.W.fnOf "_law_row" "_law_row" (defArgs s_law_row) (defBody s_law_row) (defScope s_law_row) .none kV_law_row dc_law_row pm_law_row an_law_row cd_law_row ct_law_row), sl_law_row⟩)
    (c_law_row_ : PySem.W.codeIn K cd_law_row "_law_row" = true)
    (k_law_row_ : PySem.W.keepIn K (.ref f_law_row) = true)
    (a_law_three : PySem.W.nsIn K mainGlobals "_law_three" = some (some (.ref f_law_three)))
    (l_law_three_ : K.lookup f_law_three = some ⟨oc_law_three, od_law_three, .func (PySem.W.fnOf "_law_three" "_law_three" (defArgs s_law_three) (defBody s_law_three) (defScope s_law_three) .none kV_law_three dc_law_three pm_law_three an_law_three cd_law_three ct_law_three), sl_law_three⟩)
    (c_law_three_ : PySem.W.codeIn K cd_law_three "_law_three" = true)
    (k_law_three_ : PySem.W.keepIn K (.ref f_law_three) = true)
    (a_law_refused : PySem.W.nsIn K mainGlobals "_law_refused" = some (some (.ref f_law_refused)))
    (l_law_refused_ : K.lookup f_law_refused = some ⟨oc_law_refused, od_law_refused, .func (PySem.W.fnOf "_law_refused" "_law_refused" (defArgs s_law_refused) (defBody s_law_refused) (defScope s_law_refused) .none kV_law_refused dc_law_refused pm_law_refused an_law_refused cd_law_refused ct_law_refused), sl_law_refused⟩)
    (c_law_refused_ : PySem.W.codeIn K cd_law_refused "_law_refused" = true)
    (k_law_refused_ : PySem.W.keepIn K (.ref f_law_refused) = true)
    (a_law_cuts : PySem.W.nsIn K mainGlobals "_law_cuts" = some (some (.ref f_law_cuts)))
    (l_law_cuts_ : K.lookup f_law_cuts = some ⟨oc_law_cuts, od_law_cuts, .func (PySem.W.fnOf "_law_cuts" "_law_cuts" (defArgs s_law_cuts) (defBody s_law_cuts) (defScope s_law_cuts) .none kV_law_cuts dc_law_cuts pm_law_cuts an_law_cuts cd_law_cuts ct_law_cuts), sl_law_cuts⟩)
    (c_law_cuts_ : PySem.W.codeIn K cd_law_cuts "_law_cuts" = true)
    (k_law_cuts_ : PySem.W.keepIn K (.ref f_law_cuts) = true)
    (a_law : PySem.W.nsIn K mainGlobals "law" = some (some (.ref f_law)))
    (l_law_ : K.lookup f_law = some ⟨oc_law, od_law, .func (PySem.W.fnOf "law" "law" (defArgs s_law) (defBody s_law) (defScope s_law) .none kV_law dc_law pm_law an_law cd_law ct_law), sl_law⟩)
    (c_law_ : PySem.W.codeIn K cd_law "law" = true)
    (k_law_ : PySem.W.keepIn K (.ref f_law) = true)
    : ∃ fd : FuncData, (∀ (s : Shared) (u : Value), BindsTo s fd ⟨[u], []⟩ [("script", u)]) ∧ ∃ sp : Sp, (∀ (H : Hp) (a : Addr) (ns : List Int), ns.length ≤ 63 → SqL K H a (ns.map V.int) → sp [.ref a] H (fun v _ => v = .bl true) fun _ _ _ => False) ∧
      ∀ base : Heap, K.In base → base.Ns mainGlobals mg → FnG P w K mg base 10 fa fd ["script"] sp := by
  have e := hfa.symm.trans (PySem.W.mg_of X G a_law)
  have e2 : f_law = fa := by cases e; rfl
  subst e2
  have F_is_integer := fun_mk (st := s_is_integer) l_is_integer_ c_is_integer_ k_is_integer_
  have b_is_integer := F_is_integer.binds (ps := ["value"]) fun _ _ _ _ _ _ us hl => match us, hl with | [_], _ => rfl
  have F_is_number := fun_mk (st := s_is_number) l_is_number_ c_is_number_ k_is_number_
  have b_is_number := F_is_number.binds (ps := ["value"]) fun _ _ _ _ _ _ us hl => match us, hl with | [_], _ => rfl
  have F_is_number_below := fun_mk (st := s_is_number_below) l_is_number_below_ c_is_number_below_ k_is_number_below_
  have b_is_number_below := F_is_number_below.binds (ps := ["value", "limit"]) fun _ _ _ _ _ _ us hl => match us, hl with | [_, _], _ => rfl
  have F_is_sequence := fun_mk (st := s_is_sequence) l_is_sequence_ c_is_sequence_ k_is_sequence_
  have b_is_sequence := F_is_sequence.binds (ps := ["value"]) fun _ _ _ _ _ _ us hl => match us, hl with | [_], _ => rfl
  have F_is_letter := fun_mk (st := s_is_letter) l_is_letter_ c_is_letter_ k_is_letter_
  have b_is_letter := F_is_letter.binds (ps := ["value"]) fun _ _ _ _ _ _ us hl => match us, hl with | [_], _ => rfl
  have F_text_or_none := fun_mk (st := s_text_or_none) l_text_or_none_ c_text_or_none_ k_text_or_none_
  have b_text_or_none := F_text_or_none.binds (ps := ["value"]) fun _ _ _ _ _ _ us hl => match us, hl with | [_], _ => rfl
  have F_need_text := fun_mk (st := s_need_text) l_need_text_ c_need_text_ k_need_text_
  have b_need_text := F_need_text.binds (ps := ["value", "at"]) fun _ _ _ _ _ _ us hl => match us, hl with | [_, _], _ => rfl
  have F_need_three_texts := fun_mk (st := s_need_three_texts) l_need_three_texts_ c_need_three_texts_ k_need_three_texts_
  have b_need_three_texts := F_need_three_texts.binds (ps := ["one", "other", "third"]) fun _ _ _ _ _ _ us hl => match us, hl with | [_, _, _], _ => rfl
  have F_undo_each_other := fun_mk (st := s_undo_each_other) l_undo_each_other_ c_undo_each_other_ k_undo_each_other_
  have b_undo_each_other := F_undo_each_other.binds (ps := ["one", "other"]) fun _ _ _ _ _ _ us hl => match us, hl with | [_, _], _ => rfl
  have F_struck := fun_mk (st := s_struck) l_struck_ c_struck_ k_struck_
  have b_struck := F_struck.binds (ps := ["word"]) fun _ _ _ _ _ _ us hl => match us, hl with | [_], _ => rfl
  have F_undone := fun_mk (st := s_undone) l_undone_ c_undone_ k_undone_
  have b_undone := F_undone.binds (ps := ["word"]) fun _ _ _ _ _ _ us hl => match us, hl with | [_], _ => rfl
  have F_word_of := fun_mk (st := s_word_of) l_word_of_ c_word_of_ k_word_of_
  have b_word_of := F_word_of.binds (ps := ["text"]) fun _ _ _ _ _ _ us hl => match us, hl with | [_], _ => rfl
  have F_product_by_turns := fun_mk (st := s_product_by_turns) l_product_by_turns_ c_product_by_turns_ k_product_by_turns_
  have b_product_by_turns := F_product_by_turns.binds (ps := ["texts"]) fun _ _ _ _ _ _ us hl => match us, hl with | [_], _ => rfl
  have F_front_length := fun_mk (st := s_front_length) l_front_length_ c_front_length_ k_front_length_
  have b_front_length := F_front_length.binds (ps := ["one", "other"]) fun _ _ _ _ _ _ us hl => match us, hl with | [_, _], _ => rfl
  have F_end_length := fun_mk (st := s_end_length) l_end_length_ c_end_length_ k_end_length_
  have b_end_length := F_end_length.binds (ps := ["one", "other"]) fun _ _ _ _ _ _ us hl => match us, hl with | [_, _], _ => rfl
  have F_cut_bounds := fun_mk (st := s_cut_bounds) l_cut_bounds_ c_cut_bounds_ k_cut_bounds_
  have b_cut_bounds := F_cut_bounds.binds (ps := ["base", "mine", "yours"]) fun _ _ _ _ _ _ us hl => match us, hl with | [_, _, _], _ => rfl
  have F_merged := fun_mk (st := s_merged) l_merged_ c_merged_ k_merged_
  have b_merged := F_merged.binds (ps := ["base", "mine", "yours"]) fun _ _ _ _ _ _ us hl => match us, hl with | [_, _, _], _ => rfl
  have F_merge_texts := fun_mk (st := s_merge_texts) l_merge_texts_ c_merge_texts_ k_merge_texts_
  have b_merge_texts := F_merge_texts.binds (ps := ["base", "mine", "yours"]) fun _ _ _ _ _ _ us hl => match us, hl with | [_, _, _], _ => rfl
  have F_merge_cuts := fun_mk (st := s_merge_cuts) l_merge_cuts_ c_merge_cuts_ k_merge_cuts_
  have b_merge_cuts := F_merge_cuts.binds (ps := ["base", "mine", "yours"]) fun _ _ _ _ _ _ us hl => match us, hl with | [_, _, _], _ => rfl
  have F_merge_word := fun_mk (st := s_merge_word) l_merge_word_ c_merge_word_ k_merge_word_
  have b_merge_word := F_merge_word.binds (ps := ["base", "mine", "yours"]) fun _ _ _ _ _ _ us hl => match us, hl with | [_, _, _], _ => rfl
  have F_law_box := fun_mk (st := s_law_box) l_law_box_ c_law_box_ k_law_box_
  have b_law_box := F_law_box.binds (ps := ["script", "k"]) fun _ _ _ _ _ _ us hl => match us, hl with | [_, _], _ => rfl
  have F_law_take := fun_mk (st := s_law_take) l_law_take_ c_law_take_ k_law_take_
  have b_law_take := F_law_take.binds (ps := ["box", "many"]) fun _ _ _ _ _ _ us hl => match us, hl with | [_, _], _ => rfl
  have F_law_pick := fun_mk (st := s_law_pick) l_law_pick_ c_law_pick_ k_law_pick_
  have b_law_pick := F_law_pick.binds (ps := ["box", "some"]) fun _ _ _ _ _ _ us hl => match us, hl with | [_, _], _ => rfl
  have F_law_word := fun_mk (st := s_law_word) l_law_word_ c_law_word_ k_law_word_
  have b_law_word := F_law_word.binds (ps := ["texts"]) fun _ _ _ _ _ _ us hl => match us, hl with | [_], _ => rfl
  have F_law_text := fun_mk (st := s_law_text) l_law_text_ c_law_text_ k_law_text_
  have b_law_text := F_law_text.binds (ps := ["texts"]) fun _ _ _ _ _ _ us hl => match us, hl with | [_], _ => rfl
  have F_law_row := fun_mk (st := s_law_row) l_law_row_ c_law_row_ k_law_row_
  have b_law_row := F_law_row.binds (ps := ["box", "letters", "longest"]) fun _ _ _ _ _ _ us hl => match us, hl with | [_, _, _], _ => rfl
  have F_law_three := fun_mk (st := s_law_three) l_law_three_ c_law_three_ k_law_three_
  have b_law_three := F_law_three.binds (ps := ["box", "letters"]) fun _ _ _ _ _ _ us hl => match us, hl with | [_, _], _ => rfl
  have F_law_refused := fun_mk (st := s_law_refused) l_law_refused_ c_law_refused_ k_law_refused_
  have b_law_refused := F_law_refused.binds (ps := ["work", "base", "mine", "yours"]) fun _ _ _ _ _ _ us hl => match us, hl with | [_, _, _, _], _ => rfl
  have F_law_cuts := fun_mk (st := s_law_cuts) l_law_cuts_ c_law_cuts_ k_law_cuts_
  have b_law_cuts := F_law_cuts.binds (ps := ["base", "mine", "yours"]) fun _ _ _ _ _ _ us hl => match us, hl with | [_, _, _], _ => rfl
  have F_law := fun_mk (st := s_law) l_law_ c_law_ k_law_
  have b_law := F_law.binds (ps := ["script"]) fun _ _ _ _ _ _ us hl => match us, hl with | [_], _ => rfl
  have x_kb_merge_texts_0_base_mine_yours := kb_of (ps := ["base", "mine", "yours"]) (ks := ["base", "mine", "yours"]) F_merge_texts [0, 1, 2] 0 3 (by decide) fun _ _ _ _ _ _ us ws h1 h2 => match us, h1, ws, h2 with | [], _, [_, _, _], _ => rfl
  have x_kb_merge_cuts_0_base_mine_yours := kb_of (ps := ["base", "mine", "yours"]) (ks := ["base", "mine", "yours"]) F_merge_cuts [0, 1, 2] 0 3 (by decide) fun _ _ _ _ _ _ us ws h1 h2 => match us, h1, ws, h2 with | [], _, [_, _, _], _ => rfl
  have x_kb_merge_word_0_yours_mine_base := kb_of (ps := ["base", "mine", "yours"]) (ks := ["yours", "mine", "base"]) F_merge_word [2, 1, 0] 0 3 (by decide) fun _ _ _ _ _ _ us ws h1 h2 => match us, h1, ws, h2 with | [], _, [_, _, _], _ => rfl
  let T : Tx K mg := {
    xc := fun i => match i with | 0 => C0 | 1000 => f_merge_texts | 1001 => f_merge_cuts | 1002 => f_merge_word | _ => 0,
    m_abs := PySem.W.mg_none_of X G z_abs,
    m_bool := PySem.W.mg_none_of X G z_bool,
    m_enumerate := PySem.W.mg_none_of X G z_enumerate,
    m_int := PySem.W.mg_none_of X G z_int,
    m_isinstance := PySem.W.mg_none_of X G z_isinstance,
    m_len := PySem.W.mg_none_of X G z_len,
    m_list := PySem.W.mg_none_of X G z_list,
    m_min := PySem.W.mg_none_of X G z_min,
    m_range := PySem.W.mg_none_of X G z_range,
    m_repr := PySem.W.mg_none_of X G z_repr,
    m_tuple := PySem.W.mg_none_of X G z_tuple,
    a_MergeError := a_MergeError,
    gB_MergeError := PySem.W.mg_of X G hB_MergeError,
    C0 := C0,
    B0 := B0,
    f0 := f0,
    e0 := { gC := PySem.W.mg_of X G e0_g, cls := ⟨nm0, q0, N0, bs0, sn0, sub0, ab0, col0, dd0, y00, y01, y02, y03, y05, e0_l⟩, sa := e0_sa, ga := e0_ga, gg := e0_gg, noN := e0_no, iC := e0_i, tC := e0_t, kC := e0_k, exC := e0_ex, tyC := e0_ty, hdC := e0_hd, te := exm_self e0_ex e0_ic e0_ty e0_ss, fn := ⟨_, _, _, _, _, _, _, _, _, _, _, _, _, _, e0_lf, e0_cf⟩ },
    xe0 := rfl,
    c0 := ⟨e0_ga, e0_gg, e0_ex, e0_hd, e0_ca, e0_cn, e0_ct, e0_cm⟩,
    k0_MergeError := kit_sub e0_iMergeError e0_tMergeError e0_sMergeError,
    a_is_integer := f_is_integer,
    d_is_integer := PySem.W.fnOf "is_integer" "is_integer" (defArgs s_is_integer) (defBody s_is_integer) (defScope s_is_integer) .none kV_is_integer dc_is_integer pm_is_integer an_is_integer cd_is_integer ct_is_integer,
    F_is_integer := F_is_integer,
    g_is_integer := PySem.W.mg_of X G a_is_integer,
    b_is_integer := b_is_integer,
    a_is_number := f_is_number,
    d_is_number := PySem.W.fnOf "is_number" "is_number" (defArgs s_is_number) (defBody s_is_number) (defScope s_is_number) .none kV_is_number dc_is_number pm_is_number an_is_number cd_is_number ct_is_number,
    F_is_number := F_is_number,
    g_is_number := PySem.W.mg_of X G a_is_number,
    b_is_number := b_is_number,
    a_is_number_below := f_is_number_below,
    d_is_number_below := PySem.W.fnOf "is_number_below" "is_number_below" (defArgs s_is_number_below) (defBody s_is_number_below) (defScope s_is_number_below) .none kV_is_number_below dc_is_number_below pm_is_number_below an_is_number_below cd_is_number_below ct_is_number_below,
    F_is_number_below := F_is_number_below,
    g_is_number_below := PySem.W.mg_of X G a_is_number_below,
    b_is_number_below := b_is_number_below,
    a_is_sequence := f_is_sequence,
    d_is_sequence := PySem.W.fnOf "is_sequence" "is_sequence" (defArgs s_is_sequence) (defBody s_is_sequence) (defScope s_is_sequence) .none kV_is_sequence dc_is_sequence pm_is_sequence an_is_sequence cd_is_sequence ct_is_sequence,
    F_is_sequence := F_is_sequence,
    g_is_sequence := PySem.W.mg_of X G a_is_sequence,
    b_is_sequence := b_is_sequence,
    a_is_letter := f_is_letter,
    d_is_letter := PySem.W.fnOf "is_letter" "is_letter" (defArgs s_is_letter) (defBody s_is_letter) (defScope s_is_letter) .none kV_is_letter dc_is_letter pm_is_letter an_is_letter cd_is_letter ct_is_letter,
    F_is_letter := F_is_letter,
    g_is_letter := PySem.W.mg_of X G a_is_letter,
    b_is_letter := b_is_letter,
    a_text_or_none := f_text_or_none,
    d_text_or_none := PySem.W.fnOf "text_or_none" "text_or_none" (defArgs s_text_or_none) (defBody s_text_or_none) (defScope s_text_or_none) .none kV_text_or_none dc_text_or_none pm_text_or_none an_text_or_none cd_text_or_none ct_text_or_none,
    F_text_or_none := F_text_or_none,
    g_text_or_none := PySem.W.mg_of X G a_text_or_none,
    b_text_or_none := b_text_or_none,
    a_need_text := f_need_text,
    d_need_text := PySem.W.fnOf "need_text" "need_text" (defArgs s_need_text) (defBody s_need_text) (defScope s_need_text) .none kV_need_text dc_need_text pm_need_text an_need_text cd_need_text ct_need_text,
    F_need_text := F_need_text,
    g_need_text := PySem.W.mg_of X G a_need_text,
    b_need_text := b_need_text,
    a_need_three_texts := f_need_three_texts,
    d_need_three_texts := PySem.W.fnOf "need_three_texts" "need_three_texts" (defArgs s_need_three_texts) (defBody s_need_three_texts) (defScope s_need_three_texts) .none kV_need_three_texts dc_need_three_texts pm_need_three_texts an_need_three_texts cd_need_three_texts ct_need_three_texts,
    F_need_three_texts := F_need_three_texts,
    g_need_three_texts := PySem.W.mg_of X G a_need_three_texts,
    b_need_three_texts := b_need_three_texts,
    a_undo_each_other := f_undo_each_other,
    d_undo_each_other := PySem.W.fnOf "undo_each_other" "undo_each_other" (defArgs s_undo_each_other) (defBody s_undo_each_other) (defScope s_undo_each_other) .none kV_undo_each_other dc_undo_each_other pm_undo_each_other an_undo_each_other cd_undo_each_other ct_undo_each_other,
    F_undo_each_other := F_undo_each_other,
    g_undo_each_other := PySem.W.mg_of X G a_undo_each_other,
    b_undo_each_other := b_undo_each_other,
    a_struck := f_struck,
    d_struck := PySem.W.fnOf "struck" "struck" (defArgs s_struck) (defBody s_struck) (defScope s_struck) .none kV_struck dc_struck pm_struck an_struck cd_struck ct_struck,
    F_struck := F_struck,
    g_struck := PySem.W.mg_of X G a_struck,
    b_struck := b_struck,
    a_undone := f_undone,
    d_undone := PySem.W.fnOf "undone" "undone" (defArgs s_undone) (defBody s_undone) (defScope s_undone) .none kV_undone dc_undone pm_undone an_undone cd_undone ct_undone,
    F_undone := F_undone,
    g_undone := PySem.W.mg_of X G a_undone,
    b_undone := b_undone,
    a_word_of := f_word_of,
    d_word_of := PySem.W.fnOf "word_of" "word_of" (defArgs s_word_of) (defBody s_word_of) (defScope s_word_of) .none kV_word_of dc_word_of pm_word_of an_word_of cd_word_of ct_word_of,
    F_word_of := F_word_of,
    g_word_of := PySem.W.mg_of X G a_word_of,
    b_word_of := b_word_of,
    a_product_by_turns := f_product_by_turns,
    d_product_by_turns := PySem.W.fnOf "product_by_turns" "product_by_turns" (defArgs s_product_by_turns) (defBody s_product_by_turns) (defScope s_product_by_turns) .none kV_product_by_turns dc_product_by_turns pm_product_by_turns an_product_by_turns cd_product_by_turns ct_product_by_turns,
    F_product_by_turns := F_product_by_turns,
    g_product_by_turns := PySem.W.mg_of X G a_product_by_turns,
    b_product_by_turns := b_product_by_turns,
    a_front_length := f_front_length,
    d_front_length := PySem.W.fnOf "front_length" "front_length" (defArgs s_front_length) (defBody s_front_length) (defScope s_front_length) .none kV_front_length dc_front_length pm_front_length an_front_length cd_front_length ct_front_length,
    F_front_length := F_front_length,
    g_front_length := PySem.W.mg_of X G a_front_length,
    b_front_length := b_front_length,
    a_end_length := f_end_length,
    d_end_length := PySem.W.fnOf "end_length" "end_length" (defArgs s_end_length) (defBody s_end_length) (defScope s_end_length) .none kV_end_length dc_end_length pm_end_length an_end_length cd_end_length ct_end_length,
    F_end_length := F_end_length,
    g_end_length := PySem.W.mg_of X G a_end_length,
    b_end_length := b_end_length,
    a_cut_bounds := f_cut_bounds,
    d_cut_bounds := PySem.W.fnOf "cut_bounds" "cut_bounds" (defArgs s_cut_bounds) (defBody s_cut_bounds) (defScope s_cut_bounds) .none kV_cut_bounds dc_cut_bounds pm_cut_bounds an_cut_bounds cd_cut_bounds ct_cut_bounds,
    F_cut_bounds := F_cut_bounds,
    g_cut_bounds := PySem.W.mg_of X G a_cut_bounds,
    b_cut_bounds := b_cut_bounds,
    a_merged := f_merged,
    d_merged := PySem.W.fnOf "merged" "merged" (defArgs s_merged) (defBody s_merged) (defScope s_merged) .none kV_merged dc_merged pm_merged an_merged cd_merged ct_merged,
    F_merged := F_merged,
    g_merged := PySem.W.mg_of X G a_merged,
    b_merged := b_merged,
    xf0 := rfl,
    a_merge_texts := f_merge_texts,
    d_merge_texts := PySem.W.fnOf "merge_texts" "merge_texts" (defArgs s_merge_texts) (defBody s_merge_texts) (defScope s_merge_texts) .none kV_merge_texts dc_merge_texts pm_merge_texts an_merge_texts cd_merge_texts ct_merge_texts,
    F_merge_texts := F_merge_texts,
    g_merge_texts := PySem.W.mg_of X G a_merge_texts,
    b_merge_texts := b_merge_texts,
    xf1 := rfl,
    a_merge_cuts := f_merge_cuts,
    d_merge_cuts := PySem.W.fnOf "merge_cuts" "merge_cuts" (defArgs s_merge_cuts) (defBody s_merge_cuts) (defScope s_merge_cuts) .none kV_merge_cuts dc_merge_cuts pm_merge_cuts an_merge_cuts cd_merge_cuts ct_merge_cuts,
    F_merge_cuts := F_merge_cuts,
    g_merge_cuts := PySem.W.mg_of X G a_merge_cuts,
    b_merge_cuts := b_merge_cuts,
    xf2 := rfl,
    a_merge_word := f_merge_word,
    d_merge_word := PySem.W.fnOf "merge_word" "merge_word" (defArgs s_merge_word) (defBody s_merge_word) (defScope s_merge_word) .none kV_merge_word dc_merge_word pm_merge_word an_merge_word cd_merge_word ct_merge_word,
    F_merge_word := F_merge_word,
    g_merge_word := PySem.W.mg_of X G a_merge_word,
    b_merge_word := b_merge_word,
    a_law_box := f_law_box,
    d_law_box := PySem.W.fnOf "_law_box" "_law_box" (defArgs s_law_box) (defBody s_law_box) (defScope s_law_box) .none kV_law_box dc_law_box pm_law_box an_law_box cd_law_box ct_law_box,
    F_law_box := F_law_box,
    g_law_box := PySem.W.mg_of X G a_law_box,
    b_law_box := b_law_box,
    a_law_take := f_law_take,
    d_law_take := PySem.W.fnOf "_law_take" "_law_take" (defArgs s_law_take) (defBody s_law_take) (defScope s_law_take) .none kV_law_take dc_law_take pm_law_take an_law_take cd_law_take ct_law_take,
    F_law_take := F_law_take,
    g_law_take := PySem.W.mg_of X G a_law_take,
    b_law_take := b_law_take,
    a_law_pick := f_law_pick,
    d_law_pick := PySem.W.fnOf "_law_pick" "_law_pick" (defArgs s_law_pick) (defBody s_law_pick) (defScope s_law_pick) .none kV_law_pick dc_law_pick pm_law_pick an_law_pick cd_law_pick ct_law_pick,
    F_law_pick := F_law_pick,
    g_law_pick := PySem.W.mg_of X G a_law_pick,
    b_law_pick := b_law_pick,
    a_law_word := f_law_word,
    d_law_word := PySem.W.fnOf "_law_word" "_law_word" (defArgs s_law_word) (defBody s_law_word) (defScope s_law_word) .none kV_law_word dc_law_word pm_law_word an_law_word cd_law_word ct_law_word,
    F_law_word := F_law_word,
    g_law_word := PySem.W.mg_of X G a_law_word,
    b_law_word := b_law_word,
    a_law_text := f_law_text,
    d_law_text := PySem.W.fnOf "_law_text" "_law_text" (defArgs s_law_text) (defBody s_law_text) (defScope s_law_text) .none kV_law_text dc_law_text pm_law_text an_law_text cd_law_text ct_law_text,
    F_law_text := F_law_text,
    g_law_text := PySem.W.mg_of X G a_law_text,
    b_law_text := b_law_text,
    a_law_row := f_law_row,
    d_law_row := PySem.W.fnOf "_law_row" "_law_row" (defArgs s_law_row) (defBody s_law_row) (defScope s_law_row) .none kV_law_row dc_law_row pm_law_row an_law_row cd_law_row ct_law_row,
    F_law_row := F_law_row,
    g_law_row := PySem.W.mg_of X G a_law_row,
    b_law_row := b_law_row,
    a_law_three := f_law_three,
    d_law_three := PySem.W.fnOf "_law_three" "_law_three" (defArgs s_law_three) (defBody s_law_three) (defScope s_law_three) .none kV_law_three dc_law_three pm_law_three an_law_three cd_law_three ct_law_three,
    F_law_three := F_law_three,
    g_law_three := PySem.W.mg_of X G a_law_three,
    b_law_three := b_law_three,
    a_law_refused := f_law_refused,
    d_law_refused := PySem.W.fnOf "_law_refused" "_law_refused" (defArgs s_law_refused) (defBody s_law_refused) (defScope s_law_refused) .none kV_law_refused dc_law_refused pm_law_refused an_law_refused cd_law_refused ct_law_refused,
    F_law_refused := F_law_refused,
    g_law_refused := PySem.W.mg_of X G a_law_refused,
    b_law_refused := b_law_refused,
    a_law_cuts := f_law_cuts,
    d_law_cuts := PySem.W.fnOf "_law_cuts" "_law_cuts" (defArgs s_law_cuts) (defBody s_law_cuts) (defScope s_law_cuts) .none kV_law_cuts dc_law_cuts pm_law_cuts an_law_cuts cd_law_cuts ct_law_cuts,
    F_law_cuts := F_law_cuts,
    g_law_cuts := PySem.W.mg_of X G a_law_cuts,
    b_law_cuts := b_law_cuts,
    a_law := f_law,
    d_law := PySem.W.fnOf "law" "law" (defArgs s_law) (defBody s_law) (defScope s_law) .none kV_law dc_law pm_law an_law cd_law ct_law,
    F_law := F_law,
    g_law := PySem.W.mg_of X G a_law,
    b_law := b_law,
    kb_merge_texts_0_base_mine_yours := x_kb_merge_texts_0_base_mine_yours,
    kb_merge_cuts_0_base_mine_yours := x_kb_merge_cuts_0_base_mine_yours,
    kb_merge_word_0_yours_mine_base := x_kb_merge_word_0_yours_mine_base }
  refine ⟨_, fun s v => .of_eq rfl, spF 1 K T.xc m_law, fun H a ns _ hS => ?_, fun base _ _ => ok_law T⟩
  obtain ⟨as, e⟩ := law_true ns
  exact law_sp e hS
end K06
end VL

open PySem PySem.W PyProof.Rows
set_option maxRecDepth 100000 in
set_option maxHeartbeats 0 in
theorem PySem.Challenge.cw_cancelsback_k06_whole_merges_and_cuts_holds : PySem.Challenge.rw_cancelsback_k06_whole_merges_and_cuts.Holds := by
  w_on; o_law; k_head; (case hw => w_witness2)
  k_fill
  refine VL.walk_g (l := PySem.Challenge.rw_cancelsback_k06_whole_merges_and_cuts) (n := 63) (k := 10) (x := "script") rfl (by decide) rfl ⟨rfl, by decide, by decide⟩ (fun w h Y => PySem.W.kIn_of Y) ?F
  case F =>
    intro w mg fa h KX G hmg
    refine' VL.K06.all_mk KX G hmg ?z_abs ?z_bool ?z_enumerate ?z_int ?z_isinstance ?z_len ?z_list ?z_min ?z_range ?z_repr ?z_tuple ?hB_MergeError ?e0_g ?e0_l ?e0_sa ?e0_ga ?e0_gg ?e0_no ?e0_i ?e0_t ?e0_lf ?e0_cf ?e0_k ?e0_ex ?e0_ty ?e0_hd ?e0_ic ?e0_ss ?e0_ca ?e0_cn ?e0_ct ?e0_cm ?e0_iMergeError ?e0_tMergeError ?e0_sMergeError ?a_is_integer ?l_is_integer_ ?c_is_integer_ ?k_is_integer_ ?a_is_number ?l_is_number_ ?c_is_number_ ?k_is_number_ ?a_is_number_below ?l_is_number_below_ ?c_is_number_below_ ?k_is_number_below_ ?a_is_sequence ?l_is_sequence_ ?c_is_sequence_ ?k_is_sequence_ ?a_is_letter ?l_is_letter_ ?c_is_letter_ ?k_is_letter_ ?a_text_or_none ?l_text_or_none_ ?c_text_or_none_ ?k_text_or_none_ ?a_need_text ?l_need_text_ ?c_need_text_ ?k_need_text_ ?a_need_three_texts ?l_need_three_texts_ ?c_need_three_texts_ ?k_need_three_texts_ ?a_undo_each_other ?l_undo_each_other_ ?c_undo_each_other_ ?k_undo_each_other_ ?a_struck ?l_struck_ ?c_struck_ ?k_struck_ ?a_undone ?l_undone_ ?c_undone_ ?k_undone_ ?a_word_of ?l_word_of_ ?c_word_of_ ?k_word_of_ ?a_product_by_turns ?l_product_by_turns_ ?c_product_by_turns_ ?k_product_by_turns_ ?a_front_length ?l_front_length_ ?c_front_length_ ?k_front_length_ ?a_end_length ?l_end_length_ ?c_end_length_ ?k_end_length_ ?a_cut_bounds ?l_cut_bounds_ ?c_cut_bounds_ ?k_cut_bounds_ ?a_merged ?l_merged_ ?c_merged_ ?k_merged_ ?a_merge_texts ?l_merge_texts_ ?c_merge_texts_ ?k_merge_texts_ ?a_merge_cuts ?l_merge_cuts_ ?c_merge_cuts_ ?k_merge_cuts_ ?a_merge_word ?l_merge_word_ ?c_merge_word_ ?k_merge_word_ ?a_law_box ?l_law_box_ ?c_law_box_ ?k_law_box_ ?a_law_take ?l_law_take_ ?c_law_take_ ?k_law_take_ ?a_law_pick ?l_law_pick_ ?c_law_pick_ ?k_law_pick_ ?a_law_word ?l_law_word_ ?c_law_word_ ?k_law_word_ ?a_law_text ?l_law_text_ ?c_law_text_ ?k_law_text_ ?a_law_row ?l_law_row_ ?c_law_row_ ?k_law_row_ ?a_law_three ?l_law_three_ ?c_law_three_ ?k_law_three_ ?a_law_refused ?l_law_refused_ ?c_law_refused_ ?k_law_refused_ ?a_law_cuts ?l_law_cuts_ ?c_law_cuts_ ?k_law_cuts_ ?a_law ?l_law_ ?c_law_ ?k_law_
    (case z_abs => k_is)
    (case z_bool => k_is)
    (case z_enumerate => k_is)
    (case z_int => k_is)
    (case z_isinstance => k_is)
    (case z_len => k_is)
    (case z_list => k_is)
    (case z_min => k_is)
    (case z_range => k_is)
    (case z_repr => k_is)
    (case z_tuple => k_is)
    (case hB_MergeError => k_is)
    (case e0_g => k_is)
    (case e0_l => k_is)
    (case e0_sa => k_is)
    (case e0_ga => k_is)
    (case e0_gg => k_is)
    (case e0_no => k_is)
    (case e0_i => k_is)
    (case e0_t => k_is)
    (case e0_lf => k_is)
    (case e0_cf => k_is)
    (case e0_k => k_is)
    (case e0_ex => k_is)
    (case e0_ty => k_is)
    (case e0_hd => k_is)
    (case e0_ic => k_is)
    (case e0_ss => first | rfl | k_is)
    (case e0_ca => k_is)
    (case e0_cn => k_is)
    (case e0_ct => k_is)
    (case e0_cm => k_is)
    (case e0_iMergeError => k_is)
    (case e0_tMergeError => k_is)
    (case e0_sMergeError => k_is)
    (case a_is_integer => k_is)
    (case l_is_integer_ => k_is)
    (case c_is_integer_ => k_is)
    (case k_is_integer_ => k_is)
    (case a_is_number => k_is)
    (case l_is_number_ => k_is)
    (case c_is_number_ => k_is)
    (case k_is_number_ => k_is)
    (case a_is_number_below => k_is)
    (case l_is_number_below_ => k_is)
    (case c_is_number_below_ => k_is)
    (case k_is_number_below_ => k_is)
    (case a_is_sequence => k_is)
    (case l_is_sequence_ => k_is)
    (case c_is_sequence_ => k_is)
    (case k_is_sequence_ => k_is)
    (case a_is_letter => k_is)
    (case l_is_letter_ => k_is)
    (case c_is_letter_ => k_is)
    (case k_is_letter_ => k_is)
    (case a_text_or_none => k_is)
    (case l_text_or_none_ => k_is)
    (case c_text_or_none_ => k_is)
    (case k_text_or_none_ => k_is)
    (case a_need_text => k_is)
    (case l_need_text_ => k_is)
    (case c_need_text_ => k_is)
    (case k_need_text_ => k_is)
    (case a_need_three_texts => k_is)
    (case l_need_three_texts_ => k_is)
    (case c_need_three_texts_ => k_is)
    (case k_need_three_texts_ => k_is)
    (case a_undo_each_other => k_is)
    (case l_undo_each_other_ => k_is)
    (case c_undo_each_other_ => k_is)
    (case k_undo_each_other_ => k_is)
    (case a_struck => k_is)
    (case l_struck_ => k_is)
    (case c_struck_ => k_is)
    (case k_struck_ => k_is)
    (case a_undone => k_is)
    (case l_undone_ => k_is)
    (case c_undone_ => k_is)
    (case k_undone_ => k_is)
    (case a_word_of => k_is)
    (case l_word_of_ => k_is)
    (case c_word_of_ => k_is)
    (case k_word_of_ => k_is)
    (case a_product_by_turns => k_is)
    (case l_product_by_turns_ => k_is)
    (case c_product_by_turns_ => k_is)
    (case k_product_by_turns_ => k_is)
    (case a_front_length => k_is)
    (case l_front_length_ => k_is)
    (case c_front_length_ => k_is)
    (case k_front_length_ => k_is)
    (case a_end_length => k_is)
    (case l_end_length_ => k_is)
    (case c_end_length_ => k_is)
    (case k_end_length_ => k_is)
    (case a_cut_bounds => k_is)
    (case l_cut_bounds_ => k_is)
    (case c_cut_bounds_ => k_is)
    (case k_cut_bounds_ => k_is)
    (case a_merged => k_is)
    (case l_merged_ => k_is)
    (case c_merged_ => k_is)
    (case k_merged_ => k_is)
    (case a_merge_texts => k_is)
    (case l_merge_texts_ => k_is)
    (case c_merge_texts_ => k_is)
    (case k_merge_texts_ => k_is)
    (case a_merge_cuts => k_is)
    (case l_merge_cuts_ => k_is)
    (case c_merge_cuts_ => k_is)
    (case k_merge_cuts_ => k_is)
    (case a_merge_word => k_is)
    (case l_merge_word_ => k_is)
    (case c_merge_word_ => k_is)
    (case k_merge_word_ => k_is)
    (case a_law_box => k_is)
    (case l_law_box_ => k_is)
    (case c_law_box_ => k_is)
    (case k_law_box_ => k_is)
    (case a_law_take => k_is)
    (case l_law_take_ => k_is)
    (case c_law_take_ => k_is)
    (case k_law_take_ => k_is)
    (case a_law_pick => k_is)
    (case l_law_pick_ => k_is)
    (case c_law_pick_ => k_is)
    (case k_law_pick_ => k_is)
    (case a_law_word => k_is)
    (case l_law_word_ => k_is)
    (case c_law_word_ => k_is)
    (case k_law_word_ => k_is)
    (case a_law_text => k_is)
    (case l_law_text_ => k_is)
    (case c_law_text_ => k_is)
    (case k_law_text_ => k_is)
    (case a_law_row => k_is)
    (case l_law_row_ => k_is)
    (case c_law_row_ => k_is)
    (case k_law_row_ => k_is)
    (case a_law_three => k_is)
    (case l_law_three_ => k_is)
    (case c_law_three_ => k_is)
    (case k_law_three_ => k_is)
    (case a_law_refused => k_is)
    (case l_law_refused_ => k_is)
    (case c_law_refused_ => k_is)
    (case k_law_refused_ => k_is)
    (case a_law_cuts => k_is)
    (case l_law_cuts_ => k_is)
    (case c_law_cuts_ => k_is)
    (case k_law_cuts_ => k_is)
    (case a_law => k_is)
    (case l_law_ => k_is)
    (case c_law_ => k_is)
    (case k_law_ => k_is)

