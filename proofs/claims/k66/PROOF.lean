import PyProof.Rows.All
import Wide.All
import OpenK.AllK
import Wide.FinOn
import HandS.ForExc
import HandS.ForMost
import HandS.Flow
import HandS.Walk
import HandS.ExcOwn
import HandS.WordsExc
import HandS.Ends
import HandS.Lambda
import KE.DataEq
import HandS.TupAny
import HandS.TupMul
import HandS.Conv
import HandS.IsInst
import HandS.WordsDict
import HandS.Deep
import HandS.Style
import KE.SortData
import KE.GoesMore
import HandS.Iter
import HandS.SetFor
import HandS.NoneIn
import KE.KEqSeq
import HandS.Zip
import HandS.TryOnly
import HandS.ExcIs
import PyProof.Rows.StrDigits
import HandS.TryMany
import HandS.SetBool
import HandS.DictComp
import HandS.TupSets
import HandS.Strs
import PyProof.ListNew
import HandS.Defaults
import HandS.Small
import HandS.Star
import KE.DataMinKey
import HandS.SortKw
import KE.KUnpack
import HandS.More
import HandS.GenCall
import HandS.GenYield
import HandS.GenList
import KE.KMathG
import KE.KMathGC
import HandS.Text
import HandS.EndTab
import HandS.HotCalls
import KE.KNestM
import KE.RegKIsAll
import KE.DataFind
import HandS.FStr
import KE.KUnpackStar
import PySem.Challenge.RW_writebacks_k66_whole_texts_there_and_bac
set_option Elab.async false
set_option linter.all false
set_option autoImplicit false
set_option maxRecDepth 100000
namespace MW
open PySem PySem.Spec PyProof.Rows L2
/-- room for a call; gq: no repr is under way -/
structure RoomQ (gq : Bool) (k : Nat) (A : Around) : Prop where
  rm : Room k A
  gd : gq = true → A.guards = some []
section
variable {gq : Bool}
theorem RoomQ.mono {j k : Nat} {A : Around} (r : RoomQ gq k A) (h : j ≤ k) : RoomQ gq j A := ⟨r.rm.mono h, r.gd⟩
theorem RoomQ.units {k : Nat} {A : Around} (r : RoomQ gq k A) : A.units + 64 < cLine := r.rm.units
theorem RoomQ.un {k : Nat} {A : Around} (r : RoomQ gq k A) : A.units + 16 * k + 200 < cLine := r.rm.un
theorem RoomQ.deeper {k : Nat} {A : Around} (r : RoomQ gq (k + 1) A) (env : Env) : RoomQ gq k (A.deeper env) := ⟨r.rm.deeper env, fun z => by
  have h := r.gd z
  first | exact h | (simp [Around.deeper, h])⟩
end
structure FnQ (gq : Bool) (P : Program) (w : World) (K : PySem.W.Frag) (mg : Str → Option Value) (base : Heap) (k : Nat) (f : Addr) (fd : FuncData) (ps : List Str) (sp : Sp) : Prop where
  len : ∀ vs H Q E, sp vs H Q E → vs.length = ps.length
  run : ∀ (A : Around) (outer : List Env) (s : Shared) (H : Hp) (args : Args) (us : List Value) (vs : List V) (Q : VK) (E : XK), RoomQ gq k A → Env0 P w K mg base A outer s H → BindsTo s fd args (ps.zip us) → Vals vs us → sp vs H Q E →
    codeAny (model P w) A (.call (.ref f) args) (CR (L2.CX P w) outer P w H s Q E) s
abbrev FnG (P : Program) (w : World) (K : PySem.W.Frag) (mg : Str → Option Value) (base : Heap) (k : Nat) (f : Addr) (fd : FuncData) (ps : List Str) (sp : Sp) : Prop := FnQ true P w K mg base k f fd ps sp
section
variable {gq : Bool}
variable {P : Program} {w : World} {K : PySem.W.Frag} {mg : Str → Option Value} {base : Heap} {f : Addr} {fd : FuncData} {ps N : List Str} {sp : Sp}
theorem FnQ.mono {j k : Nat} (F : FnQ gq P w K mg base j f fd ps sp) (h : j ≤ k) : FnQ gq P w K mg base k f fd ps sp := ⟨F.len, fun A outer s H args us vs Q E hr => F.run A outer s H args us vs Q E (hr.mono h)⟩
theorem FnQ.imp {k : Nat} {sp' : Sp} (F : FnQ gq P w K mg base k f fd ps sp) (h : ∀ vs H Q E, sp' vs H Q E → sp vs H Q E) : FnQ gq P w K mg base k f fd ps sp' :=
  ⟨fun vs H Q E q => F.len vs H Q E (h _ _ _ _ q), fun A outer s H args us vs Q E hr e0 hb rv q => F.run A outer s H args us vs Q E hr e0 hb rv (h _ _ _ _ q)⟩
/-- a def, by what its body does -/
theorem FnQ.of {x qual : Str} {st : Stmt} {k : Nat} (F : L2.Fun K x qual st f fd) (S : FnScope N ps (defScope st)) (len : ∀ vs H Q E, sp vs H Q E → vs.length = ps.length)
    (body : ∀ (cdv : Value) (A : Around) (outer : List Env) (s : Shared) (H : Hp) (vs : List V) (Q : VK) (E : XK), RoomQ gq k (A.deeper (envOfC qual (defScope st) s.heap.objs.size f cdv)) → sp vs H Q E →
      ∃ t, PSs (cxOf (L2.CX P w) P w K mg base N qual (defScope st) f cdv A outer s H E) (defBody st) t ∧ t { nx := fun _ H' => Q .non H', rt := Q } (start N vs) H) : FnQ gq P w K mg base (k + 1) f fd ps sp := by
  obtain ⟨oc, od, kV, doc, pm, an, cdv, ct, osl, rfl, lk, hcd⟩ := F.ex
  constructor
  · exact len
  intro A outer s H args us vs Q E hr e0 hb rv hsp
  have hvs : vs.length = ps.length := len _ _ _ _ hsp
  have keep := fun b o e => (e0.bs b o e).1
  have kin : K.In s.heap := e0.mod.kin.keeps keep
  have nolim : s.heap.NoLimit := e0.mod.nolimit.keeps keep
  apply codeAny_call_function hr.rm.depth (kin _ _ lk) rfl S.co S.gen rfl (PySem.W.codeRec_of kin hcd)
  apply hb
  refine wpAny_newFunctionEnv_cells S.kind ?_ ?_
  · rintro ⟨y, u⟩ hy
    have hyp := S.par y (List.of_mem_zip hy).1
    cases hyp with
    | inl q => exact Or.inl q
    | inr q => exact Or.inr ⟨q, PySem.W.cellsFrom_some _ _ _ (Or.inl q)⟩
  · intro env henv s1 x
    subst henv
    constructor
    · exact nolim.keeps x.toInCall.keep
    · apply codeAny_func
      obtain ⟨t, ht, hq⟩ := body cdv A outer s H vs Q E (hr.deeper _) hsp
      have I0 : Inv (cxOf (L2.CX P w) P w K mg base N qual (defScope st) f cdv A outer s H E) [] (start N vs) H s1 := inv_start (CX := L2.CX P w) S hr.rm.hd e0 hvs rv x
      have run := ht.run [] s1 (start N vs) H _ I0 hq
      apply wpAny_mono run
      · intro fl s' hs
        have ends : ∀ {σ' : L2.St} {H' : Hp} {v : V} {u : Value}, Inv (cxOf (L2.CX P w) P w K mg base N qual (defScope st) f cdv A outer s H E) [] σ' H' s' → RelV v u → Q v H' → CE outer P w H s Q u s' := by
          intro σ' H' v u J ru q
          exact ⟨v, H', J.os, J.bare, J.base, J.hok, ru, q⟩
        match fl, hs with
        | .ret u, ⟨v, σ', H', J, ru, q⟩ => exact ends J ru q
        | .next, ⟨σ', H', J, q⟩ => exact ends (v := V.non) (u := Value.none) J rfl q
        | .brk, ⟨_, _, _, q⟩ => exact q.elim
        | .cont, ⟨_, _, _, q⟩ => exact q.elim
      · exact fun e s' hs => hs
end
section
variable {gq : Bool} {X : Cx} {k : Nat} {f : Addr} {fd : FuncData} {ps : List Str} {sp : Sp} {x : Str} {p pos : Pos} {e : Expr} {es : List Expr} {t : TA} {E : L2.St → XK}
theorem pe_callG (F : FnQ gq X.prog X.w X.K X.mg X.base k f fd ps sp) (hr : RoomQ gq k X.A) (hg : Gl X x) (hm : X.mg x = some (.ref f)) (hk : PySem.W.keepIn X.K (.ref f) = true) (hb : Binds X.K fd ps []) (hx : ∀ σ, PassesAt (L2.CX X.prog X.w) X σ (E σ))
    (ha : PA X (e :: es) t) (hdb : (x == ("__debug__" : Str)) = false := by decide) (he : starEach (e :: es) X.env = (false, eval e X.env) :: starEach es X.env := by rfl) (hpl : (backTo pos (starEach es X.env)).any (·.1) = false := by rfl) :
    PE X (.Call (.Name x p) (e :: es) [] pos) (tCallS sp E t) := by
  constructor
  intro pins s σ H Q I h
  apply wpAny_Call_Name_kw
  apply ld_glob I hg hm _ hdb
  refine PySem.W.callWith_K (h₀ := X.base) I.ok.mod.kin hk (thn (ha.run pos pins s σ H _ I h) ?_) he hpl
  rintro us s1 ⟨vs, H1, I1, r, q⟩
  refine ⟨I1.kIn, ?_⟩
  have n : us.length = ps.length := by rw [← F.len _ _ _ _ q, r.length]
  have bd : BindsTo s1 fd ⟨us, []⟩ (ps.zip us) := by
    have z := hb s1 us I1.kIn (by simpa using n)
    simpa using z
  have run := F.run X.A X.stack s1 H1 ⟨us, []⟩ us vs Q (E σ) hr I1.env0 bd r q
  apply wpAny_call
  apply codeAny_mono run
  intro r s' hq
  match r, hq with
  | .error e, hq => exact hx σ pins H1 s1 e s' I1 hq
  | .ok (.ret u), hq => exact I1.after hq
  | .ok .next, hq => exact hq.elim
  | .ok .brk, hq => exact hq.elim
  | .ok .cont, hq => exact hq.elim
end
end MW
namespace MW
open PySem PySem.Spec PyProof.Rows L2
abbrev D := PyData
abbrev Sts := L2.St
abbrev Ev := List (Option D)
abbrev Fg := PySem.W.Frag
def keyD : L2.Key → D
  | .inl i => .int i
  | .inr x => .str x
/-- a tuple at a, of which it is known that it has no names of its own -/
def SqM (K : Fg) (H : Hp) (a : Addr) (xs : List V) : Prop :=
  (∃ o : Obj, o.dict = none ∧ H a = some (.frz o (.tup xs))) ∨
  ∃ (o : Obj) (its : Array Value) (n : Nat), o.dict = none ∧ K.lookup a = some o ∧ (o.cls = .type "tuple" ∧ o.data = .seq its n) ∧ its.size ≤ sizeLine ∧ Vals xs its.toList
theorem SqM.sq {K : Fg} {H : Hp} {a : Addr} {xs : List V} : SqM K H a xs → SqT K H a xs
  | .inl ⟨o, _, h⟩ => .inl (.inr ⟨o, h⟩)
  | .inr ⟨o, its, n, _, h1, ⟨h2, h3⟩, h4, h5⟩ => .inr ⟨o, its, n, h1, h2, h3, h4, h5⟩
mutual
/-- a value stands for data, over what is frozen -/
inductive Rp (K : Fg) (F : Hp) : V → D → Prop
  | non : Rp K F .non .none
  | bl (b : Bool) : Rp K F (.bl b) (.bool b)
  | int (i : Int) : Rp K F (.int i) (.int i)
  | str (x : Str) : Rp K F (.str x) (.str x)
  | lst {a : Addr} {xs : List V} {ds : List D} : Rd F a (.lst xs) → RpL K F xs ds → Rp K F (.ref a) (.list ds)
  | tup {a : Addr} {xs : List V} {ds : List D} : SqM K F a xs → RpL K F xs ds → Rp K F (.ref a) (.tuple ds)
  | dct {a : Addr} {o : Obj} {kvs : List (L2.Key × V)} {ps : List (D × D)} : F a = some (.frz o (.dK kvs)) → RpK K F kvs ps → Rp K F (.ref a) (.dict ps)
inductive RpL (K : Fg) (F : Hp) : List V → List D → Prop
  | nil : RpL K F [] []
  | cons {v : V} {vs : List V} {d : D} {ds : List D} : Rp K F v d → RpL K F vs ds → RpL K F (v :: vs) (d :: ds)
inductive RpK (K : Fg) (F : Hp) : List (L2.Key × V) → List (D × D) → Prop
  | nil : RpK K F [] []
  | cons {k : L2.Key} {v : V} {kvs : List (L2.Key × V)} {d : D} {ps : List (D × D)} : Rp K F v d → RpK K F kvs ps → RpK K F ((k, v) :: kvs) ((keyD k, d) :: ps)
end
theorem sqM_same {K : Fg} {H H' : Hp} {a : Addr} {xs : List V} (e : Same H H') : SqM K H a xs → SqM K H' a xs
  | .inl ⟨o, d, h⟩ => .inl ⟨o, d, e _ _ h⟩
  | .inr h => .inr h
theorem sqT_same {K : Fg} {H H' : Hp} {a : Addr} {xs : List V} (e : Same H H') (h : SqT K H a xs) : SqT K H' a xs := by
  rcases h with (h | ⟨o, h⟩) | h
  · exact .inl (.inl (e _ _ h))
  · exact .inl (.inr ⟨o, e _ _ h⟩)
  · exact .inr h
theorem rd_same {H H' : Hp} {a : Addr} {o : HO} (e : Same H H') (h : Rd H a o) : Rd H' a o := by
  rcases h with h | ⟨u, h⟩
  · exact .inl (e _ _ h)
  · exact .inr ⟨u, e _ _ h⟩
mutual
theorem Rp.up {K : Fg} {F F' : Hp} (e : Same F F') : ∀ {v : V} {d : D}, Rp K F v d → Rp K F' v d
  | _, _, .non => .non
  | _, _, .bl b => .bl b
  | _, _, .int i => .int i
  | _, _, .str x => .str x
  | _, _, .lst h r => .lst (rd_same e h) (RpL.up e r)
  | _, _, .tup h r => .tup (sqM_same e h) (RpL.up e r)
  | _, _, .dct h r => .dct (e _ _ h) (RpK.up e r)
theorem RpL.up {K : Fg} {F F' : Hp} (e : Same F F') : ∀ {vs : List V} {ds : List D}, RpL K F vs ds → RpL K F' vs ds
  | _, _, .nil => .nil
  | _, _, .cons h r => .cons (Rp.up e h) (RpL.up e r)
theorem RpK.up {K : Fg} {F F' : Hp} (e : Same F F') : ∀ {vs : List (L2.Key × V)} {ds : List (D × D)}, RpK K F vs ds → RpK K F' vs ds
  | _, _, .nil => .nil
  | _, _, .cons h r => .cons (Rp.up e h) (RpK.up e r)
end
section
variable {K : Fg} {F : Hp}
theorem RpL.len : ∀ {xs : List V} {ds : List D}, RpL K F xs ds → xs.length = ds.length
  | _, _, .nil => rfl
  | _, _, .cons _ r => by rw [List.length_cons, List.length_cons, r.len]
theorem RpL.get : ∀ {xs : List V} {ds : List D} {i : Nat} {d : D}, RpL K F xs ds → ds[i]? = some d → ∃ v, xs[i]? = some v ∧ Rp K F v d
  | _, _, _, _, .nil, h => by simp at h
  | _, _, 0, _, .cons a _, h => by
    simp at h
    subst h
    exact ⟨_, rfl, a⟩
  | _, _, i + 1, _, .cons _ r, h => by
    obtain ⟨v, e, q⟩ := r.get (i := i) (by simpa using h)
    exact ⟨v, by simpa using e, q⟩
theorem RpL.gets : ∀ {xs : List V} {ds : List D} {i : Nat} {v : V}, RpL K F xs ds → xs[i]? = some v → ∃ d, ds[i]? = some d ∧ Rp K F v d
  | _, _, _, _, .nil, h => by simp at h
  | _, _, 0, _, .cons a _, h => by
    simp at h
    subst h
    exact ⟨_, rfl, a⟩
  | _, _, i + 1, _, .cons _ r, h => by
    obtain ⟨v, e, q⟩ := r.gets (i := i) (by simpa using h)
    exact ⟨v, by simpa using e, q⟩
theorem RpL.app : ∀ {xs ys : List V} {ds es : List D}, RpL K F xs ds → RpL K F ys es → RpL K F (xs ++ ys) (ds ++ es)
  | _, _, _, _, .nil, h => h
  | _, _, _, _, .cons a r, h => .cons a (r.app h)
theorem RpL.one {x : V} {d : D} (h : Rp K F x d) : RpL K F [x] [d] := .cons h .nil
theorem RpL.set : ∀ {xs : List V} {ds : List D} (i : Nat) {x : V} {d : D}, Rp K F x d → RpL K F xs ds → RpL K F (xs.set i x) (ds.set i d)
  | _, _, _, _, _, _, .nil => .nil
  | _, _, 0, _, _, h, .cons _ r => .cons h r
  | _, _, i + 1, _, _, h, .cons a r => .cons a (r.set i h)
theorem RpL.take : ∀ {xs : List V} {ds : List D} (n : Nat), RpL K F xs ds → RpL K F (xs.take n) (ds.take n)
  | _, _, 0, _ => .nil
  | _, _, _ + 1, .nil => .nil
  | _, _, n + 1, .cons a r => .cons a (r.take n)
theorem RpL.drop : ∀ {xs : List V} {ds : List D} (n : Nat), RpL K F xs ds → RpL K F (xs.drop n) (ds.drop n)
  | _, _, 0, r => r
  | _, _, _ + 1, .nil => .nil
  | _, _, n + 1, .cons _ r => r.drop n
theorem RpL.erase : ∀ {xs : List V} {ds : List D} (n : Nat), RpL K F xs ds → RpL K F (xs.eraseIdx n) (ds.eraseIdx n)
  | _, _, _, .nil => .nil
  | _, _, 0, .cons a r => r
  | _, _, n + 1, .cons a r => .cons a (r.erase n)
theorem RpL.rev : ∀ {xs : List V} {ds : List D}, RpL K F xs ds → RpL K F xs.reverse ds.reverse
  | _, _, .nil => .nil
  | _, _, .cons a r => by
    rw [List.reverse_cons, List.reverse_cons]
    exact r.rev.app (.one a)
end
inductive Out (α : Type) where
  | ok (a : α) (ρ : Ev)
  | err (c : Str) (ρ : Ev)
  | bad
def Out.bind {α β : Type} (o : Out α) (f : α → Ev → Out β) : Out β := match o with
  | .ok a ρ => f a ρ
  | .err c ρ => .err c ρ
  | .bad => .bad
def Sat {α : Type} (o : Out α) (k : α → Ev → Prop) (e : Str → Ev → Prop) : Prop := match o with
  | .ok a ρ => k a ρ
  | .err c ρ => e c ρ
  | .bad => False
theorem Sat.bind {α β : Type} {o : Out α} {f : α → Ev → Out β} {k : β → Ev → Prop} {e : Str → Ev → Prop} (h : Sat (o.bind f) k e) : Sat o (fun a ρ => Sat (f a ρ) k e) e := by
  cases o with
  | ok a ρ => exact h
  | err c ρ => exact h
  | bad => exact h
theorem Sat.mono {α : Type} {o : Out α} {k k' : α → Ev → Prop} {e e' : Str → Ev → Prop} (h : Sat o k e) (hk : ∀ a ρ, k a ρ → k' a ρ) (he : ∀ c ρ, e c ρ → e' c ρ) : Sat o k' e' := by
  cases o with
  | ok a ρ => exact hk a ρ h
  | err c ρ => exact he c ρ h
  | bad => exact h
def Out.of {α : Type} (x : Option α) (ρ : Ev) : Out α := match x with
  | some a => .ok a ρ
  | none => .bad
/-- the slots' kinds: 0 shared, 1 a list of one's own, 2 one's own list of such lists, 3 another name of an inner list (al: of which slot's) -/
structure Sg where
  ks : List Nat
  np : Nat
  as : List (Option Nat) := []
  T : List (Addr × Str) := []
abbrev knd (S : Sg) (i : Nat) : Nat := S.ks.getD i 0
abbrev own (S : Sg) (i : Nat) : Bool := knd S i == 1 || knd S i == 2 || knd S i == 5
abbrev deep (S : Sg) (i : Nat) : Bool := knd S i == 2
abbrev ali (S : Sg) (i : Nat) : Option Nat := S.as.getD i none
theorem own_of0 {S : Sg} {i : Nat} (k : knd S i = 0) : own S i = false := by unfold own; rw [k]; rfl
theorem own_of1 {S : Sg} {i : Nat} (k : knd S i = 1) : own S i = true := by unfold own; rw [k]; rfl
theorem own_of2 {S : Sg} {i : Nat} (k : knd S i = 2) : own S i = true := by unfold own; rw [k]; rfl
theorem own_cases {S : Sg} {i : Nat} (k : own S i = true) : knd S i = 1 ∨ knd S i = 2 ∨ knd S i = 5 := by
  simp only [own, Bool.or_eq_true, beq_iff_eq] at k
  omega
theorem own_of3 {S : Sg} {i : Nat} (k : knd S i = 3) : own S i = false := by unfold own; rw [k]; rfl
theorem deep_of1 {S : Sg} {i : Nat} (k : knd S i = 1) : deep S i = false := by unfold deep; rw [k]; rfl
theorem deep_of2 {S : Sg} {i : Nat} (k : knd S i = 2) : deep S i = true := by unfold deep; rw [k]; rfl
theorem deep_knd {S : Sg} {i : Nat} (k : deep S i = true) : knd S i = 2 := by simpa [deep] using k
/-- neither a table of code objects nor a code object -/
def Soft (o : HO) : Prop := (∀ ps, o ≠ .tbl ps) ∧ ∀ c q, o ≠ LamX.CodeO c q
theorem soft_lst {xs : List V} : Soft (.lst xs) := ⟨nofun, nofun⟩
theorem soft_dK {kvs : List (L2.Key × V)} : Soft (.dK kvs) := ⟨nofun, nofun⟩
theorem tabs_keep {T : List (Addr × Str)} {H H' : Hp} (h : LamX.Tabs T H) (k : ∀ b o, H b = some o → ¬ Soft o → H' b = some o) : LamX.Tabs T H' := fun p hp => by
  obtain ⟨ps, e1, e2, e3⟩ := h p hp
  refine ⟨ps, k _ _ e1 fun z => z.1 ps rfl, e2, fun pos cv e => ?_⟩
  obtain ⟨c, e4, e5⟩ := e3 pos cv e
  exact ⟨c, e4, k _ _ e5 fun z => z.2 _ _ rfl⟩
theorem tabs_upd {T : List (Addr × Str)} {H : Hp} {p : Addr} {o : HO} (h : LamX.Tabs T H) (k : ∀ o0, H p = some o0 → Soft o0) : LamX.Tabs T (upd H p o) := tabs_keep h fun b o0 e n => by
  have : b ≠ p := fun z => n (k o0 (by rw [← z]; exact e))
  rw [upd_ne this]; exact e
theorem tabs_at {T : List (Addr × Str)} {H : Hp} (h : LamX.Tabs T H) {p : Addr × Str} (hp : p ∈ T) : ∃ ps, H p.1 = some (.tbl ps) := let ⟨ps, e, _⟩ := h p hp; ⟨ps, e⟩
theorem tabs_ne {T : List (Addr × Str)} {H : Hp} (h : LamX.Tabs T H) {p : Addr × Str} (hp : p ∈ T) {b : Addr} {o : HO} (e : H b = some o) (so : Soft o) : p.1 ≠ b := fun z => by
  obtain ⟨ps, e2⟩ := tabs_at h hp
  rw [z, e] at e2
  exact so.1 ps (Option.some.inj e2)
structure Base where
  O : Addr → Prop
  M : Addr → Prop
  F : Hp
  H : Hp
  σ : Sts
  T : List (Addr × Str)
structure Ext (B : Base) (F H : Hp) : Prop where
  fs : Same B.F F
  hs : ∀ b o, B.H b = some o → ¬ B.O b → H b = some o
  st : ∀ b, H b = none → B.H b = none
  fr : ∀ b o, F b = some o → B.F b = some o ∨ B.H b = none ∨ B.M b
  tb : LamX.Tabs B.T H
  to : ∀ p ∈ B.T, B.O p.1
  tf : ∀ p ∈ B.T, F p.1 = none
/-- a list that is one's own -/
def OwL (K : Fg) (F H : Hp) (a : Addr) (d : D) : Prop := ∃ xs ds, d = .list ds ∧ F a = none ∧ H a = some (.lst xs) ∧ RpL K F xs ds
/-- a dict that is one's own -/
def OwD (K : Fg) (F H : Hp) (a : Addr) (d : D) : Prop := ∃ kvs ps, d = .dict ps ∧ F a = none ∧ H a = some (.dK kvs) ∧ RpK K F kvs ps
inductive OwLs (K : Fg) (F H : Hp) : List Addr → List D → Prop
  | nil : OwLs K F H [] []
  | cons {b : Addr} {d : D} {bs : List Addr} {ds : List D} : OwL K F H b d → OwLs K F H bs ds → OwLs K F H (b :: bs) (d :: ds)
/-- .. or a list of such lists, at bs -/
def OwX (K : Fg) (F H : Hp) (k : Nat) (a : Addr) (bs : List Addr) (d : D) : Prop := (a :: bs).Nodup ∧ match k with
  | 2 => ∃ ds, d = .list ds ∧ F a = none ∧ H a = some (.lst (bs.map V.ref)) ∧ OwLs K F H bs ds
  | 5 => bs = [] ∧ OwD K F H a d
  | _ => bs = [] ∧ OwL K F H a d
def Inn (H : Hp) (a b : Addr) : Prop := ∃ xs, H a = some (.lst xs) ∧ V.ref b ∈ xs
/-- slot i holds what stands at b -/
def Held (S : Sg) (σ : Sts) (H : Hp) (ρ : Ev) (i : Nat) (b : Addr) : Prop := own S i = true ∧ (∃ d, ρ[i]? = some (some d)) ∧ ∃ a, σ[i]? = some (some (.ref a)) ∧ (b = a ∨ (deep S i = true ∧ Inn H a b))
abbrev Dom (S : Sg) (B : Base) (i : Nat) (b : Addr) : Prop := (B.O b ∧ (S.np ≤ i → B.M b)) ∨ B.H b = none
structure SInv (K : Fg) (S : Sg) (B : Base) (σ : Sts) (F H : Hp) (ρ : Ev) : Prop where
  len : ρ.length = σ.length
  same : Same F H
  ext : Ext B F H
  sh : ∀ (i : Nat) d, ρ[i]? = some (some d) → knd S i = 0 → ∃ v, σ[i]? = some (some v) ∧ Rp K F v d
  ow : ∀ (i : Nat) d, ρ[i]? = some (some d) → own S i = true → ∃ a bs, σ[i]? = some (some (.ref a)) ∧ OwX K F H (knd S i) a bs d ∧ ∀ b, b ∈ a :: bs → Dom S B i b
  nd : ∀ i j b, Held S σ H ρ i b → Held S σ H ρ j b → i = j
  al : ∀ (i : Nat) d, ρ[i]? = some (some d) → knd S i = 3 → ∃ (j : Nat) (k : Nat) (a b : Addr) (xs : List V) (d' : D), ali S i = some j ∧ deep S j = true ∧ d = .int (k : Nat) ∧ ρ[j]? = some (some d') ∧ σ[j]? = some (some (.ref a)) ∧ H a = some (.lst xs) ∧ xs[k]? = some (.ref b) ∧ σ[i]? = some (some (.ref b))
  pin : ∀ (i : Nat), i < S.np → own S i = true → σ[i]? = B.σ[i]?
  ts : B.T = S.T
theorem same_upd {H : Hp} {p : Addr} {o : HO} (h : H p = none) : Same H (upd H p o) := fun b x e => by
  rw [upd_ne (ne_of_none e h)]
  exact e
theorem same_upd2 {F H : Hp} {p : Addr} {o : HO} (e : Same F H) : Same (upd F p o) (upd H p o) := fun b x q => by
  by_cases hb : b = p
  · subst hb
    rw [upd_same] at q ⊢
    exact q
  · rw [upd_ne hb] at q ⊢
    exact e _ _ q
theorem same_upd_out {F H : Hp} {p : Addr} {o : HO} (e : Same F H) (h : F p = none) : Same F (upd H p o) := fun b x q => by
  rw [upd_ne (ne_of_none q h)]
  exact e _ _ q
section
variable {K : Fg} {S : Sg} {B : Base} {σ : Sts} {F H F' H' : Hp} {ρ : Ev}
theorem OwL.isSome {a : Addr} {d : D} (h : OwL K F H a d) : H a ≠ none := fun z => by
  obtain ⟨xs, ds, _, _, e, _⟩ := h
  rw [z] at e; cases e
theorem OwL.up {a : Addr} {d : D} (h : OwL K F H a d) (e : Same F F') (hF : F' a = none) (hH : ∀ o, H a = some o → H' a = some o) : OwL K F' H' a d := by
  obtain ⟨xs, ds, e1, e2, e3, e4⟩ := h
  exact ⟨xs, ds, e1, hF, hH _ e3, e4.up e⟩
theorem OwD.up {a : Addr} {d : D} (h : OwD K F H a d) (e : Same F F') (hF : F' a = none) (hH : ∀ o, H a = some o → H' a = some o) : OwD K F' H' a d := by
  obtain ⟨xs, ds, e1, e2, e3, e4⟩ := h
  exact ⟨xs, ds, e1, hF, hH _ e3, e4.up e⟩
theorem OwLs.len : ∀ {bs : List Addr} {ds : List D}, OwLs K F H bs ds → bs.length = ds.length
  | _, _, .nil => rfl
  | _, _, .cons _ r => by rw [List.length_cons, List.length_cons, r.len]
theorem OwLs.up (e : Same F F') : ∀ {bs : List Addr} {ds : List D}, OwLs K F H bs ds → (∀ b, b ∈ bs → F' b = none ∧ ∀ o, H b = some o → H' b = some o) → OwLs K F' H' bs ds
  | _, _, .nil, _ => .nil
  | _, _, .cons h r, k => .cons (h.up e (k _ List.mem_cons_self).1 (k _ List.mem_cons_self).2) (r.up e fun b hb => k b (List.mem_cons_of_mem _ hb))
theorem OwLs.get : ∀ {bs : List Addr} {ds : List D} {k : Nat} {d : D}, OwLs K F H bs ds → ds[k]? = some d → ∃ b, bs[k]? = some b ∧ OwL K F H b d
  | _, _, _, _, .nil, e => by simp at e
  | _, _, 0, _, .cons h _, e => by
    simp at e
    subst e
    exact ⟨_, rfl, h⟩
  | _, _, k + 1, _, .cons _ r, e => by
    obtain ⟨b, e1, w⟩ := r.get (k := k) (by simpa using e)
    exact ⟨b, by simpa using e1, w⟩
theorem OwLs.gets : ∀ {bs : List Addr} {ds : List D} {k : Nat} {b : Addr}, OwLs K F H bs ds → bs[k]? = some b → ∃ d, ds[k]? = some d ∧ OwL K F H b d
  | _, _, _, _, .nil, e => by simp at e
  | _, _, 0, _, .cons h _, e => by
    simp at e
    subst e
    exact ⟨_, rfl, h⟩
  | _, _, k + 1, _, .cons _ r, e => by
    obtain ⟨b, e1, w⟩ := r.gets (k := k) (by simpa using e)
    exact ⟨b, by simpa using e1, w⟩
theorem OwX.at {dp : Nat} {a : Addr} {bs : List Addr} {d : D} (h : OwX K F H dp a bs d) : ∀ b, b ∈ a :: bs → F b = none ∧ H b ≠ none := fun b hb => by
  obtain ⟨_, h⟩ := h
  split at h
  rotate_left
  · obtain ⟨rfl, xs, ds, _, e, e', _⟩ := h
    have : b = a := by simpa using hb
    subst this
    exact ⟨e, by rw [e']; simp⟩
  · obtain ⟨rfl, xs, ds, _, e, e', _⟩ := h
    have : b = a := by simpa using hb
    subst this
    exact ⟨e, by rw [e']; simp⟩
  · obtain ⟨ds, _, e, e', r⟩ := h
    rcases List.mem_cons.mp hb with z | z
    · subst z
      exact ⟨e, by rw [e']; simp⟩
    · obtain ⟨k, hk⟩ := List.mem_iff_getElem?.mp z
      obtain ⟨d', _, xs, ds', _, f, f', _⟩ := r.gets hk
      exact ⟨f, by rw [f']; simp⟩
theorem OwX.up {dp : Nat} {a : Addr} {bs : List Addr} {d : D} (h : OwX K F H dp a bs d) (e : Same F F') (k : ∀ b, b ∈ a :: bs → F' b = none ∧ ∀ o, H b = some o → H' b = some o) : OwX K F' H' dp a bs d := by
  refine ⟨h.1, ?_⟩
  have h2 := h.2
  split at h2
  rotate_left
  · obtain ⟨rfl, w⟩ := h2
    exact ⟨rfl, w.up e (k a List.mem_cons_self).1 (k a List.mem_cons_self).2⟩
  · rename_i n1 n2
    obtain ⟨rfl, w⟩ := h2
    exact ⟨rfl, w.up e (k a List.mem_cons_self).1 (k a List.mem_cons_self).2⟩
  · obtain ⟨ds, e1, _, e3, r⟩ := h2
    exact ⟨ds, e1, (k a List.mem_cons_self).1, (k a List.mem_cons_self).2 _ e3, r.up e fun b hb => k b (List.mem_cons_of_mem _ hb)⟩
/-- what a slot holds is what stands in its footprint -/
theorem OwX.held {i : Nat} {a : Addr} {bs : List Addr} {d : D} (w : OwX K F H (knd S i) a bs d) (k : own S i = true) (e : ρ[i]? = some (some d)) (ea : σ[i]? = some (some (.ref a))) (b : Addr) : Held S σ H ρ i b ↔ b ∈ a :: bs := by
  constructor
  · rintro ⟨_, _, a', e1, h⟩
    rw [ea] at e1
    cases e1
    rcases h with rfl | ⟨dp, xs, e2, m⟩
    · exact List.mem_cons_self
    · have w2 := w.2
      rw [deep_knd dp] at w2
      obtain ⟨ds, _, _, e3, _⟩ := w2
      rw [e2] at e3
      cases e3
      obtain ⟨b', hb', z⟩ := List.mem_map.mp m
      cases z
      exact List.mem_cons_of_mem _ hb'
  · intro hb
    refine ⟨k, ⟨d, e⟩, a, ea, ?_⟩
    rcases List.mem_cons.mp hb with z | z
    · exact .inl z
    · right
      have w2 := w.2
      rcases own_cases k with dp | dp | dp
      · rw [dp] at w2
        obtain ⟨rfl, _⟩ := w2
        cases z
      · rw [dp] at w2
        obtain ⟨ds, _, _, e3, _⟩ := w2
        exact ⟨deep_of2 dp, _, e3, List.mem_map.mpr ⟨b, z, rfl⟩⟩
      · rw [dp] at w2
        obtain ⟨rfl, _⟩ := w2
        cases z
theorem SInv.bnone (I : SInv K S B σ F H ρ) {p : Addr} (h : H p = none) : B.H p = none := I.ext.st p h
theorem SInv.heldAt (I : SInv K S B σ F H ρ) {i : Nat} {b : Addr} (h : Held S σ H ρ i b) : F b = none ∧ H b ≠ none ∧ Dom S B i b := by
  obtain ⟨k, ⟨d, e⟩, a, ea, _⟩ := id h
  obtain ⟨a', bs, e1, w, o⟩ := I.ow i d e k
  have hb := (w.held (S := S) k e e1 b).mp h
  exact ⟨(w.at b hb).1, (w.at b hb).2, o b hb⟩
theorem OwX.soft {dp : Nat} {a : Addr} {bs : List Addr} {d : D} (h : OwX K F H dp a bs d) : ∀ b, b ∈ a :: bs → ∀ o, H b = some o → Soft o := fun b hb o ho => by
  obtain ⟨_, h⟩ := h
  split at h
  rotate_left
  · obtain ⟨rfl, xs, ds, _, e, e', _⟩ := h
    have : b = a := by simpa using hb
    subst this
    rw [e'] at ho; cases ho; exact soft_dK
  · obtain ⟨rfl, xs, ds, _, e, e', _⟩ := h
    have : b = a := by simpa using hb
    subst this
    rw [e'] at ho; cases ho; exact soft_lst
  · obtain ⟨ds, _, e, e', r⟩ := h
    rcases List.mem_cons.mp hb with z | z
    · subst z
      rw [e'] at ho; cases ho; exact soft_lst
    · obtain ⟨k, hk⟩ := List.mem_iff_getElem?.mp z
      obtain ⟨d', _, xs, ds', _, f, f', _⟩ := r.gets hk
      rw [f'] at ho; cases ho; exact soft_lst
theorem SInv.heldSoft (I : SInv K S B σ F H ρ) {i : Nat} {b : Addr} (h : Held S σ H ρ i b) : ∀ o, H b = some o → Soft o := by
  obtain ⟨k, ⟨d, e⟩, a, ea, _⟩ := id h
  obtain ⟨a', bs, e1, w, o⟩ := I.ow i d e k
  exact w.soft b ((w.held (S := S) k e e1 b).mp h)
theorem SInv.tab (I : SInv K S B σ F H ρ) : LamX.Tabs B.T H := I.ext.tb
theorem SInv.heldSome (I : SInv K S B σ F H ρ) {i : Nat} {b : Addr} (h : Held S σ H ρ i b) : H b ≠ none := (I.heldAt h).2.1
theorem SInv.heldNe (I : SInv K S B σ F H ρ) {p : Addr} (h : H p = none) : ∀ i a, Held S σ H ρ i a → a ≠ p := fun i a q z => by
  subst z
  exact I.heldSome q h
/-- the heap of what is held stays: so does what is held -/
theorem held_same {σ : Sts} {H H' : Hp} {ρ : Ev} {i : Nat} {b : Addr} (k : ∀ a, σ[i]? = some (some (.ref a)) → H' a = H a) (h : Held S σ H' ρ i b) : Held S σ H ρ i b := by
  obtain ⟨h1, h2, a, e, h3⟩ := h
  refine ⟨h1, h2, a, e, ?_⟩
  rcases h3 with z | ⟨dp, xs, e1, m⟩
  · exact .inl z
  · exact .inr ⟨dp, xs, by rw [← k a e]; exact e1, m⟩
theorem SInv.topHeld (I : SInv K S B σ F H ρ) {i : Nat} (k : own S i = true) (s : ∃ d, ρ[i]? = some (some d)) {a : Addr} (e : σ[i]? = some (some (.ref a))) : Held S σ H ρ i a := ⟨k, s, a, e, .inl rfl⟩
/-- both heaps change away from what is held -/
theorem SInv.move (I : SInv K S B σ F H ρ) (s : Same F' H') (x : Ext B F' H') (sF : Same F F') (kF : ∀ i b, Held S σ H ρ i b → F' b = none) (kH : ∀ i b, Held S σ H ρ i b → H' b = H b) : SInv K S B σ F' H' ρ := by
  have held : ∀ {i b}, Held S σ H' ρ i b → Held S σ H ρ i b := fun {i b} h => held_same (fun a e => kH i a (I.topHeld h.1 h.2.1 e)) h
  refine ⟨I.len, s, x, fun i d e k => ?_, fun i d e k => ?_, fun i j b h1 h2 => I.nd i j b (held h1) (held h2), fun i d e k => ?_, I.pin, I.ts⟩
  · obtain ⟨v, e1, r⟩ := I.sh i d e k
    exact ⟨v, e1, r.up sF⟩
  · obtain ⟨a, bs, e1, w, o⟩ := I.ow i d e k
    refine ⟨a, bs, e1, w.up sF fun b hb => ?_, o⟩
    have hh := (w.held (S := S) k e e1 b).mpr hb
    exact ⟨kF i b hh, fun o q => by rw [kH i b hh]; exact q⟩
  · obtain ⟨j, kk, a, b, xs, d', e1, e2, e3, e4, e5, e6, e7, e8⟩ := I.al i d e k
    have hh := I.topHeld (own_of2 (deep_knd e2)) ⟨d', e4⟩ e5
    exact ⟨j, kk, a, b, xs, d', e1, e2, e3, e4, e5, by rw [kH j a hh]; exact e6, e7, e8⟩
/-- a new frozen object -/
theorem SInv.newF (I : SInv K S B σ F H ρ) {p : Addr} {o : HO} (h : H p = none) : SInv K S B σ (upd F p o) (upd H p o) ρ := by
  have hF : F p = none := Same.free I.same h
  have sF : Same F (upd F p o) := same_upd hF
  refine I.move (same_upd2 I.same) ⟨I.ext.fs.trans sF, fun b o' e n => ?_, fun b e => ?_, fun b o' e => ?_, I.ext.tb.ext (same_upd h), I.ext.to, fun q hq => let ⟨ps, e⟩ := tabs_at I.ext.tb hq; by rw [upd_ne fun z => by rw [z, h] at e; cases e]; exact I.ext.tf q hq⟩ sF (fun i b hh => ?_) fun i b hh => ?_
  · exact same_upd h _ _ (I.ext.hs b o' e n)
  · by_cases hb : b = p
    · subst hb; rw [upd_same] at e; cases e
    · rw [upd_ne hb] at e; exact I.ext.st b e
  · by_cases hb : b = p
    · subst hb; exact .inr (.inl (I.bnone h))
    · rw [upd_ne hb] at e; exact I.ext.fr b o' e
  · rw [upd_ne (I.heldNe h i b hh)]; exact (I.heldAt hh).1
  · rw [upd_ne (I.heldNe h i b hh)]
/-- a new object that is held by nobody yet -/
theorem SInv.newH (I : SInv K S B σ F H ρ) {p : Addr} {o : HO} (h : H p = none) : SInv K S B σ F (upd H p o) ρ := by
  have hF : F p = none := Same.free I.same h
  refine I.move (same_upd_out I.same hF) ⟨I.ext.fs, fun b o' e n => ?_, fun b e => ?_, I.ext.fr, I.ext.tb.ext (same_upd h), I.ext.to, I.ext.tf⟩ (Same.refl _) (fun i b hh => (I.heldAt hh).1) fun i b hh => ?_
  · exact same_upd h _ _ (I.ext.hs b o' e n)
  · by_cases hb : b = p
    · subst hb; rw [upd_same] at e; cases e
    · rw [upd_ne hb] at e; exact I.ext.st b e
  · rw [upd_ne (I.heldNe h i b hh)]
/-- an object that nobody holds becomes frozen -/
theorem SInv.freeze (I : SInv K S B σ F H ρ) {p : Addr} {o : HO} (hF : F p = none) (h : H p = some o) (hB : B.H p = none ∨ B.M p) (hn : ∀ i a, Held S σ H ρ i a → a ≠ p) (so : Soft o) : SInv K S B σ (upd F p o) H ρ := by
  have sF : Same F (upd F p o) := same_upd hF
  refine I.move (fun b x e => ?_) ⟨I.ext.fs.trans sF, I.ext.hs, I.ext.st, fun b o' e => ?_, I.ext.tb, I.ext.to, fun q hq => by rw [upd_ne (tabs_ne I.ext.tb hq h so)]; exact I.ext.tf q hq⟩ sF (fun i b hh => ?_) fun i b hh => rfl
  · by_cases hb : b = p
    · subst hb; rw [upd_same] at e; rw [h]; exact e
    · rw [upd_ne hb] at e; exact I.same _ _ e
  · by_cases hb : b = p
    · subst hb; exact .inr hB
    · rw [upd_ne hb] at e; exact I.ext.fr b o' e
  · rw [upd_ne (hn i b hh)]; exact (I.heldAt hh).1
/-- an object that nobody holds, made since the base, is changed -/
theorem SInv.setFree (I : SInv K S B σ F H ρ) {p : Addr} {o : HO} (hF : F p = none) (hB : B.H p = none) (hn : ∀ i a, Held S σ H ρ i a → a ≠ p) (so : ∀ o0, H p = some o0 → Soft o0) : SInv K S B σ F (upd H p o) ρ := by
  refine I.move (same_upd_out I.same hF) ⟨I.ext.fs, fun b o' e n => ?_, fun b e => ?_, I.ext.fr, tabs_upd I.ext.tb so, I.ext.to, I.ext.tf⟩ (Same.refl _) (fun i b hh => (I.heldAt hh).1) fun i b hh => ?_
  · have hb : b ≠ p := fun z => by subst z; rw [hB] at e; cases e
    rw [upd_ne hb]
    exact I.ext.hs b o' e n
  · by_cases hb : b = p
    · subst hb; exact hB
    · rw [upd_ne hb] at e; exact I.ext.st b e
  · rw [upd_ne (hn i b hh)]
/-- what one holds is changed in place, the slot's data with it -/
theorem SInv.chg (I : SInv K S B σ F H ρ) {i : Nat} {p a : Addr} {bs : List Addr} {d d' : D} {o : HO} (e : ρ[i]? = some (some d)) (k : own S i = true) (ea : σ[i]? = some (some (.ref a))) (hp : Held S σ H ρ i p)
    (ha : deep S i = true → p ≠ a) (w' : OwX K F (upd H p o) (knd S i) a bs d') (hb : ∀ b, b ∈ a :: bs → Held S σ H ρ i b) : SInv K S B σ F (upd H p o) (ρ.set i (some d')) := by
  have hil : i < ρ.length := (List.getElem?_eq_some_iff.mp e).1
  obtain ⟨hF, hH, hD⟩ := I.heldAt hp
  have set_ : ∀ (j : Nat), (∃ x, (ρ.set i (some d'))[j]? = some (some x)) → ∃ x, ρ[j]? = some (some x) := fun j ⟨x, h⟩ => by
    by_cases hj : j = i
    · subst hj; exact ⟨d, e⟩
    · rw [List.getElem?_set_ne (Ne.symm hj)] at h; exact ⟨x, h⟩
  have held : ∀ {j b}, Held S σ (upd H p o) (ρ.set i (some d')) j b → Held S σ H ρ j b := fun {j b} ⟨h1, h2, c, ec, h3⟩ => by
    have hc : Held S σ H ρ j c := I.topHeld h1 (set_ j h2) ec
    refine ⟨h1, set_ j h2, c, ec, ?_⟩
    rcases h3 with z | ⟨dp, xs, e1, m⟩
    · exact .inl z
    · refine .inr ⟨dp, xs, ?_, m⟩
      have hcp : c ≠ p := fun z => by
        subst z
        have hj := I.nd j i c hc hp
        subst hj
        rw [ea] at ec
        cases ec
        exact ha dp rfl
      rw [upd_ne hcp] at e1
      exact e1
  refine ⟨by rw [List.length_set]; exact I.len, same_upd_out I.same hF, ⟨I.ext.fs, fun b o' e' n => ?_, fun b e' => ?_, I.ext.fr, tabs_upd I.ext.tb (I.heldSoft hp), I.ext.to, I.ext.tf⟩, fun j x e' k' => ?_, fun j x e' k' => ?_, fun x y b h1 h2 => I.nd x y b (held h1) (held h2), fun j x e' k' => ?_, I.pin, I.ts⟩
  · have hb : b ≠ p := fun z => by
      subst z
      rcases hD with q | q
      · exact n q.1
      · rw [q] at e'; cases e'
    rw [upd_ne hb]
    exact I.ext.hs b o' e' n
  · by_cases hb : b = p
    · subst hb; rw [upd_same] at e'; cases e'
    · rw [upd_ne hb] at e'; exact I.ext.st b e'
  · have hj : j ≠ i := fun z => by subst z; rw [own_of0 k'] at k; cases k
    rw [List.getElem?_set_ne (Ne.symm hj)] at e'
    exact I.sh j x e' k'
  · by_cases hj : j = i
    · subst hj
      rw [List.getElem?_set_self hil] at e'
      cases e'
      exact ⟨a, bs, ea, w', fun b h => (I.heldAt (hb b h)).2.2⟩
    · rw [List.getElem?_set_ne (Ne.symm hj)] at e'
      obtain ⟨c, cs, f1, f2, f3⟩ := I.ow j x e' k'
      refine ⟨c, cs, f1, f2.up (Same.refl _) fun b h => ?_, f3⟩
      have hh := (f2.held (S := S) k' e' f1 b).mpr h
      have hbp : b ≠ p := fun z => by subst z; exact hj (I.nd j i b hh hp)
      exact ⟨(I.heldAt hh).1, fun o q => by rw [upd_ne hbp]; exact q⟩
  · have hj : j ≠ i := fun z => by subst z; rw [own_of3 k'] at k; cases k
    rw [List.getElem?_set_ne (Ne.symm hj)] at e'
    obtain ⟨l, kk, c, b, xs, x', e1, e2, e3, e4, e5, e6, e7, e8⟩ := I.al j x e' k'
    have hcp : c ≠ p := fun z => by
      subst z
      have hl := I.nd l i c (I.topHeld (own_of2 (deep_knd e2)) ⟨x', e4⟩ e5) hp
      subst hl
      rw [ea] at e5
      cases e5
      exact ha e2 rfl
    by_cases hl : l = i
    · subst hl
      exact ⟨l, kk, c, b, xs, d', e1, e2, e3, List.getElem?_set_self hil, e5, by rw [upd_ne hcp]; exact e6, e7, e8⟩
    · exact ⟨l, kk, c, b, xs, x', e1, e2, e3, by rw [List.getElem?_set_ne (Ne.symm hl)]; exact e4, e5, by rw [upd_ne hcp]; exact e6, e7, e8⟩
/-- one's own list is changed -/
theorem SInv.mut (I : SInv K S B σ F H ρ) {i : Nat} {a : Addr} {d : D} {xs : List V} {ds : List D} (e : ρ[i]? = some (some d)) (k : knd S i = 1) (ea : σ[i]? = some (some (.ref a))) (r : RpL K F xs ds) :
    SInv K S B σ F (upd H a (.lst xs)) (ρ.set i (some (.list ds))) := by
  have hp := I.topHeld (own_of1 k) ⟨d, e⟩ ea
  refine I.chg (bs := []) e (own_of1 k) ea hp (fun z => by rw [deep_of1 k] at z; cases z) ⟨by simp, ?_⟩ fun b h => ?_
  · rw [k]
    exact ⟨rfl, xs, ds, rfl, (I.heldAt hp).1, upd_same, r⟩
  · have : b = a := by simpa using h
    subst this
    exact hp
/-- a slot gets a frozen value -/
theorem SInv.setSh (I : SInv K S B σ F H ρ) {i : Nat} {v : V} {d : D} (k : knd S i = 0) (r : Rp K F v d) : SInv K S B (σ.set i (some v)) F H (ρ.set i (some d)) := by
  have ne : ∀ {j}, own S j = true → j ≠ i := fun {j} h z => by subst z; rw [own_of0 k] at h; cases h
  have held : ∀ {j b}, Held S (σ.set i (some v)) H (ρ.set i (some d)) j b → Held S σ H ρ j b := fun {j b} ⟨h1, ⟨d', h2⟩, a, h3, h4⟩ => by
    rw [List.getElem?_set_ne (Ne.symm (ne h1))] at h2 h3
    exact ⟨h1, ⟨d', h2⟩, a, h3, h4⟩
  refine ⟨by rw [List.length_set, List.length_set]; exact I.len, I.same, I.ext, fun j d' e' k' => ?_, fun j d' e' k' => ?_, fun x y b h1 h2 => I.nd x y b (held h1) (held h2), fun j x e' k' => ?_, fun j hj kj => ?_, I.ts⟩
  · by_cases hj : j = i
    · subst hj
      have hl : j < ρ.length := by
        have := (List.getElem?_eq_some_iff.mp e').1
        rwa [List.length_set] at this
      rw [List.getElem?_set_self hl] at e'
      cases e'
      exact ⟨v, by rw [List.getElem?_set_self (by rw [← I.len]; exact hl)], r⟩
    · rw [List.getElem?_set_ne (Ne.symm hj)] at e' ⊢
      exact I.sh j d' e' k'
  · rw [List.getElem?_set_ne (Ne.symm (ne k'))] at e' ⊢
    exact I.ow j d' e' k'
  · have hj : j ≠ i := fun z => by subst z; rw [k'] at k; cases k
    rw [List.getElem?_set_ne (Ne.symm hj)] at e' ⊢
    obtain ⟨l, kk, c, b, xs, x', e1, e2, e3, e4, e5, e6, e7, e8⟩ := I.al j x e' k'
    have hl : l ≠ i := ne (own_of2 (deep_knd e2))
    exact ⟨l, kk, c, b, xs, x', e1, e2, e3, by rw [List.getElem?_set_ne (Ne.symm hl)]; exact e4, by rw [List.getElem?_set_ne (Ne.symm hl)]; exact e5, e6, e7, e8⟩
  · rw [List.getElem?_set_ne (Ne.symm (ne kj))]
    exact I.pin j hj kj
/-- no other name of what slot i holds is about -/
def NoAl (S : Sg) (ρ : Ev) (i : Nat) : Prop := ∀ (x : Nat) d, knd S x = 3 → ali S x = some i → ρ[x]? ≠ some (some d)
/-- a slot gets lists of its own -/
theorem SInv.setOw (I : SInv K S B σ F H ρ) {i : Nat} {a : Addr} {bs : List Addr} {d : D} (k : own S i = true) (hp : S.np ≤ i) (w : OwX K F H (knd S i) a bs d) (hB : ∀ b, b ∈ a :: bs → B.H b = none) (hn : ∀ j b, Held S σ H ρ j b → b ∉ a :: bs) (hA : NoAl S ρ i) :
    SInv K S B (σ.set i (some (.ref a))) F H (ρ.set i (some d)) := by
  have held : ∀ {j b}, j ≠ i → Held S (σ.set i (some (.ref a))) H (ρ.set i (some d)) j b → Held S σ H ρ j b := fun {j b} hj ⟨h1, ⟨d', h2⟩, a, h3, h4⟩ => by
    rw [List.getElem?_set_ne (Ne.symm hj)] at h2 h3
    exact ⟨h1, ⟨d', h2⟩, a, h3, h4⟩
  have hat : ∀ {b}, Held S (σ.set i (some (.ref a))) H (ρ.set i (some d)) i b → b ∈ a :: bs := fun {b} h => by
    have hl : i < σ.length := by
      obtain ⟨_, _, _, h3, _⟩ := h
      have := (List.getElem?_eq_some_iff.mp h3).1
      rwa [List.length_set] at this
    exact (w.held (S := S) k (by rw [List.getElem?_set_self (by rw [I.len]; exact hl)]) (by rw [List.getElem?_set_self hl]) b).mp h
  refine ⟨by rw [List.length_set, List.length_set]; exact I.len, I.same, I.ext, fun j d' e' k' => ?_, fun j d' e' k' => ?_, fun x y b h1 h2 => ?_, fun j x e' k' => ?_, fun j hj kj => ?_, I.ts⟩
  · have hj : j ≠ i := fun z => by subst z; rw [own_of0 k'] at k; cases k
    rw [List.getElem?_set_ne (Ne.symm hj)] at e' ⊢
    exact I.sh j d' e' k'
  · by_cases hj : j = i
    · subst hj
      have hl : j < ρ.length := by
        have := (List.getElem?_eq_some_iff.mp e').1
        rwa [List.length_set] at this
      rw [List.getElem?_set_self hl] at e'
      cases e'
      exact ⟨a, bs, by rw [List.getElem?_set_self (by rw [← I.len]; exact hl)], w, fun b hb => .inr (hB b hb)⟩
    · rw [List.getElem?_set_ne (Ne.symm hj)] at e' ⊢
      exact I.ow j d' e' k'
  · by_cases hx : x = i
    · subst hx
      by_cases hy : y = x
      · exact hy.symm
      · exact absurd (hat h1) (hn y b (held hy h2))
    · by_cases hy : y = i
      · subst hy
        exact absurd (hat h2) (hn x b (held hx h1))
      · exact I.nd x y b (held hx h1) (held hy h2)
  · have hj : j ≠ i := fun z => by subst z; rw [own_of3 k'] at k; cases k
    rw [List.getElem?_set_ne (Ne.symm hj)] at e' ⊢
    obtain ⟨l, kk, c, b, xs, x', e1, e2, e3, e4, e5, e6, e7, e8⟩ := I.al j x e' k'
    have hl : l ≠ i := fun z => by subst z; exact hA j x k' e1 e'
    exact ⟨l, kk, c, b, xs, x', e1, e2, e3, by rw [List.getElem?_set_ne (Ne.symm hl)]; exact e4, by rw [List.getElem?_set_ne (Ne.symm hl)]; exact e5, e6, e7, e8⟩
  · have hji : j ≠ i := by omega
    rw [List.getElem?_set_ne (Ne.symm hji)]
    exact I.pin j hj kj
/-- the values of slots forgotten: what is known of fewer slots -/
theorem SInv.weak (I : SInv K S B σ F H ρ) {ρ' : Ev} (hl : ρ'.length = ρ.length) (h : ∀ (i : Nat) (d : D), ρ'[i]? = some (some d) → ρ[i]? = some (some d))
    (ha : ∀ (x j : Nat) d d', knd S x = 3 → ρ'[x]? = some (some d) → ali S x = some j → ρ[j]? = some (some d') → ρ'[j]? = some (some d')) : SInv K S B σ F H ρ' :=
  ⟨hl.trans I.len, I.same, I.ext, fun i d e k => I.sh i d (h i d e) k, fun i d e k => I.ow i d (h i d e) k, fun i j b ⟨h1, ⟨d, h2⟩, h3⟩ ⟨g1, ⟨d', g2⟩, g3⟩ => I.nd i j b ⟨h1, ⟨d, h i d h2⟩, h3⟩ ⟨g1, ⟨d', h j d' g2⟩, g3⟩, fun i d e k => by
    obtain ⟨l, kk, c, b, xs, x', e1, e2, e3, e4, e5⟩ := I.al i d (h i d e) k
    exact ⟨l, kk, c, b, xs, x', e1, e2, e3, ha i l d x' k e e1 e4, e5⟩, I.pin, I.ts⟩
end
end MW
namespace MW
open PySem PySem.Spec PyProof.Rows L2
/-- seen as data: frozen, or a list of one's own whose items are frozen -/
def RpS (K : Fg) (F H : Hp) (v : V) (d : D) : Prop := Rp K F v d ∨ ∃ a xs ds, v = .ref a ∧ d = .list ds ∧ H a = some (.lst xs) ∧ RpL K F xs ds
inductive RpSs (K : Fg) (F H : Hp) : List V → List D → Prop
  | nil : RpSs K F H [] []
  | cons {v : V} {d : D} {vs : List V} {ds : List D} : RpS K F H v d → RpSs K F H vs ds → RpSs K F H (v :: vs) (d :: ds)
theorem RpL.seen {K : Fg} {F H : Hp} : ∀ {vs : List V} {ds : List D}, RpL K F vs ds → RpSs K F H vs ds
  | _, _, .nil => .nil
  | _, _, .cons h r => .cons (.inl h) r.seen
theorem RpS.lst {K : Fg} {F H : Hp} {v : V} {ds : List D} (s : Same F H) (h : RpS K F H v (.list ds)) : ∃ a xs, v = .ref a ∧ Rd H a (.lst xs) ∧ RpL K F xs ds := by
  rcases h with h | ⟨a, xs, ds', e, e1, e2, r⟩
  · cases h with
    | lst a r => exact ⟨_, _, rfl, rd_same s a, r⟩
  · cases e1
    exact ⟨a, xs, e, .inl e2, r⟩
theorem RpS.tup {K : Fg} {F H : Hp} {v : V} {ds : List D} (s : Same F H) (h : RpS K F H v (.tuple ds)) : ∃ a xs, v = .ref a ∧ SqT K H a xs ∧ RpL K F xs ds := by
  rcases h with h | ⟨a, xs, ds', e, e1, e2, r⟩
  · cases h with
    | tup a r => exact ⟨_, _, rfl, sqT_same s a.sq, r⟩
  · cases e1
theorem RpS.int {K : Fg} {F H : Hp} {v : V} {i : Int} (h : RpS K F H v (.int i)) : v = .int i := by
  rcases h with h | ⟨a, xs, ds', e, e1, e2, r⟩
  · cases h; rfl
  · cases e1
theorem RpS.bl {K : Fg} {F H : Hp} {v : V} {b : Bool} (h : RpS K F H v (.bool b)) : v = .bl b := by
  rcases h with h | ⟨a, xs, ds', e, e1, e2, r⟩
  · cases h; rfl
  · cases e1
theorem RpS.str {K : Fg} {F H : Hp} {v : V} {b : Str} (h : RpS K F H v (.str b)) : v = .str b := by
  rcases h with h | ⟨a, xs, ds', e, e1, e2, r⟩
  · cases h; rfl
  · cases e1
theorem RpS.non {K : Fg} {F H : Hp} {v : V} (h : RpS K F H v .none) : v = .non := by
  rcases h with h | ⟨a, xs, ds', e, e1, e2, r⟩
  · cases h; rfl
  · cases e1
theorem RpS.full {K : Fg} {F H : Hp} {v : V} {d : D} (s : Same F H) (h : RpS K F H v d) : Rp K H v d := by
  rcases h with h | ⟨a, xs, ds', rfl, rfl, e2, r⟩
  · exact h.up s
  · exact .lst (.inl e2) (r.up s)
abbrev EKo (K : Fg) (S : Sg) (B : Base) (σ : Sts) (F : Hp) (Q : VK) : D → Ev → Prop := fun d ρ' => ∀ F' H' v, SInv K S B σ F' H' ρ' → Same F F' → Rp K F' v d → Q v H'
abbrev XKo (X : Cx) (W : WX) (S : Sg) (B : Base) (σ : Sts) (F : Hp) : Str → Ev → Prop := fun c ρ' => ∀ F' H' C, SInv X.K S B σ F' H' ρ' → Same F F' → X.mg c = some (.ref C) → W (.ref C) none σ H'
abbrev BKo (K : Fg) (S : Sg) (B : Base) (σ : Sts) (F : Hp) (Q : Bool → Hp → Prop) : Bool → Ev → Prop := fun b ρ' => ∀ F' H', SInv K S B σ F' H' ρ' → Same F F' → Q b H'
abbrev VsKo (K : Fg) (S : Sg) (B : Base) (σ : Sts) (F : Hp) (Q : List V → Hp → Prop) : List D → Ev → Prop := fun ds ρ' => ∀ F' H' vs, SInv K S B σ F' H' ρ' → Same F F' → RpL K F' vs ds → Q vs H'
abbrev LKo (K : Fg) (S : Sg) (B : Base) (σ : Sts) (F : Hp) (Q : VK) : List D → Ev → Prop := fun ds ρ' => ∀ F' H' p xs, SInv K S B σ F' H' ρ' → Same F F' → F' p = none → H' p = some (.lst xs) → RpL K F' xs ds → B.H p = none → (∀ i a, Held S σ H' ρ' i a → a ≠ p) → Q (.ref p) H'
/-- an expression means m -/
structure ME (X : Cx) (W : WX) (S : Sg) (e : Expr) (m : Ev → Out D) : Prop where
  ex : ∃ t : TE, PE X e t ∧ ∀ B F H σ ρ Q, SInv X.K S B σ F H ρ → Sat (m ρ) (EKo X.K S B σ F Q) (XKo X W S B σ F) → t σ H Q
/-- .. a new list -/
structure ML (X : Cx) (W : WX) (S : Sg) (e : Expr) (m : Ev → Out (List D)) : Prop where
  ex : ∃ t : TE, PE X e t ∧ ∀ B F H σ ρ Q, SInv X.K S B σ F H ρ → Sat (m ρ) (LKo X.K S B σ F Q) (XKo X W S B σ F) → t σ H Q
structure MT (X : Cx) (W : WX) (S : Sg) (e : Expr) (m : Ev → Out Bool) : Prop where
  ex : ∃ t : TT, PT X e t ∧ ∀ B F H σ ρ Q, SInv X.K S B σ F H ρ → Sat (m ρ) (BKo X.K S B σ F Q) (XKo X W S B σ F) → t σ H Q
structure MTw (X : Cx) (W : WX) (S : Sg) (e : Expr) (m : Ev → Out Bool) : Prop where
  ex : ∃ t : TT, PW X e t ∧ ∀ B F H σ ρ Q, SInv X.K S B σ F H ρ → Sat (m ρ) (BKo X.K S B σ F Q) (XKo X W S B σ F) → t σ H Q
structure MA (X : Cx) (W : WX) (S : Sg) (es : List Expr) (m : Ev → Out (List D)) : Prop where
  ex : ∃ t : TA, PA X es t ∧ ∀ B F H σ ρ Q, SInv X.K S B σ F H ρ → Sat (m ρ) (VsKo X.K S B σ F Q) (XKo X W S B σ F) → t σ H Q
  len : ∀ ρ ds ρ', m ρ = .ok ds ρ' → ds.length = es.length
section
variable {K : Fg} {S : Sg} {B : Base} {σ : Sts} {F H : Hp} {ρ : Ev}
theorem EKo.up {Q : VK} {F1 : Hp} {d : D} (s : Same F F1) (h : EKo K S B σ F Q d ρ) : EKo K S B σ F1 Q d ρ := fun F' H' v I s' r => h F' H' v I (s.trans s') r
/-- the value is frozen as it stands -/
theorem EKo.now {Q : VK} {d : D} {v : V} (h : EKo K S B σ F Q d ρ) (I : SInv K S B σ F H ρ) (r : Rp K F v d) : Q v H := h F H v I (Same.refl _) r
/-- a new tuple -/
theorem EKo.tup {Q : VK} {ds : List D} {xs : List V} {p : Addr} (h : EKo K S B σ F Q (.tuple ds) ρ) (I : SInv K S B σ F H ρ) (r : RpL K F xs ds) {o : Obj} (ho : o.dict = none) (hp : H p = none) : Q (.ref p) (upd H p (.frz o (.tup xs))) := by
  have hF : F p = none := Same.free I.same hp
  exact h _ _ _ (I.newF hp) (same_upd hF) (.tup (.inl ⟨o, ho, upd_same⟩) (r.up (same_upd hF)))
theorem EKo.lst {Q : VK} {ds : List D} {xs : List V} {p : Addr} (h : EKo K S B σ F Q (.list ds) ρ) (I : SInv K S B σ F H ρ) (r : RpL K F xs ds) (hp : H p = none) : Q (.ref p) (upd H p (.lst xs)) := by
  have hF : F p = none := Same.free I.same hp
  exact h _ _ _ (I.newF hp) (same_upd hF) (.lst (.inl upd_same) (r.up (same_upd hF)))
theorem LKo.mk {Q : VK} {ds : List D} {xs : List V} {p : Addr} (h : LKo K S B σ F Q ds ρ) (I : SInv K S B σ F H ρ) (r : RpL K F xs ds) (hp : H p = none) : Q (.ref p) (upd H p (.lst xs)) :=
  h _ _ _ xs (I.newH hp) (Same.refl _) (Same.free I.same hp) upd_same r (I.bnone hp) fun i a q => I.heldNe hp i a (held_same (fun c e => by rw [upd_ne (I.heldNe hp i c (I.topHeld q.1 q.2.1 e))]) q)
theorem LKo.ofE {Q : VK} {ds : List D} (h : EKo K S B σ F Q (.list ds) ρ) : LKo K S B σ F Q ds ρ := fun F' H' p xs I s hF hH r hB hn =>
  h _ _ _ (I.freeze hF hH (.inl hB) hn soft_lst) (s.trans (same_upd hF)) (.lst (.inl upd_same) (r.up (same_upd hF)))
theorem XKo.up {X : Cx} {W : WX} {F1 : Hp} {c : Str} (s : Same F F1) (h : XKo X W S B σ F c ρ) : XKo X W S B σ F1 c ρ := fun F' H' C I s' g => h F' H' C I (s.trans s') g
end
/-- a mirror of two, in a row -/
def mBin (g : D → D → Option D) (ma mb : Ev → Out D) : Ev → Out D := fun ρ => (ma ρ).bind fun d ρ1 => (mb ρ1).bind fun e ρ2 => Out.of (g d e) ρ2
def mUn (g : D → Option D) (ma : Ev → Out D) : Ev → Out D := fun ρ => (ma ρ).bind fun d ρ1 => Out.of (g d) ρ1
def rd (ρ : Ev) (i : Nat) : Option D := ρ.getD i none
def mVar (i : Nat) : Ev → Out D := fun ρ => Out.of (rd ρ i) ρ
def mC (d : D) : Ev → Out D := fun ρ => .ok d ρ
theorem rd_some {ρ : Ev} {i : Nat} {d : D} (h : rd ρ i = some d) : ρ[i]? = some (some d) := by
  unfold rd at h
  rw [List.getD_eq_getElem?_getD] at h
  cases e : ρ[i]? with
  | none => rw [e] at h; cases h
  | some x => rw [e] at h; exact congrArg some h
/-- an operation on values is g on data -/
def OpD (X : Cx) (r : R2) (g : D → D → Option D) : Prop := ∀ S B F H σ ρ Q x y d e z, SInv X.K S B σ F H ρ → RpS X.K F H x d → RpS X.K F H y e → g d e = some z → EKo X.K S B σ F Q z ρ → r x y H Q
def OpD1 (X : Cx) (r : V → Hp → VK → Prop) (g : D → Option D) : Prop := ∀ S B F H σ ρ Q x d z, SInv X.K S B σ F H ρ → RpS X.K F H x d → g d = some z → EKo X.K S B σ F Q z ρ → r x H Q
def CallD (X : Cx) (r : List V → Hp → VK → Prop) (g : List D → Option D) : Prop := ∀ S B F H σ ρ Q xs ds z, SInv X.K S B σ F H ρ → RpSs X.K F H xs ds → g ds = some z → EKo X.K S B σ F Q z ρ → r xs H Q
theorem sat_of {α : Type} {x : Option α} {ρ : Ev} {k : α → Ev → Prop} {e : Str → Ev → Prop} (h : Sat (Out.of x ρ) k e) : ∃ a, x = some a ∧ k a ρ := by
  cases x with
  | none => exact h.elim
  | some a => exact ⟨a, rfl, h⟩
section
variable {X : Cx} {W : WX} {S : Sg} {a b c : Expr} {es : List Expr} {pos : Pos} {ma mb mc : Ev → Out D}
theorem me_int {i : Int} {j pos} : ME X W S (.Constant (.int i) j pos) (mC (.int i)) := ⟨_, pe_int, fun B F H σ ρ Q I h => h.now I (.int i)⟩
theorem me_bl {b : Bool} {j pos} : ME X W S (.Constant (.bool b) j pos) (mC (.bool b)) := ⟨_, pe_bl, fun B F H σ ρ Q I h => h.now I (.bl b)⟩
theorem me_non {j pos} : ME X W S (.Constant .none j pos) (mC .none) := ⟨_, pe_non, fun B F H σ ρ Q I h => h.now I .non⟩
theorem me_str {x : Str} {j pos} : ME X W S (.Constant (.str x) j pos) (mC (.str x)) := ⟨_, pe_str, fun B F H σ ρ Q I h => h.now I (.str x)⟩
/-- a slot that holds a frozen value -/
theorem me_var (i : Nat) {x : Str} {pos : Pos} (k : knd S i = 0 := by rfl) (hN : X.N[i]? = some x := by rfl) (hv : Vis X.env.scope x := by first | exact Or.inl rfl | exact Or.inr (Or.inl rfl) | exact Or.inr (Or.inr rfl)) (hd : (x == ("__debug__" : Str)) = false := by decide)
    (hcd : (x == ("__classdict__" : Str)) = false := by decide) : ME X W S (.Name x pos) (mVar i) := ⟨_, pe_var hN hv hd hcd, fun B F H σ ρ Q I h => by
  obtain ⟨d, e, h⟩ := sat_of h
  obtain ⟨v, e1, r⟩ := I.sh i d (rd_some e) k
  exact ⟨v, e1, h.now I r⟩⟩
theorem me_glob {x : Str} {v : V} {d : D} {u : Value} {pos : Pos} (hg : Gl X x) (hm : X.mg x = some u) (r : RelV v u) (rp : ∀ F, Rp X.K F v d) (hd : (x == ("__debug__" : Str)) = false := by decide) : ME X W S (.Name x pos) (mC d) :=
  ⟨_, pe_glob hg hm r hd, fun B F H σ ρ Q I h => h.now I (rp F)⟩
theorem ME.bin {t : TE → TE → TE} {r : R2} {g : D → D → Option D} (hd : OpD X r g) (ha : ME X W S a ma) (hb : ME X W S b mb) {e : Expr} (mk : ∀ ta tb, PE X a ta → PE X b tb → PE X e (tOp r ta tb)) : ME X W S e (mBin g ma mb) := by
  obtain ⟨ta, pa, qa⟩ := ha.ex
  obtain ⟨tb, pb, qb⟩ := hb.ex
  refine ⟨tOp r ta tb, mk ta tb pa pb, fun B F H σ ρ Q I h => ?_⟩
  refine qa B F H σ ρ _ I (h.bind.mono (fun d ρ1 h1 F1 H1 x I1 s1 r1 => ?_) fun _ _ z => z)
  refine qb B F1 H1 σ ρ1 _ I1 (h1.bind.mono (fun e ρ2 h2 F2 H2 y I2 s2 r2 => ?_) fun _ _ z => XKo.up s1 z)
  obtain ⟨z, hz, h3⟩ := sat_of h2
  exact hd S B F2 H2 σ ρ2 Q x y d e z I2 (.inl (r1.up s2)) (.inl r2) hz (EKo.up (s1.trans s2) h3)
theorem me_op {op : Operator} {r : R2} {g : D → D → Option D} (ho : OpR X (binaryOp op) r) (hd : OpD X r g) (ha : ME X W S a ma) (hb : ME X W S b mb) : ME X W S (.BinOp a op b pos) (mBin g ma mb) :=
  ME.bin (t := fun ta tb => tOp r ta tb) hd ha hb fun _ _ pa pb => pe_op ho pa pb
theorem me_cmp {op : CmpOp} {r : R2} {g : D → D → Option D} (ho : OpR X (compareOp op) r) (hd : OpD X r g) (ha : ME X W S a ma) (hb : ME X W S b mb) (hm : behindInMarks op b = false) : ME X W S (.Compare a [op] [b] pos) (mBin g ma mb) :=
  ME.bin (t := fun ta tb => tOp r ta tb) hd ha hb fun _ _ pa pb => pe_cmpR ho pa pb hm
theorem me_ix {r : R2} {g : D → D → Option D} (hr : IxR X r) (hd : OpD X r g) (ha : ME X W S a ma) (hb : ME X W S b mb) (hs : PlainIx b) : ME X W S (.Subscript a b pos) (mBin g ma mb) :=
  ME.bin (t := fun ta tb => tOp r ta tb) hd ha hb fun _ _ pa pb => pe_ix hr pa pb hs
theorem me_un {op : UnaryOp} {r : V → Hp → VK → Prop} {g : D → Option D} (ho : UnR X (unaryOp op) r) (hd : OpD1 X r g) (ha : ME X W S a ma) : ME X W S (.UnaryOp op a pos) (mUn g ma) := by
  obtain ⟨ta, pa, qa⟩ := ha.ex
  refine ⟨_, pe_un ho pa, fun B F H σ ρ Q I h => ?_⟩
  refine qa B F H σ ρ _ I (h.bind.mono (fun d ρ1 h1 F1 H1 x I1 s1 r1 => ?_) fun _ _ z => z)
  obtain ⟨z, hz, h3⟩ := sat_of h1
  exact hd S B F1 H1 σ ρ1 Q x d z I1 (.inl r1) hz (EKo.up s1 h3)
/-- a test gives a bool without a change -/
def OpB (X : Cx) (r : R2) (g : D → D → Option Bool) : Prop := ∀ S B F H σ ρ x y d e b (Q : VK), SInv X.K S B σ F H ρ → RpS X.K F H x d → RpS X.K F H y e → g d e = some b → Q (.bl b) H → r x y H Q
theorem OpB.opD {r : R2} {g : D → D → Option Bool} (h : OpB X r g) : OpD X r (fun d e => (g d e).map .bool) := fun S B F H σ ρ Q x y d e z I r1 r2 hz k => by
  have hz : (g d e).map PyData.bool = some z := hz
  cases q : g d e with
  | none => rw [q] at hz; cases hz
  | some b =>
    rw [q] at hz
    cases hz
    exact h S B F H σ ρ x y d e b Q I r1 r2 q (k.now I (.bl b))
/-- tests -/
def mTest (g : D → D → Option Bool) (ma mb : Ev → Out D) : Ev → Out Bool := fun ρ => (ma ρ).bind fun d ρ1 => (mb ρ1).bind fun e ρ2 => Out.of (g d e) ρ2
theorem mt_cmp {op : CmpOp} {r : R2} {g : D → D → Option Bool} (ho : OpR X (compareOp op) r) (hd : OpB X r g) (ha : ME X W S a ma) (hb : ME X W S b mb) (hm : behindInMarks op b = false) : MT X W S (.Compare a [op] [b] pos) (mTest g ma mb) := by
  obtain ⟨ta, pa, qa⟩ := ha.ex
  obtain ⟨tb, pb, qb⟩ := hb.ex
  refine ⟨_, pt_cmpR ho pa pb hm, fun B F H σ ρ Q I h => ?_⟩
  refine qa B F H σ ρ _ I (h.bind.mono (fun d ρ1 h1 F1 H1 x I1 s1 r1 => ?_) fun _ _ z => z)
  refine qb B F1 H1 σ ρ1 _ I1 (h1.bind.mono (fun e ρ2 h2 F2 H2 y I2 s2 r2 => ?_) fun _ _ z => XKo.up s1 z)
  obtain ⟨z, hz, h3⟩ := sat_of h2
  exact hd S B F2 H2 σ ρ2 x y d e z _ I2 (.inl (r1.up s2)) (.inl r2) hz ⟨z, rfl, h3 F2 H2 I2 (s1.trans s2)⟩
def mChainT (g g' : D → D → Option Bool) (ma mb mc : Ev → Out D) : Ev → Out Bool := fun ρ => (ma ρ).bind fun d ρ1 => (mb ρ1).bind fun e ρ2 => (Out.of (g d e) ρ2).bind fun b ρ2 =>
  if b = true then (mc ρ2).bind fun f ρ3 => Out.of (g' e f) ρ3 else .ok false ρ2
theorem chain_sat {r r' : R2} {g g' : D → D → Option Bool} (hd : OpB X r g) (hd' : OpB X r' g') {ta tb tc : TE}
    (qa : ∀ B F H σ ρ Q, SInv X.K S B σ F H ρ → Sat (ma ρ) (EKo X.K S B σ F Q) (XKo X W S B σ F) → ta σ H Q) (qb : ∀ B F H σ ρ Q, SInv X.K S B σ F H ρ → Sat (mb ρ) (EKo X.K S B σ F Q) (XKo X W S B σ F) → tb σ H Q)
    (qc : ∀ B F H σ ρ Q, SInv X.K S B σ F H ρ → Sat (mc ρ) (EKo X.K S B σ F Q) (XKo X W S B σ F) → tc σ H Q) {B : Base} {F H : Hp} {σ : Sts} {ρ : Ev} {Q : VK} (I : SInv X.K S B σ F H ρ)
    (h : Sat (mChainT g g' ma mb mc ρ) (BKo X.K S B σ F fun b H' => Q (.bl b) H') (XKo X W S B σ F)) : tChain r r' ta tb tc σ H Q := by
  refine qa B F H σ ρ _ I (h.bind.mono (fun d ρ1 h1 F1 H1 x I1 s1 r1 => ?_) fun _ _ z => z)
  refine qb B F1 H1 σ ρ1 _ I1 (h1.bind.mono (fun e ρ2 h2 F2 H2 y I2 s2 r2 => ?_) fun _ _ z => XKo.up s1 z)
  obtain ⟨k, hk, h3⟩ := sat_of h2.bind
  refine hd S B F2 H2 σ ρ2 x y d e k _ I2 (.inl (r1.up s2)) (.inl r2) hk ⟨k, rfl, ?_⟩
  cases k with
  | false => exact iteF (h3 F2 H2 I2 (s1.trans s2))
  | true =>
    refine iteT (qc B F2 H2 σ ρ2 _ I2 (Sat.mono (Sat.bind h3) (fun f ρ3 h4 F3 H3 z I3 s3 r3 => ?_) fun _ _ z => XKo.up (s1.trans s2) z))
    obtain ⟨k', hk', h5⟩ := sat_of h4
    exact hd' S B F3 H3 σ ρ3 y z e f k' _ I3 (.inl (r2.up s3)) (.inl r3) hk' (h5 F3 H3 I3 ((s1.trans s2).trans s3))
theorem mt_chain {op op' : CmpOp} {r r' : R2} {g g' : D → D → Option Bool} (ho : OpR X (compareOp op) r) (ho' : OpR X (compareOp op') r') (hd : OpB X r g) (hd' : OpB X r' g') (ha : ME X W S a ma) (hb : ME X W S b mb) (hc : ME X W S c mc)
    (hm : lastMarks [op, op'] [b, c] = false := by with_unfolding_all rfl) : MT X W S (.Compare a [op, op'] [b, c] pos) (mChainT g g' ma mb mc) := by
  obtain ⟨ta, pa, qa⟩ := ha.ex
  obtain ⟨tb, pb, qb⟩ := hb.ex
  obtain ⟨tc, pc, qc⟩ := hc.ex
  refine ⟨_, pt_chain ho ho' pa pb pc hm, fun B F H σ ρ Q I h => ?_⟩
  exact chain_sat hd hd' qa qb qc I (h.mono (fun b ρ' k F' H' I' s => ⟨b, rfl, k F' H' I' s⟩) fun _ _ z => z)
def mOfB (mb : Ev → Out Bool) : Ev → Out D := fun ρ => (mb ρ).bind fun b ρ1 => .ok (.bool b) ρ1
theorem me_chain {op op' : CmpOp} {r r' : R2} {g g' : D → D → Option Bool} (ho : OpR X (compareOp op) r) (ho' : OpR X (compareOp op') r') (hd : OpB X r g) (hd' : OpB X r' g') (ha : ME X W S a ma) (hb : ME X W S b mb) (hc : ME X W S c mc)
    (hm : lastMarks [op, op'] [b, c] = false := by with_unfolding_all rfl) : ME X W S (.Compare a [op, op'] [b, c] pos) (mOfB (mChainT g g' ma mb mc)) := by
  obtain ⟨ta, pa, qa⟩ := ha.ex
  obtain ⟨tb, pb, qb⟩ := hb.ex
  obtain ⟨tc, pc, qc⟩ := hc.ex
  refine ⟨_, pe_chain ho ho' pa pb pc hm, fun B F H σ ρ Q I h => ?_⟩
  exact chain_sat hd hd' qa qb qc I (h.bind.mono (fun b ρ' k F' H' I' s => k F' H' _ I' s (.bl b)) fun _ _ z => z)
def truth : D → Option Bool
  | .none => some false
  | .bool b => some b
  | .int i => some (i != 0)
  | .str y => if y.length ≤ 16777216 then some ((y.length : Int) != 0) else none
  | .list ds => some !ds.isEmpty
  | .tuple ds => some !ds.isEmpty
  | .dict _ => none
theorem isEmpty_len {α β : Type} {xs : List α} {ys : List β} (h : xs.length = ys.length) : xs.isEmpty = ys.isEmpty := by
  cases xs <;> cases ys <;> first | rfl | (simp at h)
theorem RpK.len {K : Fg} {F : Hp} : ∀ {xs : List (L2.Key × V)} {ds : List (D × D)}, RpK K F xs ds → xs.length = ds.length
  | _, _, .nil => rfl
  | _, _, .cons _ r => by rw [List.length_cons, List.length_cons, r.len]
theorem tru_rp {K : Fg} {F H : Hp} {v : V} {d : D} {k : Bool} (s : Same F H) (r : Rp K F v d) (h : truth d = some k) : TruV K v H k := by
  cases r with
  | non => cases h; rfl
  | bl b => cases h; rfl
  | int i => cases h; rfl
  | str x =>
    have h : (if x.length ≤ 16777216 then some ((x.length : Int) != 0) else none) = some k := h
    by_cases hx : x.length ≤ 16777216
    · rw [if_pos hx] at h
      cases h
      exact ⟨by rw [sizeLine_eq]; exact hx, rfl⟩
    · rw [if_neg hx] at h
      cases h
  | lst a r =>
    cases h
    exact .inl ⟨_, .inl (rd_same s a), by rw [isEmpty_len r.len]⟩
  | tup a r =>
    cases h
    exact .inr (.inl ⟨_, sqT_same s a.sq, by rw [isEmpty_len r.len]⟩)
  | dct a r => cases h
def mTru (ma : Ev → Out D) : Ev → Out Bool := fun ρ => (ma ρ).bind fun d ρ1 => Out.of (truth d) ρ1
theorem mt_val (ha : ME X W S a ma) (he : ∀ whole, isTrue a X.env whole = (do let v ← whole; standAt a.pos; holding [v] (truthy v)) := by intro _; rfl) : MT X W S a (mTru ma) := by
  obtain ⟨ta, pa, qa⟩ := ha.ex
  refine ⟨_, pt_truth pa he, fun B F H σ ρ Q I h => ?_⟩
  refine qa B F H σ ρ _ I (h.bind.mono (fun d ρ1 h1 F1 H1 x I1 s1 r1 => ?_) fun _ _ z => z)
  obtain ⟨k, hk, h3⟩ := sat_of h1
  exact ⟨k, tru_rp I1.same r1 hk, h3 F1 H1 I1 s1⟩
def mNotB (m : Ev → Out Bool) : Ev → Out Bool := fun ρ => (m ρ).bind fun b ρ1 => .ok (!b) ρ1
theorem mt_not {m : Ev → Out Bool} (ha : MT X W S a m) : MT X W S (.UnaryOp .Not a pos) (mNotB m) := by
  obtain ⟨t, p, q⟩ := ha.ex
  refine ⟨_, pt_not p, fun B F H σ ρ Q I h => ?_⟩
  exact q B F H σ ρ _ I (h.bind.mono (fun b ρ1 h1 F1 H1 I1 s1 => h1 F1 H1 I1 s1) fun _ _ z => z)
def mAndB (m n : Ev → Out Bool) : Ev → Out Bool := fun ρ => (m ρ).bind fun b ρ1 => if b = true then n ρ1 else .ok false ρ1
def mOrB (m n : Ev → Out Bool) : Ev → Out Bool := fun ρ => (m ρ).bind fun b ρ1 => if b = true then .ok true ρ1 else n ρ1
theorem mtw_one {op : BoolOp} {m : Ev → Out Bool} (ha : MT X W S a m) : MTw X W S (.BoolOp op [a] pos) m := by
  obtain ⟨t, p, q⟩ := ha.ex
  cases op with
  | And => exact ⟨_, pw_and1 p, q⟩
  | Or => exact ⟨_, pw_or1 p, q⟩
theorem mtw_and {m n : Ev → Out Bool} {rest : List Expr} (ha : MT X W S a m) (hb : MTw X W S (.BoolOp .And (b :: rest) pos) n) : MTw X W S (.BoolOp .And (a :: b :: rest) pos) (mAndB m n) := by
  obtain ⟨t, p, q⟩ := ha.ex
  obtain ⟨t', p', q'⟩ := hb.ex
  refine ⟨_, pw_and p p', fun B F H σ ρ Q I h => ?_⟩
  refine q B F H σ ρ _ I (h.bind.mono (fun b ρ1 h1 F1 H1 I1 s1 => ?_) fun _ _ z => z)
  cases b with
  | true => exact iteT (q' B F1 H1 σ ρ1 _ I1 (Sat.mono h1 (fun b ρ2 h2 F2 H2 I2 s2 => h2 F2 H2 I2 (s1.trans s2)) fun _ _ z => XKo.up s1 z))
  | false => exact iteF (h1 F1 H1 I1 s1)
theorem mtw_or {m n : Ev → Out Bool} {rest : List Expr} (ha : MT X W S a m) (hb : MTw X W S (.BoolOp .Or (b :: rest) pos) n) : MTw X W S (.BoolOp .Or (a :: b :: rest) pos) (mOrB m n) := by
  obtain ⟨t, p, q⟩ := ha.ex
  obtain ⟨t', p', q'⟩ := hb.ex
  refine ⟨_, pw_or p p', fun B F H σ ρ Q I h => ?_⟩
  refine q B F H σ ρ _ I (h.bind.mono (fun b ρ1 h1 F1 H1 I1 s1 => ?_) fun _ _ z => z)
  cases b with
  | true => exact iteT (h1 F1 H1 I1 s1)
  | false => exact iteF (q' B F1 H1 σ ρ1 _ I1 (Sat.mono h1 (fun b ρ2 h2 F2 H2 I2 s2 => h2 F2 H2 I2 (s1.trans s2)) fun _ _ z => XKo.up s1 z))
theorem MTw.mt {m : Ev → Out Bool} (h : MTw X W S a m) : MT X W S a m := by
  obtain ⟨t, p, q⟩ := h.ex
  exact ⟨_, p.pt, q⟩
def mAndV (ma mb : Ev → Out D) : Ev → Out D := fun ρ => (ma ρ).bind fun d ρ1 => (Out.of (truth d) ρ1).bind fun b ρ1 => if b = true then mb ρ1 else .ok d ρ1
def mOrV (ma mb : Ev → Out D) : Ev → Out D := fun ρ => (ma ρ).bind fun d ρ1 => (Out.of (truth d) ρ1).bind fun b ρ1 => if b = true then .ok d ρ1 else mb ρ1
def mNotV (ma : Ev → Out D) : Ev → Out D := mOfB (mNotB (mTru ma))
theorem me_one {op : BoolOp} (ha : ME X W S a ma) : ME X W S (.BoolOp op [a] pos) ma := by
  obtain ⟨t, p, q⟩ := ha.ex
  exact ⟨_, pe_one p, q⟩
theorem me_and {rest : List Expr} (ha : ME X W S a ma) (hb : ME X W S (.BoolOp .And (b :: rest) pos) mb) : ME X W S (.BoolOp .And (a :: b :: rest) pos) (mAndV ma mb) := by
  obtain ⟨t, p, q⟩ := ha.ex
  obtain ⟨t', p', q'⟩ := hb.ex
  refine ⟨_, pe_andT p p', fun B F H σ ρ Q I h => ?_⟩
  refine q B F H σ ρ _ I (h.bind.mono (fun d ρ1 h1 F1 H1 x I1 s1 r1 => ?_) fun _ _ z => z)
  obtain ⟨k, hk, h3⟩ := sat_of h1.bind
  refine ⟨k, tru_rp I1.same r1 hk, ?_⟩
  cases k with
  | true => exact iteT (q' B F1 H1 σ ρ1 _ I1 (Sat.mono h3 (fun d ρ2 h2 => EKo.up s1 h2) fun _ _ z => XKo.up s1 z))
  | false => exact iteF (h3 F1 H1 x I1 s1 r1)
theorem me_or {rest : List Expr} (ha : ME X W S a ma) (hb : ME X W S (.BoolOp .Or (b :: rest) pos) mb) : ME X W S (.BoolOp .Or (a :: b :: rest) pos) (mOrV ma mb) := by
  obtain ⟨t, p, q⟩ := ha.ex
  obtain ⟨t', p', q'⟩ := hb.ex
  refine ⟨_, pe_orT p p', fun B F H σ ρ Q I h => ?_⟩
  refine q B F H σ ρ _ I (h.bind.mono (fun d ρ1 h1 F1 H1 x I1 s1 r1 => ?_) fun _ _ z => z)
  obtain ⟨k, hk, h3⟩ := sat_of h1.bind
  refine ⟨k, tru_rp I1.same r1 hk, ?_⟩
  cases k with
  | true => exact iteT (h3 F1 H1 x I1 s1 r1)
  | false => exact iteF (q' B F1 H1 σ ρ1 _ I1 (Sat.mono h3 (fun d ρ2 h2 => EKo.up s1 h2) fun _ _ z => XKo.up s1 z))
theorem me_not (ha : ME X W S a ma) : ME X W S (.UnaryOp .Not a pos) (mNotV ma) := by
  obtain ⟨t, p, q⟩ := ha.ex
  refine ⟨_, pe_notT p, fun B F H σ ρ Q I h => ?_⟩
  refine q B F H σ ρ _ I (h.bind.bind.bind.mono (fun d ρ1 h1 F1 H1 x I1 s1 r1 => ?_) fun _ _ z => z)
  obtain ⟨k, hk, h3⟩ := sat_of h1
  exact ⟨k, tru_rp I1.same r1 hk, h3 F1 H1 _ I1 s1 (.bl _)⟩
def mIf (mc : Ev → Out Bool) (ma mb : Ev → Out D) : Ev → Out D := fun ρ => (mc ρ).bind fun b ρ1 => if b = true then ma ρ1 else mb ρ1
theorem me_ifExp {mt : Ev → Out Bool} (hc : MT X W S c mt) (ha : ME X W S a ma) (hb : ME X W S b mb) : ME X W S (.IfExp c a b pos) (mIf mt ma mb) := by
  obtain ⟨t, p, q⟩ := hc.ex
  obtain ⟨t1, p1, q1⟩ := ha.ex
  obtain ⟨t2, p2, q2⟩ := hb.ex
  refine ⟨_, pe_ifExp p p1 p2, fun B F H σ ρ Q I h => ?_⟩
  refine q B F H σ ρ _ I (h.bind.mono (fun b ρ1 h1 F1 H1 I1 s1 => ?_) fun _ _ z => z)
  cases b with
  | true => exact iteT (q1 B F1 H1 σ ρ1 _ I1 (Sat.mono h1 (fun d ρ2 h2 => EKo.up s1 h2) fun _ _ z => XKo.up s1 z))
  | false => exact iteF (q2 B F1 H1 σ ρ1 _ I1 (Sat.mono h1 (fun d ρ2 h2 => EKo.up s1 h2) fun _ _ z => XKo.up s1 z))
def mNil : Ev → Out (List D) := fun ρ => .ok [] ρ
def mCons (ma : Ev → Out D) (mr : Ev → Out (List D)) : Ev → Out (List D) := fun ρ => (ma ρ).bind fun d ρ1 => (mr ρ1).bind fun ds ρ2 => .ok (d :: ds) ρ2
theorem ma_nil : MA X W S [] mNil := ⟨⟨_, pa_nil, fun B F H σ ρ Q I h => h F H [] I (Same.refl _) .nil⟩, fun ρ ds ρ' h => by cases h; rfl⟩
theorem ma_cons {mr : Ev → Out (List D)} (ha : ME X W S a ma) (hr : MA X W S es mr) (hs : starEach (a :: es) X.env = (false, eval a X.env) :: starEach es X.env := by rfl) : MA X W S (a :: es) (mCons ma mr) := by
  obtain ⟨t, p, q⟩ := ha.ex
  obtain ⟨t', p', q'⟩ := hr.ex
  refine ⟨⟨_, pa_cons p p' hs, fun B F H σ ρ Q I h => ?_⟩, fun ρ ds ρ' h => ?_⟩
  · refine q B F H σ ρ _ I (h.bind.mono (fun d ρ1 h1 F1 H1 x I1 s1 r1 => ?_) fun _ _ z => z)
    refine q' B F1 H1 σ ρ1 _ I1 (h1.bind.mono (fun ds ρ2 h2 F2 H2 xs I2 s2 r2 => ?_) fun _ _ z => XKo.up s1 z)
    exact h2 F2 H2 (x :: xs) I2 (s1.trans s2) (.cons (r1.up s2) r2)
  · unfold mCons at h
    cases e1 : ma ρ with
    | ok d ρ1 =>
      rw [e1] at h
      have h' : (mr ρ1).bind (fun ds ρ2 => Out.ok (d :: ds) ρ2) = .ok ds ρ' := h
      cases e2 : mr ρ1 with
      | ok ds2 ρ2 =>
        rw [e2] at h'
        cases h'
        rw [List.length_cons, List.length_cons, hr.len ρ1 ds2 _ e2]
      | err c ρ2 => rw [e2] at h'; cases h'
      | bad => rw [e2] at h'; cases h'
    | err c ρ1 => rw [e1] at h; cases h
    | bad => rw [e1] at h; cases h
theorem small_len {n : Nat} (h : Nat.ble n 1000 = true) : n ≤ sizeLine := by
  rw [sizeLine_eq]
  have := Nat.le_of_ble_eq_true h
  omega
/-- what m hands back is told by len too -/
theorem Sat.tell {α : Type} {o : Out α} {k : α → Ev → Prop} {e : Str → Ev → Prop} (h : Sat o k e) : Sat o (fun a ρ => k a ρ ∧ o = .ok a ρ) e := by
  cases o with
  | ok a ρ => exact ⟨h, rfl⟩
  | err c ρ => exact h
  | bad => exact h
def mTup (ms : Ev → Out (List D)) : Ev → Out D := fun ρ => (ms ρ).bind fun ds ρ1 => .ok (.tuple ds) ρ1
def mLst (ms : Ev → Out (List D)) : Ev → Out D := fun ρ => (ms ρ).bind fun ds ρ1 => .ok (.list ds) ρ1
theorem mkT {pins : List (Addr × Obj)} {s : Shared} {σ : Sts} {H : Hp} {xs : List V} {its : List Value} {n : Nat} {Q : VK} (I : Inv X pins σ H s) (r : Vals xs its) (hz : xs.length ≤ sizeLine)
    (q : ∀ (p : Addr) (o : Obj), o.dict = none → H p = none → Q (.ref p) (upd H p (.frz o (.tup xs)))) : EP X pins σ Q (.ref s.heap.objs.size) { s with heap := s.heap.push { cls := .type "tuple", data := .seq its.toArray n } } := by
  have hn : H s.heap.objs.size = none := I.hok.fresh (Nat.le_refl _)
  exact ⟨.ref s.heap.objs.size, _, I.laid (t' := s.toks) (o := .frz { cls := .type "tuple", data := .seq its.toArray n } (.tup xs)) (fun b u e => Heap.get?_push_of_some _ e) (Nat.le_refl _)
    ⟨Heap.get?_push_size _ rfl, hz, its, r, _, Heap.get?_push_size _ rfl, rfl, _, rfl⟩, rfl, q _ _ rfl hn⟩
def tTupM (t : TA) : TE := fun σ H Q => t σ H fun xs H1 => xs.length ≤ sizeLine ∧ ∀ (p : Addr) (o : Obj), o.dict = none → H1 p = none → Q (.ref p) (upd H1 p (.frz o (.tup xs)))
theorem pe_tupM {t : TA} {x1} (h : PA X es t) : PE X (.Tuple es x1 pos) (tTupM t) := by
  refine ⟨fun pins s σ H Q I hq => wpAny_Tuple_spliced (thn (h.run pos pins s σ H _ I hq) fun us s1 ⟨xs, H1, I1, r, z, q⟩ => ⟨?_, mkT I1 r z q⟩)⟩
  rw [← r.length]; exact z
theorem me_tup {ms : Ev → Out (List D)} {x1} (h : MA X W S es ms) (hl : Nat.ble es.length 1000 = true := by rfl) : ME X W S (.Tuple es x1 pos) (mTup ms) := by
  obtain ⟨t, p, q⟩ := h.ex
  refine ⟨_, pe_tupM p, fun B F H σ ρ Q I hh => ?_⟩
  refine q B F H σ ρ _ I (hh.bind.tell.mono (fun ds ρ1 ⟨h1, e1⟩ F1 H1 xs I1 s1 r1 => ⟨?_, fun p o ho hp => ?_⟩) fun _ _ z => z)
  · rw [r1.len, h.len _ _ _ e1]; exact small_len hl
  · exact (EKo.up s1 h1).tup I1 r1 ho hp
theorem ml_lst {ms : Ev → Out (List D)} (h : MA X W S es ms) (hl : Nat.ble es.length 1000 = true := by rfl) : ML X W S (.List es pos) ms := by
  obtain ⟨t, p, q⟩ := h.ex
  refine ⟨_, pe_lst p, fun B F H σ ρ Q I hh => ?_⟩
  refine q B F H σ ρ _ I (hh.tell.mono (fun ds ρ1 ⟨h1, e1⟩ F1 H1 xs I1 s1 r1 => ⟨?_, fun p hp => ?_⟩) fun _ _ z => z)
  · rw [r1.len, h.len _ _ _ e1]; exact small_len hl
  · exact LKo.mk (fun F' H' p' xs' I' s' => h1 F' H' p' xs' I' (s1.trans s')) I1 r1 hp
theorem ML.me {ms : Ev → Out (List D)} (h : ML X W S a ms) : ME X W S a (mLst ms) := by
  obtain ⟨t, p, q⟩ := h.ex
  exact ⟨_, p, fun B F H σ ρ Q I hh => q B F H σ ρ _ I (hh.bind.mono (fun ds ρ1 h1 => LKo.ofE h1) fun _ _ z => z)⟩
def mCall (g : List D → Option D) (ms : Ev → Out (List D)) : Ev → Out D := fun ρ => (ms ρ).bind fun ds ρ1 => Out.of (g ds) ρ1
def mCallL (g : List D → Option (List D)) (ms : Ev → Out (List D)) : Ev → Out (List D) := fun ρ => (ms ρ).bind fun ds ρ1 => Out.of (g ds) ρ1
theorem me_callV {r : List V → Hp → VK → Prop} {g : List D → Option D} {ms : Ev → Out (List D)} {e : Expr} (hd : CallD X r g) (ha : MA X W S es ms) (mk : ∀ t, PA X es t → PE X e (tCB r t)) : ME X W S e (mCall g ms) := by
  obtain ⟨t, p, q⟩ := ha.ex
  refine ⟨_, mk _ p, fun B F H σ ρ Q I hh => ?_⟩
  refine q B F H σ ρ _ I (hh.bind.mono (fun ds ρ1 h1 F1 H1 xs I1 s1 r1 => ?_) fun _ _ z => z)
  obtain ⟨z, hz, h3⟩ := sat_of h1
  exact hd S B F1 H1 σ ρ1 Q xs ds z I1 r1.seen hz (EKo.up s1 h3)
end
end MW
namespace MW
open PySem PySem.Spec PyProof.Rows L2
def tME (K : Fg) (mg : Str → Option Value) (W : WX) (S : Sg) (m : Ev → Out D) : TE := fun σ H Q => ∃ B F ρ, SInv K S B σ F H ρ ∧ Sat (m ρ) (EKo K S B σ F Q) (fun c ρ' => ∀ F' H' C, SInv K S B σ F' H' ρ' → Same F F' → mg c = some (.ref C) → W (.ref C) none σ H')
def tMT (K : Fg) (mg : Str → Option Value) (W : WX) (S : Sg) (m : Ev → Out Bool) : TT := fun σ H Q => ∃ B F ρ, SInv K S B σ F H ρ ∧ Sat (m ρ) (BKo K S B σ F Q) (fun c ρ' => ∀ F' H' C, SInv K S B σ F' H' ρ' → Same F F' → mg c = some (.ref C) → W (.ref C) none σ H')
section
variable {X : Cx} {W : WX} {S : Sg}
theorem ME.run {e : Expr} {m : Ev → Out D} (h : ME X W S e m) : PE X e (tME X.K X.mg W S m) := by
  obtain ⟨t, p, q⟩ := h.ex
  exact ⟨fun pins s σ H Q I ⟨B, F, ρ, J, z⟩ => p.run pins s σ H Q I (q B F H σ ρ Q J z)⟩
theorem MT.run {e : Expr} {m : Ev → Out Bool} (h : MT X W S e m) : PT X e (tMT X.K X.mg W S m) := by
  obtain ⟨t, p, q⟩ := h.ex
  exact ⟨fun pins s σ H Q I ⟨B, F, ρ, J, z⟩ => p.run pins s σ H Q I (q B F H σ ρ Q J z)⟩
end
def reb (T : List (Addr × Str)) (S : Sg) (σ : Sts) (F H : Hp) (ρ : Ev) : Base := ⟨fun a => (∃ i, Held S σ H ρ i a) ∨ ∃ p ∈ T, p.1 = a, fun a => ∃ i, S.np ≤ i ∧ Held S σ H ρ i a, F, H, σ, T⟩
section
variable {K : Fg} {S : Sg} {B : Base} {σ : Sts} {F H : Hp} {ρ : Ev}
theorem SInv.into (I : SInv K S B σ F H ρ) : SInv K S (reb B.T S σ F H ρ) σ F H ρ :=
  ⟨I.len, I.same, ⟨Same.refl _, fun _ _ e _ => e, fun _ e => e, fun _ _ e => .inl e, I.ext.tb, fun p hp => .inr ⟨p, hp, rfl⟩, I.ext.tf⟩, I.sh, fun i d e k => let ⟨a, bs, e1, w, _⟩ := I.ow i d e k; ⟨a, bs, e1, w, fun b hb => .inl ⟨.inl ⟨i, (w.held (S := S) k e e1 b).mpr hb⟩, fun z => ⟨i, z, (w.held (S := S) k e e1 b).mpr hb⟩⟩⟩, I.nd, I.al, fun _ _ _ => rfl, I.ts⟩
theorem SInv.out (I : SInv K S B σ F H ρ) {i : Nat} {a : Addr} (h : Held S σ H ρ i a) : (B.O a ∧ (S.np ≤ i → B.M a)) ∨ B.H a = none := (I.heldAt h).2.2
theorem SInv.back (I : SInv K S B σ F H ρ) {σ' : Sts} {F' H' : Hp} {ρ' : Ev} (J : SInv K S (reb B.T S σ F H ρ) σ' F' H' ρ') : SInv K S B σ' F' H' ρ' := by
  refine ⟨J.len, J.same, ⟨I.ext.fs.trans J.ext.fs, fun b o e n => ?_, fun b e => I.ext.st b (J.ext.st b e), fun b o e => ?_, J.ext.tb, I.ext.to, J.ext.tf⟩, J.sh, fun i d e k => ?_, J.nd, J.al, fun i hi hk => (J.pin i hi hk).trans (I.pin i hi hk), I.ts⟩
  · refine J.ext.hs b o (I.ext.hs b o e n) fun z => ?_
    rcases z with ⟨i, z⟩ | ⟨p, hp, z⟩
    · rcases I.out z with q | q
      · exact n q.1
      · rw [q] at e; cases e
    · exact n (z ▸ I.ext.to p hp)
  · rcases J.ext.fr b o e with q | q | ⟨i, hi, z⟩
    · exact I.ext.fr b o q
    · exact .inr (.inl (I.ext.st b q))
    · rcases I.out z with q | q
      · exact .inr (.inr (q.2 hi))
      · exact .inr (.inl q)
  · obtain ⟨a, bs, e1, w, q⟩ := J.ow i d e k
    refine ⟨a, bs, e1, w, fun b hb => ?_⟩
    rcases q b hb with ⟨⟨j, z⟩ | ⟨p, hp, z⟩, q⟩ | q
    rotate_left
    · obtain ⟨o, ho⟩ := Option.ne_none_iff_exists'.mp (w.at b hb).2
      exact absurd z (tabs_ne J.ext.tb hp ho (w.soft b hb o ho))
    rotate_left
    · rcases I.out z with q' | q'
      · refine .inl ⟨q'.1, fun hi => ?_⟩
        obtain ⟨j', hj', z'⟩ := q hi
        have e := I.nd j' j b z' z
        subst e
        exact q'.2 hj'
      · exact .inr q'
    · exact .inr (I.ext.st b q)
theorem reb_no {Dn : Addr} {o : HO} (I : LamX.Tabs B.T H) (hn : ∀ j a, Held S σ H ρ j a → a ≠ Dn) (e : H Dn = some o) (so : Soft o) : ¬ (reb B.T S σ F H ρ).O Dn := fun z => by
  rcases z with ⟨j, z⟩ | ⟨p, hp, z⟩
  · exact hn j Dn z rfl
  · exact tabs_ne I hp e so z
end
inductive Fl where
  | nx | bk | ct
  | rt (d : D)
def FlOk (K : Fg) (F' : Hp) (D : Ends) (σ' : Sts) (H' : Hp) : Fl → Prop
  | .nx => D.nx σ' H'
  | .bk => D.bk σ' H'
  | .ct => D.ct σ' H'
  | .rt d => ∀ v, Rp K F' v d → D.rt v H'
abbrev FKo (K : Fg) (S : Sg) (B : Base) (F : Hp) (D : Ends) : Fl → Ev → Prop := fun fl ρ' => ∀ F' H' σ', SInv K S B σ' F' H' ρ' → Same F F' → FlOk K F' D σ' H' fl
abbrev XSo (X : Cx) (W : WX) (S : Sg) (B : Base) (F : Hp) : Str → Ev → Prop := fun c ρ' => ∀ F' H' σ' C, SInv X.K S B σ' F' H' ρ' → Same F F' → X.mg c = some (.ref C) → W (.ref C) none σ' H'
structure MS (X : Cx) (W : WX) (S : Sg) (st : Stmt) (m : Ev → Out Fl) : Prop where
  ex : ∃ t : TS, PS X st t ∧ ∀ B F H σ ρ D, SInv X.K S B σ F H ρ → Sat (m ρ) (FKo X.K S B F D) (XSo X W S B F) → t D σ H
structure MSs (X : Cx) (W : WX) (S : Sg) (sts : List Stmt) (m : Ev → Out Fl) : Prop where
  ex : ∃ t : TS, PSs X sts t ∧ ∀ B F H σ ρ D, SInv X.K S B σ F H ρ → Sat (m ρ) (FKo X.K S B F D) (XSo X W S B F) → t D σ H
section
variable {K : Fg} {S : Sg} {B : Base} {σ : Sts} {F F1 H : Hp} {ρ : Ev}
theorem FKo.up {D : Ends} {fl : Fl} (s : Same F F1) (h : FKo K S B F D fl ρ) : FKo K S B F1 D fl ρ := fun F' H' σ' I s' => h F' H' σ' I (s.trans s')
theorem XSo.up {X : Cx} {W : WX} {c : Str} (s : Same F F1) (h : XSo X W S B F c ρ) : XSo X W S B F1 c ρ := fun F' H' σ' C I s' => h F' H' σ' C I (s.trans s')
theorem XSo.ex {X : Cx} {W : WX} {c : Str} (h : XSo X W S B F c ρ) : XKo X W S B σ F c ρ := fun F' H' C I s => h F' H' σ C I s
end
section
variable {X : Cx} {W : WX} {S : Sg} {e a : Expr} {pos : Pos}
def mNext : Ev → Out Fl := fun ρ => .ok .nx ρ
def mSeq (m n : Ev → Out Fl) : Ev → Out Fl := fun ρ => (m ρ).bind fun fl ρ1 => match fl with
  | .nx => n ρ1
  | .bk => .ok .bk ρ1
  | .ct => .ok .ct ρ1
  | .rt d => .ok (.rt d) ρ1
theorem mss_nil : MSs X W S [] mNext := ⟨_, pss_nil, fun B F H σ ρ D I h => h F H σ I (Same.refl _)⟩
theorem mss_cons {st : Stmt} {rest : List Stmt} {m n : Ev → Out Fl} (h1 : MS X W S st m) (h2 : MSs X W S rest n) : MSs X W S (st :: rest) (mSeq m n) := by
  obtain ⟨t, p, q⟩ := h1.ex
  obtain ⟨u, p', q'⟩ := h2.ex
  refine ⟨_, pss_cons p p', fun B F H σ ρ D I h => ?_⟩
  refine q B F H σ ρ _ I (h.bind.mono (fun fl ρ1 h1 F1 H1 σ1 I1 s1 => ?_) fun _ _ z => z)
  cases fl with
  | nx => exact q' B F1 H1 σ1 ρ1 D I1 (Sat.mono h1 (fun fl ρ2 h2 => FKo.up s1 h2) fun _ _ z => XSo.up s1 z)
  | bk => exact h1 F1 H1 σ1 I1 s1
  | ct => exact h1 F1 H1 σ1 I1 s1
  | rt d => exact h1 F1 H1 σ1 I1 s1
theorem mss_one {st : Stmt} {m : Ev → Out Fl} (h1 : MS X W S st m) : MSs X W S [st] m := by
  obtain ⟨t, p, q⟩ := h1.ex
  exact ⟨_, pss_one p, q⟩
def mRet (m : Ev → Out D) : Ev → Out Fl := fun ρ => (m ρ).bind fun d ρ1 => .ok (.rt d) ρ1
theorem ms_ret {m : Ev → Out D} (he : ME X W S e m) : MS X W S (.Return (some e) pos) (mRet m) := by
  obtain ⟨t, p, q⟩ := he.ex
  refine ⟨_, ps_ret p, fun B F H σ ρ D I h => ?_⟩
  exact q B F H σ ρ _ I (h.bind.mono (fun d ρ1 h1 F1 H1 v I1 s1 r1 => h1 F1 H1 σ I1 s1 v r1) fun _ _ z => XSo.ex z)
def mIfS (c : Ev → Out Bool) (m n : Ev → Out Fl) : Ev → Out Fl := fun ρ => (c ρ).bind fun b ρ1 => if b = true then m ρ1 else n ρ1
theorem ms_if {c : Expr} {as bs : List Stmt} {mc : Ev → Out Bool} {m n : Ev → Out Fl} (hc : MT X W S c mc) (ha : MSs X W S as m) (hb : MSs X W S bs n) : MS X W S (.If c as bs pos) (mIfS mc m n) := by
  obtain ⟨t, p, q⟩ := hc.ex
  obtain ⟨t1, p1, q1⟩ := ha.ex
  obtain ⟨t2, p2, q2⟩ := hb.ex
  refine ⟨_, ps_if p p1 p2, fun B F H σ ρ D I h => ?_⟩
  refine q B F H σ ρ _ I (h.bind.mono (fun b ρ1 h1 F1 H1 I1 s1 => ?_) fun _ _ z => XSo.ex z)
  cases b with
  | true => exact iteT (q1 B F1 H1 σ ρ1 _ I1 (Sat.mono h1 (fun d ρ2 h2 => FKo.up s1 h2) fun _ _ z => XSo.up s1 z))
  | false => exact iteF (q2 B F1 H1 σ ρ1 _ I1 (Sat.mono h1 (fun d ρ2 h2 => FKo.up s1 h2) fun _ _ z => XSo.up s1 z))
def mDrop (m : Ev → Out D) : Ev → Out Fl := fun ρ => (m ρ).bind fun _ ρ1 => .ok .nx ρ1
theorem ms_expr {m : Ev → Out D} (he : ME X W S e m) (hs : swapsWith e none pos.line X.env = pure false := by rfl) : MS X W S (.Expr e pos) (mDrop m) := by
  obtain ⟨t, p, q⟩ := he.ex
  refine ⟨_, ps_expr p hs, fun B F H σ ρ D I h => ?_⟩
  exact q B F H σ ρ _ I (h.bind.mono (fun d ρ1 h1 F1 H1 v I1 s1 r1 => h1 F1 H1 σ I1 s1) fun _ _ z => XSo.ex z)
/-- name = value -/
def mSet (i : Nat) (m : Ev → Out D) : Ev → Out Fl := fun ρ => (m ρ).bind fun d ρ1 => .ok .nx (ρ1.set i (some d))
theorem ms_set (i : Nat) {x : Str} {m : Ev → Out D} {pos' : Pos} (k : knd S i = 0) (hN : X.N.Nodup) (hi : X.N[i]? = some x) (hx : Loc X.env.scope x) (he : ME X W S e m) (hs : swapsWith e (some (.Name x pos')) pos.line X.env = pure false := by rfl)
    (hf : X.fn x = true ∨ X.env.scope.names.lookup x = some .local := by first | exact .inl rfl | exact .inr rfl | assumption) : MS X W S (.Assign [.Name x pos'] e pos) (mSet i m) := by
  obtain ⟨t, p, q⟩ := he.ex
  refine ⟨_, ps_set hN hi hx p hs hf, fun B F H σ ρ D I h => ?_⟩
  exact q B F H σ ρ _ I (h.bind.mono (fun d ρ1 h1 F1 H1 v I1 s1 r1 => h1 F1 H1 _ (I1.setSh k r1) s1) fun _ _ z => XSo.ex z)
/-- name = a new list, from now on one's own -/
def mSetL (i : Nat) (m : Ev → Out (List D)) : Ev → Out Fl := fun ρ => (m ρ).bind fun ds ρ1 => .ok .nx (ρ1.set i (some (.list ds)))
theorem noAl1 {K : Fg} {B : Base} {σ : Sts} {F H : Hp} {ρ : Ev} {i : Nat} (I : SInv K S B σ F H ρ) (k : knd S i = 1) : NoAl S ρ i := fun x d kx e1 e => by
  obtain ⟨j, _, _, _, _, _, e2, e3, _⟩ := I.al x d e kx
  rw [e1] at e2
  cases e2
  rw [deep_of1 k] at e3
  cases e3
theorem setL_sat {i : Nat} {m : Ev → Out (List D)} {t : TE} (k : knd S i = 1) (hp : Nat.ble S.np i = true)
    (q : ∀ B F H σ ρ Q, SInv X.K S B σ F H ρ → Sat (m ρ) (LKo X.K S B σ F Q) (XKo X W S B σ F) → t σ H Q) : ∀ B F H σ ρ D, SInv X.K S B σ F H ρ → Sat (mSetL i m ρ) (FKo X.K S B F D) (XSo X W S B F) → tAsg t (gName i) D σ H := fun B F H σ ρ D I h =>
  q B F H σ ρ _ I (h.bind.mono (fun ds ρ1 h1 F1 H1 p xs I1 s1 hF hH r hB hn => h1 F1 H1 _ (I1.setOw (bs := []) (own_of1 k) (Nat.le_of_ble_eq_true hp) ⟨by simp, by rw [k]; exact ⟨rfl, xs, ds, rfl, hF, hH, r⟩⟩ (fun b hb => by
    have : b = p := by simpa using hb
    subst this; exact hB) (fun j b hh z => by
    have : b = p := by simpa using z
    exact hn j b hh this) (noAl1 I1 k)) s1) fun _ _ z => XSo.ex z)
theorem ms_setL (i : Nat) {x : Str} {m : Ev → Out (List D)} {pos' : Pos} (k : knd S i = 1) (hp : Nat.ble S.np i = true) (hN : X.N.Nodup) (hi : X.N[i]? = some x) (hx : Loc X.env.scope x) (he : ML X W S e m) (hs : swapsWith e (some (.Name x pos')) pos.line X.env = pure false := by rfl)
    (hf : X.fn x = true ∨ X.env.scope.names.lookup x = some .local := by first | exact .inl rfl | exact .inr rfl | assumption) : MS X W S (.Assign [.Name x pos'] e pos) (mSetL i m) := by
  obtain ⟨t, p, q⟩ := he.ex
  exact ⟨_, ps_set hN hi hx p hs hf, setL_sat k hp q⟩
/-- a list of one's own, asked by a two-place operation whose right side is reckoned first -/
def mOwnBin (g : D → D → Option D) (i : Nat) (mb : Ev → Out D) : Ev → Out D := fun ρ => (Out.of (rd ρ i) ρ).bind fun _ ρ => (mb ρ).bind fun e ρ2 => (Out.of (rd ρ2 i) ρ2).bind fun d ρ2 => Out.of (g d e) ρ2
theorem own_lst {K : Fg} {B : Base} {σ : Sts} {F H : Hp} {ρ : Ev} {i : Nat} {d : D} (I : SInv K S B σ F H ρ) (k : knd S i = 1) (e : rd ρ i = some d) : ∃ a, σ[i]? = some (some (.ref a)) ∧ OwL K F H a d := by
  obtain ⟨a, bs, e1, w, _⟩ := I.ow i d (rd_some e) (own_of1 k)
  have w2 := w.2
  rw [k] at w2
  exact ⟨a, e1, w2.2⟩
theorem own_at {K : Fg} {B : Base} {σ : Sts} {F H : Hp} {ρ : Ev} {i : Nat} {d : D} (I : SInv K S B σ F H ρ) (k : knd S i = 1) (e : rd ρ i = some d) : ∃ a, σ[i]? = some (some (.ref a)) ∧ RpS K F H (.ref a) d := by
  obtain ⟨a, e1, xs, ds, e2, _, e4, r⟩ := own_lst I k e
  exact ⟨a, e1, .inr ⟨a, xs, ds, rfl, e2, e4, r⟩⟩
theorem own_bin {i : Nat} {r : R2} {g : D → D → Option D} {mb : Ev → Out D} {b : Expr} {x : Str} {p : Pos} (hd : OpD X r g) (k : knd S i = 1) (hb : ME X W S b mb) {e : Expr} (mk : ∀ tb, PE X b tb → PE X e (tOp r (tVar i) tb)) : ME X W S e (mOwnBin g i mb) := by
  obtain ⟨tb, pb, qb⟩ := hb.ex
  refine ⟨_, mk _ pb, fun B F H σ ρ Q I h => ?_⟩
  obtain ⟨d0, e0, h⟩ := sat_of h.bind
  obtain ⟨a, ea, _⟩ := own_at I k e0
  refine ⟨_, ea, ?_⟩
  refine qb B F H σ ρ _ I ((Sat.bind h).mono (fun e ρ2 h2 F2 H2 y I2 s2 r2 => ?_) fun _ _ z => z)
  obtain ⟨d, e1, h3⟩ := sat_of h2.bind
  obtain ⟨z, hz, h4⟩ := sat_of h3
  obtain ⟨a', ea', ra⟩ := own_at I2 k e1
  rw [ea] at ea'
  cases ea'
  exact hd S B F2 H2 σ ρ2 Q (.ref a) y d e z I2 ra (.inl r2) hz (EKo.up s2 h4)
theorem me_ixO (i : Nat) {x : Str} {p : Pos} {b : Expr} {mb : Ev → Out D} {r : R2} {g : D → D → Option D} (hr : IxR X r) (hd : OpD X r g) (k : knd S i = 1) (hb : ME X W S b mb) (hs : PlainIx b) (hv : PE X (.Name x p) (tVar i)) :
    ME X W S (.Subscript (.Name x p) b pos) (mOwnBin g i mb) :=
  own_bin (x := x) (p := p) hd k hb fun _ pb => pe_ix hr hv pb hs
def mTestOwn (g : D → D → Option Bool) (ma : Ev → Out D) (i : Nat) : Ev → Out Bool := fun ρ => (ma ρ).bind fun d ρ1 => (Out.of (rd ρ1 i) ρ1).bind fun e ρ1 => Out.of (g d e) ρ1
theorem mt_cmpO (i : Nat) {x : Str} {p : Pos} {op : CmpOp} {r : R2} {g : D → D → Option Bool} {ma : Ev → Out D} (ho : OpR X (compareOp op) r) (hd : OpB X r g) (k : knd S i = 1) (ha : ME X W S a ma) (hm : behindInMarks op (.Name x p) = false) (hv : PE X (.Name x p) (tVar i)) :
    MT X W S (.Compare a [op] [.Name x p] pos) (mTestOwn g ma i) := by
  obtain ⟨ta, pa, qa⟩ := ha.ex
  refine ⟨_, pt_cmpR ho pa hv hm, fun B F H σ ρ Q I h => ?_⟩
  refine qa B F H σ ρ _ I ((Sat.bind h).mono (fun d ρ1 h2 F1 H1 x I1 s1 r1 => ?_) fun _ _ z => z)
  obtain ⟨e, e1, h3⟩ := sat_of h2.bind
  obtain ⟨z, hz, h4⟩ := sat_of h3
  obtain ⟨b, eb, rb⟩ := own_at I1 k e1
  exact ⟨_, eb, hd S B F1 H1 σ ρ1 x (.ref b) d e z _ I1 (.inl r1) rb hz ⟨z, rfl, h4 F1 H1 I1 s1⟩⟩
/-- f(one's own list) -/
def mCallO (g : List D → Option D) (i : Nat) : Ev → Out D := fun ρ => (Out.of (rd ρ i) ρ).bind fun d ρ => Out.of (g [d]) ρ
theorem me_callO (i : Nat) {x : Str} {p : Pos} {r : List V → Hp → VK → Prop} {g : List D → Option D} {e : Expr} (hd : CallD X r g) (k : knd S i = 1) (mk : ∀ t, PA X [.Name x p] t → PE X e (tCB r t)) (hv : PE X (.Name x p) (tVar i)) : ME X W S e (mCallO g i) := by
  refine ⟨_, mk _ (pa_cons hv pa_nil), fun B F H σ ρ Q I h => ?_⟩
  obtain ⟨d, e1, h3⟩ := sat_of h.bind
  obtain ⟨z, hz, h4⟩ := sat_of h3
  obtain ⟨b, eb, rb⟩ := own_at I k e1
  exact ⟨_, eb, hd S B F H σ ρ Q [.ref b] [d] z I (.cons rb .nil) hz h4⟩
def mCallOL (g : List D → Option (List D)) (i : Nat) : Ev → Out (List D) := fun ρ => (Out.of (rd ρ i) ρ).bind fun d ρ => Out.of (g [d]) ρ
/-- one's own list as a value, for good: the slot is given up -/
def mMove (i : Nat) : Ev → Out D := fun ρ => (Out.of (rd ρ i) ρ).bind fun d ρ => .ok d (ρ.set i none)
theorem SInv.drop {K : Fg} {B : Base} {σ : Sts} {F H : Hp} {ρ : Ev} (I : SInv K S B σ F H ρ) (i : Nat) (hA : NoAl S ρ i) : SInv K S B σ F H (ρ.set i none) := by
  have at_ : ∀ (j : Nat) (d : D), (ρ.set i none)[j]? = some (some d) → j ≠ i ∧ ρ[j]? = some (some d) := fun j d e => by
    by_cases hj : j = i
    · subst hj
      by_cases hl : j < ρ.length
      · rw [List.getElem?_set_self hl] at e; cases e
      · rw [List.getElem?_eq_none (by rw [List.length_set]; omega)] at e; cases e
    · rw [List.getElem?_set_ne (Ne.symm hj)] at e; exact ⟨hj, e⟩
  refine I.weak (by rw [List.length_set]) (fun j d e => (at_ j d e).2) fun x j d d' k e e1 e2 => ?_
  have hj : j ≠ i := fun z => by subst z; exact hA x d k e1 (at_ x d e).2
  rw [List.getElem?_set_ne (Ne.symm hj)]; exact e2
end
end MW
namespace MW
open PySem PySem.Spec PyProof.Rows L2
structure MG (X : Cx) (S : Sg) (tg : Expr) (t : TG) (vs : List Nat) (g : Ev → D → Option Ev) : Prop where
  pg : PG X tg t
  ok : ∀ B F H σ ρ v d ρ1 (Q : Sts → Hp → Prop), SInv X.K S B σ F H ρ → Rp X.K F v d → g ρ d = some ρ1 → (∀ σ', SInv X.K S B σ' F H ρ1 → wipe σ' vs = wipe σ vs → Q σ' H) → t v σ H Q
theorem wipe_set {σ : Sts} {x : Option V} : ∀ {vs : List Nat} {i : Nat}, i ∈ vs → wipe (σ.set i x) vs = wipe σ vs
  | [], i, h => by cases h
  | v :: vs, i, h => by
    have hw : ∀ (τ : Sts), wipe τ (v :: vs) = (wipe τ vs).set v none := fun _ => rfl
    rw [hw, hw]
    by_cases hi : i ∈ vs
    · rw [wipe_set hi]
    · have e : i = v := by
        rcases List.mem_cons.mp h with e | e
        · exact e
        · exact absurd e hi
      subst e
      have step : ∀ {us : List Nat}, i ∉ us → wipe (σ.set i x) us = (wipe σ us).set i x := by
        intro us
        induction us with
        | nil => intro _; rfl
        | cons u us ih =>
          intro hu
          have h1 : u ≠ i := fun z => hu (by rw [z]; exact List.mem_cons_self)
          show (wipe (σ.set i x) us).set u none = ((wipe σ us).set u none).set i x
          rw [ih fun z => hu (List.mem_cons_of_mem _ z), List.set_comm _ _ h1.symm]
      rw [step hi, List.set_set]
def gN (i : Nat) : Ev → D → Option Ev := fun ρ d => some (ρ.set i (some d))
section
variable {X : Cx} {W : WX} {S : Sg} {pos : Pos}
theorem mg_name (i : Nat) {x : Str} (k : knd S i = 0) (hN : X.N.Nodup) (hi : X.N[i]? = some x) (hx : Loc X.env.scope x) (hf : X.fn x = true ∨ X.env.scope.names.lookup x = some .local := by first | exact .inl rfl | exact .inr rfl | assumption) :
    MG X S (.Name x pos) (gName i) [i] (gN i) :=
  ⟨pg_name hN hi hx hf, fun B F H σ ρ v d ρ1 Q I r e h => by
    cases e
    exact h _ (I.setSh k r) (wipe_set (List.mem_singleton.mpr rfl))⟩
/-- a, b = a pair -/
def gN2 (i j : Nat) : Ev → D → Option Ev := fun ρ d => match d with
  | .tuple [a, b] => some ((ρ.set i (some a)).set j (some b))
  | _ => none
theorem mg_two (i j : Nat) {x y : Str} {p1 p2 : Pos} {kk : Nat} (k : knd S i = 0) (k' : knd S j = 0) (hc : X.calm = true) (h1 : PG X (.Name x p1) (gName i)) (h2 : PG X (.Name y p2) (gName j))
    (hs : (assignEach [Expr.Name x p1, Expr.Name y p2] X.env).map (·.2) = assign (.Name x p1) X.env :: (assignEach [Expr.Name y p2] X.env).map (·.2) := by rfl) (hs2 : (assignEach [Expr.Name y p2] X.env).map (·.2) = assign (.Name y p2) X.env :: (assignEach [] X.env).map (·.2) := by rfl)
    (hn : (assignEach [Expr.Name x p1, Expr.Name y p2] X.env).length = 2 := by rfl) (hst : (assignEach [Expr.Name x p1, Expr.Name y p2] X.env).findIdx? (·.1) = none := by rfl) :
    MG X S (.Tuple [.Name x p1, .Name y p2] kk pos) (gTup X.K 2 (gCons (gName i) (gCons (gName j) gNil))) [i, j] (gN2 i j) :=
  ⟨pg_tup hc (pgs_cons h1 (pgs_cons h2 pgs_nil hs2) hs) hn hst, fun B F H σ ρ v d ρ1 Q I r e h => by
    unfold gN2 at e
    split at e
    · rename_i a b
      cases e
      cases r with
      | tup hq hr =>
        cases hr with
        | cons r1 hr =>
          cases hr with
          | cons r2 hr =>
            cases hr
            refine ⟨_, _, rfl, sqT_same I.same hq.sq, rfl, _, _, rfl, _, _, rfl, rfl, h _ ((I.setSh k r1).setSh k' r2) ?_⟩
            rw [wipe_set (by simp), wipe_set (by simp)]
    · cases e⟩
structure WalkD (K : Fg) (F : Hp) (J : It) (items : List D) : Prop where
  goes : ∀ i H, i < items.length → Same F H → J.go i H
  stops : ∀ H, Same F H → J.stop items.length H
  yields : ∀ i H x H' d, items[i]? = some d → Same F H → J.yld i H x H' → (H' = H ∧ Rp K F x d) ∨ (∃ (T : Addr) (o : Obj) (xs : List V) (ds : List D), x = .ref T ∧ H T = none ∧ o.dict = none ∧ H' = upd H T (.frz o (.tup xs)) ∧ RpL K F xs ds ∧ d = .tuple ds)
abbrev IKo (K : Fg) (S : Sg) (B : Base) (σ : Sts) (F : Hp) (R : It → Hp → Prop) : List D → Ev → Prop := fun items ρ1 => ∀ F1 H1 J, SInv K S B σ F1 H1 ρ1 → Same F F1 → WalkD K F1 J items → items.length ≤ 16777216 → R J H1
structure MI (X : Cx) (W : WX) (S : Sg) (tg iter : Expr) (m : Ev → Out (List D)) : Prop where
  ex : ∃ w : TI, PI X tg iter w ∧ ∀ B F H σ ρ R, SInv X.K S B σ F H ρ → Sat (m ρ) (IKo X.K S B σ F R) (XKo X W S B σ F) → w σ H R
theorem pe_len {e : Expr} {t : TE} (h : PE X e t) : PE X e (fun σ H Q => t σ H fun v H' => (∀ a xs, v = .ref a → (SqL X.K H' a xs ∨ SqT X.K H' a xs) → xs.length ≤ sizeLine) → Q v H') := by
  refine ⟨fun pins s σ H Q I hq => ?_⟩
  refine thn (h.run pins s σ H _ I hq) fun u s1 ⟨v, H1, I1, r, q⟩ => ⟨v, H1, I1, r, q fun a xs e z => ?_⟩
  rcases z with z | z
  · obtain ⟨_, _, _, hz⟩ := I1.list z; exact hz
  · obtain ⟨_, _, _, hz⟩ := I1.tuple z; exact hz
def seqD : D → Option (List D)
  | .list ds => some ds
  | .tuple ds => some ds
  | _ => none
def mSeqD (m : Ev → Out D) : Ev → Out (List D) := fun ρ => (m ρ).bind fun d ρ1 => Out.of (seqD d) ρ1
theorem walkD_list {K : Fg} {F : Hp} {a : Addr} {xs : List V} {ds : List D} (h : Rd F a (.lst xs)) (r : RpL K F xs ds) : WalkD K F (Itl K a) ds :=
  ⟨fun i H hi s => by
      rw [← r.len] at hi
      exact ⟨xs, xs[i], .inl (rd_same s h), by simp [hi]⟩,
    fun H s => ⟨xs, .inl (rd_same s h), by rw [r.len]; exact Nat.le_refl _⟩,
    fun i H x H' d e s y => by
      obtain ⟨v, e1, q⟩ := r.get e
      have := (y.2 xs (.inl (rd_same s h))).symm.trans e1
      cases this
      exact .inl ⟨y.1, q⟩⟩
theorem walkD_tup {K : Fg} {F : Hp} {a : Addr} {xs : List V} {ds : List D} (h : SqT K F a xs) (r : RpL K F xs ds) : WalkD K F (Itt K a) ds :=
  ⟨fun i H hi s => by
      rw [← r.len] at hi
      exact ⟨xs, xs[i], sqT_same s h, by simp [hi]⟩,
    fun H s => ⟨xs, sqT_same s h, by rw [r.len]; exact Nat.le_refl _⟩,
    fun i H x H' d e s y => by
      obtain ⟨v, e1, q⟩ := r.get e
      have := (y.2 xs (sqT_same s h)).symm.trans e1
      cases this
      exact .inl ⟨y.1, q⟩⟩
theorem mi_seq {tg e : Expr} {m : Ev → Out D} (he : ME X W S e m) : MI X W S tg e (mSeqD m) := by
  obtain ⟨t, p, q⟩ := he.ex
  have p' := pe_len p
  refine ⟨fun σ H R => iList X.K (fun σ H Q => t σ H fun v H' => (∀ a xs, v = .ref a → (SqL X.K H' a xs ∨ SqT X.K H' a xs) → xs.length ≤ sizeLine) → Q v H') σ H R ∨ iTup X.K (fun σ H Q => t σ H fun v H' => (∀ a xs, v = .ref a → (SqL X.K H' a xs ∨ SqT X.K H' a xs) → xs.length ≤ sizeLine) → Q v H') σ H R,
    ⟨fun pins s σ H R I h => ?_⟩, fun B F H σ ρ R I h => ?_⟩
  · rcases h with h | h
    · exact (pi_list (tg := tg) p').run pins s σ H R I h
    · exact (pi_tup (tg := tg) p').run pins s σ H R I h
  · have hb := h.bind
    cases e1 : m ρ with
    | bad => rw [e1] at hb; exact hb.elim
    | err c ρ' =>
      rw [e1] at hb
      exact .inl (q B F H σ ρ _ I (by rw [e1]; exact hb))
    | ok d ρ1 =>
      rw [e1] at hb
      obtain ⟨items, hi, k⟩ := sat_of (show Sat (Out.of (seqD d) ρ1) _ _ from hb)
      have hl := sizeLine_eq
      cases d with
      | list ds =>
        cases hi
        refine .inl (q B F H σ ρ _ I ?_)
        rw [e1]
        intro F1 H1 v I1 s1 r1 bd
        cases r1 with
        | lst hq hr =>
          have hz := bd _ _ rfl (.inl (.inl (rd_same I1.same hq)))
          exact ⟨_, rfl, ⟨_, .inl (rd_same I1.same hq)⟩, k F1 H1 _ I1 s1 (walkD_list hq hr) (by rw [← hr.len]; omega)⟩
      | tuple ds =>
        cases hi
        refine .inr (q B F H σ ρ _ I ?_)
        rw [e1]
        intro F1 H1 v I1 s1 r1 bd
        cases r1 with
        | tup hq hr =>
          have hq := hq.sq
          have hz := bd _ _ rfl (.inr (sqT_same I1.same hq))
          exact ⟨_, rfl, ⟨_, sqT_same I1.same hq⟩, k F1 H1 _ I1 s1 (walkD_tup hq hr) (by rw [← hr.len]; omega)⟩
      | none => cases hi
      | bool b => cases hi
      | int i => cases hi
      | str x => cases hi
      | dict ps => cases hi
def rangeD (lo : Int) (n : Nat) : List D := (List.range n).map fun i => .int (lo + (i : Nat))
theorem walkD_range {K : Fg} {F : Hp} {lo : Int} {n : Nat} : WalkD K F (Itr lo n) (rangeD lo n) := by
  have hl : (rangeD lo n).length = n := by simp [rangeD]
  refine ⟨fun i H hi s => ?_, fun H s => ?_, fun i H x H' d e s y => ?_⟩
  · rw [hl] at hi; exact hi
  · rw [hl]; exact Nat.le_refl _
  · obtain ⟨rfl, rfl⟩ := y
    have hi : i < n := by
      have := (List.getElem?_eq_some_iff.mp e).1
      rwa [hl] at this
    unfold rangeD at e
    rw [List.getElem?_map, List.getElem?_range hi] at e
    cases e
    exact .inl ⟨rfl, .int _⟩
def mRange1 (ms : Ev → Out (List D)) : Ev → Out (List D) := fun ρ => (ms ρ).bind fun ds ρ1 => match ds with
  | [.int j] => if -16777216 ≤ j ∧ j ≤ 16777216 then .ok (rangeD 0 j.toNat) ρ1 else .bad
  | _ => .bad
theorem mi_range1 {tg a : Expr} {p : Pos} {ms : Ev → Out (List D)} (hg : Gl X "range") (hm : X.mg "range" = none) (ha : MA X W S [a] ms) (hs : starEach [a] X.env = [(false, eval a X.env)] := by rfl) : MI X W S tg (.Call (.Name "range" p) [a] [] pos) (mRange1 ms) := by
  obtain ⟨t, pp, q⟩ := ha.ex
  refine ⟨_, pi_range1 hg hm pp hs, fun B F H σ ρ R I h => ?_⟩
  refine q B F H σ ρ _ I (h.bind.mono (fun ds ρ1 h1 F1 H1 vs I1 s1 r1 => ?_) fun _ _ z => z)
  split at h1
  · rename_i j
    by_cases hj : -16777216 ≤ j ∧ j ≤ 16777216
    · rw [if_pos hj] at h1
      cases r1 with
      | cons r rr =>
        cases rr
        cases r
        refine ⟨j, rfl, by omega, by omega, h1 F1 H1 _ I1 s1 walkD_range ?_⟩
        simp [rangeD]
        omega
    · rw [if_neg hj] at h1; exact h1.elim
  · exact h1.elim
def forM (g : Ev → D → Option Ev) (mb : Ev → Out Fl) : List D → Ev → Out Fl
  | [], ρ => .ok .nx ρ
  | d :: ds, ρ => (Out.of (g ρ d) ρ).bind fun ρ1 _ => (mb ρ1).bind fun fl ρ2 => match fl with
    | .nx => forM g mb ds ρ2
    | .ct => forM g mb ds ρ2
    | .bk => .ok .nx ρ2
    | .rt d => .ok (.rt d) ρ2
def mFor (mi : Ev → Out (List D)) (g : Ev → D → Option Ev) (mb : Ev → Out Fl) : Ev → Out Fl := fun ρ => (mi ρ).bind fun items ρ1 => forM g mb items ρ1
theorem ms_for {tg iter : Expr} {body : List Stmt} {mi : Ev → Out (List D)} {t : TG} {vs : List Nat} {g : Ev → D → Option Ev} {mb : Ev → Out Fl} (hp : PassesOwn (model X.prog X.w) X.A X.env X.xe) (hc : X.calm = true) (hi : MI X W S tg iter mi) (hg : MG X S tg t vs g) (hb : MSs X W S body mb)
    (hs : ∀ x, foldedSetIterable iter X.env x = pure x := by intro _; rfl) : MS X W S (.For tg iter body [] pos) (mFor mi g mb) := by
  obtain ⟨w, pw, qw⟩ := hi.ex
  obtain ⟨u, pu, qu⟩ := hb.ex
  refine ⟨_, ps_for hp hc pw hg.pg pu hs, fun B F H σ ρ D I h => ?_⟩
  refine qw B F H σ ρ _ I (h.bind.mono (fun items ρ1 h1 F1 H1 J I1 s1 wd hl => ?_) fun _ _ z => XSo.ex z)
  refine ⟨fun i m σ H => m = items.length - i ∧ i ≤ items.length ∧ ∃ F2 ρ2, SInv X.K S B σ F2 H ρ2 ∧ Same F1 F2 ∧ Sat (forM g mb (items.drop i) ρ2) (FKo X.K S B F2 D) (XSo X W S B F2),
    ⟨_, rfl, Nat.zero_le _, F1, ρ1, I1, Same.refl _, Sat.mono h1 (fun fl ρ2 h2 => FKo.up s1 h2) fun _ _ z => XSo.up s1 z⟩, ?_⟩
  rintro i m σ2 H2 ⟨rfl, hi, F2, ρ2, I2, s2, h2⟩
  by_cases hlt : i < items.length
  · refine .inr ⟨wd.goes i H2 hlt (s2.trans I2.same), fun σ' H' => (i + 1 ≤ items.length ∧ ∃ F3 ρ3, SInv X.K S B σ' F3 H' ρ3 ∧ Same F1 F3 ∧ Sat (forM g mb (items.drop (i + 1)) ρ3) (FKo X.K S B F3 D) (XSo X W S B F3)), fun σ' H' hN => ⟨items.length - (i + 1), by omega, rfl, hN.1, hN.2⟩, fun x H' y => ?_⟩
    have hd : items.drop i = items[i] :: items.drop (i + 1) := List.drop_eq_getElem_cons hlt
    rw [hd] at h2
    obtain ⟨ρ3, hg3, h3⟩ := sat_of (Sat.bind (show Sat ((Out.of (g ρ2 items[i]) ρ2).bind _) _ _ from h2))
    have go : ∀ F4 H4, SInv X.K S B σ2 F4 H4 ρ2 → Same F2 F4 → Rp X.K F4 x items[i] → t x σ2 H4 fun σ5 H5 => u { D with nx := fun σ' H' => (i + 1 ≤ items.length ∧ ∃ F3 ρ3, SInv X.K S B σ' F3 H' ρ3 ∧ Same F1 F3 ∧ Sat (forM g mb (items.drop (i + 1)) ρ3) (FKo X.K S B F3 D) (XSo X W S B F3)), ct := fun σ' H' => (i + 1 ≤ items.length ∧ ∃ F3 ρ3, SInv X.K S B σ' F3 H' ρ3 ∧ Same F1 F3 ∧ Sat (forM g mb (items.drop (i + 1)) ρ3) (FKo X.K S B F3 D) (XSo X W S B F3)), bk := D.nx } σ5 H5 := fun F4 H4 I4 s4 r4 => by
      refine hg.ok B F4 H4 σ2 ρ2 x items[i] ρ3 _ I4 r4 hg3 fun σ5 I5 _ => ?_
      refine qu B F4 H4 σ5 ρ3 _ I5 ((Sat.bind h3).mono (fun fl ρ6 h6 F6 H6 σ6 I6 s6 => ?_) fun _ _ z => XSo.up s4 z)
      cases fl with
      | nx => exact ⟨hlt, F6, ρ6, I6, (s2.trans s4).trans s6, Sat.mono h6 (fun fl ρ2 h2 => FKo.up (s4.trans s6) h2) fun _ _ z => XSo.up (s4.trans s6) z⟩
      | ct => exact ⟨hlt, F6, ρ6, I6, (s2.trans s4).trans s6, Sat.mono h6 (fun fl ρ2 h2 => FKo.up (s4.trans s6) h2) fun _ _ z => XSo.up (s4.trans s6) z⟩
      | bk => exact h6 F6 H6 σ6 I6 (s4.trans s6)
      | rt d => exact h6 F6 H6 σ6 I6 (s4.trans s6)
    rcases wd.yields i H2 x H' items[i] (by simp [hlt]) (s2.trans I2.same) y with ⟨rfl, r⟩ | ⟨T, o, xs, ds, rfl, hT, ho, rfl, r, e⟩
    · exact go F2 H' I2 (Same.refl _) (r.up s2)
    · have hF : F2 T = none := Same.free I2.same hT
      have sF := same_upd (o := .frz o (.tup xs)) hF
      refine go (upd F2 T (.frz o (.tup xs))) _ (I2.newF hT) sF ?_
      rw [e]
      exact .tup (.inl ⟨o, ho, upd_same⟩) ((r.up s2).up sF)
  · have e : i = items.length := by omega
    subst e
    rw [List.drop_length] at h2
    exact .inl ⟨wd.stops H2 (s2.trans I2.same), h2 F2 H2 σ2 I2 (Same.refl _)⟩
end
end MW
namespace MW
open PySem PySem.Spec PyProof.Rows L2
def wipeE (ρ : Ev) : List Nat → Ev
  | [] => ρ
  | v :: vs => (wipeE ρ vs).set v none
def restE (ρ0 ρ : Ev) : List Nat → Ev
  | [] => ρ
  | v :: vs => (restE ρ0 ρ vs).set v (ρ0.getD v none)
def noE {α : Type} (o : Out α) : Out α := match o with
  | .err _ _ => .bad
  | o => o
theorem noE_sat {α : Type} {o : Out α} {k : α → Ev → Prop} {e : Str → Ev → Prop} (h : Sat (noE o) k e) (e' : Str → Ev → Prop) : Sat o k e' := by
  cases o with
  | ok a ρ => exact h
  | err c ρ => exact h.elim
  | bad => exact h.elim
theorem noE_bind {α β : Type} {o : Out α} {k : α → Ev → Prop} {f : α → Ev → Out β} {k' : β → Ev → Prop} {e' : Str → Ev → Prop} (h : Sat o k (fun _ _ => False)) (hf : ∀ a ρ, k a ρ → Sat (f a ρ) k' e') : Sat ((noE o).bind f) k' e' := by
  cases o with
  | ok a ρ => exact hf a ρ h
  | err c ρ => exact h.elim
  | bad => exact h.elim
def compM (g : Ev → D → Option Ev) (mt : Ev → Out Bool) (me : Ev → Out D) (vs : List Nat) : List D → Ev → Out (List D)
  | [], ρ => .ok [] ρ
  | d :: ds, ρ => (Out.of (g ρ d) ρ).bind fun ρ1 _ => (mt ρ1).bind fun b ρ2 =>
    if b = true then (me ρ2).bind fun y ρ3 => (compM g mt me vs ds (wipeE ρ3 vs)).bind fun ys ρ4 => .ok (y :: ys) ρ4
    else compM g mt me vs ds (wipeE ρ2 vs)
def mLc (mi : Ev → Out (List D)) (g : Ev → D → Option Ev) (mt : Ev → Out Bool) (me : Ev → Out D) (vs : List Nat) : Ev → Out (List D) := fun ρ => (mi ρ).bind fun items ρ1 =>
  (noE (compM g mt me vs items (wipeE ρ1 vs))).bind fun ys ρ2 => .ok ys (restE ρ1 ρ2 vs)
theorem wipeE_len {ρ : Ev} : ∀ vs : List Nat, (wipeE ρ vs).length = ρ.length
  | [] => rfl
  | v :: vs => by unfold wipeE; rw [List.length_set, wipeE_len vs]
theorem wipeE_at {ρ : Ev} {i : Nat} {d : D} : ∀ {vs : List Nat}, (wipeE ρ vs)[i]? = some (some d) → ρ[i]? = some (some d) ∧ i ∉ vs
  | [], h => ⟨h, by simp⟩
  | v :: vs, h => by
    unfold wipeE at h
    by_cases hi : v = i
    · subst hi
      by_cases hv : v < (wipeE ρ vs).length
      · rw [List.getElem?_set_self hv] at h; cases h
      · rw [List.getElem?_eq_none (by simpa using hv)] at h; cases h
    · rw [List.getElem?_set_ne hi] at h
      obtain ⟨h1, h2⟩ := wipeE_at h
      exact ⟨h1, by simp only [List.mem_cons, not_or]; exact ⟨fun e => hi e.symm, h2⟩⟩
theorem wipe_out {σ : Sts} {i : Nat} : ∀ {vs : List Nat}, i ∉ vs → (wipe σ vs)[i]? = σ[i]?
  | [], _ => rfl
  | v :: vs, h => by
    have h1 : v ≠ i := fun e => h (by rw [e]; exact List.mem_cons_self)
    show ((wipe σ vs).set v none)[i]? = _
    rw [List.getElem?_set_ne h1]
    exact wipe_out fun z => h (List.mem_cons_of_mem _ z)
theorem restE_len {ρ0 ρ : Ev} : ∀ vs : List Nat, (restE ρ0 ρ vs).length = ρ.length
  | [] => rfl
  | v :: vs => by unfold restE; rw [List.length_set, restE_len vs]
theorem restE_out {ρ0 ρ : Ev} {i : Nat} : ∀ {vs : List Nat}, i ∉ vs → (restE ρ0 ρ vs)[i]? = ρ[i]?
  | [], _ => rfl
  | v :: vs, h => by
    have h1 : v ≠ i := fun e => h (by rw [e]; exact List.mem_cons_self)
    show ((restE ρ0 ρ vs).set v _)[i]? = _
    rw [List.getElem?_set_ne h1]
    exact restE_out fun z => h (List.mem_cons_of_mem _ z)
theorem restE_in {ρ0 ρ : Ev} {i : Nat} {d : D} : ∀ {vs : List Nat}, i ∈ vs → (restE ρ0 ρ vs)[i]? = some (some d) → ρ0[i]? = some (some d)
  | [], h, _ => by cases h
  | v :: vs, h, e => by
    have e : ((restE ρ0 ρ vs).set v (ρ0.getD v none))[i]? = some (some d) := e
    by_cases hi : v = i
    · subst hi
      have hl := (List.getElem?_eq_some_iff.mp e).1
      rw [List.length_set] at hl
      rw [List.getElem?_set_self hl] at e
      exact rd_some (Option.some.inj e)
    · rw [List.getElem?_set_ne hi] at e
      refine restE_in ?_ e
      rcases List.mem_cons.mp h with z | z
      · exact absurd z.symm hi
      · exact z
section
variable {K : Fg} {S : Sg} {B : Base} {σ : Sts} {F H : Hp} {ρ : Ev}
theorem SInv.wipe (I : SInv K S B σ F H ρ) (vs : List Nat) (hv : ∀ i ∈ vs, knd S i = 0) : SInv K S B (wipe σ vs) F H (wipeE ρ vs) := by
  have ho : ∀ i, knd S i ≠ 0 → i ∉ vs := fun i k z => k (hv i z)
  have hk : ∀ {i}, own S i = true → knd S i ≠ 0 := fun {i} k z => by rw [own_of0 z] at k; cases k
  have at2 : ∀ (i : Nat) x, i ∉ vs → ρ[i]? = some x → (wipeE ρ vs)[i]? = some x := fun i x hi e => by
    have : ∀ us : List Nat, i ∉ us → (wipeE ρ us)[i]? = ρ[i]? := by
      intro us
      induction us with
      | nil => intro _; rfl
      | cons u us ih =>
        intro h
        show ((wipeE ρ us).set u none)[i]? = _
        rw [List.getElem?_set_ne (fun z => h (by rw [z]; exact List.mem_cons_self))]
        exact ih fun z => h (List.mem_cons_of_mem _ z)
    rw [this vs hi]; exact e
  have held : ∀ {i b}, Held S (L2.wipe σ vs) H (wipeE ρ vs) i b → Held S σ H ρ i b := fun {i b} ⟨k, ⟨d, e⟩, a, e1, h⟩ => ⟨k, ⟨d, (wipeE_at e).1⟩, a, by rw [wipe_out (ho i (hk k))] at e1; exact e1, h⟩
  refine ⟨by rw [wipeE_len, wipe_length]; exact I.len, I.same, I.ext, fun i d e k => ?_, fun i d e k => ?_, fun i j b h1 h2 => I.nd i j b (held h1) (held h2), fun i d e k => ?_, fun i hi k => ?_, I.ts⟩
  · obtain ⟨e1, hn⟩ := wipeE_at e
    obtain ⟨v, e2, r⟩ := I.sh i d e1 k
    exact ⟨v, by rw [wipe_out hn]; exact e2, r⟩
  · obtain ⟨e1, hn⟩ := wipeE_at e
    obtain ⟨a, bs, e2, w⟩ := I.ow i d e1 k
    exact ⟨a, bs, by rw [wipe_out hn]; exact e2, w⟩
  · obtain ⟨e1, hn⟩ := wipeE_at e
    obtain ⟨l, kk, c, b, xs, x', f1, f2, f3, f4, f5, f6, f7, f8⟩ := I.al i d e1 k
    have hl := ho l (hk (own_of2 (deep_knd f2)))
    exact ⟨l, kk, c, b, xs, x', f1, f2, f3, at2 l _ hl f4, by rw [wipe_out hl]; exact f5, f6, f7, by rw [wipe_out hn]; exact f8⟩
  · rw [wipe_out (ho i (hk k))]; exact I.pin i hi k
/-- the block is left: its own names have their old values -/
theorem SInv.rest (I : SInv K S B σ F H ρ) {vs : List Nat} (hv : ∀ i ∈ vs, knd S i = 0) {F' H' : Hp} {ρ' : Ev} {σ' : Sts} (hw : L2.wipe σ' vs = L2.wipe σ vs) (hl : σ'.length = σ.length) (s : Same F F') (J : SInv K S B σ' F' H' ρ') : SInv K S B σ F' H' (restE ρ ρ' vs) := by
  have ho : ∀ i, knd S i ≠ 0 → i ∉ vs := fun i k z => k (hv i z)
  have hk : ∀ {i}, own S i = true → knd S i ≠ 0 := fun {i} k z => by rw [own_of0 z] at k; cases k
  have at_ : ∀ i, i ∉ vs → σ'[i]? = σ[i]? := fun i h => by
    have := congrArg (fun l : Sts => l[i]?) hw
    simp only [wipe_out h] at this
    exact this
  have held : ∀ {i b}, Held S σ H' (restE ρ ρ' vs) i b → Held S σ' H' ρ' i b := fun {i b} ⟨k, ⟨d, e⟩, a, e1, h⟩ => ⟨k, ⟨d, by rw [restE_out (ho i (hk k))] at e; exact e⟩, a, by rw [at_ i (ho i (hk k))]; exact e1, h⟩
  refine ⟨by rw [restE_len, J.len]; exact hl, J.same, J.ext, fun i d e k => ?_, fun i d e k => ?_, fun i j b h1 h2 => J.nd i j b (held h1) (held h2), fun i d e k => ?_, fun i hi k => ?_, J.ts⟩
  · by_cases hi : i ∈ vs
    · obtain ⟨v, e2, r⟩ := I.sh i d (restE_in hi e) k
      exact ⟨v, e2, r.up s⟩
    · rw [restE_out hi] at e
      obtain ⟨v, e2, r⟩ := J.sh i d e k
      exact ⟨v, by rw [← at_ i hi]; exact e2, r⟩
  · rw [restE_out (ho i (hk k))] at e
    obtain ⟨a, bs, e2, w⟩ := J.ow i d e k
    exact ⟨a, bs, by rw [← at_ i (ho i (hk k))]; exact e2, w⟩
  · have hi : i ∉ vs := ho i (by rw [k]; decide)
    rw [restE_out hi] at e
    obtain ⟨l, kk, c, b, xs, x', f1, f2, f3, f4, f5, f6, f7, f8⟩ := J.al i d e k
    have hl' := ho l (hk (own_of2 (deep_knd f2)))
    exact ⟨l, kk, c, b, xs, x', f1, f2, f3, by rw [restE_out hl']; exact f4, by rw [← at_ l hl']; exact f5, f6, f7, by rw [← at_ i hi]; exact f8⟩
  · rw [← at_ i (ho i (hk k))]; exact J.pin i hi k
end
structure MTs (X : Cx) (W : WX) (S : Sg) (ifs : List Expr) (m : Ev → Out Bool) : Prop where
  run : PTs X ifs (tMT X.K X.mg W S m)
abbrev W0 : WX := fun _ _ _ _ => False
def mYes : Ev → Out Bool := fun ρ => .ok true ρ
section
variable {X : Cx} {W : WX} {S : Sg} {pos : Pos}
theorem mts_nil : MTs X W S [] mYes := ⟨⟨fun pins s σ H Q I ⟨B, F, ρ, J, z⟩ => pts_nil.run pins s σ H Q I (z F H J (Same.refl _))⟩⟩
/-- what a comprehension's reading asks, by the mirrors -/
theorem lc_sat {K : Fg} {mg : Str → Option Value} {vs : List Nat} {g : Ev → D → Option Ev} {t : TG} {mt : Ev → Out Bool} {me : Ev → Out D} {items : List D} {J : It} {B : Base} {σ : Sts} {F H : Hp} {ρ : Ev} {Q : VK} {e : Str → Ev → Prop} {Dn : Addr}
    (hv : ∀ i ∈ vs, knd S i = 0) (hg : ∀ B F H σ ρ v d ρ1 (Q : Sts → Hp → Prop), SInv K S B σ F H ρ → Rp K F v d → g ρ d = some ρ1 → (∀ σ', SInv K S B σ' F H ρ1 → wipe σ' vs = wipe σ vs → Q σ' H) → t v σ H Q)
    (I : SInv K S B σ F H ρ) (wd : WalkD K F J items) (hl : items.length ≤ 16777216) (hD : H Dn = none)
    (h : Sat ((noE (compM g mt me vs items (wipeE ρ vs))).bind fun ys ρ2 => Out.ok ys (restE ρ ρ2 vs)) (LKo K S B σ F Q) e) :
    ∃ W' : Nat → Nat → Hp → Prop, (∃ m, W' 0 m (upd H Dn (.lst []))) ∧ ∀ i m H, W' i m H →
      (J.stop i H ∧ Q (.ref Dn) H) ∨ (J.go i H ∧ ∃ Nx : Hp → Prop, (∀ H', Nx H' → ∃ m', m' < m ∧ W' (i + 1) m' H') ∧ ∀ x H', J.yld i H x H' → t x (wipe σ vs) H' fun σ2 H2 => wipe σ2 vs = wipe σ vs ∧ tMT K mg W0 S mt σ2 H2 fun b H3 =>
        if b = true then tME K mg W0 S me σ2 H3 fun y H4 => ∃ acc, H4 Dn = some (.lst acc) ∧ acc.length < sizeLine ∧ Nx (upd H4 Dn (.lst (acc ++ [y]))) else Nx H3) := by
  have hsz := sizeLine_eq
  have hww : ∀ {σ' : Sts}, wipe σ' vs = wipe (wipe σ vs) vs → wipe σ' vs = wipe σ vs := fun {σ'} h => by
    rw [h]
    refine List.ext_getElem? fun i => ?_
    by_cases hi : i ∈ vs
    · have nn : ∀ (τ : Sts), τ.length = σ.length → ∀ (us : List Nat), i ∈ us → (wipe τ us)[i]? = if i < σ.length then some none else none := by
        intro τ hτ us
        induction us with
        | nil => intro z; cases z
        | cons u us ih =>
          intro z
          show ((wipe τ us).set u none)[i]? = _
          by_cases hu : u = i
          · subst hu
            by_cases hlt : u < σ.length
            · rw [List.getElem?_set_self (by rw [wipe_length, hτ]; exact hlt), if_pos hlt]
            · rw [List.getElem?_eq_none (by rw [List.length_set, wipe_length, hτ]; omega), if_neg hlt]
          · rw [List.getElem?_set_ne hu]
            refine ih ?_
            rcases List.mem_cons.mp z with z | z
            · exact absurd z.symm hu
            · exact z
      rw [nn _ (wipe_length σ vs) vs hi, nn _ rfl vs hi]
    · rw [wipe_out hi]
  -- what is to hold ahead of turn i
  let P : Nat → Hp → Prop := fun i H2 => i ≤ items.length ∧ ∃ F2 ρ2 acc ys, SInv K S B (wipe σ vs) F2 H2 ρ2 ∧ Same F F2 ∧ F2 Dn = none ∧ H2 Dn = some (.lst acc) ∧ RpL K F2 acc ys ∧ acc.length ≤ i ∧ (∀ j a, Held S (wipe σ vs) H2 ρ2 j a → a ≠ Dn) ∧
    Sat ((noE (compM g mt me vs (items.drop i) ρ2)).bind fun zs ρ3 => Out.ok (ys ++ zs) (restE ρ ρ3 vs)) (LKo K S B σ F2 Q) e
  refine ⟨fun i m H2 => m = items.length - i ∧ P i H2, ⟨_, rfl, Nat.zero_le _, F, wipeE ρ vs, [], [], ?_, Same.refl _, Same.free I.same hD, upd_same, .nil, Nat.le_refl _, ?_, ?_⟩, ?_⟩
  · exact (I.newH hD).wipe vs hv
  · exact fun j a hh => (I.wipe vs hv).heldNe hD j a (held_same (fun c ec => by rw [upd_ne ((I.wipe vs hv).heldNe hD j c ((I.wipe vs hv).topHeld hh.1 hh.2.1 ec))]) hh)
  · simpa using h
  rintro i m H2 ⟨rfl, hi, F2, ρ2, acc, ys, I2, s2, nD, hDn, ra, la, hn, h2⟩
  by_cases hlt : i < items.length
  · refine .inr ⟨wd.goes i H2 hlt (s2.trans I2.same), fun H' => P (i + 1) H', fun H' hP => ⟨items.length - (i + 1), by omega, rfl, hP⟩, fun x H' y => ?_⟩
    have hd : items.drop i = items[i] :: items.drop (i + 1) := List.drop_eq_getElem_cons hlt
    rw [hd] at h2
    -- a turn, over the base as it stands
    have go : ∀ F4 H4, SInv K S B (wipe σ vs) F4 H4 ρ2 → Same F2 F4 → F4 Dn = none → H4 Dn = some (.lst acc) → (∀ j a, Held S (wipe σ vs) H4 ρ2 j a → a ≠ Dn) → Rp K F4 x items[i] → t x (wipe σ vs) H4 fun σ5 H5 => wipe σ5 vs = wipe σ vs ∧ tMT K mg W0 S mt σ5 H5 fun b H3 =>
        if b = true then tME K mg W0 S me σ5 H3 fun y H4 => ∃ acc, H4 Dn = some (.lst acc) ∧ acc.length < sizeLine ∧ P (i + 1) (upd H4 Dn (.lst (acc ++ [y]))) else P (i + 1) H3 := fun F4 H4 I4 s4 n4 d4 hn4 r4 => by
      have h3 := noE_sat (Sat.bind h2) (fun _ _ => False)
      obtain ⟨ρ5, hg5, h5⟩ := sat_of (Sat.bind (show Sat ((Out.of (g ρ2 items[i]) ρ2).bind _) _ _ from h3))
      have I4r := I4.into
      refine hg _ F4 H4 _ ρ2 x items[i] ρ5 _ I4r r4 hg5 fun σ5 I5 w5 => ⟨hww w5, _, F4, ρ5, I5, (Sat.bind h5).mono (fun b ρ6 h6 F6 H6 I6 s6 => ?_) fun _ _ z => z.elim⟩
      have keep : ∀ {F7 H7 ρ7}, SInv K S (reb B.T S (wipe σ vs) F4 H4 ρ2) σ5 F7 H7 ρ7 → H7 Dn = some (.lst acc) ∧ F7 Dn = none := fun {F7 H7 ρ7} I7 => by
        have nO : ¬ (reb B.T S (wipe σ vs) F4 H4 ρ2).O Dn := reb_no I4.ext.tb hn4 d4 soft_lst
        refine ⟨I7.ext.hs Dn _ d4 nO, ?_⟩
        cases q : F7 Dn with
        | none => rfl
        | some o =>
          rcases I7.ext.fr Dn o q with z | z | ⟨j, _, z⟩
          · have z : F4 Dn = some o := z
            rw [n4] at z; cases z
          · have z : H4 Dn = none := z
            rw [d4] at z; cases z
          · exact absurd rfl (hn4 j Dn z)
      have hl5 : σ5.length = (wipe σ vs).length := by
        have := congrArg List.length w5
        rwa [wipe_length, wipe_length] at this
      have held7 : ∀ {F7 H7 ρ7}, SInv K S (reb B.T S (wipe σ vs) F4 H4 ρ2) σ5 F7 H7 ρ7 → ∀ j a, Held S (wipe σ vs) H7 (wipeE ρ7 vs) j a → a ≠ Dn := fun {F7 H7 ρ7} I7 j a ⟨k, ⟨d, e1⟩, c, e2, h⟩ z => by
        subst z
        have hj : j ∉ vs := fun z => by rw [own_of0 (hv j z)] at k; cases k
        obtain ⟨e3, _⟩ := wipeE_at e1
        have e4 : σ5[j]? = (wipe σ vs)[j]? := by
          have := congrArg (fun l : Sts => l[j]?) w5
          simpa only [wipe_out hj] using this
        obtain ⟨_, _, o⟩ := I7.heldAt (i := j) (b := a) ⟨k, ⟨d, e3⟩, c, by rw [e4]; exact e2, h⟩
        rcases o with ⟨z, _⟩ | o
        · exact reb_no I4.ext.tb hn4 d4 soft_lst z
        · have o : H4 a = none := o
          rw [d4] at o; cases o
      have wiped : ∀ {F7 H7 ρ7}, SInv K S (reb B.T S (wipe σ vs) F4 H4 ρ2) σ5 F7 H7 ρ7 → SInv K S B (wipe σ vs) F7 H7 (wipeE ρ7 vs) := fun {F7 H7 ρ7} I7 => by
        have := (I4.back I7).wipe vs hv
        rwa [hww w5] at this
      -- the mirror's rest
      cases b with
      | false =>
        refine iteF ⟨hlt, F6, wipeE ρ6 vs, acc, ys, wiped I6, (s2.trans s4).trans s6, (keep I6).2, (keep I6).1, ra.up (s4.trans s6), by omega, held7 I6, ?_⟩
        exact noE_bind h6 fun zs ρ7 h7 F' H' p xs I' s' => h7 F' H' p xs I' ((s4.trans s6).trans s')
      | true =>
        refine iteT ⟨_, F6, ρ6, I6, (Sat.bind h6).mono (fun y ρ7 h7 F7 H7 v I7 s7 r7 => ?_) fun _ _ z => z.elim⟩
        have hB : B.H Dn = none := I.bnone hD
        refine ⟨acc, (keep I7).1, by omega, hlt, F7, wipeE ρ7 vs, acc ++ [v], ys ++ [y], (wiped I7).setFree (keep I7).2 hB (held7 I7) (fun o0 e => by rw [(keep I7).1] at e; cases e; exact soft_lst), ((s2.trans s4).trans s6).trans s7, (keep I7).2, upd_same, (ra.up ((s4.trans s6).trans s7)).app (.one r7), ?_, fun j a hh => held7 I7 j a (held_same (fun c ec => by rw [upd_ne (held7 I7 j c ((wiped I7).topHeld hh.1 hh.2.1 ec))]) hh), ?_⟩
        · rw [List.length_append]; simp; omega
        · refine noE_bind (Sat.bind h7) fun zs ρ8 h8 F' H' p xs I' s' => ?_
          rw [List.append_assoc]
          exact h8 F' H' p xs I' (((s4.trans s6).trans s7).trans s')
    rcases wd.yields i H2 x H' items[i] (by simp [hlt]) (s2.trans I2.same) y with ⟨rfl, r⟩ | ⟨T, o, xs, ds, rfl, hT, ho, rfl, r, e⟩
    · exact go F2 H' I2 (Same.refl _) nD hDn hn (r.up s2)
    · have hF : F2 T = none := Same.free I2.same hT
      have sF := same_upd (o := .frz o (.tup xs)) hF
      have hne : Dn ≠ T := ne_of_none hDn hT
      refine go (upd F2 T (.frz o (.tup xs))) _ (I2.newF hT) sF (by rw [upd_ne hne]; exact nD) (by rw [upd_ne hne]; exact hDn) (fun j a hh => hn j a (held_same (fun c ec => by rw [upd_ne (I2.heldNe hT j c (I2.topHeld hh.1 hh.2.1 ec))]) hh)) ?_
      rw [e]
      exact .tup (.inl ⟨o, ho, upd_same⟩) ((r.up s2).up sF)
  · have e : i = items.length := by omega
    subst e
    rw [List.drop_length] at h2
    have h3 : LKo K S B σ F2 Q (ys ++ []) (restE ρ ρ2 vs) := h2
    rw [List.append_nil] at h3
    refine .inl ⟨wd.stops H2 (s2.trans I2.same), h3 F2 H2 Dn acc (I.rest hv (hww rfl) (wipe_length σ vs) s2 I2) (Same.refl _) nD hDn ra (I.bnone hD) fun j a ⟨k, ⟨d, e1⟩, c, e2, h⟩ => ?_⟩
    have hj : j ∉ vs := fun z => by rw [own_of0 (hv j z)] at k; cases k
    rw [restE_out hj] at e1
    exact hn j a ⟨k, ⟨d, e1⟩, c, by rw [wipe_out hj]; exact e2, h⟩
/-- [elt for target in iter if ..] -/
theorem lc_all {tg : Expr} {scope : Scope} {oS : List (Str × Nat)} {mi : Ev → Out (List D)} {g : Ev → D → Option Ev} {t : TG} {mt : Ev → Out Bool} {me : Ev → Out D} {wi : TI} (hv : (oS.map (·.2)).all (fun i => knd S i == 0) = true)
    (hg : ∀ (s : Shared) (H : Hp) (C : Addr) (cl : List (Str × Addr)) (fp : List Addr), MG (X.blk s H scope (compEnvC scope cl C X.env) fp) S tg t (oS.map (·.2)) g)
    (qw : ∀ B F H σ ρ R, SInv X.K S B σ F H ρ → Sat (mi ρ) (IKo X.K S B σ F R) (XKo X W S B σ F) → wi σ H R) {B : Base} {F H : Hp} {σ : Sts} {ρ : Ev} {Q : VK} (s0 : Shared) (I : SInv X.K S B σ F H ρ)
    (h : Sat (mLc mi g mt me (oS.map (·.2)) ρ) (LKo X.K S B σ F Q) (XKo X W S B σ F)) : tLc wi t (tMT X.K X.mg W0 S mt) (tME X.K X.mg W0 S me) (oS.map (·.2)) σ H Q := by
  have hv' : ∀ i ∈ oS.map (·.2), knd S i = 0 := fun i hi => by
    have := List.all_eq_true.mp hv i hi
    simpa using this
  refine qw B F H σ ρ _ I ((Sat.bind h).mono (fun items ρ1 h1 F1 H1 J I1 s1 wd hl => fun Dn hD => ?_) fun _ _ z => z)
  refine lc_sat (e := fun _ _ => False) hv' (fun B F H σ ρ v d ρ1 Q I r e k => (hg s0 H 0 [] []).ok B F H σ ρ v d ρ1 Q I r e k) I1 wd hl hD ?_
  cases e1 : noE (compM g mt me (oS.map (·.2)) items (wipeE ρ1 (oS.map (·.2)))) with
  | ok ys ρ2 =>
    rw [e1] at h1
    exact fun F' H' p xs I' s' => h1 F' H' p xs I' (s1.trans s')
  | err c ρ2 =>
    exfalso
    revert e1
    cases compM g mt me (oS.map (·.2)) items (wipeE ρ1 (oS.map (·.2))) <;> intro e1 <;> cases e1
  | bad => rw [e1] at h1; exact h1.elim
theorem ml_lc {elt tg iter : Expr} {ifs : List Expr} {scope : Scope} {oS : List (Str × Nat)} {mi : Ev → Out (List D)} {g : Ev → D → Option Ev} {t : TG} {mt : Ev → Out Bool} {me : Ev → Out D} (hc : X.calm = true) (hN : X.N.Nodup) (hi : MI X W S tg iter mi) (ok : blkC X.N X.env.scope scope oS = true) (hv : (oS.map (·.2)).all (fun i => knd S i == 0) = true)
    (hg : ∀ (s : Shared) (H : Hp) (C : Addr) (cl : List (Str × Addr)) (fp : List Addr), MG (X.blk s H scope (compEnvC scope cl C X.env) fp) S tg t (oS.map (·.2)) g)
    (ht : ∀ (s : Shared) (H : Hp) (C : Addr) (cl : List (Str × Addr)) (fp : List Addr), MTs (X.blk s H scope (compEnvC scope cl C X.env) fp) W0 S ifs mt)
    (he : ∀ (s : Shared) (H : Hp) (C : Addr) (cl : List (Str × Addr)) (fp : List Addr), ME (X.blk s H scope (compEnvC scope cl C X.env) fp) W0 S elt me) (s0 : Shared := X.s_0) (hs : ∀ x, foldedSetIterable iter X.env x = pure x := by intro _; rfl) :
    ML X W S (.ListComp elt [⟨tg, iter, ifs, 0⟩] scope pos) (mLc mi g mt me (oS.map (·.2))) := by
  obtain ⟨w, pw, qw⟩ := hi.ex
  exact ⟨_, pe_lc hc hN pw (blkOk_by ok) (fun s H C cl fp => (hg s H C cl fp).pg) (fun s H C cl fp => (ht s H C cl fp).run) (fun s H C cl fp => (he s H C cl fp).run) hs, fun B F H σ ρ Q I h => lc_all hv hg qw s0 I h⟩
theorem ms_setLc (i : Nat) {y : Str} {py : Pos} {spos : Pos} {elt tg iter : Expr} {ifs : List Expr} {scope : Scope} {oS : List (Str × Nat)} {mi : Ev → Out (List D)} {g : Ev → D → Option Ev} {t : TG} {mt : Ev → Out Bool} {me : Ev → Out D} (k : knd S i = 0) (hc : X.calm = true) (hN : X.N.Nodup) (hy : X.N[i]? = some y) (hyl : X.env.scope.names.lookup y = some .local)
    (hsw : swapsWith (.ListComp elt [⟨tg, iter, ifs, 0⟩] scope pos) (some (.Name y py)) spos.line X.env = pure true) (hi : MI X W S tg iter mi) (ok : blkC X.N X.env.scope scope oS = true) (hv : (oS.map (·.2)).all (fun i => knd S i == 0) = true)
    (hg : ∀ (s : Shared) (H : Hp) (C : Addr) (cl : List (Str × Addr)) (fp : List Addr), MG (X.blk s H scope (compEnvC scope cl C X.env) fp) S tg t (oS.map (·.2)) g)
    (ht : ∀ (s : Shared) (H : Hp) (C : Addr) (cl : List (Str × Addr)) (fp : List Addr), MTs (X.blk s H scope (compEnvC scope cl C X.env) fp) W0 S ifs mt)
    (he : ∀ (s : Shared) (H : Hp) (C : Addr) (cl : List (Str × Addr)) (fp : List Addr), ME (X.blk s H scope (compEnvC scope cl C X.env) fp) W0 S elt me) (s0 : Shared := X.s_0) (hs : ∀ x, foldedSetIterable iter X.env x = pure x := by intro _; rfl) :
    MS X W S (.Assign [.Name y py] (.ListComp elt [⟨tg, iter, ifs, 0⟩] scope pos) spos) (mSet i (mLst (mLc mi g mt me (oS.map (·.2))))) := by
  obtain ⟨w, pw, qw⟩ := hi.ex
  refine ⟨_, ps_setLc (te := tME X.K X.mg W0 S me) (tt := tMT X.K X.mg W0 S mt) hc hN hy hyl hsw pw (blkOk_by ok) (fun s H C cl fp => (hg s H C cl fp).pg) (fun s H C cl fp => (ht s H C cl fp).run) (fun s H C cl fp => (he s H C cl fp).run) hs, fun B F H σ ρ D I h => ?_⟩
  refine lc_all hv hg qw s0 I ((Sat.bind (Sat.bind h)).mono (fun ds ρ1 h1 => ?_) fun _ _ z => XSo.ex z)
  exact LKo.ofE fun F' H' v I' s' r' => h1 F' H' _ (I'.setSh k r') s'
end
end MW
namespace MW
open PySem PySem.Spec PyProof.Rows L2
variable {gq : Bool}
/-- f: the items and what is given, to what is handed back and the new items -/
def mUpd (i : Nat) (f : List D → List D → Option (D × List D)) (ms : Ev → Out (List D)) : Ev → Out D := fun ρ => (Out.of (rd ρ i) ρ).bind fun _ ρ => (ms ρ).bind fun as ρ1 => match rd ρ1 i with
  | some (.list ds) => match f ds as with
    | some (d, ds') => .ok d (ρ1.set i (some (.list ds')))
    | none => .bad
  | _ => .bad
def MtU (X : Cx) (r : V → List V → Hp → VK → Prop) (f : List D → List D → Option (D × List D)) : Prop := ∀ F H l xs ds vs as d ds' (Q : VK), Same F H → H l = some (.lst xs) → RpL X.K F xs ds → RpL X.K F vs as → f ds as = some (d, ds') → (∀ v ys, Rp X.K F v d → RpL X.K F ys ds' → Q v (upd H l (.lst ys))) → r (.ref l) vs H Q
section
variable {X : Cx} {W : WX} {S : Sg} {pos : Pos}
theorem me_upd (i : Nat) {x : Str} {p apos : Pos} {name : Str} {id : String} {r : V → List V → Hp → VK → Prop} {f : List D → List D → Option (D × List D)} {ms : Ev → Out (List D)} {e0 : Expr} {es : List Expr} {e : Expr} (k : knd S i = 1) (hv : PE X (.Name x p) (tVar i)) (hm : MtU X r f) (ha : MA X W S (e0 :: es) ms)
    (mk : ∀ t, PA X (e0 :: es) t → PE X e (tBM X.K "list" r (tVar i) t)) : ME X W S e (mUpd i f ms) := by
  obtain ⟨t, pt, q⟩ := ha.ex
  refine ⟨_, mk _ pt, fun B F H σ ρ Q I h => ?_⟩
  obtain ⟨d0, e1, h⟩ := sat_of h.bind
  obtain ⟨a, ea, xs0, ds0, _, hF0, hH0, _⟩ := own_lst I k e1
  refine ⟨_, ea, .inl ⟨rfl, xs0, .inl (.inl hH0)⟩, ?_⟩
  refine q B F H σ ρ _ I ((Sat.bind h).mono (fun as ρ1 h1 F1 H1 vs I1 s1 r1 => ?_) fun _ _ z => z)
  split at h1
  · rename_i ds e2
    split at h1
    · rename_i d ds' e3
      obtain ⟨a', ea', xs, ds'', e4, hF, hH, rr⟩ := own_lst I1 k e2
      rw [ea] at ea'
      cases ea'
      cases e4
      exact hm F1 H1 a xs ds vs as d ds' Q I1.same hH rr r1 e3 fun v ys rv ry => h1 F1 _ v (I1.mut (rd_some e2) k ea ry) s1 rv
    · exact h1.elim
  · exact h1.elim
/-- append -/
def fApp : List D → List D → Option (D × List D) := fun ds as => match as with
  | [d] => if ds.length < 16777216 then some (.none, ds ++ [d]) else none
  | _ => none
theorem mtu_append : MtU X rAppend fApp := fun F H l xs ds vs as d ds' Q s hH r rv e k => by
  have hsz := sizeLine_eq
  unfold fApp at e
  split at e
  · rename_i z
    split at e
    · rename_i hl
      cases e
      cases rv with
      | cons r1 rr =>
        cases rr
        exact ⟨l, xs, _, rfl, rfl, hH, by rw [r.len]; omega, k .non _ .non (r.app (.one r1))⟩
    · cases e
  · cases e
theorem me_append (i : Nat) {x : Str} {p apos : Pos} {ms : Ev → Out (List D)} {e0 : Expr} (k : knd S i = 1) (hv : PE X (.Name x p) (tVar i)) (ha : MA X W S [e0] ms)
    (mk : ∀ t, PA X [e0] t → PE X (.Call (.Attribute (.Name x p) "append" apos) [e0] [] pos) (tBM X.K "list" rAppend (tVar i) t)) : ME X W S (.Call (.Attribute (.Name x p) "append" apos) [e0] [] pos) (mUpd i fApp ms) := me_upd (apos := apos) (name := "append") (id := "list.append") i k hv mtu_append ha mk
/-- xs[k] = e, xs one's own -/
def mStore (i : Nat) (me mk : Ev → Out D) : Ev → Out Fl := fun ρ => (me ρ).bind fun d ρ1 => (Out.of (rd ρ1 i) ρ1).bind fun _ ρ1 => (mk ρ1).bind fun e ρ2 => match rd ρ2 i, e with
  | some (.list ds), .int j => match ixN ds.length j with
    | some n => .ok .nx (ρ2.set i (some (.list (ds.set n d))))
    | none => .bad
  | _, _ => .bad
theorem ms_store (i : Nat) {x : Str} {p tpos : Pos} {e ie : Expr} {me mk : Ev → Out D} (k : knd S i = 1) (hv : PE X (.Name x p) (tVar i)) (he : ME X W S e me) (hi : ME X W S ie mk)
    (ha : ∀ v, assign (.Subscript (.Name x p) ie tpos) X.env v = (do
      let ov ← holding [v] (eval (.Name x p) X.env)
      let iv ← holding [v, ov] (eval ie X.env)
      standAt tpos
      holding [v, ov, iv] (setItem ov iv v)
      release [v, ov, iv] []) := by intro _; rfl) (hs : swapsWithSole [.Subscript (.Name x p) ie tpos] e pos.line X.env = pure false := by rfl) (hw : swappedStores [.Subscript (.Name x p) ie tpos] e X.env = pure none := by rfl)
    (h1 : (assignEach [.Subscript (.Name x p) ie tpos] X.env).map (·.2) = [assign (.Subscript (.Name x p) ie tpos) X.env] := by rfl) : MS X W S (.Assign [.Subscript (.Name x p) ie tpos] e pos) (mStore i me mk) := by
  obtain ⟨t, pt, q⟩ := he.ex
  obtain ⟨u, pu, qu⟩ := hi.ex
  refine ⟨_, ps_asg pt (pg_sub hv pu set_list ha) hs hw h1, fun B F H σ ρ D I h => ?_⟩
  refine q B F H σ ρ _ I ((Sat.bind h).mono (fun d ρ1 h1 F1 H1 v I1 s1 r1 => ?_) fun _ _ z => XSo.ex z)
  obtain ⟨d0, e1, h2⟩ := sat_of (Sat.bind h1)
  obtain ⟨a, ea, _⟩ := own_at I1 k e1
  refine ⟨_, ea, ?_⟩
  refine qu B F1 H1 σ ρ1 _ I1 ((Sat.bind h2).mono (fun e ρ2 h3 F2 H2 y I2 s2 r2 => ?_) fun _ _ z => XKo.up s1 (XSo.ex z))
  split at h3
  · rename_i ds j e2
    split at h3
    · rename_i n en
      obtain ⟨a', ea', xs, ds'', e4, hF, hH, rr⟩ := own_lst I2 k e2
      rw [ea] at ea'
      cases ea'
      cases e4
      cases r2
      refine ⟨a, xs, j, n, rfl, rfl, hH, by rw [rr.len]; exact en, h3 F2 _ σ (I2.mut (rd_some e2) k ea (rr.set n (r1.up s2))) (s1.trans s2)⟩
    · exact h3.elim
  · exact h3.elim
def outs (S : Sg) (ρ : Ev) : Ev := (List.range S.np).map fun i => if own S i then ρ.getD i none else none
structure Back (K : Fg) (S : Sg) (B : Base) (vs : List V) (F' H' : Hp) (os : Ev) : Prop where
  len : os.length = S.np
  ext : Ext B F' H'
  same : Same F' H'
  ow : ∀ i a, own S i = true → vs[i]? = some (.ref a) → ∃ d, os[i]? = some (some d) ∧ OwL K F' H' a d
/-- of a def's slots the parameters alone: which of them are lists that are lent -/
def sgOf (os : List Bool) : Sg := ⟨os.map fun b => if b = true then 1 else 0, os.length, [], []⟩
theorem sgOf_knd {os : List Bool} {i : Nat} : knd (sgOf os) i = if os.getD i false = true then 1 else 0 := by
  unfold knd sgOf
  simp only [List.getD_eq_getElem?_getD, List.getElem?_map]
  cases os[i]? with
  | none => rfl
  | some b => cases b <;> rfl
theorem sgOf_own {os : List Bool} {i : Nat} : own (sgOf os) i = os.getD i false := by
  unfold own
  rw [sgOf_knd]
  cases os.getD i false <;> rfl
theorem sgOf_deep {os : List Bool} {i : Nat} : deep (sgOf os) i = false := by
  unfold deep
  rw [sgOf_knd]
  cases os.getD i false <;> rfl
theorem sgOf_ne3 {os : List Bool} {i : Nat} : knd (sgOf os) i ≠ 3 := by
  rw [sgOf_knd]
  cases os.getD i false <;> decide
/-- a def's promise, by its mirror m: the arguments' data to the result's, and what has become of the lists handed in -/
def spM (K : Fg) (mg : Str → Option Value) (os : List Bool) (m : List D → Out D) : Sp := fun vs H Q E => ∃ B F ds, vs.length = os.length ∧ SInv K (sgOf os) B (vs.map some) F H (ds.map some) ∧
  Sat (m ds) (fun d zs => ∀ F' H' v, Back K (sgOf os) B vs F' H' zs → Same F F' → Rp K F' v d → Q v H') (fun c zs => ∀ F' H' C, Back K (sgOf os) B vs F' H' zs → Same F F' → mg c = some (.ref C) → E (.ref C) none H')
def chk (S : Sg) (os : Ev) : Bool := (List.range S.np).all fun i => !own S i || (os.getD i none).isSome
def mDef (S : Sg) (n : Nat) (mb : Ev → Out Fl) : List D → Out D := fun ds => match mb (ds.map some ++ List.replicate (n - ds.length) none) with
  | .ok .nx ρ => if chk S (outs S ρ) = true then .ok .none (outs S ρ) else .bad
  | .ok (.rt d) ρ => if chk S (outs S ρ) = true then .ok d (outs S ρ) else .bad
  | .ok .bk ρ => .bad
  | .ok .ct ρ => .bad
  | .err c ρ => if chk S (outs S ρ) = true then .err c (outs S ρ) else .bad
  | .bad => .bad
theorem nil_ts {K : Fg} {S : Sg} {os : List Bool} {B : Base} {F H : Hp} {σ : Sts} {ρ : Ev} (I : SInv K (sgOf os) B σ F H ρ) (h : S.T = []) : B.T = S.T := I.ts.trans h.symm
theorem start_sinv {K : Fg} {S : Sg} {os : List Bool} {B : Base} {F H : Hp} {vs : List V} {ds : List D} {N : List Str} (hs : os.length = S.np) (hk : (List.range S.np).all (fun i => knd S i == if os.getD i false = true then 1 else 0) = true) (hl : vs.length = S.np) (hT : B.T = S.T) (I : SInv K (sgOf os) B (vs.map some) F H (ds.map some)) :
    SInv K S B (L2.start N vs) F H (ds.map some ++ List.replicate (N.length - ds.length) none) := by
  have hd : ds.length = vs.length := by have := I.len; simpa using this
  have kn : ∀ i, i < S.np → knd S i = knd (sgOf os) i := fun i hi => by
    have := List.all_eq_true.mp hk i (List.mem_range.mpr hi)
    rw [sgOf_knd]
    exact eq_of_beq this
  have at1 : ∀ (i : Nat) (d : D), (ds.map some ++ List.replicate (N.length - ds.length) none)[i]? = some (some d) → (ds.map some)[i]? = some (some d) := fun i d e => by
    rcases Nat.lt_or_ge i (ds.map some).length with h | h
    · rw [List.getElem?_append_left h] at e; exact e
    · rw [List.getElem?_append_right h, List.getElem?_replicate] at e
      split at e <;> cases e
  have lt_ : ∀ (i : Nat) (d : D), (ds.map some)[i]? = some (some d) → i < S.np := fun i d e => by
    have := (List.getElem?_eq_some_iff.mp e).1
    rw [List.length_map] at this
    omega
  have at2 : ∀ (i : Nat) (v : V), (vs.map some)[i]? = some (some v) → (L2.start N vs)[i]? = some (some v) := fun i v e => by
    unfold L2.start
    rw [List.getElem?_append_left (List.getElem?_eq_some_iff.mp e).1]
    exact e
  have at3 : ∀ (i : Nat) (a : Addr) (d : D), (ds.map some)[i]? = some (some d) → (L2.start N vs)[i]? = some (some (.ref a)) → (vs.map some)[i]? = some (some (.ref a)) := fun i a d e h => by
    have hi : i < (vs.map some).length := by
      have := (List.getElem?_eq_some_iff.mp e).1
      simpa [hd] using this
    unfold L2.start at h
    rw [List.getElem?_append_left hi] at h
    exact h
  have ownE : ∀ i, i < S.np → own S i = own (sgOf os) i ∧ deep S i = deep (sgOf os) i := fun i hi => by
    unfold own deep
    rw [kn i hi]
    exact ⟨rfl, rfl⟩
  have held : ∀ {i b}, Held S (L2.start N vs) H (ds.map some ++ List.replicate (N.length - ds.length) none) i b → Held (sgOf os) (vs.map some) H (ds.map some) i b := fun {i b} ⟨k, ⟨d, e⟩, a, e1, h⟩ => by
    have hi := lt_ i d (at1 i d e)
    exact ⟨by rw [← (ownE i hi).1]; exact k, ⟨d, at1 i d e⟩, a, at3 i a d (at1 i d e) e1, by rw [← (ownE i hi).2]; exact h⟩
  refine ⟨by unfold L2.start; simp [hd], I.same, I.ext, fun i d e k => ?_, fun i d e k => ?_, fun i j b h1 h2 => I.nd i j b (held h1) (held h2), fun i d e k => ?_, fun i hi k => ?_, hT⟩
  · have hi := lt_ i d (at1 i d e)
    obtain ⟨v, e1, r⟩ := I.sh i d (at1 i d e) (by rw [← kn i hi]; exact k)
    exact ⟨v, at2 i v e1, r⟩
  · have hi := lt_ i d (at1 i d e)
    obtain ⟨a, bs, e1, w, o⟩ := I.ow i d (at1 i d e) (by rw [← (ownE i hi).1]; exact k)
    refine ⟨a, bs, at2 i _ e1, by rw [kn i hi]; exact w, fun b hb => ?_⟩
    rcases o b hb with q | q
    · exact .inl ⟨q.1, fun z => absurd hi (by omega)⟩
    · exact .inr q
  · have hi := lt_ i d (at1 i d e)
    rw [kn i hi] at k
    exact absurd k sgOf_ne3
  · rw [← I.pin i (by show i < os.length; omega) (by rw [← (ownE i hi).1]; exact k)]
    unfold L2.start
    rw [List.getElem?_append_left (by simp; omega)]
theorem outs_at {S : Sg} {ρ : Ev} {i : Nat} (hi : i < S.np) (k : own S i = true) : (outs S ρ)[i]? = some (ρ.getD i none) := by
  unfold outs
  rw [List.getElem?_map, List.getElem?_range hi]
  show some (if own S i = true then ρ.getD i none else none) = _
  rw [if_pos k]
end
section
variable {P : Program} {w : World} {K : PySem.W.Frag} {mg : Str → Option Value} {base : Heap}
theorem def_sat {X : Cx} {S : Sg} {os : List Bool} {N : List Str} {mb : Ev → Out Fl} {t : TS} {E : XK} {Q : VK} {vs : List V} {ds : List D} {B : Base} {F H : Hp} (hos : os.length = S.np) (hks : (List.range S.np).all (fun i => knd S i == if os.getD i false = true then 1 else 0) = true) (hl : vs.length = os.length) (hT : B.T = S.T)
    (q : ∀ B F H σ ρ D, SInv X.K S B σ F H ρ → Sat (mb ρ) (FKo X.K S B F D) (XSo X (fun c d _ H => E c d H) S B F) → t D σ H) (I : SInv X.K (sgOf os) B (vs.map some) F H (ds.map some))
    (hs : Sat (mDef S N.length mb ds) (fun d zs => ∀ F' H' v, Back X.K (sgOf os) B vs F' H' zs → Same F F' → Rp X.K F' v d → Q v H') (fun c zs => ∀ F' H' C, Back X.K (sgOf os) B vs F' H' zs → Same F F' → X.mg c = some (.ref C) → E (.ref C) none H')) : t { nx := fun _ H' => Q .non H', rt := Q } (L2.start N vs) H := by
  refine q B F H _ _ _ (start_sinv (N := N) hos hks (by omega) hT I) ?_
  have kn : ∀ i, i < S.np → knd S i = knd (sgOf os) i := fun i hi => by
    have := List.all_eq_true.mp hks i (List.mem_range.mpr hi)
    rw [sgOf_knd]
    exact eq_of_beq this
  have back : ∀ {F' H' : Hp} {σ' : Sts} {ρ' : Ev}, SInv X.K S B σ' F' H' ρ' → chk S (outs S ρ') = true → Back X.K (sgOf os) B vs F' H' (outs S ρ') := fun {F' H' σ' ρ'} J ha => by
    refine ⟨by show (outs S ρ').length = os.length; simp [outs, hos], J.ext, J.same, fun i a k e => ?_⟩
    have hi : i < S.np := by
      have := (List.getElem?_eq_some_iff.mp e).1
      omega
    have k1 : knd S i = 1 := by
      rw [kn i hi, sgOf_knd]
      rw [sgOf_own] at k
      rw [k]; rfl
    have h1 := List.all_eq_true.mp ha i (List.mem_range.mpr hi)
    rw [own_of1 k1] at h1
    have h2 : ((outs S ρ').getD i none).isSome = true := by simpa using h1
    have ho := outs_at (ρ := ρ') hi (own_of1 k1)
    rw [List.getD_eq_getElem?_getD, ho] at h2
    obtain ⟨d, hd⟩ := Option.isSome_iff_exists.mp (show (ρ'.getD i none).isSome = true from h2)
    obtain ⟨a', e1, ow⟩ := own_lst J k1 hd
    have hp := J.pin i hi (own_of1 k1)
    have hp0 := I.pin i (by show i < os.length; omega) k
    have : σ'[i]? = some (some (.ref a)) := by
      rw [hp, ← hp0, List.getElem?_map, e]
      rfl
    rw [this] at e1
    cases e1
    exact ⟨d, by rw [ho, hd], ow⟩
  cases e1 : mb (ds.map some ++ List.replicate (N.length - ds.length) none) with
  | bad =>
    have e2 : mDef S N.length mb ds = .bad := by unfold mDef; rw [e1]
    rw [e2] at hs
    exact hs.elim
  | err c ρ' =>
    have e2 : mDef S N.length mb ds = if chk S (outs S ρ') = true then .err c (outs S ρ') else .bad := by unfold mDef; rw [e1]
    rw [e2] at hs
    by_cases ha : chk S (outs S ρ') = true
    · rw [if_pos ha] at hs
      exact fun F' H' σ' C J s' hC => hs F' H' C (back J ha) s' hC
    · rw [if_neg ha] at hs
      exact hs.elim
  | ok fl ρ' =>
    cases fl with
    | bk =>
      have e2 : mDef S N.length mb ds = .bad := by unfold mDef; rw [e1]
      rw [e2] at hs
      exact hs.elim
    | ct =>
      have e2 : mDef S N.length mb ds = .bad := by unfold mDef; rw [e1]
      rw [e2] at hs
      exact hs.elim
    | nx =>
      have e2 : mDef S N.length mb ds = if chk S (outs S ρ') = true then .ok .none (outs S ρ') else .bad := by unfold mDef; rw [e1]
      rw [e2] at hs
      by_cases ha : chk S (outs S ρ') = true
      · rw [if_pos ha] at hs
        exact fun F' H' σ' J s' => hs F' H' .non (back J ha) s' .non
      · rw [if_neg ha] at hs
        exact hs.elim
    | rt d =>
      have e2 : mDef S N.length mb ds = if chk S (outs S ρ') = true then .ok d (outs S ρ') else .bad := by unfold mDef; rw [e1]
      rw [e2] at hs
      by_cases ha : chk S (outs S ρ') = true
      · rw [if_pos ha] at hs
        exact fun F' H' σ' J s' v rv => hs F' H' v (back J ha) s' rv
      · rw [if_neg ha] at hs
        exact hs.elim
theorem def_ok {x qual : Str} {st : Stmt} {f : Addr} {fd : FuncData} {N ps : List Str} {k : Nat} (S : Sg) (os : List Bool) {mb : Ev → Out Fl} (Fn : L2.Fun K x qual st f fd) (Sc : FnScope N ps (defScope st)) (hnp : ps.length = S.np) (hos : os.length = S.np) (hks : (List.range S.np).all (fun i => knd S i == if os.getD i false = true then 1 else 0) = true)
    (hbody : ∀ (cdv : Value) (A : Around) (outer : List Env) (s : Shared) (H : Hp) (E : XK), RoomQ gq k (A.deeper (envOfC qual (defScope st) s.heap.objs.size f cdv)) →
      MSs (cxOf (L2.CX P w) P w K mg base N qual (defScope st) f cdv A outer s H E) (fun c d _ H => E c d H) S (defBody st) mb) (hTn : S.T = [] := by rfl) :
    FnQ gq P w K mg base (k + 1) f fd ps (spM K mg os (mDef S N.length mb)) := by
  refine FnQ.of Fn Sc (fun vs H Q E h => ?_) (fun cdv A outer s H vs Q E hr h => ?_)
  · obtain ⟨_, _, _, hl, _⟩ := h
    rw [hl, hnp, hos]
  · obtain ⟨B, F, ds, hl, I, hs⟩ := h
    obtain ⟨t, p, q⟩ := (hbody cdv A outer s H E hr).ex
    exact ⟨t, p, def_sat hos hks hl (nil_ts I hTn) q I hs⟩
end
/-- an argument list: values, and lists of one's own that are lent -/
inductive ArgL (K : Fg) (σ : Sts) (F : Hp) : List (Option Nat) → List V → List D → Prop
  | nil : ArgL K σ F [] [] []
  | val {v : V} {d : D} {ks : List (Option Nat)} {vs : List V} {ds : List D} : Rp K F v d → ArgL K σ F ks vs ds → ArgL K σ F (none :: ks) (v :: vs) (d :: ds)
  | lent {i : Nat} {v : V} {d : D} {ks : List (Option Nat)} {vs : List V} {ds : List D} : σ[i]? = some (some v) → ArgL K σ F ks vs ds → ArgL K σ F (some i :: ks) (v :: vs) (d :: ds)
theorem ArgL.up {K : Fg} {σ : Sts} {F F' : Hp} (s : Same F F') : ∀ {ks : List (Option Nat)} {vs : List V} {ds : List D}, ArgL K σ F ks vs ds → ArgL K σ F' ks vs ds
  | _, _, _, .nil => .nil
  | _, _, _, .val r h => .val (r.up s) (h.up s)
  | _, _, _, .lent e h => .lent e (h.up s)
structure MAc (X : Cx) (W : WX) (S : Sg) (es : List Expr) (ks : List (Option Nat)) (m : Ev → Out (List D)) : Prop where
  ex : ∃ t : TA, PA X es t ∧ ∀ B F H σ ρ Q, SInv X.K S B σ F H ρ → Sat (m ρ) (fun ds ρ' => ∀ F' H' vs, SInv X.K S B σ F' H' ρ' → Same F F' → ArgL X.K σ F' ks vs ds → Q vs H') (XKo X W S B σ F) → t σ H Q
section
variable {X : Cx} {W : WX} {S : Sg} {pos : Pos} {a : Expr} {es : List Expr} {ks : List (Option Nat)} {ma : Ev → Out D} {mr : Ev → Out (List D)}
theorem mac_nil : MAc X W S [] [] mNil := ⟨_, pa_nil, fun B F H σ ρ Q I h => h F H [] I (Same.refl _) .nil⟩
theorem mac_cons (ha : ME X W S a ma) (hr : MAc X W S es ks mr) (hs : starEach (a :: es) X.env = (false, eval a X.env) :: starEach es X.env := by rfl) : MAc X W S (a :: es) (none :: ks) (mCons ma mr) := by
  obtain ⟨t, p, q⟩ := ha.ex
  obtain ⟨t', p', q'⟩ := hr.ex
  refine ⟨_, pa_cons p p' hs, fun B F H σ ρ Q I h => ?_⟩
  refine q B F H σ ρ _ I (h.bind.mono (fun d ρ1 h1 F1 H1 x I1 s1 r1 => ?_) fun _ _ z => z)
  refine q' B F1 H1 σ ρ1 _ I1 (h1.bind.mono (fun ds ρ2 h2 F2 H2 xs I2 s2 r2 => ?_) fun _ _ z => XKo.up s1 z)
  exact h2 F2 H2 (x :: xs) I2 (s1.trans s2) (.val (r1.up s2) r2)
def mLend (i : Nat) (mr : Ev → Out (List D)) : Ev → Out (List D) := fun ρ => (Out.of (rd ρ i) ρ).bind fun _ ρ => (mr ρ).bind fun ds ρ2 => .ok (.none :: ds) ρ2
theorem mac_lend (i : Nat) {x : Str} {p : Pos} (k : knd S i = 1) (hv : PE X (.Name x p) (tVar i)) (hr : MAc X W S es ks mr) (hs : starEach (.Name x p :: es) X.env = (false, eval (.Name x p) X.env) :: starEach es X.env := by rfl) : MAc X W S (.Name x p :: es) (some i :: ks) (mLend i mr) := by
  obtain ⟨t', p', q'⟩ := hr.ex
  refine ⟨_, pa_cons hv p' hs, fun B F H σ ρ Q I h => ?_⟩
  obtain ⟨d0, e1, h⟩ := sat_of h.bind
  obtain ⟨b, eb, _⟩ := own_at I k e1
  refine ⟨_, eb, ?_⟩
  refine q' B F H σ ρ _ I ((Sat.bind h).mono (fun ds ρ2 h2 F2 H2 xs I2 s2 r2 => ?_) fun _ _ z => z)
  exact h2 F2 H2 _ I2 s2 (.lent eb r2)
end
def resolve (ρ : Ev) : List (Option Nat) → List D → Option (List D)
  | none :: ks, d :: ds => (resolve ρ ks ds).map (d :: ·)
  | some i :: ks, _ :: ds => (rd ρ i).bind fun x => (resolve ρ ks ds).map (x :: ·)
  | _, _ => some []
def wback : List (Option Nat) → Ev → Ev → Ev
  | none :: ks, _ :: os, ρ => wback ks os ρ
  | some i :: ks, o :: os, ρ => wback ks os (ρ.set i o)
  | _, _, ρ => ρ
def mCallD (f : List D → Out D) (ks : List (Option Nat)) (ms : Ev → Out (List D)) : Ev → Out D := fun ρ => (ms ρ).bind fun ds ρ1 => (Out.of (resolve ρ1 ks ds) ρ1).bind fun as ρ1 => match f as with
  | .ok d os => .ok d (wback ks os ρ1)
  | .err c os => .err c (wback ks os ρ1)
  | .bad => .bad
theorem wback_len : ∀ {ks : List (Option Nat)} {os ρ : Ev}, (wback ks os ρ).length = ρ.length
  | [], _, _ => by unfold wback; rfl
  | none :: ks, [], _ => by unfold wback; rfl
  | some i :: ks, [], _ => by unfold wback; rfl
  | none :: ks, _ :: os, ρ => by unfold wback; exact wback_len
  | some i :: ks, o :: os, ρ => by unfold wback; rw [wback_len, List.length_set]
theorem wback_out : ∀ {ks : List (Option Nat)} {os ρ : Ev} {i : Nat}, some i ∉ ks → (wback ks os ρ)[i]? = ρ[i]?
  | [], _, _, _, _ => by unfold wback; rfl
  | none :: ks, [], _, _, _ => by unfold wback; rfl
  | some j :: ks, [], _, _, _ => by unfold wback; rfl
  | none :: ks, _ :: os, ρ, i, h => by unfold wback; exact wback_out fun z => h (List.mem_cons_of_mem _ z)
  | some j :: ks, o :: os, ρ, i, h => by
    unfold wback
    rw [wback_out fun z => h (List.mem_cons_of_mem _ z), List.getElem?_set_ne]
    exact fun z => h (by rw [z]; exact List.mem_cons_self)
theorem wback_in : ∀ {ks : List (Option Nat)} {os ρ : Ev} {i j : Nat} {o : Option D}, (ks.filterMap id).Nodup → ks[j]? = some (some i) → os[j]? = some o → i < ρ.length → (wback ks os ρ)[i]? = some o
  | [], _, _, _, _, _, _, h, _, _ => by simp at h
  | none :: ks, [], _, _, _, _, _, _, h, _ => by simp at h
  | some _ :: ks, [], _, _, _, _, _, _, h, _ => by simp at h
  | none :: ks, _ :: os, ρ, i, 0, o, nd, h, _, _ => by simp at h
  | none :: ks, _ :: os, ρ, i, j + 1, o, nd, h, h2, hl => by
    unfold wback
    exact wback_in (by simpa using nd) (by simpa using h) (by simpa using h2) hl
  | some i' :: ks, o' :: os, ρ, i, 0, o, nd, h, h2, hl => by
    simp at h h2
    subst h h2
    unfold wback
    have nd' : (i' :: ks.filterMap id).Nodup := by simpa using nd
    rw [wback_out, List.getElem?_set_self hl]
    intro z
    exact (List.nodup_cons.mp nd').1 (List.mem_filterMap.mpr ⟨_, z, rfl⟩)
  | some i' :: ks, o' :: os, ρ, i, j + 1, o, nd, h, h2, hl => by
    unfold wback
    have nd' : (i' :: ks.filterMap id).Nodup := by simpa using nd
    exact wback_in (List.nodup_cons.mp nd').2 (by simpa using h) (by simpa using h2) (by rw [List.length_set]; exact hl)
theorem ks_inj : ∀ {ks : List (Option Nat)} {i j j' : Nat}, (ks.filterMap id).Nodup → ks[j]? = some (some i) → ks[j']? = some (some i) → j = j'
  | [], _, _, _, _, h, _ => by simp at h
  | none :: ks, i, 0, _, nd, h, _ => by simp at h
  | none :: ks, i, _ + 1, 0, nd, _, h => by simp at h
  | none :: ks, i, j + 1, j' + 1, nd, h, h' => by
    have := ks_inj (ks := ks) (i := i) (j := j) (j' := j') (by simpa using nd) (by simpa using h) (by simpa using h')
    omega
  | some a :: ks, i, 0, 0, nd, _, _ => rfl
  | some a :: ks, i, 0, j' + 1, nd, h, h' => by
    have nd' : (a :: ks.filterMap id).Nodup := by simpa using nd
    simp at h
    subst h
    exact absurd (List.mem_filterMap.mpr ⟨some a, List.mem_of_getElem? (by simpa using h'), rfl⟩ : a ∈ ks.filterMap id) (List.nodup_cons.mp nd').1
  | some a :: ks, i, j + 1, 0, nd, h, h' => by
    have nd' : (a :: ks.filterMap id).Nodup := by simpa using nd
    simp at h'
    subst h'
    exact absurd (List.mem_filterMap.mpr ⟨some a, List.mem_of_getElem? (by simpa using h), rfl⟩ : a ∈ ks.filterMap id) (List.nodup_cons.mp nd').1
  | some a :: ks, i, j + 1, j' + 1, nd, h, h' => by
    have nd' : (a :: ks.filterMap id).Nodup := by simpa using nd
    have := ks_inj (ks := ks) (i := i) (j := j) (j' := j') (List.nodup_cons.mp nd').2 (by simpa using h) (by simpa using h')
    omega
section
variable {K : Fg} {S : Sg} {B : Base} {σ : Sts} {F H : Hp} {ρ : Ev}
/-- what is known of the arguments at the call -/
theorem argL_get : ∀ {ks : List (Option Nat)} {vs : List V} {ds as : List D}, ArgL K σ F ks vs ds → resolve ρ ks ds = some as → vs.length = ks.length ∧ as.length = ks.length ∧
    ∀ (j : Nat) (d : D), as[j]? = some d → (ks[j]? = some none ∧ ∃ v, vs[j]? = some v ∧ Rp K F v d) ∨ (∃ i v, ks[j]? = some (some i) ∧ vs[j]? = some v ∧ σ[i]? = some (some v) ∧ rd ρ i = some d)
  | _, _, _, _, .nil, h => by
    cases h
    exact ⟨rfl, rfl, fun j d e => by simp at e⟩
  | _, _, _, _, .val (ks := ks) (ds := ds) r h, e => by
    unfold resolve at e
    obtain ⟨as', e1, rfl⟩ := Option.map_eq_some_iff.mp e
    obtain ⟨l1, l2, at_⟩ := argL_get h e1
    refine ⟨by simp [l1], by simp [l2], fun j d e2 => ?_⟩
    cases j with
    | zero =>
      simp at e2
      subst e2
      exact .inl ⟨rfl, _, rfl, r⟩
    | succ j => simpa using at_ j d (by simpa using e2)
  | _, _, _, _, .lent (i := i) (v := v) (ks := ks) (ds := ds) hv h, e => by
    unfold resolve at e
    obtain ⟨x, e0, e⟩ := Option.bind_eq_some_iff.mp e
    obtain ⟨as', e1, rfl⟩ := Option.map_eq_some_iff.mp e
    obtain ⟨l1, l2, at_⟩ := argL_get h e1
    refine ⟨by simp [l1], by simp [l2], fun j d e2 => ?_⟩
    cases j with
    | zero =>
      simp at e2
      subst e2
      exact .inr ⟨i, v, rfl, rfl, hv, e0⟩
    | succ j => simpa using at_ j d (by simpa using e2)
def callB (os : List Bool) (vs : List V) (as : List D) (F H : Hp) : Base := ⟨fun a => ∃ j, Held (sgOf os) (vs.map some) H (as.map some) j a, fun _ => False, F, H, vs.map some, []⟩
variable {os : List Bool}
theorem own_ks {ks : List (Option Nat)} {j : Nat} (hk : os = ks.map Option.isSome) : own (sgOf os) j = true ↔ ∃ i, ks[j]? = some (some i) := by
  rw [sgOf_own, hk, List.getD_eq_getElem?_getD, List.getElem?_map]
  cases e : ks[j]? with
  | none => simp
  | some o => cases o <;> simp
theorem heldP {vs : List V} {as : List D} {j : Nat} {a : Addr} (h : Held (sgOf os) (vs.map some) H (as.map some) j a) : own (sgOf os) j = true ∧ (∃ d, as[j]? = some d) ∧ vs[j]? = some (.ref a) := by
  obtain ⟨k, ⟨d, e⟩, c, e1, h⟩ := h
  have hc : a = c := by
    rcases h with z | ⟨z, _⟩
    · exact z
    · rw [sgOf_deep] at z; cases z
  subst hc
  rw [List.getElem?_map] at e e1
  obtain ⟨d', e, e'⟩ := Option.map_eq_some_iff.mp e
  obtain ⟨v', e1, e1'⟩ := Option.map_eq_some_iff.mp e1
  cases e1'
  exact ⟨k, ⟨d', e⟩, e1⟩
theorem call_start {ks : List (Option Nat)} {vs : List V} {ds as : List D} (I : SInv K S B σ F H ρ) (hA : ArgL K σ F ks vs ds) (hr : resolve ρ ks ds = some as) (hk : os = ks.map Option.isSome) (ho : ks.all (fun k => k.all (fun i => knd S i == 1)) = true) (nd : (ks.filterMap id).Nodup) :
    vs.length = os.length ∧ SInv K (sgOf os) (callB os vs as F H) (vs.map some) F H (as.map some) := by
  obtain ⟨l1, l2, at_⟩ := argL_get hA hr
  have own_of : ∀ {j i : Nat}, ks[j]? = some (some i) → knd S i = 1 := fun {j i} e => by
    have := List.all_eq_true.mp ho _ (List.mem_of_getElem? e)
    simpa using this
  have pick : ∀ {j : Nat} {a : Addr}, Held (sgOf os) (vs.map some) H (as.map some) j a → ∃ i, ks[j]? = some (some i) ∧ Held S σ H ρ i a := fun {j a} h => by
    obtain ⟨k, ⟨d, e⟩, e1⟩ := heldP h
    rcases at_ j d e with ⟨ek, _⟩ | ⟨i, v, ek, ev, es, er⟩
    · obtain ⟨i, ei⟩ := (own_ks (j := j) hk).mp k
      rw [ek] at ei; cases ei
    · rw [ev] at e1
      cases e1
      exact ⟨i, ek, I.topHeld (own_of1 (own_of ek)) ⟨d, rd_some er⟩ es⟩
  have hl : os.length = ks.length := by rw [hk, List.length_map]
  refine ⟨by omega, by simp [l1, l2], I.same, ⟨Same.refl _, fun _ _ e _ => e, fun _ e => e, fun _ _ e => .inl e, (nofun : ∀ p ∈ ([] : List (Addr × Str)), _), (nofun : ∀ p ∈ ([] : List (Addr × Str)), _), (nofun : ∀ p ∈ ([] : List (Addr × Str)), _)⟩, fun j d e k => ?_, fun j d e k => ?_, fun j j' a h1 h2 => ?_, fun j d e k => absurd k sgOf_ne3, fun _ _ _ => rfl, rfl⟩
  · rw [List.getElem?_map] at e
    obtain ⟨d', e, e'⟩ := Option.map_eq_some_iff.mp e
    cases e'
    rcases at_ j d e with ⟨_, v, ev, r⟩ | ⟨i, v, ek, _⟩
    · exact ⟨v, by rw [List.getElem?_map, ev]; rfl, r⟩
    · have := (own_ks (j := j) hk).mpr ⟨i, ek⟩
      rw [own_of0 k] at this; cases this
  · have e0 := e
    rw [List.getElem?_map] at e
    obtain ⟨d', e, e'⟩ := Option.map_eq_some_iff.mp e
    cases e'
    rcases at_ j d e with ⟨ek, _⟩ | ⟨i, v, ek, ev, es, er⟩
    · obtain ⟨i, ei⟩ := (own_ks (j := j) hk).mp k
      rw [ek] at ei; cases ei
    · obtain ⟨a, e1, w⟩ := own_lst I (own_of ek) er
      rw [es] at e1
      cases e1
      have e2 : (vs.map some)[j]? = some (some (V.ref a)) := by rw [List.getElem?_map, ev]; rfl
      refine ⟨a, [], e2, ⟨by simp, by rw [sgOf_knd, if_pos (by rw [← sgOf_own]; exact k)]; exact ⟨rfl, w⟩⟩, fun b hb => ?_⟩
      have : b = a := by simpa using hb
      subst this
      exact .inl ⟨⟨j, k, ⟨d, e0⟩, b, e2, .inl rfl⟩, fun hz => absurd (List.getElem?_eq_some_iff.mp ev).1 (by have : (sgOf os).np = os.length := rfl; omega)⟩
  · obtain ⟨i, ei, hi⟩ := pick h1
    obtain ⟨i', ei', hi'⟩ := pick h2
    have := I.nd i i' a hi hi'
    subst this
    exact ks_inj nd ei ei'
theorem call_back2 {ks : List (Option Nat)} {vs : List V} {ds as : List D} {F' H' : Hp} {zs : Ev} (I : SInv K S B σ F H ρ) (hA : ArgL K σ F ks vs ds) (hr : resolve ρ ks ds = some as) (hk : os = ks.map Option.isSome) (ho : ks.all (fun k => k.all (fun i => knd S i == 1)) = true) (nd : (ks.filterMap id).Nodup)
    (b : Back K (sgOf os) (callB os vs as F H) vs F' H' zs) : SInv K S B σ F' H' (wback ks zs ρ) ∧ ∀ i c, Held S σ H' (wback ks zs ρ) i c → Held S σ H ρ i c := by
  obtain ⟨l1, l2, at_⟩ := argL_get hA hr
  have own_of : ∀ {j i : Nat}, ks[j]? = some (some i) → knd S i = 1 := fun {j i} e => by
    have := List.all_eq_true.mp ho _ (List.mem_of_getElem? e)
    simpa using this
  -- a lent list stands at its slot
  have lent : ∀ {j i : Nat}, ks[j]? = some (some i) → ∃ a d, σ[i]? = some (some (.ref a)) ∧ Held S σ H ρ i a ∧ vs[j]? = some (.ref a) ∧ as[j]? = some d ∧ ρ[i]? = some (some d) := fun {j i} e => by
    have hj : j < as.length := by rw [l2]; exact (List.getElem?_eq_some_iff.mp e).1
    obtain ⟨d, ed⟩ : ∃ d, as[j]? = some d := ⟨as[j], by simp [hj]⟩
    rcases at_ j d ed with ⟨ek, _⟩ | ⟨i', v, ek, ev, es, er⟩
    · rw [e] at ek; cases ek
    · rw [e] at ek
      cases ek
      obtain ⟨a, e1, w⟩ := own_lst I (own_of e) er
      rw [es] at e1
      cases e1
      exact ⟨a, d, es, I.topHeld (own_of1 (own_of e)) ⟨d, rd_some er⟩ es, ev, ed, rd_some er⟩
  have isO : ∀ {a : Addr}, (callB os vs as F H).O a → ∃ j i, ks[j]? = some (some i) ∧ Held S σ H ρ i a := fun {a} ⟨j, h⟩ => by
    obtain ⟨k, _, e1⟩ := heldP h
    obtain ⟨i, ei⟩ := (own_ks (j := j) hk).mp k
    obtain ⟨a', d, _, h, ev, _⟩ := lent ei
    rw [ev] at e1
    cases e1
    exact ⟨j, i, ei, h⟩
  have hs' : ∀ b o, H b = some o → ¬ (callB os vs as F H).O b → H' b = some o := b.ext.hs
  -- what is not lent stays
  have stay : ∀ {i c}, some i ∉ ks → Held S σ H ρ i c → H' c = H c ∧ F' c = none := fun {i c} hi h => by
    obtain ⟨hF, hH, _⟩ := I.heldAt h
    have nO : ¬ (callB os vs as F H).O c := fun z => by
      obtain ⟨j, i', hj, h'⟩ := isO z
      have := I.nd i i' c h h'
      subst this
      exact hi (List.mem_iff_getElem?.mpr ⟨j, hj⟩)
    obtain ⟨o, eo⟩ := Option.ne_none_iff_exists'.mp hH
    refine ⟨by rw [eo]; exact hs' c o eo nO, ?_⟩
    cases z : F' c with
    | none => rfl
    | some o =>
      rcases b.ext.fr c o z with y | y | y
      · have y : F c = some o := y
        rw [hF] at y; cases y
      · have y : H c = none := y
        exact absurd y hH
      · exact y.elim
  have set_ : ∀ (i : Nat), (∃ d, (wback ks zs ρ)[i]? = some (some d)) → ∃ d, ρ[i]? = some (some d) := fun i ⟨d, e⟩ => by
    by_cases hi : some i ∈ ks
    · obtain ⟨j, hj⟩ := List.mem_iff_getElem?.mp hi
      obtain ⟨_, d, _, _, _, _, er⟩ := lent hj
      exact ⟨d, er⟩
    · rw [wback_out hi] at e; exact ⟨d, e⟩
  have slot : ∀ {i : Nat} {c : Addr}, Held S σ H' (wback ks zs ρ) i c → Held S σ H ρ i c := fun {i c} ⟨k, hd, a, e1, h⟩ => by
    refine ⟨k, set_ i hd, a, e1, ?_⟩
    rcases h with h | ⟨dp, xs, e2, m⟩
    · exact .inl h
    · by_cases hi : some i ∈ ks
      · obtain ⟨j, hj⟩ := List.mem_iff_getElem?.mp hi
        rw [deep_of1 (own_of hj)] at dp; cases dp
      · exact .inr ⟨dp, xs, by rw [← (stay hi (I.topHeld k (set_ i hd) e1)).1]; exact e2, m⟩
  refine ⟨?_, fun i c h => slot h⟩
  refine ⟨by rw [wback_len]; exact I.len, b.same, ⟨I.ext.fs.trans b.ext.fs, fun c o e n => ?_, fun c e => I.ext.st c (b.ext.st c e), fun c o e => ?_, tabs_keep I.ext.tb fun c o e n => hs' c o e fun z => (let ⟨_, _, _, h⟩ := isO z; n (I.heldSoft h o e)), I.ext.to, fun q hq => ?_⟩, fun i d e k => ?_, fun i d e k => ?_, fun i j a h1 h2 => I.nd i j a (slot h1) (slot h2), fun i d e k => ?_, I.pin, I.ts⟩
  · refine hs' c o (I.ext.hs c o e n) fun z => ?_
    obtain ⟨j, i, _, h⟩ := isO z
    rcases I.out h with q | q
    · exact n q.1
    · rw [q] at e; cases e
  · rcases b.ext.fr c o e with q | q | q
    · exact I.ext.fr c o q
    · exact .inr (.inl (I.ext.st c q))
    · exact q.elim
  · obtain ⟨ps, ep⟩ := tabs_at I.ext.tb hq
    cases z : F' q.1 with
    | none => rfl
    | some o =>
      rcases b.ext.fr _ o z with y | y | y
      · have y : F q.1 = some o := y
        rw [I.ext.tf q hq] at y; cases y
      · have y : H q.1 = none := y
        rw [ep] at y; cases y
      · exact y.elim
  · have hi : some i ∉ ks := fun z => by
      obtain ⟨j, hj⟩ := List.mem_iff_getElem?.mp z
      rw [own_of hj] at k; cases k
    rw [wback_out hi] at e
    obtain ⟨v, e1, r⟩ := I.sh i d e k
    exact ⟨v, e1, r.up b.ext.fs⟩
  · by_cases hi : some i ∈ ks
    · obtain ⟨j, hj⟩ := List.mem_iff_getElem?.mp hi
      obtain ⟨a, d0, es, h, ev, _, er⟩ := lent hj
      obtain ⟨d', eo, w⟩ := b.ow j a ((own_ks hk).mpr ⟨i, hj⟩) ev
      have hil : i < ρ.length := (List.getElem?_eq_some_iff.mp er).1
      rw [wback_in nd hj eo hil] at e
      cases e
      refine ⟨a, [], es, ⟨by simp, by rw [own_of hj]; exact ⟨rfl, w⟩⟩, fun c hc => ?_⟩
      have : c = a := by simpa using hc
      subst this
      exact I.out h
    · rw [wback_out hi] at e
      obtain ⟨a, bs, e1, w, q⟩ := I.ow i d e k
      exact ⟨a, bs, e1, w.up b.ext.fs fun c hc => by
        have hh := (w.held (S := S) k e e1 c).mpr hc
        obtain ⟨s1, s2⟩ := stay hi hh
        exact ⟨s2, fun o z => by rw [s1]; exact z⟩, q⟩
  · have hi : some i ∉ ks := fun z => by
      obtain ⟨j, hj⟩ := List.mem_iff_getElem?.mp z
      rw [own_of hj] at k; cases k
    rw [wback_out hi] at e
    obtain ⟨l, kk, c, c', xs, x', f1, f2, f3, f4, f5, f6, f7, f8⟩ := I.al i d e k
    have hl : some l ∉ ks := fun z => by
      obtain ⟨j, hj⟩ := List.mem_iff_getElem?.mp z
      rw [deep_of1 (own_of hj)] at f2; cases f2
    exact ⟨l, kk, c, c', xs, x', f1, f2, f3, by rw [wback_out hl]; exact f4, f5, by rw [(stay hl (I.topHeld (own_of2 (deep_knd f2)) ⟨x', f4⟩ f5)).1]; exact f6, f7, f8⟩
theorem call_back {ks : List (Option Nat)} {vs : List V} {ds as : List D} {F' H' : Hp} {zs : Ev} (I : SInv K S B σ F H ρ) (hA : ArgL K σ F ks vs ds) (hr : resolve ρ ks ds = some as) (hk : os = ks.map Option.isSome) (ho : ks.all (fun k => k.all (fun i => knd S i == 1)) = true) (nd : (ks.filterMap id).Nodup)
    (b : Back K (sgOf os) (callB os vs as F H) vs F' H' zs) : SInv K S B σ F' H' (wback ks zs ρ) := (call_back2 I hA hr hk ho nd b).1
end
section
variable {X : Cx} {W : WX} {S : Sg} {os : List Bool} {pos p : Pos} {e : Expr} {es : List Expr} {ks : List (Option Nat)} {ms : Ev → Out (List D)} {k : Nat} {f : Addr} {fd : FuncData} {ps : List Str} {x : Str} {m : List D → Out D}
theorem me_call (Fn : FnQ gq X.prog X.w X.K X.mg X.base k f fd ps (spM X.K X.mg os m)) (hr : RoomQ gq k X.A) (hg : Gl X x) (hm : X.mg x = some (.ref f)) (hk : PySem.W.keepIn X.K (.ref f) = true) (hb : Binds X.K fd ps []) (tk : Takes X W)
    (ha : MAc X W S (e :: es) ks ms) (h1 : os = ks.map Option.isSome) (h3 : ks.all (fun k => k.all (fun i => knd S i == 1)) = true) (h4 : (ks.filterMap id).Nodup) (hdb : (x == ("__debug__" : Str)) = false := by decide) (he : starEach (e :: es) X.env = (false, eval e X.env) :: starEach es X.env := by rfl) (hpl : (backTo pos (starEach es X.env)).any (·.1) = false := by rfl) :
    ME X W S (.Call (.Name x p) (e :: es) [] pos) (mCallD m ks ms) := by
  obtain ⟨t, pt, q⟩ := ha.ex
  refine ⟨_, pe_callG Fn hr hg hm hk hb (fun σ => passAt tk σ) pt hdb he hpl, fun B F H σ ρ Q I h => ?_⟩
  refine q B F H σ ρ _ I ((Sat.bind h).mono (fun ds ρ1 h1' F1 H1 vs I1 s1 r1 => ?_) fun _ _ z => z)
  obtain ⟨as, e1, h5⟩ := sat_of (Sat.bind h1')
  obtain ⟨hl, J⟩ := call_start I1 r1 e1 h1 h3 h4
  refine ⟨_, F1, as, hl, J, ?_⟩
  cases e2 : m as with
  | bad => rw [e2] at h5; exact h5.elim
  | ok d os =>
    rw [e2] at h5
    exact fun F' H' v b s' r => h5 F' H' v (call_back I1 r1 e1 h1 h3 h4 b) (s1.trans s') r
  | err c os =>
    rw [e2] at h5
    exact fun F' H' C b s' hC => h5 F' H' C (call_back I1 r1 e1 h1 h3 h4 b) (s1.trans s') hC
end
end MW
namespace MW
open PySem PySem.Spec PyProof.Rows L2
mutual
/-- no list anywhere -/
def noList : D → Bool
  | .list _ => false
  | .tuple ds => noLists ds
  | .dict ps => noListK ps
  | _ => true
def noLists : List D → Bool
  | [] => true
  | d :: ds => noList d && noLists ds
def noListK : List (D × D) → Bool
  | [] => true
  | (_, d) :: ps => noList d && noListK ps
end
section
variable {X : Cx} {pins : List (Addr × Obj)} {σ : Sts} {H : Hp} {s : Shared}
mutual
theorem Rp.reads (I : Inv X pins σ H s) : ∀ {v : V} {d : D} {u : Value}, Rp X.K H v d → RelV v u → ∃ as, Reads s.heap u d as ∧ (noList d = true → sysModules ∉ as)
  | _, _, _, .non, r => by
    cases r
    exact ⟨[], .none, fun _ => List.not_mem_nil⟩
  | _, _, _, .bl b, r => by
    cases r
    exact ⟨[], .bool b, fun _ => List.not_mem_nil⟩
  | _, _, _, .int i, r => by
    obtain ⟨t, rfl⟩ := r
    exact ⟨[], .int i t, fun _ => List.not_mem_nil⟩
  | _, _, _, .str x, r => by
    obtain ⟨t, rfl⟩ := r
    exact ⟨[], .str x t, fun _ => List.not_mem_nil⟩
  | _, _, _, .lst h rr, r => by
    cases r
    obtain ⟨its, rv, ⟨o, n, g, c, _, dt⟩, _⟩ := I.list (.inl h)
    obtain ⟨as, q, _⟩ := RpL.reads I rr rv
    exact ⟨_, .list g c dt q, fun z => by simp [noList] at z⟩
  | _, _, _, .tup h rr, r => by
    cases r
    obtain ⟨its, rv, ⟨o, g, c, n, dt⟩, _⟩ := I.tuple h.sq
    obtain ⟨as, q, k⟩ := RpL.reads I rr rv
    exact ⟨_, .tuple g c dt q, fun z => k (by simpa [noList] using z)⟩
  | _, _, _, .dct h rr, r => by
    cases r
    obtain ⟨_, hs, vs, kv, o, es, ep, g, c, dt, _, ps, _⟩ := dk_rd I.hok (.inr ⟨_, h⟩)
    obtain ⟨as, bs, q1, q2, ha, k⟩ := RpK.reads I rr kv ps
    refine ⟨_, .dict g c.1 dt q1 q2, fun z => ?_⟩
    have hb := k (by simpa [noList] using z)
    simp only [List.cons_append, List.mem_cons, List.mem_append, not_or]
    exact ⟨fun e => by rw [← e] at hs; simp at hs, by rw [ha]; exact List.not_mem_nil, hb⟩
theorem RpL.reads (I : Inv X pins σ H s) : ∀ {vs : List V} {ds : List D} {us : List Value}, RpL X.K H vs ds → Vals vs us → ∃ as, ReadsAll s.heap us ds as ∧ (noLists ds = true → sysModules ∉ as)
  | _, _, _, .nil, r => by
    cases r
    exact ⟨[], .nil, fun _ => List.not_mem_nil⟩
  | _, _, _, .cons h rr, r => by
    cases r with
    | cons r1 r2 =>
      obtain ⟨as, q1, k1⟩ := Rp.reads I h r1
      obtain ⟨bs, q2, k2⟩ := RpL.reads I rr r2
      refine ⟨_, .cons q1 q2, fun z => ?_⟩
      simp only [noLists, Bool.and_eq_true] at z
      simp only [List.mem_append, not_or]
      exact ⟨k1 z.1, k2 z.2⟩
theorem RpK.reads (I : Inv X pins σ H s) : ∀ {kvs : List (L2.Key × V)} {ps : List (D × D)} {vs : List (L2.Key × Value)} {es : List DictEntry}, RpK X.K H kvs ps → KV kvs vs → Pairs (mixKind X.prog X.w) es vs →
    ∃ as bs, ReadsAll s.heap (es.map (·.key)) (ps.map (·.1)) as ∧ ReadsAll s.heap (es.map (·.val)) (ps.map (·.2)) bs ∧ as = [] ∧ (noListK ps = true → sysModules ∉ bs)
  | _, _, _, _, .nil, kv, p => by
    cases kv
    cases p
    exact ⟨[], [], .nil, .nil, rfl, fun _ => List.not_mem_nil⟩
  | _, _, _, _, .cons h rr, kv, p => by
    cases kv with
    | cons r1 r2 =>
      cases p with
      | cons p1 p2 p3 =>
        obtain ⟨e1, r1⟩ := r1
        obtain ⟨as, bs, q1, q2, ha, k⟩ := RpK.reads I rr r2 p3
        obtain ⟨cs, q3, k3⟩ := Rp.reads I h (p2 ▸ r1)
        rename_i k0 v0 _ _ _ kv0 _ en _
        have key : Reads s.heap en.key (keyD k0) [] := by
          have e1 : k0 = kv0.1 := e1
          rw [← e1] at p1
          rcases keyIs_shape p1 with ⟨i, t, z1, z2⟩ | ⟨x, t, z1, z2⟩
          · rw [z1, z2]; exact .int i t
          · rw [z1, z2]; exact .str x t
        refine ⟨_, _, .cons key q1, .cons q3 q2, by rw [ha]; rfl, fun z => ?_⟩
        simp only [noListK, Bool.and_eq_true] at z
        simp only [List.mem_append, not_or]
        exact ⟨k3 z.1, k z.2⟩
end
end
def plainB (d : D) : Bool := d.plain && decide (d.depth ≤ 64)
end MW
namespace MW
open PySem PySem.Spec PyProof.Rows L2
mutual
theorem Rp.dp {K : Fg} {H : Hp} : ∀ {v : V} {d : D}, Rp K H v d → d.canLay0 = true → Dp K H v d
  | _, _, .non, _ => .non
  | _, _, .bl b, _ => .bl b
  | _, _, .int i, _ => .int i
  | _, _, .str x, _ => .str x
  | _, _, .lst h r, c => .lst (.inl h) (RpL.dp r (by simpa [PyData.canLay0] using c))
  | _, _, .tup h r, c => .tup h.sq (RpL.dp r (by simpa [PyData.canLay0] using c))
  | _, _, .dct h r, c => by simp [PyData.canLay0] at c
theorem RpL.dp {K : Fg} {H : Hp} : ∀ {vs : List V} {ds : List D}, RpL K H vs ds → PyData.canLayAll0 ds = true → DpAll K H vs ds
  | _, _, .nil, _ => .nil
  | _, _, .cons h r, c => by
    simp only [PyData.canLayAll0, Bool.and_eq_true] at c
    exact .cons (Rp.dp h c.1) (RpL.dp r c.2)
end
section
variable {X : Cx}
def rCatR : R2 := fun x y H Q => ∃ l b xs zs, x = .ref l ∧ y = .ref b ∧ Rd H l (.lst xs) ∧ Rd H b (.lst zs) ∧ xs.length + zs.length ≤ sizeLine ∧ ∀ p, H p = none → Q (.ref p) (upd H p (.lst (xs ++ zs)))
theorem op_catR : OpR X (binaryOp .Add) rCatR := by
  intro pins s σ H x y v u Q I rx ry h
  obtain ⟨l, b, xs, zs, rfl, rfl, hH, hB, hz, q⟩ := h
  cases rx
  cases ry
  obtain ⟨z, its, n, r, e⟩ := hH.ok I.hok
  obtain ⟨z2, its2, n2, r2, e2⟩ := hB.ok I.hok
  have hl := r.length
  have hl2 := r2.length
  refine PySem.P.add_list e e2 ?_ (by rw [List.size_toArray, List.size_toArray]; omega)
  have ea : its.toArray ++ its2.toArray = (its ++ its2).toArray := by simp
  rw [ea]
  exact ⟨.ref _, _, I.lnew (t' := s.toks) (r.append r2) (by rw [List.length_append]; omega), rfl, q _ I.fresh⟩
def rRepR : R2 := fun x y H Q => ∃ l k xs, x = .ref l ∧ y = .int k ∧ Rd H l (.lst xs) ∧ -(2 ^ 63) ≤ k ∧ k < 2 ^ 63 ∧ xs.length * k.toNat ≤ sizeLine ∧
  ∀ p, H p = none → Q (.ref p) (upd H p (.lst (List.replicate k.toNat xs).flatten))
theorem op_repR : OpR X (binaryOp .Mult) rRepR := by
  intro pins s σ H x y v u Q I rx ry h
  obtain ⟨l, k, xs, rfl, rfl, hH, h1, h2, hz, q⟩ := h
  cases rx
  obtain ⟨t, rfl⟩ := ry
  obtain ⟨z, its, n, r, e⟩ := hH.ok I.hok
  have hl := r.length
  have hlen : its.toArray.size * k.toNat ≤ sizeLine := by rw [List.size_toArray, ← hl]; exact hz
  have hcap : ¬ its.toArray.size * k.toNat > (2 ^ 63 - 1) / 8 := by
    have : (sizeLine : Nat) ≤ (2 ^ 63 - 1) / 8 := by decide
    omega
  have hfit : ¬ (!Builtin.List.listFitsIndex k) = true := by
    rw [fitsIndex_both h1 h2]
    exact Bool.false_ne_true
  have hlong : ¬ Builtin.List.listTooLong (its.toArray.size * k.toNat) = true := by
    rw [notLongL hlen]
    exact Bool.false_ne_true
  have hnew : List.foldl (fun x1 x2 => x1 ++ x2) #[] (List.replicate (if its.toArray.isEmpty = true then 0 else k.toNat) its.toArray) = (List.replicate k.toNat its).flatten.toArray := by
    have f0 : ∀ m : Nat, List.foldl (fun x1 x2 => x1 ++ x2) #[] (List.replicate m its.toArray) = (List.replicate m its).flatten.toArray := fun m => by
      have := foldl_rep its m []
      rw [List.nil_append] at this
      exact this
    rw [f0]
    cases its with
    | nil => simp
    | cons a r' => rw [if_neg (by simp)]
  refine wpAny_binaryOp_repeat_ref (T := "list") (U := "int") (by decide) ⟨_, e, rfl⟩ (fun s' => typeIs_int s' k t) noFill_list_mul F.fills_int_mul F.slot_int_rmul repeat_list F.slot_int_index.lookup
    (call_meets F.slot_int_rmul (typeIs_int s k t) F.entry_int_rmul (F.args_int_rmul_2 _ _) (int___rmul___int_list k t l its.toArray n)
      ⟨e, rfl, ⟨_, e, rfl⟩, call_meets F.slot_list_mul ⟨_, e, rfl⟩ F.entry_list_mul (F.args_list_mul_2 _ _) (AutoListH.list___mul___list_int_3 l its.toArray n k t hfit hcap hlong) ⟨e, ?_⟩⟩)
  rw [hnew]
  exact ⟨.ref _, _, I.lnew (t' := s.toks) (r.rep k.toNat) (by rw [PyProof.Rows.lm_len_rep_flat, Nat.mul_comm]; exact hz), rfl, q _ I.fresh⟩
end
def gAdd : D → D → Option D
  | .int i, .int j => some (.int (i + j))
  | .list xs, .list ys => if xs.length + ys.length ≤ 16777216 then some (.list (xs ++ ys)) else none
  | .tuple xs, .tuple ys => if xs.length + ys.length ≤ 16777216 then some (.tuple (xs ++ ys)) else none
  | .str x, .str y => if x.length + y.length ≤ 16777216 then some (.str (x ++ y)) else none
  | _, _ => none
def gSub : D → D → Option D
  | .int i, .int j => some (.int (i - j))
  | _, _ => none
def gMul : D → D → Option D
  | .int i, .int j => if (-18446744073709551616 < i ∧ i < 18446744073709551616) ∨ (-18446744073709551616 < j ∧ j < 18446744073709551616) then some (.int (i * j)) else none
  | .list xs, .int k => if k ≤ 100000 ∧ -100000 ≤ k ∧ xs.length ≤ 100 then some (.list (List.replicate k.toNat xs).flatten) else none
  | _, _ => none
def gMod : D → D → Option D
  | .int i, .int j => if 0 < j then some (.int (i % j)) else none
  | _, _ => none
def gDiv : D → D → Option D
  | .int i, .int j => if 0 < j ∧ j < 1073741824 then some (.int (i / j)) else none
  | _, _ => none
def gPow : D → D → Option D
  | .int i, .int j => if 0 ≤ j ∧ j ≤ 1000000 ∧ i.natAbs < 18446744073709551616 then some (.int (i ^ j.toNat)) else none
  | _, _ => none
def gNeg : D → Option D
  | .int i => some (.int (-i))
  | _ => none
theorem RpL.rep {K : Fg} {F : Hp} {xs : List V} {ds : List D} (r : RpL K F xs ds) : ∀ n : Nat, RpL K F (List.replicate n xs).flatten (List.replicate n ds).flatten
  | 0 => .nil
  | n + 1 => by
    rw [List.replicate_succ, List.replicate_succ, List.flatten_cons, List.flatten_cons]
    exact r.app (r.rep n)
section
variable {X : Cx} {W : WX} {S : Sg} {a b : Expr} {pos : Pos} {ma mb : Ev → Out D}
def rCatM (K : Fg) : R2 := fun x y H Q => ∃ a b xs ys, x = .ref a ∧ y = .ref b ∧ SqT K H a xs ∧ SqT K H b ys ∧ xs.length + ys.length ≤ sizeLine ∧
  (xs = [] → Q (.ref b) H) ∧ (xs ≠ [] → ys = [] → Q (.ref a) H) ∧ (xs ≠ [] → ys ≠ [] → ∀ (p : Addr) (o : Obj), o.dict = none → H p = none → Q (.ref p) (upd H p (.frz o (.tup (xs ++ ys)))))
theorem op_catM : OpR X (binaryOp .Add) (rCatM X.K) := by
  intro pins s σ H x y v u Q I rx ry ⟨a, b, xs, ys, ex, ey, ha, hb, hz, q0, q1, q2⟩
  by_cases hx : xs = []
  · exact op_catA pins s σ H x y v u Q I rx ry ⟨a, b, xs, ys, ex, ey, ha, hb, hz, q0, q1, fun z => absurd hx z⟩
  by_cases hy : ys = []
  · exact op_catA pins s σ H x y v u Q I rx ry ⟨a, b, xs, ys, ex, ey, ha, hb, hz, q0, q1, fun _ z => absurd hy z⟩
  subst ex ey
  cases rx
  cases ry
  obtain ⟨us, r1, p1, _⟩ := I.tuple ha
  obtain ⟨ws, r2, p2, _⟩ := I.tuple hb
  exact HT.cat_tup p1 p2 (fun z => hx (r1.nil_iff.mp z)) (fun z => absurd (r2.nil_iff.mp z) hy) (fun _ => mkT I (r1.append r2) (by rw [List.length_append]; exact hz) (q2 hx hy)) (by rw [← r1.length, ← r2.length]; exact hz)
theorem opd_add : OpD X (fun x y H Q => rI0 (fun i j => .int (i + j)) x y H Q ∨ rCatR x y H Q ∨ rCatM X.K x y H Q ∨ ∃ i j, x = .str i ∧ y = .str j ∧ i.length + j.length ≤ sizeLine ∧ Q (.str (i ++ j)) H) gAdd := by
  intro S B F H σ ρ Q x y d e z I rx ry hz k
  have hsz := sizeLine_eq
  unfold gAdd at hz
  split at hz
  · cases hz
    exact .inl ⟨_, _, rx.int, ry.int, k.now I (.int _)⟩
  · split at hz
    · cases hz
      obtain ⟨p, xs, rfl, h1, r1⟩ := rx.lst I.same
      obtain ⟨q, ys, rfl, h2, r2⟩ := ry.lst I.same
      exact .inr (.inl ⟨p, q, xs, ys, rfl, rfl, h1, h2, by rw [r1.len, r2.len]; omega, fun p hp => k.lst I (r1.app r2) hp⟩)
    · cases hz
  · split at hz
    · cases hz
      obtain ⟨p, xs, rfl, h1, r1⟩ := rx.tup I.same
      obtain ⟨q, ys, rfl, h2, r2⟩ := ry.tup I.same
      rename_i xs' ys' hl
      have l1 := r1.len
      have l2 := r2.len
      refine .inr (.inr (.inl ⟨p, q, xs, ys, rfl, rfl, h1, h2, by omega, fun e => ?_, fun e e' => ?_, fun _ _ p o ho hp => k.tup I (r1.app r2) ho hp⟩))
      · subst e
        cases r1
        refine k.now I ?_
        rcases ry with ry | ⟨_, _, _, _, e2, _⟩
        · exact ry
        · cases e2
      · subst e'
        cases r2
        refine k.now I ?_
        rw [List.append_nil]
        rcases rx with rx | ⟨_, _, _, _, e2, _⟩
        · exact rx
        · cases e2
    · cases hz
  · split at hz
    · cases hz
      exact .inr (.inr (.inr ⟨_, _, rx.str, ry.str, by omega, k.now I (.str _)⟩))
    · cases hz
  · cases hz
theorem me_add (ha : ME X W S a ma) (hb : ME X W S b mb) : ME X W S (.BinOp a .Add b pos) (mBin gAdd ma mb) := me_op (op_add.or (op_catR.or (op_catM.or op_add_str))) opd_add ha hb
theorem opd_sub : OpD X (rI0 fun i j => .int (i - j)) gSub := by
  intro S B F H σ ρ Q x y d e z I rx ry hz k
  unfold gSub at hz
  split at hz
  · cases hz
    exact ⟨_, _, rx.int, ry.int, k.now I (.int _)⟩
  · cases hz
theorem me_sub (ha : ME X W S a ma) (hb : ME X W S b mb) : ME X W S (.BinOp a .Sub b pos) (mBin gSub ma mb) := me_op op_sub opd_sub ha hb
theorem opd_mul : OpD X (fun x y H Q => rI CMul (fun i j => .int (i * j)) x y H Q ∨ rRepR x y H Q ) gMul := by
  intro S B F H σ ρ Q x y d e z I rx ry hz k
  have hsz := sizeLine_eq
  unfold gMul at hz
  split at hz
  · split at hz
    · cases hz
      refine .inl ⟨_, _, rx.int, ry.int, ?_, k.now I (.int _)⟩
      unfold CMul
      omega
    · cases hz
  · split at hz
    · cases hz
      rename_i xs' j hj
      obtain ⟨p, xs, rfl, h1, r1⟩ := rx.lst I.same
      refine .inr ⟨p, _, xs, rfl, ry.int, h1, by omega, by omega, ?_, fun p hp => k.lst I (r1.rep _) hp⟩
      have l1 := r1.len
      have h100 : xs.length ≤ 100 := by omega
      have hk : j.toNat ≤ 100000 := by omega
      calc xs.length * j.toNat ≤ 100 * 100000 := Nat.mul_le_mul h100 hk
        _ ≤ sizeLine := by rw [hsz]; decide
    · cases hz
  · cases hz
theorem me_mul (ha : ME X W S a ma) (hb : ME X W S b mb) : ME X W S (.BinOp a .Mult b pos) (mBin gMul ma mb) := me_op (op_mul.or op_repR) opd_mul ha hb
theorem opd_mod : OpD X (rI (fun _ j => 0 < j) fun i j => .int (i % j)) gMod := by
  intro S B F H σ ρ Q x y d e z I rx ry hz k
  unfold gMod at hz
  split at hz
  · split at hz
    · cases hz
      rename_i h
      exact ⟨_, _, rx.int, ry.int, h, k.now I (.int _)⟩
    · cases hz
  · cases hz
theorem me_mod (ha : ME X W S a ma) (hb : ME X W S b mb) : ME X W S (.BinOp a .Mod b pos) (mBin gMod ma mb) := me_op op_mod opd_mod ha hb
theorem opd_div : OpD X (rI CDiv fun i j => .int (i / j)) gDiv := by
  intro S B F H σ ρ Q x y d e z I rx ry hz k
  unfold gDiv at hz
  split at hz
  · split at hz
    · cases hz
      rename_i h
      exact ⟨_, _, rx.int, ry.int, h, k.now I (.int _)⟩
    · cases hz
  · cases hz
theorem me_div (ha : ME X W S a ma) (hb : ME X W S b mb) : ME X W S (.BinOp a .FloorDiv b pos) (mBin gDiv ma mb) := me_op op_fdiv opd_div ha hb
theorem opd_pow : OpD X (rI CPow fun i j => .int (i ^ j.toNat)) gPow := by
  intro S B F H σ ρ Q x y d e z I rx ry hz k
  unfold gPow at hz
  split at hz
  · split at hz
    · cases hz
      rename_i h
      exact ⟨_, _, rx.int, ry.int, ⟨h.1, h.2.1, by have := h.2.2; omega⟩, k.now I (.int _)⟩
    · cases hz
  · cases hz
theorem me_pow (ha : ME X W S a ma) (hb : ME X W S b mb) : ME X W S (.BinOp a .Pow b pos) (mBin gPow ma mb) := me_op op_pow opd_pow ha hb
theorem opd_neg : OpD1 X (rU fun i => .int (-i)) gNeg := by
  intro S B F H σ ρ Q x d z I rx hz k
  unfold gNeg at hz
  split at hz
  · cases hz
    exact ⟨_, rx.int, k.now I (.int _)⟩
  · cases hz
theorem me_neg (ha : ME X W S a ma) : ME X W S (.UnaryOp .USub a pos) (mUn gNeg ma) := me_un un_neg opd_neg ha
/-- texts with signs of any kind -/
def sEq : D → D → Option Bool
  | .str a, .str b => some (decide (a = b))
  | _, _ => none
/-- data without dicts, texts among it -/
def pEq (d e : D) : Option Bool := if plainB d = true ∧ plainB e = true then some (PyData.eqv d e) else none
def bEq (d e : D) : Option Bool := if SeqAt.shaped d = true ∧ SeqAt.shaped e = true then some (PyData.eqv d e) else (sEq d e).or (pEq d e)
def bNe (d e : D) : Option Bool := if SeqAt.shaped d = true ∧ SeqAt.shaped e = true then some (!PyData.eqv d e) else ((sEq d e).or (pEq d e)).map not
def bLt : D → D → Option Bool
  | .int i, .int j => some (decide (i < j))
  | _, _ => none
def bLe : D → D → Option Bool
  | .int i, .int j => some (decide (i ≤ j))
  | _, _ => none
def bGt : D → D → Option Bool
  | .int i, .int j => some (decide (j < i))
  | _, _ => none
def bGe : D → D → Option Bool
  | .int i, .int j => some (decide (j ≤ i))
  | _, _ => none
def bIs : D → D → Option Bool
  | .none, .none => some true
  | _, .none => some false
  | .bool a, .bool b => some (decide (a = b))
  | _, _ => none
def bIsNot (d e : D) : Option Bool := (bIs d e).map not
def flatD : D → Bool
  | .none => true
  | .bool _ => true
  | .int _ => true
  | .str _ => true
  | _ => false
def vOf : D → V
  | .bool b => .bl b
  | .int i => .int i
  | .str x => .str x
  | _ => .non
theorem rp_flat {K : Fg} {F : Hp} {v : V} {d : D} (r : Rp K F v d) (h : flatD d = true) : v = vOf d ∧ flatV v = true := by
  cases r <;> first | exact ⟨rfl, rfl⟩ | cases h
def eqF (d e : D) : Bool := eqV (vOf d) (vOf e)
theorem rpL_flat {K : Fg} {F : Hp} : ∀ {xs : List V} {ds : List D}, RpL K F xs ds → ds.all flatD = true → xs = ds.map vOf ∧ xs.all flatV = true
  | _, _, .nil, _ => ⟨rfl, rfl⟩
  | _, _, .cons r rr, h => by
    rw [List.all_cons, Bool.and_eq_true] at h
    obtain ⟨e1, f1⟩ := rp_flat r h.1
    obtain ⟨e2, f2⟩ := rpL_flat rr h.2
    exact ⟨by rw [e1, e2]; rfl, by rw [List.all_cons, f1, f2]; rfl⟩
def bIn : D → D → Option Bool := fun d e => match e with
  | .list ds => if SeqAt.shaped d = true ∧ SeqAt.shaped (.list ds) = true then some (ds.any fun z => PyData.eqv z d) else none
  | .tuple ds => if flatD d = true ∧ ds.all flatD = true then some (ds.any fun y => eqF y d) else none
  | _ => none
def bNotIn (d e : D) : Option Bool := (bIn d e).map not
abbrev gB (g : D → D → Option Bool) : D → D → Option D := fun d e => (g d e).map PyData.bool
theorem shaped_lay {d : D} (h : SeqAt.shaped d = true) : d.canLay0 = true := by
  unfold SeqAt.shaped at h
  simp only [Bool.and_eq_true] at h
  exact h.1
def rEqP (K : Fg) : R2 := fun x y H Q => ∃ d e, Rp K H x d ∧ Rp K H y e ∧ plainB d = true ∧ plainB e = true ∧ Q (.bl (PyData.eqv d e)) H
def rNeP (K : Fg) : R2 := fun x y H Q => ∃ d e, Rp K H x d ∧ Rp K H y e ∧ plainB d = true ∧ plainB e = true ∧ Q (.bl (!PyData.eqv d e)) H
theorem plain_room {d e : D} {A : Around} (h : plainB d = true) (hu : A.units + 64 < cLine) : A.units + min d.depth e.depth < cLine := by
  unfold plainB at h
  simp only [Bool.and_eq_true, decide_eq_true_eq] at h
  omega
theorem plain_of {d : D} (h : plainB d = true) : d.plain = true := by
  unfold plainB at h
  simp only [Bool.and_eq_true] at h
  exact h.1
theorem op_eqP (hu : X.A.units + 64 < cLine) : OpR X (compareOp .Eq) (rEqP X.K) := by
  intro pins s σ H x y v u Q I rx ry h
  obtain ⟨d, e, hd, he, sd, se, q⟩ := h
  obtain ⟨as, r1, _⟩ := Rp.reads I hd rx
  obtain ⟨bs, r2, _⟩ := Rp.reads I he ry
  exact SeqAt.eq_plain r1 r2 (plain_of sd) (plain_of se) (plain_room sd hu) ⟨.bl _, H, I, rfl, q⟩
theorem op_neP (hu : X.A.units + 64 < cLine) : OpR X (compareOp .NotEq) (rNeP X.K) := by
  intro pins s σ H x y v u Q I rx ry h
  obtain ⟨d, e, hd, he, sd, se, q⟩ := h
  obtain ⟨as, r1, _⟩ := Rp.reads I hd rx
  obtain ⟨bs, r2, _⟩ := Rp.reads I he ry
  exact SeqAt.ne_plain r1 r2 (plain_of sd) (plain_of se) (plain_room sd hu) ⟨.bl _, H, I, rfl, q⟩
abbrev rEqM (K : Fg) : R2 := fun x y H Q => (rEqD K x y H Q ∨ rEq x y H Q) ∨ rEqP K x y H Q
abbrev rNeM (K : Fg) : R2 := fun x y H Q => (rNeD K x y H Q ∨ rNe x y H Q) ∨ rNeP K x y H Q
theorem op_eqM (hu : X.A.units + 64 < cLine) : OpR X (compareOp .Eq) (rEqM X.K) := ((op_eqD hu).or op_eq).or (op_eqP hu)
theorem op_neM (hu : X.A.units + 64 < cLine) : OpR X (compareOp .NotEq) (rNeM X.K) := ((op_neD hu).or op_ne).or (op_neP hu)
theorem opb_eq : OpB X (rEqM X.K) bEq := by
  intro S B F H σ ρ x y d e z Q I rx ry hz k
  unfold bEq at hz
  split at hz
  · cases hz
    rename_i h
    exact .inl (.inl ⟨d, e, (rx.full I.same).dp (shaped_lay h.1), (ry.full I.same).dp (shaped_lay h.2), h.1, h.2, k⟩)
  · rcases Option.or_eq_some_iff.mp hz with hz | ⟨_, hz⟩
    · unfold sEq at hz
      split at hz
      · cases hz
        rw [rx.str, ry.str]
        refine .inl (.inr ⟨rfl, ?_⟩)
        rename_i a b _
        rw [show decide (V.str a = V.str b) = decide (a = b) by simp]
        exact k
      · cases hz
    · unfold pEq at hz
      split at hz
      · cases hz
        rename_i h
        exact .inr ⟨d, e, rx.full I.same, ry.full I.same, h.1, h.2, k⟩
      · cases hz
theorem opb_ne : OpB X (rNeM X.K) bNe := by
  intro S B F H σ ρ x y d e z Q I rx ry hz k
  unfold bNe at hz
  split at hz
  · cases hz
    rename_i h
    exact .inl (.inl ⟨d, e, (rx.full I.same).dp (shaped_lay h.1), (ry.full I.same).dp (shaped_lay h.2), h.1, h.2, k⟩)
  · obtain ⟨z0, hy, rfl⟩ := Option.map_eq_some_iff.mp hz
    clear hz
    rcases Option.or_eq_some_iff.mp hy with hz | ⟨_, hz⟩
    · unfold sEq at hz
      split at hz
      · cases hz
        rw [rx.str, ry.str]
        refine .inl (.inr ⟨rfl, ?_⟩)
        rename_i a b _
        first
          | (rw [show decide (V.str a = V.str b) = decide (a = b) by simp]; exact k)
          | (rw [show decide (V.str a ≠ V.str b) = !decide (a = b) by simp]; exact k)
      · cases hz
    · unfold pEq at hz
      split at hz
      · cases hz
        rename_i h
        exact .inr ⟨d, e, rx.full I.same, ry.full I.same, h.1, h.2, k⟩
      · cases hz
theorem opb_lt : OpB X (rI0 fun i j => .bl (decide (i < j))) bLt := by
  intro S B F H σ ρ x y d e z Q I rx ry hz k
  unfold bLt at hz
  split at hz
  · cases hz; exact ⟨_, _, rx.int, ry.int, k⟩
  · cases hz
theorem opb_le : OpB X (rI0 fun i j => .bl (decide (i ≤ j))) bLe := by
  intro S B F H σ ρ x y d e z Q I rx ry hz k
  unfold bLe at hz
  split at hz
  · cases hz; exact ⟨_, _, rx.int, ry.int, k⟩
  · cases hz
theorem opb_gt : OpB X (rI0 fun i j => .bl (decide (j < i))) bGt := by
  intro S B F H σ ρ x y d e z Q I rx ry hz k
  unfold bGt at hz
  split at hz
  · cases hz; exact ⟨_, _, rx.int, ry.int, k⟩
  · cases hz
theorem op_le : OpR X (compareOp .LtE) (rI0 fun i j => .bl (decide (i ≤ j))) := opB0 fun _ _ _ _ _ _ _ q => le_int q
theorem op_gt : OpR X (compareOp .Gt) (rI0 fun i j => .bl (decide (j < i))) := opB0 fun _ _ _ _ _ _ _ q => gt_int q
theorem rp_non {K : Fg} {F : Hp} {v : V} {d : D} (r : Rp K F v d) : decide (v = .non) = match d with | .none => true | _ => false := by
  cases r <;> first | rfl | simp
theorem opb_is : OpB X (fun x y H Q => (y = .non ∧ Q (.bl (decide (x = .non))) H) ∨ ∃ a b, x = .bl a ∧ y = .bl b ∧ Q (.bl (decide (a = b))) H) bIs := by
  intro S B F H σ ρ x y d e z Q I rx ry hz k
  unfold bIs at hz
  split at hz
  · cases hz
    refine .inl ⟨ry.non, ?_⟩
    rw [rp_non (rx.full I.same)]
    exact k
  · cases hz
    refine .inl ⟨ry.non, ?_⟩
    rename_i hn
    rw [rp_non (rx.full I.same)]
    split
    · exact absurd rfl hn
    · exact k
  · cases hz
    exact .inr ⟨_, _, rx.bl, ry.bl, k⟩
  · cases hz
theorem opb_isNot : OpB X (fun x y H Q => (y = .non ∧ Q (.bl (!decide (x = .non))) H) ∨ ∃ a b, x = .bl a ∧ y = .bl b ∧ Q (.bl (!decide (a = b))) H) bIsNot := by
  intro S B F H σ ρ x y d e z Q I rx ry hz k
  obtain ⟨z', hz', rfl⟩ := Option.map_eq_some_iff.mp hz
  rcases opb_is S B F H σ ρ x y d e z' (fun v H' => ∃ c, v = .bl c ∧ Q (.bl (!c)) H') I rx ry hz' ⟨_, rfl, k⟩ with ⟨e1, c, e2, q⟩ | ⟨a, b, e1, e2, c, e3, q⟩
  · cases e2; exact .inl ⟨e1, q⟩
  · cases e3; exact .inr ⟨a, b, e1, e2, q⟩
theorem in_flat {K : Fg} {S : Sg} {B : Base} {F H : Hp} {σ : Sts} {ρ : Ev} {x y : V} {d : D} {ds : List D} {Q : VK} (neg : Bool) (I : SInv K S B σ F H ρ) (rx : RpS K F H x d) (ry : RpS K F H y (.tuple ds)) (h : flatD d = true ∧ ds.all flatD = true) (k : Q (.bl (if neg = true then !ds.any (fun y => eqF y d) else ds.any fun y => eqF y d)) H) : rIn K neg x y H Q := by
  obtain ⟨a, xs, rfl, h1, h2⟩ := ry.tup I.same
  have rx' : Rp K F x d := by
    rcases rx with r | ⟨a, xs, es, e1, e2, _⟩
    · exact r
    · subst e2; exact absurd h.1 (by simp [flatD])
  obtain ⟨e1, f1⟩ := rp_flat rx' h.1
  obtain ⟨e2, f2⟩ := rpL_flat h2 h.2
  refine ⟨a, xs, rfl, .inr h1, f1, f2, ?_⟩
  have : inV x xs = ds.any fun y => eqF y d := by
    rw [e1, e2]
    unfold inV
    rw [List.any_map]
    rfl
  rw [this]
  exact k
theorem op_notInM (hu : X.A.units + 65 < cLine) : OpR X (compareOp .NotIn) (fun x y H Q => rNotInD X.K x y H Q ∨ rIn X.K true x y H Q) := (op_notInD hu).or op_notIn_seq
theorem opb_notIn : OpB X (fun x y H Q => rNotInD X.K x y H Q ∨ rIn X.K true x y H Q) bNotIn := by
  intro S B F H σ ρ x y d e z Q I rx ry hz k
  obtain ⟨z', hz', rfl⟩ := Option.map_eq_some_iff.mp hz
  unfold bIn at hz'
  split at hz'
  · split at hz'
    · cases hz'
      rename_i h
      exact .inl ⟨d, _, (rx.full I.same).dp (shaped_lay h.1), (ry.full I.same).dp (shaped_lay h.2), h.1, h.2, k⟩
    · cases hz'
  · split at hz'
    · cases hz'
      rename_i h
      exact .inr (in_flat true I rx ry h k)
    · cases hz'
  · cases hz'
end
end MW
namespace MW
open PySem PySem.Spec PyProof.Rows L2
section
variable {K : Fg} {S : Sg} {B : Base} {σ : Sts} {F H F' H' : Hp} {ρ : Ev}
theorem OwLs.app {bs cs : List Addr} {ds es : List D} (h : OwLs K F H bs ds) (h' : OwLs K F H cs es) : OwLs K F H (bs ++ cs) (ds ++ es) := by
  induction bs generalizing ds with
  | nil => cases h; exact h'
  | cons b bs ih => cases h with | cons h r => exact .cons h (ih r)
theorem OwLs.set {bs : List Addr} {ds : List D} {n : Nat} {b : Addr} {xs : List V} {es : List D} (h : OwLs K F H bs ds) (nd : bs.Nodup) (eb : bs[n]? = some b) (r : RpL K F xs es) : OwLs K F (upd H b (.lst xs)) bs (ds.set n (.list es)) := by
  induction bs generalizing ds n with
  | nil => cases h; exact .nil
  | cons c cs ih =>
    cases h with
    | cons w h =>
      obtain ⟨nc, nd'⟩ := List.nodup_cons.mp nd
      cases n with
      | zero =>
        simp at eb
        subst eb
        refine .cons ?_ (h.up (Same.refl _) fun c' hc => ?_)
        · obtain ⟨_, _, _, f, _, _⟩ := w
          exact ⟨xs, es, rfl, f, upd_same, r⟩
        · have hne : c' ≠ c := fun z => nc (z ▸ hc)
          obtain ⟨k, hk⟩ := List.mem_iff_getElem?.mp hc
          obtain ⟨_, _, _, _, _, f, _, _⟩ := h.gets hk
          exact ⟨f, fun o q => by rw [upd_ne hne]; exact q⟩
      | succ n =>
        have eb' : cs[n]? = some b := by simpa using eb
        have hb : b ∈ cs := List.mem_of_getElem? eb'
        have hne : c ≠ b := fun z => nc (z ▸ hb)
        refine .cons (w.up (Same.refl _) ?_ fun o q => by rw [upd_ne hne]; exact q) (ih h nd' eb')
        obtain ⟨_, _, _, f, _, _⟩ := w
        exact f
end
def tML (K : Fg) (mg : Str → Option Value) (W : WX) (S : Sg) (m : Ev → Out (List D)) : TE := fun σ H Q => ∃ B F ρ, SInv K S B σ F H ρ ∧ Sat (m ρ) (LKo K S B σ F Q) (fun c ρ' => ∀ F' H' C, SInv K S B σ F' H' ρ' → Same F F' → mg c = some (.ref C) → W (.ref C) none σ H')
theorem ML.run {X : Cx} {W : WX} {S : Sg} {e : Expr} {m : Ev → Out (List D)} (h : ML X W S e m) : PE X e (tML X.K X.mg W S m) := by
  obtain ⟨t, p, q⟩ := h.ex
  exact ⟨fun pins s σ H Q I ⟨B, F, ρ, J, z⟩ => p.run pins s σ H Q I (q B F H σ ρ Q J z)⟩
end MW
namespace MW
open PySem PySem.Spec PyProof.Rows L2
section
variable {X : Cx} {W : WX} {S : Sg} {pos : Pos}
def gIx : D → D → Option D
  | .list ds, .int i => atI ds i
  | .tuple ds, .int i => atI ds i
  | _, _ => none
theorem atI_rp {K : Fg} {F : Hp} {xs : List V} {ds : List D} {i : Int} {d : D} (r : RpL K F xs ds) (e : atI ds i = some d) : ∃ v, atI xs i = some v ∧ Rp K F v d := by
  unfold atI at e ⊢
  rw [r.len]
  obtain ⟨j, e1, e2⟩ := Option.bind_eq_some_iff.mp e
  obtain ⟨v, e3, q⟩ := r.get e2
  exact ⟨v, by rw [e1]; exact e3, q⟩
end
end MW
namespace MW
open PySem PySem.Spec PyProof.Rows L2
section
variable {X : Cx} {W : WX} {S : Sg} {a b c : Expr} {pos : Pos} {ma mb mc : Ev → Out D}
theorem opd_ix : OpD X (rIx X.K) gIx := by
  intro S B F H σ ρ Q x y d e z I rx ry hz k
  unfold gIx at hz
  split at hz
  · obtain ⟨p, xs, rfl, h1, r1⟩ := rx.lst I.same
    obtain ⟨v, e1, rv⟩ := atI_rp r1 hz
    exact .inl ⟨p, xs, _, v, rfl, ry.int, .inl h1, e1, k.now I rv⟩
  · obtain ⟨p, xs, rfl, h1, r1⟩ := rx.tup I.same
    obtain ⟨v, e1, rv⟩ := atI_rp r1 hz
    exact .inr (.inl ⟨p, xs, _, v, rfl, ry.int, h1, e1, k.now I rv⟩)
  · cases hz
theorem me_at (ha : ME X W S a ma) (hb : ME X W S b mb) (hs : PlainIx b) : ME X W S (.Subscript a b pos) (mBin gIx ma mb) := me_ix ix_seq opd_ix ha hb hs
theorem me_atO (i : Nat) {x : Str} {p : Pos} (k : knd S i = 1) (hb : ME X W S b mb) (hs : PlainIx b) (hv : PE X (.Name x p) (tVar i)) : ME X W S (.Subscript (.Name x p) b pos) (mOwnBin gIx i mb) := me_ixO i ix_seq opd_ix k hb hs hv
theorem me_eq (hu : X.A.units + 64 < cLine) (ha : ME X W S a ma) (hb : ME X W S b mb) : ME X W S (.Compare a [.Eq] [b] pos) (mBin (gB bEq) ma mb) := me_cmp (op_eqM hu) opb_eq.opD ha hb (nomark _)
theorem me_is (ha : ME X W S a ma) (hb : ME X W S b mb) : ME X W S (.Compare a [.Is] [b] pos) (mBin (gB bIs) ma mb) := me_cmp (op_isN.or op_isBl) opb_is.opD ha hb (nomark _)
theorem mt_eq (hu : X.A.units + 64 < cLine) (ha : ME X W S a ma) (hb : ME X W S b mb) : MT X W S (.Compare a [.Eq] [b] pos) (mTest bEq ma mb) := mt_cmp (op_eqM hu) opb_eq ha hb (nomark _)
theorem mt_ne (hu : X.A.units + 64 < cLine) (ha : ME X W S a ma) (hb : ME X W S b mb) : MT X W S (.Compare a [.NotEq] [b] pos) (mTest bNe ma mb) := mt_cmp (op_neM hu) opb_ne ha hb (nomark _)
theorem mt_lt (ha : ME X W S a ma) (hb : ME X W S b mb) : MT X W S (.Compare a [.Lt] [b] pos) (mTest bLt ma mb) := mt_cmp op_lt opb_lt ha hb (nomark _)
theorem mt_gt (ha : ME X W S a ma) (hb : ME X W S b mb) : MT X W S (.Compare a [.Gt] [b] pos) (mTest bGt ma mb) := mt_cmp op_gt opb_gt ha hb (nomark _)
theorem mt_is (ha : ME X W S a ma) (hb : ME X W S b mb) : MT X W S (.Compare a [.Is] [b] pos) (mTest bIs ma mb) := mt_cmp (op_isN.or op_isBl) opb_is ha hb (nomark _)
theorem mt_isNot (ha : ME X W S a ma) (hb : ME X W S b mb) : MT X W S (.Compare a [.IsNot] [b] pos) (mTest bIsNot ma mb) := mt_cmp (op_notN.or op_notBl) opb_isNot ha hb (nomark _)
theorem mt_leLe (ha : ME X W S a ma) (hb : ME X W S b mb) (hc : ME X W S c mc) (hm : lastMarks [.LtE, .LtE] [b, c] = false := by with_unfolding_all rfl) : MT X W S (.Compare a [.LtE, .LtE] [b, c] pos) (mChainT bLe bLe ma mb mc) := mt_chain op_le op_le opb_le opb_le ha hb hc hm
theorem me_leLt (ha : ME X W S a ma) (hb : ME X W S b mb) (hc : ME X W S c mc) (hm : lastMarks [.LtE, .Lt] [b, c] = false := by with_unfolding_all rfl) : ME X W S (.Compare a [.LtE, .Lt] [b, c] pos) (mOfB (mChainT bLe bLt ma mb mc)) := me_chain op_le op_lt opb_le opb_lt ha hb hc hm
end
def gLen : List D → Option D
  | [.list ds] => some (.int ds.length)
  | [.tuple ds] => some (.int ds.length)
  | [.str x] => if x.length ≤ 16777216 then some (.int x.length) else none
  | _ => none
def intD : D → Option Int
  | .int i => some i
  | _ => none
def intsD (ds : List D) : Option (List Int) := ds.mapM intD
def boolD : D → Option Bool
  | .bool b => some b
  | _ => none
def boolsD (ds : List D) : Option (List Bool) := ds.mapM boolD
theorem intsD_eq : ∀ {ds : List D} {ns : List Int}, intsD ds = some ns → ds = ns.map .int
  | [], ns, h => by
    simp [intsD] at h
    subst h; rfl
  | d :: ds, ns, h => by
    simp only [intsD, List.mapM_cons, Option.bind_eq_bind, Option.bind_eq_some_iff] at h
    obtain ⟨i, hi, ms, hm, e⟩ := h
    cases e
    cases d <;> cases hi
    rw [List.map_cons, ← intsD_eq (show intsD ds = some ms from hm)]
theorem boolsD_eq : ∀ {ds : List D} {ns : List Bool}, boolsD ds = some ns → ds = ns.map .bool
  | [], ns, h => by
    simp [boolsD] at h
    subst h; rfl
  | d :: ds, ns, h => by
    simp only [boolsD, List.mapM_cons, Option.bind_eq_bind, Option.bind_eq_some_iff] at h
    obtain ⟨i, hi, ms, hm, e⟩ := h
    cases e
    cases d <;> cases hi
    rw [List.map_cons, ← boolsD_eq (show boolsD ds = some ms from hm)]
theorem rpL_ints {K : Fg} {F : Hp} : ∀ {xs : List V} {ns : List Int}, RpL K F xs (ns.map .int) → xs = ns.map V.int
  | _, [], h => by cases h; rfl
  | _, n :: ns, h => by
    cases h with
    | cons a r => cases a; rw [rpL_ints r]; rfl
theorem rpL_bools {K : Fg} {F : Hp} : ∀ {xs : List V} {ns : List Bool}, RpL K F xs (ns.map .bool) → xs = ns.map V.bl
  | _, [], h => by cases h; rfl
  | _, n :: ns, h => by
    cases h with
    | cons a r => cases a; rw [rpL_bools r]; rfl
def maxI : List Int → Int
  | [] => 0
  | x :: xs => xs.foldl (fun m y => if m < y then y else m) x
theorem foldl_max : ∀ (xs : List Int) (m : Int), (xs.foldl (fun m y => if m < y then y else m) m = m ∨ xs.foldl (fun m y => if m < y then y else m) m ∈ xs) ∧ m ≤ xs.foldl (fun m y => if m < y then y else m) m ∧ ∀ y ∈ xs, y ≤ xs.foldl (fun m y => if m < y then y else m) m
  | [], m => ⟨.inl rfl, Int.le_refl _, fun _ h => by cases h⟩
  | x :: xs, m => by
    have ih := foldl_max xs (if m < x then x else m)
    rw [List.foldl_cons]
    obtain ⟨h1, h2, h3⟩ := ih
    refine ⟨?_, ?_, fun y hy => ?_⟩
    · rcases h1 with h | h
      · rw [h]
        split
        · exact .inr List.mem_cons_self
        · exact .inl rfl
      · exact .inr (List.mem_cons_of_mem _ h)
    · refine Int.le_trans ?_ h2
      split <;> omega
    · rcases List.mem_cons.mp hy with z | z
      · subst z
        refine Int.le_trans ?_ h2
        split <;> omega
      · exact h3 y z
theorem maxI_mem {xs : List Int} (h : xs ≠ []) : maxI xs ∈ xs := by
  cases xs with
  | nil => exact absurd rfl h
  | cons x xs =>
    rcases (foldl_max xs x).1 with z | z
    · show xs.foldl _ x ∈ _
      rw [z]; exact List.mem_cons_self
    · exact List.mem_cons_of_mem _ z
theorem le_maxI {xs : List Int} {y : Int} (h : y ∈ xs) : y ≤ maxI xs := by
  cases xs with
  | nil => cases h
  | cons x xs =>
    rcases List.mem_cons.mp h with z | z
    · subst z; exact (foldl_max xs y).2.1
    · exact (foldl_max xs x).2.2 y z
theorem maxI_eq {xs : List Int} {m : Int} (h : m ∈ xs) (h' : ∀ y ∈ xs, y ≤ m) : m = maxI xs := by
  have h1 := le_maxI h
  have h2 := h' _ (maxI_mem (List.ne_nil_of_mem h))
  omega
def gMax : List D → Option D
  | [.int i, .int j] => some (.int (if j > i then j else i))
  | [.list ds] => (intsD ds).bind fun ns => if ns = [] then none else some (.int (maxI ns))
  | [.tuple ds] => (intsD ds).bind fun ns => if ns = [] then none else some (.int (maxI ns))
  | _ => none
def gAll : List D → Option D
  | [.list ds] => (boolsD ds).map fun ns => .bool (ns.all id)
  | _ => none
def gTupleOf : List D → Option D
  | [.list ds] => some (.tuple ds)
  | [.tuple ds] => some (.tuple ds)
  | _ => none
section
variable {X : Cx}
theorem seen1 {K : Fg} {F H : Hp} {xs : List V} {d : D} (r : RpSs K F H xs [d]) : ∃ x, xs = [x] ∧ RpS K F H x d := by
  cases r with
  | cons r rr => cases rr; exact ⟨_, rfl, r⟩
theorem seen2 {K : Fg} {F H : Hp} {xs : List V} {d e : D} (r : RpSs K F H xs [d, e]) : ∃ x y, xs = [x, y] ∧ RpS K F H x d ∧ RpS K F H y e := by
  cases r with
  | cons r rr =>
    obtain ⟨y, rfl, r'⟩ := seen1 rr
    exact ⟨_, _, rfl, r, r'⟩
theorem cd_len : CallD X (fun xs H Q => (∃ p ys, xs = [.ref p] ∧ (SqL X.K H p ys ∨ SqT X.K H p ys) ∧ Q (.int ys.length) H) ∨ (∃ z, xs = [.str z] ∧ z.length ≤ sizeLine ∧ Q (.int z.length) H) ∨ ∃ a kvs, xs = [V.ref a] ∧ H a = some (.dK kvs) ∧ Q (.int kvs.length) H) gLen := by
  intro S B F H σ ρ Q xs ds z I r hz k
  have hsz := sizeLine_eq
  unfold gLen at hz
  split at hz
  · cases hz
    obtain ⟨x, rfl, rx⟩ := seen1 r
    obtain ⟨p, ys, rfl, h1, r1⟩ := rx.lst I.same
    refine .inl ⟨p, ys, rfl, .inl (.inl h1), ?_⟩
    rw [r1.len]; exact k.now I (.int _)
  · cases hz
    obtain ⟨x, rfl, rx⟩ := seen1 r
    obtain ⟨p, ys, rfl, h1, r1⟩ := rx.tup I.same
    refine .inl ⟨p, ys, rfl, .inr h1, ?_⟩
    rw [r1.len]; exact k.now I (.int _)
  · split at hz
    · cases hz
      obtain ⟨x, rfl, rx⟩ := seen1 r
      exact .inr (.inl ⟨_, by rw [rx.str], by omega, k.now I (.int _)⟩)
    · cases hz
  · cases hz
theorem max_tup {prog : Program} {w : World} {A : Around} {E : Value → Shared → Prop} {s : Shared} {l : Addr} {its : List Value} {ns : List Int} {Q : Value → Shared → Prop} (hh : A.handled = none) (hl : s.heap.IsTuple l its.toArray) (hi : IntsAre its ns) (hne : 0 < ns.length)
    (h : ∀ h' tk M t', (∀ b o, s.heap.get? b = some o → h'.get? b = some o) → M ∈ ns → (∀ a, a ∈ ns → a ≤ M) → Q (.int M t') { s with heap := h', toks := tk }) : wpAny (model prog w) A (call (.builtin "max") [.ref l]) Q E s := by
  obtain ⟨xs, e⟩ := hi.allInts.items
  have hn : numsOf (intItems xs).toList = ns := by rw [← e]; exact hi.numsOf
  rw [nums_intItems] at hn
  subst hn
  rw [e] at hl
  have hsz : 0 < xs.size := by simpa using hne
  have hlt : l < s.heap.objs.size := by obtain ⟨_, e, _⟩ := hl; exact Heap.lt_size e
  refine call_max_walk (wpAny_pyIter_tuple hl ?_)
  refine ⟨_, _, _, _, _, _, _, rfl, Walks.tuple (A := A.in1) hh s.heap.objs.size l (Nat.ne_of_lt hlt) (intItems xs), ⟨⟨_, Heap.get?_push_size _ rfl, rfl, rfl⟩, hl.at fun o e => Heap.get?_push_of_some _ e⟩, fun b hb => ?_, by simpa [intItems] using hsz, CmpOf.ints_gt (numAt xs) (fun _ _ => intItems_at), fun v h' tk hP hk => ?_⟩
  · show b < (s.heap.push _).objs.size
    rw [Heap.size_push]
    rcases List.mem_cons.mp hb with rfl | hb
    · exact Nat.lt_succ_self _
    · rcases List.mem_cons.mp hb with rfl | hb
      · exact Nat.lt_succ_of_lt hlt
      · cases hb
  · have hv : (intItems xs)[argBest (fun i j => decide (numAt xs i > numAt xs j)) (xs.size - 1)]? = some v := by simpa [intItems] using hP
    obtain ⟨t, rfl⟩ := intItems_at hv
    obtain ⟨h1, h2⟩ := argBest_gt (numAt xs) (xs.size - 1)
    refine h h' tk _ t (fun b o e => hk b o (fun hm => ?_) (Heap.get?_push_of_some _ e)) ?_ fun a ha => ?_
    · rcases List.mem_cons.mp hm with e1 | hm
      · exact absurd (e1 ▸ Heap.lt_size e) (Nat.lt_irrefl _)
      · cases hm
    · rw [numAt_eq]; exact PySem.getD_mem (by rw [List.length_map, Array.length_toList]; omega)
    · obtain ⟨j, hj, rfl⟩ := mem_getD ha
      rw [List.length_map, Array.length_toList] at hj
      rw [← numAt_eq]; exact h2 j (by omega)
def rMaxT (K : Fg) : List V → Hp → VK → Prop := fun vs H Q => ∃ (a : Addr) (ns : List Int), vs = [V.ref a] ∧ SqT K H a (ns.map V.int) ∧ 0 < ns.length ∧ ∀ m, m ∈ ns → (∀ y, y ∈ ns → y ≤ m) → Q (.int m) H
theorem cr_maxT (hc : X.calm = true) : CallR X (.builtin "max") (rMaxT X.K) := by
  intro pins s σ H vs us Q I r h
  obtain ⟨a, ns, rfl, hs, hne, q⟩ := h
  obtain ⟨its, rv, hl, _⟩ := I.tuple hs
  rw [Vals.ref1 r]
  exact max_tup (I.ok.hd hc) hl rv.ints hne fun h' tk m t' hk h1 h2 => ⟨.int _, H, I.kept hk, ⟨_, rfl⟩, q m h1 h2⟩
theorem cd_max : CallD X (fun xs H Q => (∃ i j, xs = [.int i, .int j] ∧ Q (.int (if j > i then j else i)) H) ∨ rMax X.K xs H Q ∨ rMaxT X.K xs H Q) gMax := by
  intro S B F H σ ρ Q xs ds z I r hz k
  unfold gMax at hz
  split at hz
  · cases hz
    obtain ⟨x, y, rfl, rx, ry⟩ := seen2 r
    exact .inl ⟨_, _, by rw [rx.int, ry.int], k.now I (.int _)⟩
  · obtain ⟨ns, e, hz⟩ := Option.bind_eq_some_iff.mp hz
    split at hz
    · cases hz
    · cases hz
      rename_i hne
      obtain ⟨x, rfl, rx⟩ := seen1 r
      obtain ⟨p, ys, rfl, h1, r1⟩ := rx.lst I.same
      rw [intsD_eq e] at r1
      rw [rpL_ints r1] at h1
      refine .inr (.inl ⟨p, ns, rfl, .inl h1, List.length_pos_iff.mpr hne, fun m hm h2 => ?_⟩)
      rw [maxI_eq hm h2]
      exact k.now I (.int _)
  · obtain ⟨ns, e, hz⟩ := Option.bind_eq_some_iff.mp hz
    split at hz
    · cases hz
    · cases hz
      rename_i hne
      obtain ⟨x, rfl, rx⟩ := seen1 r
      obtain ⟨p, ys, rfl, h1, r1⟩ := rx.tup I.same
      rw [intsD_eq e] at r1
      rw [rpL_ints r1] at h1
      refine .inr (.inr ⟨p, ns, rfl, h1, List.length_pos_iff.mpr hne, fun m hm h2 => ?_⟩)
      rw [maxI_eq hm h2]
      exact k.now I (.int _)
  · cases hz
theorem cd_all : CallD X (rAll X.K) gAll := by
  intro S B F H σ ρ Q xs ds z I r hz k
  unfold gAll at hz
  split at hz
  · obtain ⟨ns, e, rfl⟩ := Option.map_eq_some_iff.mp hz
    obtain ⟨x, rfl, rx⟩ := seen1 r
    obtain ⟨p, ys, rfl, h1, r1⟩ := rx.lst I.same
    rw [boolsD_eq e] at r1
    rw [rpL_bools r1] at h1
    exact ⟨p, ns, rfl, .inl h1, k.now I (.bl _)⟩
  · cases hz
theorem call_tuple_ofM : CallR X (.type "tuple") (fun xs H Q => ∃ p ys, xs = [.ref p] ∧ ((SqL X.K H p ys ∧ ∀ (l : Addr) (o : Obj), o.dict = none → H l = none → Q (.ref l) (upd H l (.frz o (.tup ys)))) ∨ (SqT X.K H p ys ∧ Q (.ref p) H))) := by
  intro pins s σ H xs us Q I r ⟨p, ys, e, h⟩
  rcases h with ⟨hq, q⟩ | h
  · subst e
    obtain ⟨u, rfl, rx⟩ := vals1 r
    cases rx
    obtain ⟨its, rv, pl, hz⟩ := I.list hq
    have hl := rv.length
    exact call_tuple_list pl.isList (fun h' kp => mkT (s := { s with heap := h' }) (I.kept (t' := s.toks) kp) rv hz q) (by rw [List.size_toArray]; omega)
  · exact call_tuple_of pins s σ H xs us Q I r ⟨p, ys, e, .inr h⟩
theorem cd_tuple : CallD X (fun xs H Q => ∃ p ys, xs = [.ref p] ∧ ((SqL X.K H p ys ∧ ∀ (l : Addr) (o : Obj), o.dict = none → H l = none → Q (.ref l) (upd H l (.frz o (.tup ys)))) ∨ (SqT X.K H p ys ∧ Q (.ref p) H))) gTupleOf := by
  intro S B F H σ ρ Q xs ds z I r hz k
  unfold gTupleOf at hz
  split at hz
  · cases hz
    obtain ⟨x, rfl, rx⟩ := seen1 r
    obtain ⟨p, ys, rfl, h1, r1⟩ := rx.lst I.same
    exact ⟨p, ys, rfl, .inl ⟨.inl h1, fun l o ho hl => k.tup I r1 ho hl⟩⟩
  · cases hz
    obtain ⟨x, rfl, rx⟩ := seen1 r
    obtain ⟨p, ys, rfl, h1, r1⟩ := rx.tup I.same
    refine ⟨p, ys, rfl, .inr ⟨h1, ?_⟩⟩
    rcases rx with rx | ⟨_, _, _, _, e, _⟩
    · exact k.now I rx
    · cases e
  · cases hz
variable {W : WX} {S : Sg} {a e : Expr} {es : List Expr} {p pos : Pos} {ms : Ev → Out (List D)}
theorem me_len (hg : Gl X "len") (hm : X.mg "len" = none) (ha : MA X W S [e] ms) (he : starEach [e] X.env = (false, eval e X.env) :: starEach [] X.env := by rfl) (hpl : (backTo pos (starEach [] X.env)).any (·.1) = false := by rfl) : ME X W S (.Call (.Name "len" p) [e] [] pos) (mCall gLen ms) :=
  me_callV cd_len ha fun t pt => pe_callB (call_len_seq.or (call_len_str.or call_lenD)) hg hm PySem.boot_len pt (by decide) (by decide) he hpl
theorem me_max (hc : X.calm = true) (hg : Gl X "max") (hm : X.mg "max" = none) (ha : MA X W S (e :: es) ms) (hv : bootBuiltins "max" = some (.builtin "max") := by decide +kernel) (he : starEach (e :: es) X.env = (false, eval e X.env) :: starEach es X.env := by rfl) (hpl : (backTo pos (starEach es X.env)).any (·.1) = false := by rfl) : ME X W S (.Call (.Name "max" p) (e :: es) [] pos) (mCall gMax ms) :=
  me_callV cd_max ha fun t pt => pe_callB ((call_max2 hc).or ((cr_max hc).or (cr_maxT hc))) hg hm hv pt (by decide) (by decide) he hpl
theorem me_all (hc : X.calm = true) (hg : Gl X "all") (hm : X.mg "all" = none) (ha : MA X W S [e] ms) (hv : bootBuiltins "all" = some (.builtin "all") := by decide +kernel) (he : starEach [e] X.env = (false, eval e X.env) :: starEach [] X.env := by rfl) (hpl : (backTo pos (starEach [] X.env)).any (·.1) = false := by rfl) : ME X W S (.Call (.Name "all" p) [e] [] pos) (mCall gAll ms) :=
  me_callV cd_all ha fun t pt => pe_callB (cr_all hc) hg hm hv pt (by decide) (by decide) he hpl
theorem me_tuple (hg : Gl X "tuple") (hm : X.mg "tuple" = none) (ha : MA X W S [e] ms) (hv : bootBuiltins "tuple" = some (.type "tuple") := by decide +kernel) (he : starEach [e] X.env = (false, eval e X.env) :: starEach [] X.env := by rfl) (hpl : (backTo pos (starEach [] X.env)).any (·.1) = false := by rfl) : ME X W S (.Call (.Name "tuple" p) [e] [] pos) (mCall gTupleOf ms) :=
  me_callV cd_tuple ha fun t pt => pe_callTy call_tuple_ofM hg hm hv pt (by decide) (by decide) he hpl
theorem me_tupleO (i : Nat) {x : Str} {p' : Pos} (k : knd S i = 1) (hvar : PE X (.Name x p') (tVar i)) (hg : Gl X "tuple") (hm : X.mg "tuple" = none) (hv : bootBuiltins "tuple" = some (.type "tuple") := by decide +kernel) (he : starEach [.Name x p'] X.env = (false, eval (.Name x p') X.env) :: starEach [] X.env := by rfl) (hpl : (backTo pos (starEach [] X.env)).any (·.1) = false := by rfl) : ME X W S (.Call (.Name "tuple" p) [.Name x p'] [] pos) (mCallO gTupleOf i) :=
  me_callO i cd_tuple k (fun t pt => pe_callTy call_tuple_ofM hg hm hv pt (by decide) (by decide) he hpl) hvar
def tyD : D → String
  | .none => "NoneType"
  | .bool _ => "bool"
  | .int _ => "int"
  | .str _ => "str"
  | .list _ => "list"
  | .tuple _ => "tuple"
  | .dict _ => "dict"
def isD (T : String) (d : D) : Bool := tyD d == T || (tyD d == "bool" && T == "int")
theorem tyX_of {K : Fg} {F H : Hp} {v : V} {d : D} (s : Same F H) (r : Rp K F v d) : TyX K H v (.type (tyD d)) := by
  cases r with
  | non => exact .base .non
  | bl b => exact .base (.bl b)
  | int i => exact .base (.int i)
  | str x => exact .base (.str x)
  | lst h r =>
    rcases rd_same s h with h | ⟨o, h⟩
    · exact .base (.lst h)
    · exact .base (.frz h)
  | tup h r =>
    rcases sqT_same s h.sq with (h | ⟨o, h⟩) | ⟨o, _, _, h, c, _⟩
    · exact .base (.tup h)
    · exact .fTuple h
    · exact .kTuple h c
  | dct h r => exact .fDict (s _ _ h)
def mIsD (T : String) (ma : Ev → Out D) : Ev → Out D := fun ρ => (ma ρ).bind fun d ρ1 => .ok (.bool (isD T d)) ρ1
theorem me_isinst {T : String} {Tn : Str} {p2 : Pos} {ma : Ev → Out D} (hg : Gl X "isinstance") (hm : X.mg "isinstance" = none) (ha : ME X W S a ma) (hgT : Gl X Tn) (hmT : X.mg Tn = none) (hvT : bootBuiltins Tn = some (.type T)) (hkT : ∀ d : D, L2.kitB (tyD d) T = some (isD T d))
    (hv : bootBuiltins "isinstance" = some (.builtin "isinstance") := by decide +kernel) (hn : Tn ≠ "__name__" := by decide) (hdT : (Tn == ("__debug__" : Str)) = false := by decide)
    (hs : starEach [a, .Name Tn p2] X.env = (false, eval a X.env) :: starEach [.Name Tn p2] X.env := by rfl) (hs2 : starEach [.Name Tn p2] X.env = (false, eval (.Name Tn p2) X.env) :: starEach [] X.env := by rfl) (hpl : (backTo pos (starEach [.Name Tn p2] X.env)).any (·.1) = false := by rfl) : ME X W S (.Call (.Name "isinstance" p) [a, .Name Tn p2] [] pos) (mIsD T ma) := by
  obtain ⟨t, pt, q⟩ := ha.ex
  refine ⟨_, pe_callB call_isi hg hm hv (pa_cons pt (pa_cons (pe_bltn (v := .ty T) hgT hmT hvT rfl hn hdT) pa_nil hs2) hs) (by decide) (by decide) hs hpl, fun B F H σ ρ Q I h => ?_⟩
  refine q B F H σ ρ _ I ((Sat.bind h).mono (fun d ρ1 h1 F1 H1 v I1 s1 r1 => ?_) fun _ _ z => z)
  exact ⟨v, .ty T, _, _, _, rfl, .ty T, tyX_of I1.same r1, kit_ty (hkT d), h1 F1 H1 _ I1 s1 (.bl _)⟩
end
end MW
namespace MW
open PySem PySem.Calls PySem.W PySem.SeqAt PyProof.Rows
end MW
namespace MW
open PySem PySem.Spec PyProof.Rows L2
variable {gq : Bool}
section
variable {X : Cx}
variable {W : WX} {S : Sg} {a b e : Expr} {es : List Expr} {p pos : Pos} {ms : Ev → Out (List D)} {ma mb : Ev → Out D}
def mBinL (g : D → D → Option (List D)) (ma mb : Ev → Out D) : Ev → Out (List D) := fun ρ => (ma ρ).bind fun d ρ1 => (mb ρ1).bind fun e ρ2 => Out.of (g d e) ρ2
/-- list(range(..)) -/
def mListRg (ma : Ev → Out D) : Ev → Out (List D) := fun ρ => (ma ρ).bind fun d ρ1 => match d with
  | .int j => if -16777216 ≤ j ∧ j ≤ 16777216 then .ok (rangeD 0 j.toNat) ρ1 else .bad
  | _ => .bad
theorem pmk_own0 {C : Addr} {bmB : List Value} {B newId initId : String} {x : Str} {p pos : Pos} (F : ExcBaseFacts B newId initId bmB) (q : PySem.W.excIn X.K C bmB newId = true) (gC : X.mg x = some (.ref C)) (kC : PySem.W.keepIn X.K (.ref C) = true) (r : Raises X (.ref C)) (hg : Gl X x)
    (hdb : (x == ("__debug__" : Str)) = false := by decide) : PMk X (.Call (.Name x p) [] [] pos) (fun _ H Q => Q (.ref C) none H) := by
  intro pins s σ H Q I h
  refine wpAny_Call_Name_kw (ld_glob I hg gC ?_ hdb)
  refine PySem.W.callWith_K0 I.kIn kC ?_
  show wpAny _ _ (call (.ref C) []) _ _ _
  obtain ⟨bm, N, nm, qn, bs, hdct, sn, sub, ab, col, dd, k0, k1, k2, k3, k5, mN, hC, hN, hni, T⟩ := exc_obj I.kIn q
  refine wpAny_call_exc_subT F T hC hN hni (fun h' e hm => ?_) (by show 0 ≤ sizeLine; omega)
  exact mk_of I hm r h (I.hok.gone hm.new)
theorem ms_raise {C : Addr} {bmB : List Value} {B newId initId : String} {x : Str} {p pos pos' : Pos} (hc : X.calm = true) (tk : Takes X W) (F : ExcBaseFacts B newId initId bmB) (q : PySem.W.excIn X.K C bmB newId = true) (gC : X.mg x = some (.ref C)) (kC : PySem.W.keepIn X.K (.ref C) = true) (r : Raises X (.ref C)) (hg : Gl X x)
    (hdb : (x == ("__debug__" : Str)) = false := by decide) : MS X W S (.Raise (some (.Call (.Name x p) [] [] pos)) none pos') (fun ρ => .err x ρ) :=
  ⟨_, ps_raise hc tk (pmk_own0 F q gC kC r hg hdb), fun B F H σ ρ D I h => h F H σ C I (Same.refl _) gC⟩
end
def spML (K : Fg) (mg : Str → Option Value) (os : List Bool) (m : List D → Out (List D)) : Sp := fun vs H Q E => ∃ B F ds, vs.length = os.length ∧ SInv K (sgOf os) B (vs.map some) F H (ds.map some) ∧
  Sat (m ds) (fun d zs => ∀ F' H' p xs, Back K (sgOf os) B vs F' H' zs → Same F F' → F' p = none → H' p = some (.lst xs) → RpL K F' xs d → B.H p = none → Q (.ref p) H') (fun c zs => ∀ F' H' C, Back K (sgOf os) B vs F' H' zs → Same F F' → mg c = some (.ref C) → E (.ref C) none H')
/-- .. by one return; the lent lists are not touched -/
def mDefL (n : Nat) (me : Ev → Out (List D)) : List D → Out (List D) := fun ds => match me (ds.map some ++ List.replicate (n - ds.length) none) with
  | .ok d ρ => .ok d (List.replicate ds.length none)
  | .err c ρ => .err c (List.replicate ds.length none)
  | .bad => .bad
section
variable {P : Program} {w : World} {K : PySem.W.Frag} {mg : Str → Option Value} {base : Heap}
theorem def_okL {x qual : Str} {st : Stmt} {f : Addr} {fd : FuncData} {N ps : List Str} {k : Nat} (S : Sg) (os : List Bool) {e : Expr} {rp : Pos} {me : Ev → Out (List D)} (Fn : L2.Fun K x qual st f fd) (Sc : FnScope N ps (defScope st)) (hb : defBody st = [.Return (some e) rp]) (hnp : ps.length = S.np) (hos : os.length = S.np) (hno : os.all (fun b => !b) = true)
    (hks : (List.range S.np).all (fun i => knd S i == if os.getD i false = true then 1 else 0) = true)
    (hbody : ∀ (cdv : Value) (A : Around) (outer : List Env) (s : Shared) (H : Hp) (E : XK), RoomQ gq k (A.deeper (envOfC qual (defScope st) s.heap.objs.size f cdv)) →
      ML (cxOf (L2.CX P w) P w K mg base N qual (defScope st) f cdv A outer s H E) (fun c d _ H => E c d H) S e me) (hTn : S.T = [] := by rfl) :
    FnQ gq P w K mg base (k + 1) f fd ps (spML K mg os (mDefL N.length me)) := by
  refine FnQ.of Fn Sc (fun vs H Q E h => ?_) (fun cdv A outer s H vs Q E hr h => ?_)
  · obtain ⟨_, _, _, hl, _⟩ := h
    rw [hl, hnp, hos]
  · obtain ⟨B, F, ds, hl, I, hs⟩ := h
    obtain ⟨t, p, q⟩ := (hbody cdv A outer s H E hr).ex
    rw [hb]
    refine ⟨_, pss_one (ps_ret p), q B F H _ _ _ (start_sinv (N := N) hos hks (by omega) (nil_ts I hTn) I) ?_⟩
    have hd : ds.length = os.length := by
      have := I.len
      simp at this
      omega
    have nown : ∀ i, own (sgOf os) i = false := fun i => by
      rw [sgOf_own, List.getD_eq_getElem?_getD]
      cases e : os[i]? with
      | none => rfl
      | some b =>
        have := List.all_eq_true.mp hno b (List.mem_of_getElem? e)
        cases b <;> first | rfl | cases this
    have back : ∀ {F' H' : Hp} {σ' : Sts} {ρ' : Ev}, SInv K S B σ' F' H' ρ' → Back K (sgOf os) B vs F' H' (List.replicate ds.length none) := fun {F' H' σ' ρ'} J =>
      ⟨by rw [List.length_replicate, hd]; rfl, J.ext, J.same, fun i a k => by rw [nown i] at k; cases k⟩
    unfold mDefL at hs
    cases e1 : me (ds.map some ++ List.replicate (N.length - ds.length) none) with
    | bad => rw [e1] at hs; exact hs.elim
    | err c ρ' =>
      rw [e1] at hs
      exact fun F' H' C J s' hC => hs F' H' C (back J) s' hC
    | ok d ρ' =>
      rw [e1] at hs
      exact fun F' H' p xs J s' pF pH pr pB _ => hs F' H' p xs (back J) s' pF pH pr pB
end
def mCallDL (f : List D → Out (List D)) (ks : List (Option Nat)) (ms : Ev → Out (List D)) : Ev → Out (List D) := fun ρ => (ms ρ).bind fun ds ρ1 => (Out.of (resolve ρ1 ks ds) ρ1).bind fun as ρ1 => match f as with
  | .ok d os => .ok d (wback ks os ρ1)
  | .err c os => .err c (wback ks os ρ1)
  | .bad => .bad
section
variable {X : Cx} {W : WX} {S : Sg} {os : List Bool} {pos p : Pos} {e : Expr} {es : List Expr} {ks : List (Option Nat)} {ms : Ev → Out (List D)} {k : Nat} {f : Addr} {fd : FuncData} {ps : List Str} {x : Str} {m : List D → Out (List D)}
theorem ml_call (Fn : FnQ gq X.prog X.w X.K X.mg X.base k f fd ps (spML X.K X.mg os m)) (hr : RoomQ gq k X.A) (hg : Gl X x) (hm : X.mg x = some (.ref f)) (hk : PySem.W.keepIn X.K (.ref f) = true) (hb : Binds X.K fd ps []) (tk : Takes X W)
    (ha : MAc X W S (e :: es) ks ms) (h1 : os = ks.map Option.isSome) (h3 : ks.all (fun k => k.all (fun i => knd S i == 1)) = true) (h4 : (ks.filterMap id).Nodup) (hdb : (x == ("__debug__" : Str)) = false := by decide) (he : starEach (e :: es) X.env = (false, eval e X.env) :: starEach es X.env := by rfl) (hpl : (backTo pos (starEach es X.env)).any (·.1) = false := by rfl) :
    ML X W S (.Call (.Name x p) (e :: es) [] pos) (mCallDL m ks ms) := by
  obtain ⟨t, pt, q⟩ := ha.ex
  refine ⟨_, pe_callG Fn hr hg hm hk hb (fun σ => passAt tk σ) pt hdb he hpl, fun B F H σ ρ Q I h => ?_⟩
  refine q B F H σ ρ _ I ((Sat.bind h).mono (fun ds ρ1 h1' F1 H1 vs I1 s1 r1 => ?_) fun _ _ z => z)
  obtain ⟨as, e1, h5⟩ := sat_of (Sat.bind h1')
  obtain ⟨hl, J⟩ := call_start I1 r1 e1 h1 h3 h4
  refine ⟨_, F1, as, hl, J, ?_⟩
  cases e2 : m as with
  | bad => rw [e2] at h5; exact h5.elim
  | ok d os =>
    rw [e2] at h5
    refine fun F' H' p xs b s' pF pH pr pB => h5 F' H' p xs (call_back I1 r1 e1 h1 h3 h4 b) (s1.trans s') pF pH pr (I1.ext.st p pB) fun i c hh z => ?_
    subst z
    exact I1.heldSome ((call_back2 I1 r1 e1 h1 h3 h4 b).2 i c hh) pB
  | err c os =>
    rw [e2] at h5
    exact fun F' H' C b s' hC => h5 F' H' C (call_back I1 r1 e1 h1 h3 h4 b) (s1.trans s') hC
end
end MW
namespace PySem
open AutoSeq1 (wpAny_loadPart')
set_option maxHeartbeats 1000000 in
theorem mw_enumerate_newT (l : Addr) (items : Array Value) (n : Nat) (dct : Option Addr) (sl : Array (Option Value)) :
    Meets (Builtin.«enumerate.__new__» ⟨[.type "enumerate", .ref l], []⟩) (fun _ R s => s.heap.get? l = some { cls := .type "tuple", dict := dct, data := .seq items n, slots := sl } ∧
      R (.ok (.ret (.ref (s.heap.push { cls := .type "tuple_iterator", data := .fields #[.ref l, .int 0 0] }).objs.size)))
        { s with heap := (s.heap.push { cls := .type "tuple_iterator", data := .fields #[.ref l, .int 0 0] }).push { cls := .type "enumerate", data := .fields #[.none, .bool false, .ref s.heap.objs.size, rawInt 0, .none, .none] } }) :=
  .of_wp fun prog w A R s h => by
    obtain ⟨hp, g, d, tk, os⟩ := s; obtain ⟨hl, h⟩ := h
    have hsub := sub_enumerate
    have hL : Heap.IsTuple (Shared.heap ⟨hp, g, d, tk, os⟩) l items := ⟨_, hl, rfl, n, rfl⟩
    wp_walk using wpAny_loadPart' hl
    refine wpAny_stack_any fun st => wpAny_pure ?_
    split
    · rename_i c _ _ _ _ _
      cases (c == Value.type "enumerate")
      · wp_walk using wpAny_loadPart' hl, wpAny_pyIter_tuple hL
        exact ⟨_, rfl, h⟩
      · wp_walk using wpAny_loadPart' hl, wpAny_pyIter_tuple hL
        exact ⟨_, rfl, h⟩
    · wp_walk using wpAny_loadPart' hl, wpAny_pyIter_tuple hL
      exact ⟨_, rfl, h⟩
theorem mw_call_enumerate_tup {prog : Program} {w : World} {A : Around} {E : Value → Shared → Prop} {s : Shared} {l : Addr} {items : Array Value} {Q : Value → Shared → Prop} (hL : s.heap.IsTuple l items)
    (h : ∀ h', IsEnum h' (s.heap.objs.size + 1) s.heap.objs.size 0 .none → h'.IsTupleIter s.heap.objs.size l 0 → h'.objs.size = s.heap.objs.size + 2 →
      (∀ b o, s.heap.get? b = some o → h'.get? b = some o) → Q (.ref (s.heap.objs.size + 1)) { s with heap := h' }) :
    wpAny (model prog w) A (call (.type "enumerate") [.ref l]) Q E s := by
  obtain ⟨⟨c, dct, dt, sl⟩, hl, hc, n, hd⟩ := hL
  replace hc : c = .type "tuple" := hc
  replace hd : dt = .seq items n := hd
  subst hc hd
  refine callType_new F.called_enumerate (by decide) (F.typeCall_enumerate_1 _) (F.newCall_enumerate_1 _) (fun obj => F.args_object_init_2 obj _) F.entry_enumerate_new
    (mw_enumerate_newT l items n dct sl) ⟨hl, ?_⟩
  have hz : (s.heap.push { cls := .type "tuple_iterator", data := .fields #[.ref l, .int 0 0] }).objs.size = s.heap.objs.size + 1 := Heap.size_push ..
  show _ ∧ _
  rw [hz]
  have he : IsEnum ((s.heap.push { cls := .type "tuple_iterator", data := .fields #[.ref l, .int 0 0] }).push
      { cls := .type "enumerate", data := .fields #[.none, .bool false, .ref s.heap.objs.size, rawInt 0, .none, .none] }) (s.heap.objs.size + 1) s.heap.objs.size 0 .none := by
    have := Heap.get?_push_size (s.heap.push { cls := .type "tuple_iterator", data := .fields #[.ref l, .int 0 0] })
      (o := { cls := .type "enumerate", data := .fields #[.none, .bool false, .ref s.heap.objs.size, rawInt 0, .none, .none] }) rfl
    rw [hz] at this; exact this
  refine ⟨⟨_, he, rfl⟩, h _ he ⟨_, Heap.get?_push_of_some _ (Heap.get?_push_size _ rfl), rfl, rfl⟩ (by rw [Heap.size_push, hz]) fun b o x => Heap.get?_push_of_some _ (Heap.get?_push_of_some _ x)⟩
end PySem
namespace MW
open PySem PySem.Spec PyProof.Rows L2
variable {gq : Bool}
theorem hu65 {k : Nat} {A : Around} (hr : RoomQ gq k A) : A.units + 65 < cLine := by have := hr.un; omega
theorem isD_int : ∀ d : D, L2.kitB (tyD d) "int" = some (isD "int" d) := by intro d; cases d <;> (simp only [isD, tyD]; decide +kernel)
theorem isD_bool : ∀ d : D, L2.kitB (tyD d) "bool" = some (isD "bool" d) := by intro d; cases d <;> (simp only [isD, tyD]; decide +kernel)
theorem isD_str : ∀ d : D, L2.kitB (tyD d) "str" = some (isD "str" d) := by intro d; cases d <;> (simp only [isD, tyD]; decide +kernel)
theorem isD_tuple : ∀ d : D, L2.kitB (tyD d) "tuple" = some (isD "tuple" d) := by intro d; cases d <;> (simp only [isD, tyD]; decide +kernel)
def IteT (K : PySem.W.Frag) (a : Addr) : It :=
  ⟨fun i H => ∃ (xs : List V) (x : V), SqT K H a xs ∧ xs[i]? = some x, fun i H v H' => ∃ (T : Addr) (o : Obj) (x : V), v = .ref T ∧ H T = none ∧ o.dict = none ∧ H' = upd H T (.frz o (.tup [.int (i : Nat), x])) ∧ ∀ xs, SqT K H a xs → xs[i]? = some x, fun i H => ∃ xs : List V, SqT K H a xs ∧ xs.length = i⟩
theorem turn_enumT {P : Program} {w : World} {K : PySem.W.Frag} {elts : List Expr} {kk : Nat} {tpos : Pos} (a e it : Addr) :
    Turn P w K (.Tuple elts kk tpos) (IteT K a) [e, it] e (fun i h => (∃ old, IsEnum h e it ((i : Nat) : Int) old) ∧ h.IsTupleIter it a i ∧ e ≠ it ∧ a ≠ e ∧ a ≠ it) where
  mem := by simp
  obj := fun i h st b hb => by
    obtain ⟨⟨old, he⟩, ⟨o, ho, hc, hd⟩, _⟩ := st
    have e' : b = e ∨ b = it := by simpa using hb
    rcases e' with z | z
    · rw [z]; exact ⟨_, he, fun v q => nomatch q⟩
    · rw [z]; exact ⟨o, ho, fun v q => by rw [hd] at q; cases q⟩
  keep := fun i h h' st k => let ⟨⟨old, he⟩, hi, hne, h1, h2⟩ := st; ⟨⟨old, k e (by simp) _ he⟩, hi.at fun o q => k it (by simp) o q, hne, h1, h2⟩
  item := by
    intro X hP hw hK hc i pins s σ H E I hf st hg
    subst hP hw hK
    obtain ⟨⟨old, he⟩, hit, hne, hae, hai⟩ := st
    obtain ⟨xs, x, hq, hx⟩ := hg
    obtain ⟨its, rv, p, hz⟩ := I.tuple hq
    obtain ⟨u, hu, ru⟩ := rv.get hx
    have hel : e < s.heap.objs.size := Heap.lt_size he
    have hil : it < s.heap.objs.size := by obtain ⟨_, q, _⟩ := hit; exact Heap.lt_size q
    have hlt : i < its.toArray.size := by
      have := (List.getElem?_eq_some_iff.mp hu).1
      simpa using this
    refine wpAny_pyNext_enum_itemD (Draws.tuple (A := X.A.in1) (I.ok.hd hc) it a hai its.toArray) he ⟨hit, p⟩ hlt hne (by simp [hne, hae.symm]) fun x' h' tk hx' ho hst' hT hsz hk => ?_
    have hx'' : x' = u := by
      have h2 : its[i]? = some x' := by simpa using hx'
      rw [hu] at h2; exact (Option.some.inj h2).symm
    subst hx''
    refine ⟨_, rfl, wpAny_letOwnedTupleGo_enum (s := { s with heap := h', toks := tk + 1 }) ho fun h'' he' sb => ?_⟩
    let ob : Obj := { cls := .type "tuple", data := .seq #[.int i tk, x'] }
    have hT2 : h''.get? s.heap.objs.size = some ob := (sb.2 _ (Nat.ne_of_gt hel)).trans hT
    have new : ObjOk X.prog X.w (upd H s.heap.objs.size (.frz ob (.tup [.int (i : Nat), x]))) h'' s.heap.objs.size (.frz ob (.tup [.int (i : Nat), x])) :=
      ⟨hT2, by show 2 ≤ sizeLine; decide, [.int i tk, x'], .cons ⟨_, rfl⟩ (.cons ru .nil), ⟨_, hT2, rfl, _, rfl⟩⟩
    have I1 : Inv X pins σ (upd H s.heap.objs.size (.frz ob (.tup [.int (i : Nat), x]))) { s with heap := h'', toks := tk + 1 } :=
      I.turnedNew (ch := [e, it]) (fun b ob hb q => (sb.2 b (fun z => hb (by simp [z]))).trans (hk b ob (fun z => hb (by simp [z])) (fun z => hb (by simp [z])) q)) hf (Nat.le_refl _) new
    refine ⟨.ref s.heap.objs.size, _, I1, rfl, ⟨_, ob, x, rfl, I.hok.fresh (Nat.le_refl _), rfl, rfl, fun ys hy => by rw [I.tuple_inj hy hq]; exact hx⟩, ⟨⟨x', ?_⟩, hst'.1.at fun o q => (sb.2 it (Ne.symm hne)).trans q, hne, hae, hai⟩, fun b hb => ?_⟩
    · have e1 : ((i + 1 : Nat) : Int) = (i : Int) + 1 := by omega
      rw [e1]; exact he'
    · have hb' : b < s.heap.objs.size := by
        have e' : b = e ∨ b = it := by simpa using hb
        rcases e' with z | z
        · rw [z]; exact hel
        · rw [z]; exact hil
      rw [upd_ne (Nat.ne_of_lt hb')]
      exact (hf b hb).1
  done := by
    intro X hP hw hK hc i pins s σ H E I hf st hg
    subst hP hw hK
    obtain ⟨⟨old, he⟩, hit, hne, hae, hai⟩ := st
    obtain ⟨xs, hq, hx⟩ := hg
    obtain ⟨its, rv, p, hz⟩ := I.tuple hq
    obtain ⟨f0, f1, f2, f3, f4, f5⟩ := hf it (by simp)
    have hl := rv.length
    have hi : i = its.toArray.size := by rw [List.size_toArray]; omega
    subst hi
    exact wpAny_pyNext_enum_endD (Draws.tuple (A := X.A.in1) (I.ok.hd hc) it a hai its.toArray) he ⟨hit, p⟩ fun h' eb => ⟨rfl, I.turned (t' := s.toks) (fun b o hb q => eb b o hb q) f0 f1 f3 f4 f5⟩
  self := fun A i s Q E st h => let ⟨⟨_, he⟩, _⟩ := st; wpAny_pyIter_enum he h
def iEnumT (K : PySem.W.Frag) (ta : TA) : TI := fun σ H R => ta σ H fun vs H1 => ∃ a xs, vs = [.ref a] ∧ SqT K H1 a xs ∧ R (IteT K a) H1
theorem pi_enumT {X : Cx} {e : Expr} {ta : TA} {p pos tpos : Pos} {elts : List Expr} {kk : Nat} (hg : Gl X "enumerate") (hm : X.mg "enumerate" = none) (ha : PA X [e] ta) (hs : starEach [e] X.env = [(false, eval e X.env)] := by rfl) :
    PI X (.Tuple elts kk tpos) (.Call (.Name "enumerate" p) [e] [] pos) (iEnumT X.K ta) := by
  refine ⟨fun pins s σ H R I h => ?_⟩
  refine Call_ (ld_blt I hg hm boot_enumerate (PyProof.Rows.callWith_type1 (thn (ha.run pos pins s σ H _ I h) fun us s1 ⟨vs, H1, I1, r1, q1⟩ => ?_) hs rfl))
  obtain ⟨a, xs, ex, hq, q⟩ := q1
  subst ex
  cases r1 with
  | cons r rr =>
    cases rr
    cases r
    obtain ⟨its, rv, p', hz⟩ := I1.tuple hq
    have hal : a < s1.heap.objs.size := by obtain ⟨_, z, _⟩ := p'; exact Heap.lt_size z
    refine mw_call_enumerate_tup p' fun h' he hit hsz hk => wpAny_pyIter_enum he ?_
    have I2 : Inv X pins σ H1 { s1 with heap := h' } := I1.kept (t' := s1.toks) hk
    refine ⟨s1.heap.objs.size + 1, [s1.heap.objs.size + 1, s1.heap.objs.size], _, _, H1, rfl, I2, turn_enumT a (s1.heap.objs.size + 1) s1.heap.objs.size, ⟨⟨.none, he⟩, hit, Nat.succ_ne_self _, Nat.ne_of_lt (Nat.lt_succ_of_lt hal), Nat.ne_of_lt hal⟩, fun b hb => ?_, q⟩
    have e' : b = s1.heap.objs.size + 1 ∨ b = s1.heap.objs.size := by simpa using hb
    have hle : s1.heap.objs.size ≤ b := by
      rcases e' with z | z
      · rw [z]; exact Nat.le_add_right _ _
      · rw [z]; exact Nat.le_refl _
    exact I1.fpOk hle (I1.hok.fresh hle)
def IteL (K : PySem.W.Frag) (a : Addr) : It :=
  ⟨fun i H => ∃ (xs : List V) (x : V), SqL K H a xs ∧ xs[i]? = some x, fun i H v H' => ∃ (T : Addr) (o : Obj) (x : V), v = .ref T ∧ H T = none ∧ o.dict = none ∧ H' = upd H T (.frz o (.tup [.int (i : Nat), x])) ∧ ∀ xs, SqL K H a xs → xs[i]? = some x, fun i H => ∃ xs : List V, SqL K H a xs ∧ xs.length = i⟩
theorem turn_enumL {P : Program} {w : World} {K : PySem.W.Frag} {elts : List Expr} {kk : Nat} {tpos : Pos} (a e it : Addr) :
    Turn P w K (.Tuple elts kk tpos) (IteL K a) [e, it] e (fun i h => (∃ old, IsEnum h e it ((i : Nat) : Int) old) ∧ h.IsListIter it a i ∧ e ≠ it ∧ a ≠ e ∧ a ≠ it) where
  mem := by simp
  obj := fun i h st b hb => by
    obtain ⟨⟨old, he⟩, ⟨o, ho, hc, hd⟩, _⟩ := st
    have e' : b = e ∨ b = it := by simpa using hb
    rcases e' with z | z
    · rw [z]; exact ⟨_, he, fun v q => nomatch q⟩
    · rw [z]; exact ⟨o, ho, fun v q => by rw [hd] at q; cases q⟩
  keep := fun i h h' st k => let ⟨⟨old, he⟩, hi, hne, h1, h2⟩ := st; ⟨⟨old, k e (by simp) _ he⟩, hi.at fun o q => k it (by simp) o q, hne, h1, h2⟩
  item := by
    intro X hP hw hK hc i pins s σ H E I hf st hg
    subst hP hw hK
    obtain ⟨⟨old, he⟩, hit, hne, hae, hai⟩ := st
    obtain ⟨xs, x, hq, hx⟩ := hg
    obtain ⟨its, rv, p, hz⟩ := I.list hq
    obtain ⟨u, hu, ru⟩ := rv.get hx
    have hel : e < s.heap.objs.size := Heap.lt_size he
    have hil : it < s.heap.objs.size := by obtain ⟨_, q, _⟩ := hit; exact Heap.lt_size q
    have hlt : i < its.toArray.size := by
      have := (List.getElem?_eq_some_iff.mp hu).1
      simpa using this
    refine wpAny_pyNext_enum_itemD (Draws.list (A := X.A.in1) (I.ok.hd hc) it a hai its.toArray) he ⟨hit, p.isList⟩ hlt hne (by simp [hne, hae.symm]) fun x' h' tk hx' ho hst' hT hsz hk => ?_
    have hx'' : x' = u := by
      have h2 : its[i]? = some x' := by simpa using hx'
      rw [hu] at h2; exact (Option.some.inj h2).symm
    subst hx''
    refine ⟨_, rfl, wpAny_letOwnedTupleGo_enum (s := { s with heap := h', toks := tk + 1 }) ho fun h'' he' sb => ?_⟩
    let ob : Obj := { cls := .type "tuple", data := .seq #[.int i tk, x'] }
    have hT2 : h''.get? s.heap.objs.size = some ob := (sb.2 _ (Nat.ne_of_gt hel)).trans hT
    have new : ObjOk X.prog X.w (upd H s.heap.objs.size (.frz ob (.tup [.int (i : Nat), x]))) h'' s.heap.objs.size (.frz ob (.tup [.int (i : Nat), x])) :=
      ⟨hT2, by show 2 ≤ sizeLine; decide, [.int i tk, x'], .cons ⟨_, rfl⟩ (.cons ru .nil), ⟨_, hT2, rfl, _, rfl⟩⟩
    have I1 : Inv X pins σ (upd H s.heap.objs.size (.frz ob (.tup [.int (i : Nat), x]))) { s with heap := h'', toks := tk + 1 } :=
      I.turnedNew (ch := [e, it]) (fun b ob hb q => (sb.2 b (fun z => hb (by simp [z]))).trans (hk b ob (fun z => hb (by simp [z])) (fun z => hb (by simp [z])) q)) hf (Nat.le_refl _) new
    refine ⟨.ref s.heap.objs.size, _, I1, rfl, ⟨_, ob, x, rfl, I.hok.fresh (Nat.le_refl _), rfl, rfl, fun ys hy => by rw [I.list_inj hy hq]; exact hx⟩, ⟨⟨x', ?_⟩, hst'.1.at fun o q => (sb.2 it (Ne.symm hne)).trans q, hne, hae, hai⟩, fun b hb => ?_⟩
    · have e1 : ((i + 1 : Nat) : Int) = (i : Int) + 1 := by omega
      rw [e1]; exact he'
    · have hb' : b < s.heap.objs.size := by
        have e' : b = e ∨ b = it := by simpa using hb
        rcases e' with z | z
        · rw [z]; exact hel
        · rw [z]; exact hil
      rw [upd_ne (Nat.ne_of_lt hb')]
      exact (hf b hb).1
  done := by
    intro X hP hw hK hc i pins s σ H E I hf st hg
    subst hP hw hK
    obtain ⟨⟨old, he⟩, hit, hne, hae, hai⟩ := st
    obtain ⟨xs, hq, hx⟩ := hg
    obtain ⟨its, rv, p, hz⟩ := I.list hq
    obtain ⟨f0, f1, f2, f3, f4, f5⟩ := hf it (by simp)
    have hl := rv.length
    have hi : i = its.toArray.size := by rw [List.size_toArray]; omega
    subst hi
    exact wpAny_pyNext_enum_endD (Draws.list (A := X.A.in1) (I.ok.hd hc) it a hai its.toArray) he ⟨hit, p.isList⟩ fun h' eb => ⟨rfl, I.turned (t' := s.toks) (fun b o hb q => eb b o hb q) f0 f1 f3 f4 f5⟩
  self := fun A i s Q E st h => let ⟨⟨_, he⟩, _⟩ := st; wpAny_pyIter_enum he h
def iEnumL (K : PySem.W.Frag) (ta : TA) : TI := fun σ H R => ta σ H fun vs H1 => ∃ a xs, vs = [.ref a] ∧ SqL K H1 a xs ∧ R (IteL K a) H1
theorem pi_enumL {X : Cx} {e : Expr} {ta : TA} {p pos tpos : Pos} {elts : List Expr} {kk : Nat} (hg : Gl X "enumerate") (hm : X.mg "enumerate" = none) (ha : PA X [e] ta) (hs : starEach [e] X.env = [(false, eval e X.env)] := by rfl) :
    PI X (.Tuple elts kk tpos) (.Call (.Name "enumerate" p) [e] [] pos) (iEnumL X.K ta) := by
  refine ⟨fun pins s σ H R I h => ?_⟩
  refine Call_ (ld_blt I hg hm boot_enumerate (PyProof.Rows.callWith_type1 (thn (ha.run pos pins s σ H _ I h) fun us s1 ⟨vs, H1, I1, r1, q1⟩ => ?_) hs rfl))
  obtain ⟨a, xs, ex, hq, q⟩ := q1
  subst ex
  cases r1 with
  | cons r rr =>
    cases rr
    cases r
    obtain ⟨its, rv, p', hz⟩ := I1.list hq
    have hal : a < s1.heap.objs.size := by obtain ⟨_, _, z, _⟩ := p'; exact Heap.lt_size z
    refine call_enumerate_list p'.isList fun h' he hit hsz hk => wpAny_pyIter_enum he ?_
    have I2 : Inv X pins σ H1 { s1 with heap := h' } := I1.kept (t' := s1.toks) hk
    refine ⟨s1.heap.objs.size + 1, [s1.heap.objs.size + 1, s1.heap.objs.size], _, _, H1, rfl, I2, turn_enumL a (s1.heap.objs.size + 1) s1.heap.objs.size, ⟨⟨.none, he⟩, hit, Nat.succ_ne_self _, Nat.ne_of_lt (Nat.lt_succ_of_lt hal), Nat.ne_of_lt hal⟩, fun b hb => ?_, q⟩
    have e' : b = s1.heap.objs.size + 1 ∨ b = s1.heap.objs.size := by simpa using hb
    have hle : s1.heap.objs.size ≤ b := by
      rcases e' with z | z
      · rw [z]; exact Nat.le_add_right _ _
      · rw [z]; exact Nat.le_refl _
    exact I1.fpOk hle (I1.hok.fresh hle)
def enumD (ds : List D) : List D := (List.range ds.length).zipWith (fun i d => .tuple [.int (i : Nat), d]) ds
theorem enumD_len (ds : List D) : (enumD ds).length = ds.length := by simp [enumD]
theorem enumD_get {ds : List D} {i : Nat} {d : D} (h : (enumD ds)[i]? = some d) : ∃ x, ds[i]? = some x ∧ d = .tuple [.int (i : Nat), x] := by
  unfold enumD at h
  rw [List.getElem?_zipWith] at h
  cases e : ds[i]? with
  | none => rw [e] at h; cases q : (List.range ds.length)[i]? <;> rw [q] at h <;> cases h
  | some x =>
    have hi : i < ds.length := (List.getElem?_eq_some_iff.mp e).1
    rw [e, List.getElem?_range hi] at h
    exact ⟨x, rfl, (Option.some.inj h).symm⟩
def mEnum (ms : Ev → Out (List D)) : Ev → Out (List D) := fun ρ => (ms ρ).bind fun ds ρ1 => match ds with
  | [.list xs] => .ok (enumD xs) ρ1
  | [.tuple xs] => .ok (enumD xs) ρ1
  | _ => .bad
theorem walkD_enum {K : Fg} {F : Hp} {a : Addr} {xs : List V} {ds : List D} (h : Rd F a (.lst xs)) (r : RpL K F xs ds) : WalkD K F (IteL K a) (enumD ds) := by
  refine ⟨fun i H hi s => ?_, fun H s => ⟨xs, .inl (rd_same s h), by rw [enumD_len, r.len]⟩, fun i H x H' d e s y => ?_⟩
  · rw [enumD_len, ← r.len] at hi
    exact ⟨xs, xs[i], .inl (rd_same s h), by simp [hi]⟩
  · obtain ⟨d', e1, rfl⟩ := enumD_get e
    obtain ⟨v, e2, q⟩ := r.get e1
    obtain ⟨T, o, x', rfl, hT, ho, rfl, hx⟩ := y
    have := (hx xs (.inl (rd_same s h))).symm.trans e2
    cases this
    exact .inr ⟨T, o, _, _, rfl, hT, ho, rfl, .cons (.int _) (.one q), rfl⟩
theorem walkD_enumT {K : Fg} {F : Hp} {a : Addr} {xs : List V} {ds : List D} (h : SqT K F a xs) (r : RpL K F xs ds) : WalkD K F (IteT K a) (enumD ds) := by
  refine ⟨fun i H hi s => ?_, fun H s => ⟨xs, sqT_same s h, by rw [enumD_len, r.len]⟩, fun i H x H' d e s y => ?_⟩
  · rw [enumD_len, ← r.len] at hi
    exact ⟨xs, xs[i], sqT_same s h, by simp [hi]⟩
  · obtain ⟨d', e1, rfl⟩ := enumD_get e
    obtain ⟨v, e2, q⟩ := r.get e1
    obtain ⟨T, o, x', rfl, hT, ho, rfl, hx⟩ := y
    have := (hx xs (sqT_same s h)).symm.trans e2
    cases this
    exact .inr ⟨T, o, _, _, rfl, hT, ho, rfl, .cons (.int _) (.one q), rfl⟩
theorem pa_len {X : Cx} {es : List Expr} {t : TA} (h : PA X es t) : PA X es (fun σ H Q => t σ H fun vs H' => (∀ a xs, (V.ref a) ∈ vs → (SqL X.K H' a xs ∨ SqT X.K H' a xs) → xs.length ≤ sizeLine) → Q vs H') := by
  refine ⟨fun pos pins s σ H Q I hq => ?_⟩
  refine thn (h.run pos pins s σ H _ I hq) fun u s1 ⟨v, H1, I1, r, q⟩ => ⟨v, H1, I1, r, q fun a xs e z => ?_⟩
  rcases z with z | z
  · obtain ⟨_, _, _, hz⟩ := I1.list z; exact hz
  · obtain ⟨_, _, _, hz⟩ := I1.tuple z; exact hz
def tLen (K : Fg) (t : TA) : TA := fun σ H Q => t σ H fun vs H' => (∀ a xs, (V.ref a) ∈ vs → (SqL K H' a xs ∨ SqT K H' a xs) → xs.length ≤ sizeLine) → Q vs H'
theorem mi_enum {X : Cx} {W : WX} {S : Sg} {e : Expr} {p pos tpos : Pos} {elts : List Expr} {kk : Nat} {ms : Ev → Out (List D)} (hg : Gl X "enumerate") (hm : X.mg "enumerate" = none) (ha : MA X W S [e] ms) (hs : starEach [e] X.env = [(false, eval e X.env)] := by rfl) : MI X W S (.Tuple elts kk tpos) (.Call (.Name "enumerate" p) [e] [] pos) (mEnum ms) := by
  obtain ⟨t, pt, q⟩ := ha.ex
  have pt' := pa_len pt
  have hl := sizeLine_eq
  refine ⟨fun σ H R => iEnumL X.K (tLen X.K t) σ H R ∨ iEnumT X.K (tLen X.K t) σ H R, ⟨fun pins s σ H R I h => ?_⟩, fun B F H σ ρ R I h => ?_⟩
  · rcases h with h | h
    · exact (pi_enumL hg hm pt' hs).run pins s σ H R I h
    · exact (pi_enumT hg hm pt' hs).run pins s σ H R I h
  · have hb := Sat.bind h
    cases e1 : ms ρ with
    | bad => rw [e1] at hb; exact hb.elim
    | err c ρ' =>
      rw [e1] at hb
      exact .inl (q B F H σ ρ _ I (by rw [e1]; exact hb))
    | ok ds ρ1 =>
      rw [e1] at hb
      have hb : Sat (match ds with
        | [.list xs] => Out.ok (enumD xs) ρ1
        | [.tuple xs] => Out.ok (enumD xs) ρ1
        | _ => Out.bad) (IKo X.K S B σ F R) (XKo X W S B σ F) := hb
      split at hb
      · refine .inl (q B F H σ ρ _ I ?_)
        rw [e1]
        intro F1 H1 vs I1 s1 r1 bd
        cases r1 with
        | cons r1 rr =>
          cases rr
          cases r1 with
          | lst hq hr =>
            have hz := bd _ _ (by simp) (.inl (.inl (rd_same I1.same hq)))
            exact ⟨_, _, rfl, .inl (rd_same I1.same hq), hb F1 H1 _ I1 s1 (walkD_enum hq hr) (by rw [enumD_len, ← hr.len]; omega)⟩
      · refine .inr (q B F H σ ρ _ I ?_)
        rw [e1]
        intro F1 H1 vs I1 s1 r1 bd
        cases r1 with
        | cons r1 rr =>
          cases rr
          cases r1 with
          | tup hq hr =>
            have hq := hq.sq
            have hz := bd _ _ (by simp) (.inr (sqT_same I1.same hq))
            exact ⟨_, _, rfl, sqT_same I1.same hq, hb F1 H1 _ I1 s1 (walkD_enumT hq hr) (by rw [enumD_len, ← hr.len]; omega)⟩
      · exact hb.elim
end MW
namespace MW
open PySem PySem.Spec PyProof.Rows L2
def dd : List Int → List Int
  | [] => []
  | n :: ns => if n ∈ dd ns then dd ns else n :: dd ns
theorem mem_dd {x : Int} : ∀ {ns : List Int}, x ∈ dd ns ↔ x ∈ ns
  | [] => Iff.rfl
  | n :: ns => by
    unfold dd
    split
    · rename_i h
      rw [mem_dd (ns := ns), List.mem_cons]
      exact ⟨.inr, fun z => z.elim (fun e => by rw [e]; exact mem_dd.mp h) id⟩
    · rw [List.mem_cons, List.mem_cons, mem_dd (ns := ns)]
theorem dd_nodup : ∀ ns : List Int, (dd ns).Nodup
  | [] => List.nodup_nil
  | n :: ns => by
    unfold dd
    split
    · exact dd_nodup ns
    · rename_i h
      exact List.nodup_cons.mpr ⟨h, dd_nodup ns⟩
theorem sub_len : ∀ {xs ys : List Int}, xs.Nodup → (∀ n ∈ xs, n ∈ ys) → xs.length ≤ ys.length
  | [], _, _, _ => Nat.zero_le _
  | x :: xs, ys, h, s => by
    have hx := s x List.mem_cons_self
    have h1 := sub_len (xs := xs) (ys := ys.erase x) (List.nodup_cons.mp h).2 fun n hn => (List.mem_erase_of_ne (fun e => (List.nodup_cons.mp h).1 (by rw [← e]; exact hn))).mpr (s n (List.mem_cons_of_mem _ hn))
    rw [List.length_erase_of_mem hx] at h1
    have := List.length_pos_of_mem hx
    rw [List.length_cons]
    omega
theorem nodup_len {xs ys : List Int} (h : xs.Nodup) (k : ys.Nodup) (e : ∀ n, n ∈ xs ↔ n ∈ ys) : xs.length = ys.length :=
  Nat.le_antisymm (sub_len h fun n hn => (e n).mp hn) (sub_len k fun n hn => (e n).mpr hn)
def intsOf : List D → Option (List Int)
  | [] => some []
  | .int n :: ds => (intsOf ds).map (n :: ·)
  | _ => none
theorem rpL_intsD {K : Fg} {F : Hp} : ∀ {ds : List D} {xs : List V} {ns : List Int}, RpL K F xs ds → intsOf ds = some ns → xs = ns.map V.int
  | [], _, _, .nil, e => by cases e; rfl
  | d :: ds, _, _, .cons r rr, e => by
    cases d with
    | int n =>
      obtain ⟨m, e1, rfl⟩ := Option.map_eq_some_iff.mp (show (intsOf ds).map (n :: ·) = _ from e)
      cases r
      rw [rpL_intsD rr e1]; rfl
    | _ => cases e
def gLenSet : D → Option D
  | .tuple ds => (intsOf ds).bind fun ns => if ns.length ≤ 4000 then some (.int ((dd ns).length : Nat)) else none
  | _ => none
section
variable {X : Cx} {W : WX} {S : Sg} {a : Expr} {ma : Ev → Out D}
def tLenSetT (K : Fg) (ta : TE) : TE := fun σ H Q => ta σ H fun x H1 => ∃ (l : Addr) (ns : List Int), x = V.ref l ∧ SqT K H1 l (ns.map V.int) ∧ ns.length ≤ 4000 ∧ Q (.int ((dd ns).length : Nat)) H1
theorem pe_lenSetT {ta : TE} {p p2 q pos : Pos} (hc : X.calm = true) (hg : Gl X "len") (hm : X.mg "len" = none) (hg2 : Gl X "set") (hm2 : X.mg "set" = none) (ha : PE X a ta)
    (na : starEach [a] X.env = (false, eval a X.env) :: starEach [] X.env := by rfl) : PE X (.Call (.Name "len" p) [.Call (.Name "set" p2) [a] [] q] [] pos) (tLenSetT X.K ta) := by
  refine ⟨fun pins s σ H Q I h => ?_⟩
  refine Call_ (ld_blt I hg hm PySem.boot_len ?_)
  refine PyProof.Rows.callWith_builtin1 (PyProof.Rows.args_cons ?_ rfl) rfl rfl
  refine Call_ (ld_blt I hg2 hm2 PyProof.Rows.boot_set ?_)
  refine PyProof.Rows.callWith_type1 (PyProof.Rows.args_cons (thn (ha.run pins s σ H _ I h) fun v s1 ⟨x, H1, I1, r1, q1⟩ => PyProof.Rows.args_nil ?_) na) na rfl
  obtain ⟨l, ns, rfl, hq, h1, q1⟩ := q1
  cases r1
  obtain ⟨its, r, pl, hz⟩ := I1.tuple hq
  refine call_set_tupI ns (I1.ok.hd hc) pl (by simpa using r.ints) (by unfold scanBound; omega) fun h' tk c hS hle hk => ?_
  refine PyProof.Rows.args_nil ?_
  obtain ⟨o, es, ep, t, ho, hex, hd, _, hnd, hk2, _, hf, hn, _⟩ := hS
  have I2 : Inv X pins σ H1 { s1 with heap := h', toks := tk } := I1.kept hk
  have e : es.size = (dd ns).length := by
    have := nodup_len hnd (dd_nodup ns) fun k => (hk2 k).symm.trans (by rw [mem_dd]; exact decide_eq_true_iff)
    simpa using this
  refine call_len_set ho hex hd hf (by rw [hn] <;> omega) ⟨.int ((dd ns).length : Nat), H1, I2.tok _, ⟨_, by rw [e]⟩, q1⟩
theorem me_lenSet {p p2 q pos : Pos} (hc : X.calm = true) (hg : Gl X "len") (hm : X.mg "len" = none) (hg2 : Gl X "set") (hm2 : X.mg "set" = none) (ha : ME X W S a ma)
    (na : starEach [a] X.env = (false, eval a X.env) :: starEach [] X.env := by rfl) : ME X W S (.Call (.Name "len" p) [.Call (.Name "set" p2) [a] [] q] [] pos) (mUn gLenSet ma) := by
  obtain ⟨t, pt, k⟩ := ha.ex
  refine ⟨_, pe_lenSetT hc hg hm hg2 hm2 pt na, fun B F H σ ρ Q I h => ?_⟩
  refine k B F H σ ρ _ I (h.bind.mono (fun d ρ1 h1 F1 H1 x I1 s1 r1 => ?_) fun _ _ z => z)
  obtain ⟨z, hz, h3⟩ := sat_of h1
  unfold gLenSet at hz
  split at hz
  · obtain ⟨ns, e1, e2⟩ := Option.bind_eq_some_iff.mp hz
    split at e2
    · rename_i hl
      cases e2
      cases r1 with
      | tup hq hr =>
        have e := rpL_intsD hr e1
        subst e
        exact ⟨_, ns, rfl, sqT_same I1.same hq.sq, hl, h3 F1 H1 _ I1 s1 (.int _)⟩
    · cases e2
  · cases hz
end
end MW
namespace MW
open PySem PySem.Spec PyProof.Rows L2
def whole {α : Type} (xs : List α) (lo hi : Option Int) : Prop := HT.sIx xs.length 0 lo = 0 ∧ HT.sIx xs.length xs.length hi = xs.length
def rSlM (K : Fg) : V → Option Int → Option Int → Hp → VK → Prop := fun x lo hi H Q => ∃ a xs, x = .ref a ∧ SqT K H a xs ∧ (whole xs lo hi → Q (.ref a) H) ∧
  (¬ whole xs lo hi → ∀ (p : Addr) (o : Obj), o.dict = none → H p = none → Q (.ref p) (upd H p (.frz o (.tup (cutV xs lo hi)))))
section
variable {X : Cx}
theorem sl_tupM : SlR X (rSlM X.K) := by
  intro pins s σ H x v vl vu lo hi sl Q I rx hs pl pu ⟨a, xs, ex, hx, q1, q2⟩
  by_cases hw : whole xs lo hi
  · exact sl_tupA pins s σ H x v vl vu lo hi sl Q I rx hs pl pu ⟨a, xs, ex, hx, q1, fun z => absurd hw z⟩
  subst ex
  cases rx
  obtain ⟨its, r, ht, hz⟩ := I.tuple hx
  have hn : its.toArray.size = xs.length := by rw [List.size_toArray, r.length]
  refine ⟨"tuple", _, PyProof.Rows.slot_tuple_getitem.lookup, ht.typeIs, HT.getItem_tuple_cut ht hs pl pu (by rw [hn]; exact hw) ?_ (by rw [hn]; exact hz)⟩
  rw [hn]
  exact mkT I ((r.drop _).take _) (Nat.le_trans (cutV_length xs lo hi) hz) (q2 hw)
end
def cutD (ds : List D) (lo hi : Option Int) : List D := (ds.drop (HT.sIx ds.length 0 lo)).take (HT.sIx ds.length ds.length hi - HT.sIx ds.length 0 lo)
theorem RpL.cut {K : Fg} {F : Hp} {xs : List V} {ds : List D} (r : RpL K F xs ds) (lo hi : Option Int) : RpL K F (cutV xs lo hi) (cutD ds lo hi) := by
  unfold cutV cutD
  rw [r.len]
  exact RpL.take _ (RpL.drop _ r)
theorem cutD_whole {ds : List D} {lo hi : Option Int} (h : whole ds lo hi) : cutD ds lo hi = ds := by
  unfold cutD
  rw [h.1, h.2, List.drop_zero, Nat.sub_zero, List.take_length]
abbrev OKo (K : Fg) (S : Sg) (B : Base) (σ : Sts) (F : Hp) (R : Option Int → Hp → Prop) : Option Int → Ev → Prop := fun o ρ1 => ∀ F1 H1, SInv K S B σ F1 H1 ρ1 → Same F F1 → R o H1
structure MO (X : Cx) (W : WX) (S : Sg) (oe : Option Expr) (m : Ev → Out (Option Int)) : Prop where
  ex : ∃ t : TO, PO X oe t ∧ ∀ B F H σ ρ R, SInv X.K S B σ F H ρ → Sat (m ρ) (OKo X.K S B σ F R) (XKo X W S B σ F) → t σ H R
def mNoP : Ev → Out (Option Int) := fun ρ => .ok none ρ
def mPart (ma : Ev → Out D) : Ev → Out (Option Int) := fun ρ => (ma ρ).bind fun d ρ1 => match d with
  | .int i => .ok (some i) ρ1
  | _ => .bad
def mSl (ma : Ev → Out D) (ml mh : Ev → Out (Option Int)) : Ev → Out D := fun ρ => (ma ρ).bind fun d ρ1 => (ml ρ1).bind fun lo ρ2 => (mh ρ2).bind fun hi ρ3 => match d with
  | .tuple ds => .ok (.tuple (cutD ds lo hi)) ρ3
  | .list ds => .ok (.list (cutD ds lo hi)) ρ3
  | _ => .bad
section
variable {X : Cx} {W : WX} {S : Sg} {a : Expr} {ma : Ev → Out D} {lo hi : Option Expr} {ml mh : Ev → Out (Option Int)} {pos p2 : Pos}
theorem mo_none : MO X W S none mNoP := ⟨_, po_none, fun B F H σ ρ R I h => h F H I (Same.refl _)⟩
theorem mo_some (h : ME X W S a ma) : MO X W S (some a) (mPart ma) := by
  obtain ⟨t, p, q⟩ := h.ex
  refine ⟨_, po_some p, fun B F H σ ρ R I hh => q B F H σ ρ _ I ((Sat.bind hh).mono (fun d ρ1 h1 F1 H1 x I1 s1 r1 => ?_) fun _ _ z => z)⟩
  have h1 : Sat (match d with
    | .int i => .ok (some i) ρ1
    | _ => .bad) (OKo X.K S B σ F R) (XKo X W S B σ F) := h1
  split at h1
  · cases r1; exact ⟨_, rfl, h1 F1 H1 I1 s1⟩
  · exact h1.elim
theorem me_sl (ha : ME X W S a ma) (hl : MO X W S lo ml) (hh : MO X W S hi mh) : ME X W S (.Subscript a (.Slice lo hi none p2) pos) (mSl ma ml mh) := by
  obtain ⟨t, p, q⟩ := ha.ex
  obtain ⟨tl, pl, ql⟩ := hl.ex
  obtain ⟨th, ph, qh⟩ := hh.ex
  refine ⟨_, pe_slice (sl_tupM.or sl_list) p pl ph, fun B F H σ ρ Q I h => ?_⟩
  refine q B F H σ ρ _ I ((Sat.bind h).mono (fun d ρ1 h1 F1 H1 x I1 s1 r1 => ?_) fun _ _ z => z)
  refine ql B F1 H1 σ ρ1 _ I1 ((Sat.bind h1).mono (fun l ρ2 h2 F2 H2 I2 s2 => ?_) fun _ _ z => XKo.up s1 z)
  refine qh B F2 H2 σ ρ2 _ I2 ((Sat.bind h2).mono (fun u ρ3 h3 F3 H3 I3 s3 => ?_) fun _ _ z => XKo.up (s1.trans s2) z)
  have h3 : Sat (match d with
    | .tuple ds => .ok (.tuple (cutD ds l u)) ρ3
    | .list ds => .ok (.list (cutD ds l u)) ρ3
    | _ => .bad) (EKo X.K S B σ F Q) (XKo X W S B σ F) := h3
  have s := s2.trans s3
  split at h3
  · rename_i ds _
    cases r1 with
    | tup hq hr =>
      have hr3 := hr.up s
      refine .inl ⟨_, _, rfl, sqT_same (s.trans I3.same) hq.sq, fun hw => ?_, fun hw p o ho hp => ?_⟩
      · have hw2 : whole ds l u := by unfold whole at hw ⊢; rw [hr.len] at hw; exact hw
        have := h3 F3 H3 _ I3 (s1.trans s) (Rp.tup (sqM_same s hq) (by rw [cutD_whole hw2]; exact hr3))
        exact this
      · exact (EKo.up (s1.trans s) h3).tup I3 (hr3.cut l u) ho hp
  · cases r1 with
    | lst hq hr => exact .inr ⟨_, _, rfl, .inl (rd_same (s.trans I3.same) hq), fun p hp => (EKo.up (s1.trans s) h3).lst I3 ((hr.up s).cut l u) hp⟩
  · exact h3.elim
end
end MW
namespace MW
open PySem PySem.Spec PyProof.Rows L2
section
variable {K : Fg} {S : Sg} {B : Base} {σ : Sts} {F H : Hp} {ρ : Ev} {vs : List Nat}
theorem SInv.forget (I : SInv K S B σ F H ρ) (hv : ∀ i ∈ vs, own S i = false) : SInv K S B σ F H (wipeE ρ vs) := by
  refine I.weak (wipeE_len vs) (fun i d e => (wipeE_at e).1) fun x j d d' kx ex ax ej => ?_
  have hx := (wipeE_at ex).1
  obtain ⟨j', _, _, _, _, _, f1, f2, _⟩ := I.al x d hx kx
  rw [ax] at f1
  cases f1
  have hj : j ∉ vs := fun z => by
    have := hv j z
    rw [own_of2 (deep_knd f2)] at this
    cases this
  have : ∀ us : List Nat, j ∉ us → (wipeE ρ us)[j]? = ρ[j]? := by
    intro us
    induction us with
    | nil => intro _; rfl
    | cons u us ih =>
      intro h
      show ((wipeE ρ us).set u none)[j]? = _
      rw [List.getElem?_set_ne (fun z => h (by rw [z]; exact List.mem_cons_self))]
      exact ih fun z => h (List.mem_cons_of_mem _ z)
  rw [this vs hj]
  exact ej
end
end MW
namespace MW
open PySem PySem.Spec PyProof.Rows L2
end MW
namespace MW
open PySem PySem.Spec PyProof.Rows L2
def tMI (K : Fg) (mg : Str → Option Value) (W : WX) (S : Sg) (mi : Ev → Out (List D)) : TI := fun σ H R => ∃ B F ρ, SInv K S B σ F H ρ ∧ Sat (mi ρ) (IKo K S B σ F R) (fun c ρ' => ∀ F' H' C, SInv K S B σ F' H' ρ' → Same F F' → mg c = some (.ref C) → W (.ref C) none σ H')
theorem MI.run {X : Cx} {W : WX} {S : Sg} {tg iter : Expr} {mi : Ev → Out (List D)} (h : MI X W S tg iter mi) : PI X tg iter (tMI X.K X.mg W S mi) := by
  obtain ⟨t, p, q⟩ := h.ex
  exact ⟨fun pins s σ H R I ⟨B, F, ρ, J, z⟩ => p.run pins s σ H R I (q B F H σ ρ R J z)⟩
theorem wipe_sub {σ : Sts} {vs us : List Nat} (h : ∀ i ∈ us, i ∈ vs) : wipe (wipe σ us) vs = wipe σ vs := by
  refine List.ext_getElem? fun i => ?_
  by_cases hi : i ∈ vs
  · have nn : ∀ (τ : Sts), τ.length = σ.length → ∀ (ws : List Nat), i ∈ ws → (wipe τ ws)[i]? = if i < σ.length then some none else none := by
      intro τ hτ ws
      induction ws with
      | nil => intro z; cases z
      | cons u ws ih =>
        intro z
        show ((wipe τ ws).set u none)[i]? = _
        by_cases hu : u = i
        · subst hu
          by_cases hlt : u < σ.length
          · rw [List.getElem?_set_self (by rw [wipe_length, hτ]; exact hlt), if_pos hlt]
          · rw [List.getElem?_eq_none (by rw [List.length_set, wipe_length, hτ]; omega), if_neg hlt]
        · rw [List.getElem?_set_ne hu]
          refine ih ?_
          rcases List.mem_cons.mp z with z | z
          · exact absurd z.symm hu
          · exact z
    rw [nn _ (wipe_length σ us) vs hi, nn _ rfl vs hi]
  · rw [wipe_out hi, wipe_out hi, wipe_out fun z => hi (h i z)]
theorem MG.more {X : Cx} {S : Sg} {tg : Expr} {t : TG} {vs us : List Nat} {g : Ev → D → Option Ev} (h : MG X S tg t us g) (hs : us.all (fun i => vs.contains i) = true := by rfl) : MG X S tg t vs g := by
  have hs' : ∀ i ∈ us, i ∈ vs := fun i hi => by
    have := List.all_eq_true.mp hs i hi
    simpa using this
  refine ⟨h.pg, fun B F H σ ρ v d ρ1 Q I r e k => h.ok B F H σ ρ v d ρ1 Q I r e fun σ' I' w => k σ' I' ?_⟩
  rw [← wipe_sub hs', w, wipe_sub hs']
end MW
namespace MW
open PySem PySem.Spec PyProof.Rows L2
def spTop (K : Fg) : Sp := fun vs H Q _ => ∃ (a : Addr) (ns : List Int), vs = [.ref a] ∧ SqL K H a (ns.map V.int) ∧ ns.length ≤ 63 ∧ ∀ H', Q (.bl true) H'
def noLst (K : Fg) : Bool := K.all fun p => !(p.2.cls == Value.type "list")
theorem lookup_all {K : Fg} {f : Addr × Obj → Bool} (h : K.all f = true) : ∀ {a : Addr} {o : Obj}, K.lookup a = some o → f (a, o) = true := by
  induction K with
  | nil => intro a o e; cases e
  | cons p K ih =>
    obtain ⟨b, u⟩ := p
    intro a o e
    rw [List.all_cons, Bool.and_eq_true] at h
    rw [List.lookup_cons] at e
    split at e
    · rename_i q
      cases e
      rw [eq_of_beq q]; exact h.1
    · exact ih h.2 e
theorem top_of {K : Fg} {mg : Str → Option Value} {m : List D → Out D} (noL : noLst K = true) (hm : ∀ ns : List Int, ns.length ≤ 63 → ∃ zs, m [.list (ns.map PyData.int)] = .ok (.bool true) zs) : ∀ vs H Q E, spTop K vs H Q E → spM K mg [false] m vs H Q E := by
  rintro vs H Q E ⟨a, ns, rfl, hS, hl, q⟩
  obtain ⟨zs, e⟩ := hm ns hl
  rcases hS with hS | ⟨o, its, n, hk, hc, _⟩
  · have r : ∀ ms : List Int, RpL K H (ms.map V.int) (ms.map PyData.int) := by
      intro ms
      induction ms with
      | nil => exact .nil
      | cons x ms ih => exact .cons (.int x) ih
    refine ⟨⟨fun _ => False, fun _ => False, H, H, [some (.ref a)], []⟩, H, [.list (ns.map .int)], rfl, ⟨rfl, Same.refl _, ⟨Same.refl _, fun _ _ e _ => e, fun _ e => e, fun _ _ e => .inl e, (nofun : ∀ p ∈ ([] : List (Addr × Str)), _), (nofun : ∀ p ∈ ([] : List (Addr × Str)), _), (nofun : ∀ p ∈ ([] : List (Addr × Str)), _)⟩, fun i d e k => ?_, fun i d e k => ?_, fun i j b h1 h2 => ?_, fun i d e k => ?_, fun _ _ _ => rfl, rfl⟩, ?_⟩
    · cases i with
      | zero =>
        have : d = .list (ns.map .int) := (Option.some.inj (Option.some.inj e)).symm
        subst this
        exact ⟨_, rfl, .lst hS (r ns)⟩
      | succ i => cases e
    · cases i with
      | zero => cases k
      | succ i => cases e
    · obtain ⟨k, ⟨d, e⟩, _⟩ := h1
      cases i with
      | zero => cases k
      | succ i => cases e
    · cases i with
      | zero => cases k
      | succ i => cases e
    · rw [e]
      intro F' H' v _ _ rv
      cases rv
      exact q H'
  · have := lookup_all noL hk
    simp only [hc] at this
    cases this
/-- behind the program's top: the script alone is known, and no repr is under way -/
theorem walk_G {l : PySem.W.OpenLaw} {k : Nat} {q : Program} {loose : List Str} {XP : (Str → Option Value) → Heap → Prop} {YP : World → Heap → Prop} {d : DefRec} {K : Params → Fg} {x : Str}
    (hn : l.most = some 63) (hdf : d.params.defaults = []) (hr : Room k callerA) (hY : ∀ (w : World) (h : Heap), YP w h → (K w.params).In h) (noL : ∀ w : World, noLst (K w.params) = true)
    (F : ∀ (w : World) (mg : Str → Option Value) (fa : Addr) (h : Heap), (K w.params).In h → h.Ns mainGlobals mg → mg d.name = some (.ref fa) →
      ∃ fd : FuncData, (∀ (s : Shared) (u : Value), BindsTo s fd ⟨[u], []⟩ [(x, u)]) ∧ ∀ base : Heap, (K w.params).In base → base.Ns mainGlobals mg → FnG l.prog w (K w.params) mg base k fa fd [x] (spTop (K w.params))) :
    PySem.W.WalkO q loose XP YP l.row.toRowW d [] (fun f vs => PySem.call f vs) := by
  apply Att.attach_call hn hdf
  intro w s₀ s₁ mg mb fa o pm cd doc a vs ns G Y ho hd hcd hmg hobj hints hlen hg
  have hK : (K w.params).In s₁.heap := hY w _ Y
  obtain ⟨fd, bd, hF⟩ := F w mg fa _ hK G.T.g hmg
  let ob : Obj := { cls := .type "list", data := .seq vs.toArray }
  let ho1 : HO := .frz ob (.lst (ns.map V.int))
  let H : Hp := fun b => if b = a then some ho1 else none
  have hself : H a = some ho1 := if_pos rfl
  have hothers : ∀ b, b ≠ a → H b = none := fun b hb => if_neg hb
  have aK : ∀ {b u}, (K w.params).lookup b = some u → b ≠ a := fun {b u} e z => by
    subst z
    have e1 := hK _ _ e
    rw [hobj] at e1
    cases e1
    have := lookup_all (noL w) e
    simp at this
  have good : HOk l.prog w H s₁.heap := fun b u e => by
    by_cases hb : b = a
    · subst hb
      rw [hself] at e
      cases e
      have sz := sizeLine_eq
      exact ⟨hobj, by rw [List.length_map]; omega, vs, _, vals_ints hints, hobj⟩
    · rw [hothers b hb] at e; cases e
  have see : ∀ {b u}, s₁.heap.get? b = some u → b ≠ a → (hidT s₁.heap H).get? b = some u := fun {b u} e hb => hidT_get e (hothers b hb)
  have names : ∀ {b : Addr} {m : Str → Option Value}, s₁.heap.Ns b m → (hidT s₁.heap H).Ns b m := by
    rintro b m ⟨u, es, ep, e, hdt, r⟩
    refine ⟨u, es, ep, see e ?_, hdt, r⟩
    intro hb
    subst hb
    rw [hobj] at e
    cases e
    cases hdt
  have kin : (K w.params).In (hidT s₁.heap H) := fun b u e => see (hK b u e) (aK e)
  obtain ⟨mc, h1, h2⟩ := G.T.nolimit
  have md : Mod (K w.params) mg (hidT s₁.heap H) := ⟨kin, names G.T.g, ⟨mb, names G.T.b, G.T.builtins⟩, mc, names h1, h2⟩
  have e0 : Env0 l.prog w (K w.params) mg (hidT s₁.heap H) callerA [] s₁ H :=
    { frames := rfl, mod := md, bs := fun b u e => of_hidT e, bsz := Nat.le_of_eq (hidT_size _ _), funs := trivial, frf := fun b hb => absurd (show b ∈ ([] : List Addr) from hb) (by simp), hok := good, bare := .of_eq hg }
  have hS : SqL (K w.params) H a (ns.map V.int) := .inl (.inr ⟨ob, hself⟩)
  have run := (hF _ kin (names G.T.g)).run callerA [] s₁ H ⟨[.ref a], []⟩ [.ref a] [.ref a] (fun v _ => v = .bl true) (fun _ _ _ => False) ⟨hr, fun _ => rfl⟩ e0 (bd s₁ (.ref a)) (.cons rfl .nil) ⟨a, ns, rfl, hS, hlen, fun _ => rfl⟩
  apply codeAny_mono run
  intro r s' hq
  match r, hq with
  | .error _, ⟨_, _, _, _, _, _, _, _, _, _, _, _, z⟩ => exact z.elim
  | .ok .next, hq => exact hq.elim
  | .ok .brk, hq => exact hq.elim
  | .ok .cont, hq => exact hq.elim
  | .ok (.ret u), ⟨v, H', os, bare, un, hok', ru, qv⟩ =>
    have qv : v = .bl true := qv
    subst qv
    obtain rfl : u = Value.bool true := ru
    refine ⟨rfl, OldK.of_keep fun b u e => ?_, os, bare⟩
    by_cases hb : b = a
    · subst hb
      obtain ⟨e1, _⟩ := hok' b _ (un.frzs b ob _ hself)
      rw [hobj] at e
      cases e
      exact e1
    · exact un.keep b u e (hothers b hb) (fun z => by cases z) (fun z => by cases z)
end MW
namespace MW
open PySem
def Ok {α : Type} (o : Out α) (P : α → Ev → Prop) : Prop := match o with
  | .ok a ρ => P a ρ
  | _ => False
theorem Ok.mono {α : Type} {o : Out α} {P Q : α → Ev → Prop} (h : Ok o P) (k : ∀ a ρ, P a ρ → Q a ρ) : Ok o Q := by
  cases o with
  | ok a ρ => exact k a ρ h
  | err c ρ => exact h
  | bad => exact h
theorem Ok.eq {α : Type} {o : Out α} {P : α → Ev → Prop} (h : Ok o P) : ∃ a ρ, o = .ok a ρ ∧ P a ρ := by
  cases o with
  | ok a ρ => exact ⟨a, ρ, rfl, h⟩
  | err c ρ => exact h.elim
  | bad => exact h.elim
theorem ok_bind {α β : Type} {o : Out α} {f : α → Ev → Out β} {P : β → Ev → Prop} (h : Ok o fun a ρ => Ok (f a ρ) P) : Ok (o.bind f) P := by
  cases o with
  | ok a ρ => exact h
  | err c ρ => exact h
  | bad => exact h
theorem ok_of {α : Type} {x : Option α} {a : α} {ρ : Ev} {P : α → Ev → Prop} (e : x = some a) (h : P a ρ) : Ok (Out.of x ρ) P := by subst e; exact h
theorem ok_noE {α : Type} {o : Out α} {P : α → Ev → Prop} (h : Ok o P) : Ok (noE o) P := by
  cases o with
  | ok a ρ => exact h
  | err c ρ => exact h
  | bad => exact h
section
variable {ρ : Ev} {P : D → Ev → Prop} {PL : List D → Ev → Prop} {PB : Bool → Ev → Prop} {PF : Fl → Ev → Prop} {d : D} {i : Nat} {m ma mb mc mk : Ev → Out D} {ms mr mi : Ev → Out (List D)} {mt nt : Ev → Out Bool} {ma' mb' : Ev → Out Fl} {g g2 : D → D → Option D} {b b2 : D → D → Option Bool}
/-- where a statement ends, and what is still to be done -/
def Then (n : Ev → Out Fl) (P : Fl → Ev → Prop) : Fl → Ev → Prop
  | .nx, ρ => Ok (n ρ) P
  | .bk, ρ => P .bk ρ
  | .ct, ρ => P .ct ρ
  | .rt d, ρ => P (.rt d) ρ
theorem ok_seq {m n : Ev → Out Fl} (h : Ok (m ρ) (Then n PF)) : Ok (mSeq m n ρ) PF := ok_bind (h.mono fun fl ρ1 k => by cases fl <;> exact k)
theorem then_nx {n : Ev → Out Fl} (h : Ok (n ρ) PF) : Then n PF .nx ρ := h
theorem then_rt {n : Ev → Out Fl} (h : PF (.rt d) ρ) : Then n PF (.rt d) ρ := h
theorem ok_next (h : PF .nx ρ) : Ok (mNext ρ) PF := h
theorem ok_ret (h : Ok (m ρ) fun d ρ1 => PF (.rt d) ρ1) : Ok (mRet m ρ) PF := ok_bind h
theorem ok_set (h : Ok (m ρ) fun d ρ1 => PF .nx (ρ1.set i (some d))) : Ok (mSet i m ρ) PF := ok_bind h
theorem ok_setL (h : Ok (ms ρ) fun ds ρ1 => PF .nx (ρ1.set i (some (.list ds)))) : Ok (mSetL i ms ρ) PF := ok_bind h
theorem ok_drop (h : Ok (m ρ) fun _ ρ1 => PF .nx ρ1) : Ok (mDrop m ρ) PF := ok_bind h
theorem ok_ifS {n1 n2 : Ev → Out Fl} (h : Ok (mt ρ) fun b ρ1 => if b = true then Ok (n1 ρ1) PF else Ok (n2 ρ1) PF) : Ok (mIfS mt n1 n2 ρ) PF := ok_bind (h.mono fun b ρ1 k => by cases b <;> exact k)
theorem ok_if (h : Ok (mt ρ) fun b ρ1 => if b = true then Ok (ma ρ1) P else Ok (mb ρ1) P) : Ok (mIf mt ma mb ρ) P := ok_bind (h.mono fun b ρ1 k => by cases b <;> exact k)
theorem ok_var (e : rd ρ i = some d) (h : P d ρ) : Ok (mVar i ρ) P := ok_of e h
theorem ok_c (h : P d ρ) : Ok (mC d ρ) P := h
theorem ok_bin (h : Ok (ma ρ) fun d ρ1 => Ok (mb ρ1) fun e ρ2 => ∃ z, g d e = some z ∧ P z ρ2) : Ok (mBin g ma mb ρ) P := ok_bind (h.mono fun d ρ1 k => ok_bind (k.mono fun e ρ2 ⟨z, e1, k2⟩ => ok_of e1 k2))
theorem ok_un {g : D → Option D} (h : Ok (ma ρ) fun d ρ1 => ∃ z, g d = some z ∧ P z ρ1) : Ok (mUn g ma ρ) P := ok_bind (h.mono fun d ρ1 ⟨z, e1, k2⟩ => ok_of e1 k2)
theorem ok_ownBin (e : rd ρ i = some d) (h : Ok (mb ρ) fun x ρ2 => ∃ y, rd ρ2 i = some y ∧ ∃ z, g y x = some z ∧ P z ρ2) : Ok (mOwnBin g i mb ρ) P := ok_bind (ok_of e (ok_bind (h.mono fun x ρ2 ⟨y, e1, z, e2, k⟩ => ok_bind (ok_of e1 (ok_of e2 k)))))
theorem ok_test (h : Ok (ma ρ) fun d ρ1 => Ok (mb ρ1) fun e ρ2 => ∃ z, b d e = some z ∧ PB z ρ2) : Ok (mTest b ma mb ρ) PB := ok_bind (h.mono fun d ρ1 k => ok_bind (k.mono fun e ρ2 ⟨z, e1, k2⟩ => ok_of e1 k2))
theorem ok_tru (h : Ok (ma ρ) fun d ρ1 => ∃ z, truth d = some z ∧ PB z ρ1) : Ok (mTru ma ρ) PB := ok_bind (h.mono fun d ρ1 ⟨z, e1, k2⟩ => ok_of e1 k2)
theorem ok_notB (h : Ok (mt ρ) fun b ρ1 => PB (!b) ρ1) : Ok (mNotB mt ρ) PB := ok_bind h
theorem ok_ofB (h : Ok (mt ρ) fun b ρ1 => P (.bool b) ρ1) : Ok (mOfB mt ρ) P := ok_bind h
theorem ok_andB (h : Ok (mt ρ) fun b ρ1 => if b = true then Ok (nt ρ1) PB else PB false ρ1) : Ok (mAndB mt nt ρ) PB := ok_bind (h.mono fun b ρ1 k => by cases b <;> exact k)
theorem ok_orB (h : Ok (mt ρ) fun b ρ1 => if b = true then PB true ρ1 else Ok (nt ρ1) PB) : Ok (mOrB mt nt ρ) PB := ok_bind (h.mono fun b ρ1 k => by cases b <;> exact k)
theorem ok_andV (h : Ok (ma ρ) fun d ρ1 => ∃ z, truth d = some z ∧ if z = true then Ok (mb ρ1) P else P d ρ1) : Ok (mAndV ma mb ρ) P := ok_bind (h.mono fun d ρ1 ⟨z, e, k⟩ => ok_bind (ok_of e (by cases z <;> exact k)))
theorem ok_orV (h : Ok (ma ρ) fun d ρ1 => ∃ z, truth d = some z ∧ if z = true then P d ρ1 else Ok (mb ρ1) P) : Ok (mOrV ma mb ρ) P := ok_bind (h.mono fun d ρ1 ⟨z, e, k⟩ => ok_bind (ok_of e (by cases z <;> exact k)))
theorem ok_chainT (h : Ok (ma ρ) fun d ρ1 => Ok (mb ρ1) fun e ρ2 => ∃ z, b d e = some z ∧ if z = true then Ok (mc ρ2) fun f ρ3 => ∃ y, b2 e f = some y ∧ PB y ρ3 else PB false ρ2) : Ok (mChainT b b2 ma mb mc ρ) PB := by
  refine ok_bind (h.mono fun d ρ1 k => ok_bind (k.mono fun e ρ2 ⟨z, e1, k2⟩ => ?_))
  refine ok_bind (ok_of e1 ?_)
  cases z with
  | true => exact ok_bind (Ok.mono k2 fun f ρ3 ⟨y, e2, k3⟩ => ok_of e2 k3)
  | false => exact k2
theorem ok_nil (h : PL [] ρ) : Ok (mNil ρ) PL := h
theorem ok_cons (h : Ok (ma ρ) fun d ρ1 => Ok (mr ρ1) fun ds ρ2 => PL (d :: ds) ρ2) : Ok (mCons ma mr ρ) PL := ok_bind (h.mono fun d ρ1 k => ok_bind k)
theorem ok_lend (e : rd ρ i = some d) (h : Ok (mr ρ) fun ds ρ2 => PL (.none :: ds) ρ2) : Ok (mLend i mr ρ) PL := ok_bind (ok_of e (ok_bind h))
theorem ok_tup (h : Ok (ms ρ) fun ds ρ1 => P (.tuple ds) ρ1) : Ok (mTup ms ρ) P := ok_bind h
theorem ok_lst (h : Ok (ms ρ) fun ds ρ1 => P (.list ds) ρ1) : Ok (mLst ms ρ) P := ok_bind h
theorem ok_call {g : List D → Option D} (h : Ok (ms ρ) fun ds ρ1 => ∃ z, g ds = some z ∧ P z ρ1) : Ok (mCall g ms ρ) P := ok_bind (h.mono fun d ρ1 ⟨z, e1, k2⟩ => ok_of e1 k2)
theorem ok_callL {g : List D → Option (List D)} (h : Ok (ms ρ) fun ds ρ1 => ∃ z, g ds = some z ∧ PL z ρ1) : Ok (mCallL g ms ρ) PL := ok_bind (h.mono fun d ρ1 ⟨z, e1, k2⟩ => ok_of e1 k2)
theorem ok_callO {g : List D → Option D} {z : D} (e : rd ρ i = some d) (e2 : g [d] = some z) (h : P z ρ) : Ok (mCallO g i ρ) P := ok_bind (ok_of e (ok_of e2 h))
theorem ok_callOL {g : List D → Option (List D)} {z : List D} (e : rd ρ i = some d) (e2 : g [d] = some z) (h : PL z ρ) : Ok (mCallOL g i ρ) PL := ok_bind (ok_of e (ok_of e2 h))
theorem ok_move (e : rd ρ i = some d) (h : P d (ρ.set i none)) : Ok (mMove i ρ) P := ok_bind (ok_of e h)
theorem ok_isD {T : String} (h : Ok (ma ρ) fun d ρ1 => P (.bool (isD T d)) ρ1) : Ok (mIsD T ma ρ) P := ok_bind h
theorem ok_binL {g : D → D → Option (List D)} (h : Ok (ma ρ) fun d ρ1 => Ok (mb ρ1) fun e ρ2 => ∃ z, g d e = some z ∧ PL z ρ2) : Ok (mBinL g ma mb ρ) PL := ok_bind (h.mono fun d ρ1 k => ok_bind (k.mono fun e ρ2 ⟨z, e1, k2⟩ => ok_of e1 k2))
theorem ok_seqD (h : Ok (ma ρ) fun d ρ1 => ∃ z, seqD d = some z ∧ PL z ρ1) : Ok (mSeqD ma ρ) PL := ok_bind (h.mono fun d ρ1 ⟨z, e1, k2⟩ => ok_of e1 k2)
theorem ok_range1 (h : Ok (ms ρ) fun ds ρ1 => ∃ j : Int, ds = [.int j] ∧ (-16777216 ≤ j ∧ j ≤ 16777216) ∧ PL (rangeD 0 j.toNat) ρ1) : Ok (mRange1 ms ρ) PL := ok_bind (h.mono fun ds ρ1 ⟨j, e, hj, k⟩ => by
  subst e
  show Ok (if -16777216 ≤ j ∧ j ≤ 16777216 then Out.ok (rangeD 0 j.toNat) ρ1 else .bad) PL
  rw [if_pos hj]; exact k)
theorem ok_listRg (h : Ok (ma ρ) fun d ρ1 => ∃ j : Int, d = .int j ∧ (-16777216 ≤ j ∧ j ≤ 16777216) ∧ PL (rangeD 0 j.toNat) ρ1) : Ok (mListRg ma ρ) PL := ok_bind (h.mono fun d ρ1 ⟨j, e, hj, k⟩ => by
  subst e
  show Ok (if -16777216 ≤ j ∧ j ≤ 16777216 then Out.ok (rangeD 0 j.toNat) ρ1 else .bad) PL
  rw [if_pos hj]; exact k)
theorem ok_enum (h : Ok (ms ρ) fun ds ρ1 => ∃ xs, (ds = [.list xs] ∨ ds = [.tuple xs]) ∧ PL (enumD xs) ρ1) : Ok (mEnum ms ρ) PL := ok_bind (h.mono fun ds ρ1 ⟨xs, e, k⟩ => by
  rcases e with e | e <;> (subst e; exact k))
theorem ok_upd {f : List D → List D → Option (D × List D)} (e : rd ρ i = some d) (h : Ok (ms ρ) fun as ρ1 => ∃ ds z ds', rd ρ1 i = some (.list ds) ∧ f ds as = some (z, ds') ∧ P z (ρ1.set i (some (.list ds')))) : Ok (mUpd i f ms ρ) P := ok_bind (ok_of e (ok_bind (h.mono fun as ρ1 ⟨ds, z, ds', e1, e2, k⟩ => by
  rw [e1]
  show Ok (match f ds as with | some (d, ds') => Out.ok d (ρ1.set i (some (.list ds'))) | none => .bad) P
  rw [e2]; exact k)))
theorem ok_store (h : Ok (ma ρ) fun z ρ1 => ∃ y, rd ρ1 i = some y ∧ Ok (mk ρ1) fun e ρ2 => ∃ ds j n, rd ρ2 i = some (.list ds) ∧ e = .int j ∧ L2.ixN ds.length j = some n ∧ PF .nx (ρ2.set i (some (.list (ds.set n z))))) : Ok (mStore i ma mk ρ) PF := ok_bind (h.mono fun z ρ1 ⟨y, e0, k⟩ => ok_bind (ok_of e0 (ok_bind (k.mono fun e ρ2 ⟨ds, j, n, e1, e2, e3, k2⟩ => by
  subst e2
  rw [e1]
  show Ok (match L2.ixN ds.length j with | some n => Out.ok Fl.nx (ρ2.set i (some (.list (ds.set n z)))) | none => .bad) PF
  rw [e3]; exact k2))))
theorem ok_callD {f : List D → Out D} {ks : List (Option Nat)} (h : Ok (ms ρ) fun ds ρ1 => ∃ as, resolve ρ1 ks ds = some as ∧ Ok (f as) fun d os => P d (wback ks os ρ1)) : Ok (mCallD f ks ms ρ) P := ok_bind (h.mono fun ds ρ1 ⟨as, e, k⟩ => ok_bind (ok_of e (by
  obtain ⟨d, os, e2, k2⟩ := k.eq
  show Ok (match f as with | .ok d os => Out.ok d (wback ks os ρ1) | .err c os => .err c (wback ks os ρ1) | .bad => .bad) P
  rw [e2]; exact k2)))
theorem ok_callDL {f : List D → Out (List D)} {ks : List (Option Nat)} (h : Ok (ms ρ) fun ds ρ1 => ∃ as, resolve ρ1 ks ds = some as ∧ Ok (f as) fun d os => PL d (wback ks os ρ1)) : Ok (mCallDL f ks ms ρ) PL := ok_bind (h.mono fun ds ρ1 ⟨as, e, k⟩ => ok_bind (ok_of e (by
  obtain ⟨d, os, e2, k2⟩ := k.eq
  show Ok (match f as with | .ok d os => Out.ok d (wback ks os ρ1) | .err c os => .err c (wback ks os ρ1) | .bad => .bad) PL
  rw [e2]; exact k2)))
/-- a def: the body from the arguments, and the lists handed back -/
def DefK (S : Sg) (P : D → Ev → Prop) : Fl → Ev → Prop
  | .nx, ρ => chk S (outs S ρ) = true ∧ P .none (outs S ρ)
  | .rt d, ρ => chk S (outs S ρ) = true ∧ P d (outs S ρ)
  | _, _ => False
theorem defK_rt {S : Sg} (h1 : chk S (outs S ρ) = true) (h2 : P d (outs S ρ)) : DefK S P (.rt d) ρ := ⟨h1, h2⟩
theorem defK_nx {S : Sg} (h1 : chk S (outs S ρ) = true) (h2 : P .none (outs S ρ)) : DefK S P .nx ρ := ⟨h1, h2⟩
theorem ok_def {S : Sg} {n : Nat} {mb : Ev → Out Fl} {ds : List D} {ρ0 : Ev} (h0 : ds.map some ++ List.replicate (n - ds.length) none = ρ0) (h : Ok (mb ρ0) (DefK S P)) : Ok (mDef S n mb ds) P := by
  subst h0
  unfold mDef
  cases e : mb (ds.map some ++ List.replicate (n - ds.length) none) with
  | ok fl ρ =>
    rw [e] at h
    cases fl with
    | nx => obtain ⟨h1, h2⟩ := h; show Ok (if chk S (outs S ρ) = true then _ else _) P; rw [if_pos h1]; exact h2
    | rt d => obtain ⟨h1, h2⟩ := h; show Ok (if chk S (outs S ρ) = true then _ else _) P; rw [if_pos h1]; exact h2
    | bk => exact h.elim
    | ct => exact h.elim
  | err c ρ => rw [e] at h; exact h.elim
  | bad => rw [e] at h; exact h.elim
theorem ok_defL {n : Nat} {me : Ev → Out (List D)} {ds : List D} {ρ0 : Ev} (h0 : ds.map some ++ List.replicate (n - ds.length) none = ρ0) (h : Ok (me ρ0) fun xs _ => PL xs (List.replicate ds.length none)) : Ok (mDefL n me ds) PL := by
  subst h0
  unfold mDefL
  obtain ⟨xs, ρ, e, k⟩ := h.eq
  rw [e]
  exact k
theorem ite_dec {c : Prop} [Decidable c] {A B : Prop} (h1 : c → A) (h2 : ¬ c → B) : if decide c = true then A else B := by
  by_cases h : c
  · rw [if_pos (decide_eq_true h)]; exact h1 h
  · rw [if_neg (by rw [decide_eq_false h]; exact Bool.false_ne_true)]; exact h2 h
theorem ok_for {g : Ev → D → Option Ev} {mb : Ev → Out Fl} (h : Ok (mi ρ) fun items ρ1 => Ok (forM g mb items ρ1) PF) : Ok (mFor mi g mb ρ) PF := ok_bind h
/-- how a turn ends -/
def Turned (I : Ev → Prop) (P : Fl → Ev → Prop) : Fl → Ev → Prop
  | .nx, ρ => I ρ
  | .ct, ρ => I ρ
  | .bk, ρ => P .nx ρ
  | .rt d, ρ => P (.rt d) ρ
theorem for_inv {g : Ev → D → Option Ev} {mb : Ev → Out Fl} (I : Nat → Ev → Prop) : ∀ {items : List D} {ρ : Ev} (k : Nat), I k ρ → (∀ i d ρ, items[i]? = some d → I (k + i) ρ → ∃ ρ', g ρ d = some ρ' ∧ Ok (mb ρ') (Turned (I (k + (i + 1))) PF)) → (∀ ρ, I (k + items.length) ρ → PF .nx ρ) → Ok (forM g mb items ρ) PF
  | [], ρ, k, h0, _, h2 => h2 ρ h0
  | d :: items, ρ, k, h0, h1, h2 => by
    obtain ⟨ρ', e, h⟩ := h1 0 d ρ rfl h0
    unfold forM
    refine ok_bind (ok_of e (ok_bind (h.mono fun fl ρ2 z => ?_)))
    have ih : I (k + 1) ρ2 → Ok (forM g mb items ρ2) PF := fun z => for_inv I (k + 1) z (fun i d ρ e z => by
      have := h1 (i + 1) d ρ e (by rw [show k + (i + 1) = k + 1 + i by omega]; exact z)
      rwa [show k + (i + 1 + 1) = k + 1 + (i + 1) by omega] at this) (fun ρ z => h2 ρ (by rw [List.length_cons, show k + (items.length + 1) = k + 1 + items.length by omega]; exact z))
    cases fl with
    | nx => exact ih z
    | ct => exact ih z
    | bk => exact z
    | rt d => exact z
theorem comp_inv {g : Ev → D → Option Ev} {mt : Ev → Out Bool} {me : Ev → Out D} {vs : List Nat} (J : Nat → List D → Ev → Prop) : ∀ {PL : List D → Ev → Prop} {items : List D} {ρ : Ev} (k : Nat) (acc : List D), J k acc ρ →
    (∀ i d ys ρ, items[i]? = some d → J (k + i) ys ρ → ∃ ρ1, g ρ d = some ρ1 ∧ Ok (mt ρ1) fun b ρ2 => if b = true then Ok (me ρ2) fun y ρ3 => J (k + (i + 1)) (ys ++ [y]) (wipeE ρ3 vs) else J (k + (i + 1)) ys (wipeE ρ2 vs)) →
    (∀ ys ρ, J (k + items.length) (acc ++ ys) ρ → PL ys ρ) → Ok (compM g mt me vs items ρ) PL
  | PL, [], ρ, k, acc, h0, _, h2 => h2 [] ρ (by rw [List.append_nil]; exact h0)
  | PL, d :: items, ρ, k, acc, h0, h1, h2 => by
    obtain ⟨ρ1, e, h⟩ := h1 0 d acc ρ rfl h0
    unfold compM
    refine ok_bind (ok_of e (ok_bind (h.mono fun b ρ2 z => ?_)))
    have h1' : ∀ i d ys ρ, items[i]? = some d → J (k + 1 + i) ys ρ → ∃ ρ1, g ρ d = some ρ1 ∧ Ok (mt ρ1) fun b ρ2 => if b = true then Ok (me ρ2) fun y ρ3 => J (k + 1 + (i + 1)) (ys ++ [y]) (wipeE ρ3 vs) else J (k + 1 + (i + 1)) ys (wipeE ρ2 vs) := fun i d ys ρ e z => by
      have := h1 (i + 1) d ys ρ e (by rw [show k + (i + 1) = k + 1 + i by omega]; exact z)
      rwa [show k + (i + 1 + 1) = k + 1 + (i + 1) by omega] at this
    cases b with
    | true =>
      have z : Ok (me ρ2) fun y ρ3 => J (k + 1) (acc ++ [y]) (wipeE ρ3 vs) := z
      show Ok ((me ρ2).bind fun y ρ3 => (compM g mt me vs items (wipeE ρ3 vs)).bind fun ys ρ4 => .ok (y :: ys) ρ4) PL
      refine ok_bind (z.mono fun y ρ3 z => ok_bind ?_)
      exact comp_inv (PL := fun ys ρ4 => PL (y :: ys) ρ4) J (k + 1) (acc ++ [y]) z h1' (fun ys ρ z => h2 (y :: ys) ρ (by rw [List.length_cons, show k + (items.length + 1) = k + 1 + items.length by omega, show acc ++ y :: ys = acc ++ [y] ++ ys by simp]; exact z))
    | false =>
      have z : J (k + 1) acc (wipeE ρ2 vs) := z
      exact comp_inv J (k + 1) acc z h1' (fun ys ρ z => h2 ys ρ (by rw [List.length_cons, show k + (items.length + 1) = k + 1 + items.length by omega]; exact z))
theorem ok_lc {g : Ev → D → Option Ev} {me : Ev → Out D} {vs : List Nat} (h : Ok (mi ρ) fun items ρ1 => Ok (compM g mt me vs items (wipeE ρ1 vs)) fun ys ρ2 => PL ys (restE ρ1 ρ2 vs)) : Ok (mLc mi g mt me vs ρ) PL := ok_bind (h.mono fun items ρ1 k => ok_bind (ok_noE k))
theorem ok_yes (h : PB true ρ) : Ok (mYes ρ) PB := h
end
end MW
namespace MW
open PySem
theorem gMod_ok {i j : Int} (h : 0 < j) : gMod (.int i) (.int j) = some (.int (i % j)) := if_pos h
theorem gDiv_ok {i j : Int} (h : 0 < j) (h2 : j < 1073741824) : gDiv (.int i) (.int j) = some (.int (i / j)) := if_pos ⟨h, h2⟩
theorem gMul_ok {i j : Int} (h : (-18446744073709551616 < i ∧ i < 18446744073709551616) ∨ (-18446744073709551616 < j ∧ j < 18446744073709551616)) : gMul (.int i) (.int j) = some (.int (i * j)) := if_pos h
theorem gAdd_ok {i j : Int} : gAdd (.int i) (.int j) = some (.int (i + j)) := rfl
theorem gSub_ok {i j : Int} : gSub (.int i) (.int j) = some (.int (i - j)) := rfl
theorem bGt_ok {i j : Int} : bGt (.int i) (.int j) = some (decide (j < i)) := rfl
theorem bLt_ok {i j : Int} : bLt (.int i) (.int j) = some (decide (i < j)) := rfl
theorem bLe_ok {i j : Int} : bLe (.int i) (.int j) = some (decide (i ≤ j)) := rfl
theorem bGe_ok {i j : Int} : bGe (.int i) (.int j) = some (decide (j ≤ i)) := rfl
theorem gLen_ok {ds : List D} : gLen [.list ds] = some (.int ds.length) := rfl
theorem gLenT_ok {ds : List D} : gLen [.tuple ds] = some (.int ds.length) := rfl
theorem gTupleOf_ok {ds : List D} : gTupleOf [.list ds] = some (.tuple ds) := rfl
theorem gIx_ok {ds : List D} {i : Nat} {d : D} (h : ds[i]? = some d) : gIx (.list ds) (.int i) = some d := by
  show L2.atI ds (i : Int) = some d
  exact L2.atI_nat h
theorem Pen.up {N M : Int} {d : D} : (∃ a b n : Int, d = .list [.int a, .int b, .int n] ∧ 0 ≤ a ∧ 0 ≤ b ∧ b < 1000000007 ∧ 0 ≤ n ∧ n ≤ N) → N ≤ M → ∃ a b n : Int, d = .list [.int a, .int b, .int n] ∧ 0 ≤ a ∧ 0 ≤ b ∧ b < 1000000007 ∧ 0 ≤ n ∧ n ≤ M
  | ⟨a, b, n, e, k1, k2, k3, k4, k5⟩, h => ⟨a, b, n, e, k1, k2, k3, k4, Int.le_trans k5 h⟩
theorem ite_yes {A B : Prop} (h : A) : if true = true then A else B := h
theorem ok_at {α : Type} {m : Ev → Out α} {ρ ρ' : Ev} {P : α → Ev → Prop} (e : ρ = ρ') (h : Ok (m ρ') P) : Ok (m ρ) P := by subst e; exact h
theorem rangeD_len {n : Nat} : (rangeD 0 n).length = n := by unfold rangeD; rw [List.length_map, List.length_range]
theorem rangeD_at {n i : Nat} {d : D} (h : (rangeD 0 n)[i]? = some d) : i < n ∧ d = .int i := by
  unfold rangeD at h
  rw [List.getElem?_map] at h
  by_cases hi : i < n
  · rw [List.getElem?_range hi] at h
    refine ⟨hi, ?_⟩
    rw [← Option.some.inj h]
    show PyData.int (0 + (i : Int)) = .int i
    rw [Int.zero_add]
  · rw [List.getElem?_eq_none (by rw [List.length_range]; omega)] at h
    cases h
/-- what a draw holds on to -/
def Pen (N : Int) (d : D) : Prop := ∃ a b n : Int, d = .list [.int a, .int b, .int n] ∧ 0 ≤ a ∧ 0 ≤ b ∧ b < 1000000007 ∧ 0 ≤ n ∧ n ≤ N
end MW
local macro_rules | `(tactic| walk_at "mx1") => `(tactic| first
  | with_reducible refine MW.ok_seq ?_ | with_reducible refine MW.then_nx ?_ | with_reducible refine MW.then_rt ?_ | with_reducible refine MW.ok_next ?_ | with_reducible refine MW.ok_ret ?_ | with_reducible refine MW.ok_set ?_ | with_reducible refine MW.ok_setL ?_ | with_reducible refine MW.ok_drop ?_
  | with_reducible refine MW.ok_ifS ?_ | with_reducible refine MW.ok_if ?_ | ((with_reducible apply MW.ok_var); rfl) | with_reducible refine MW.ok_c ?_ | with_reducible refine MW.ok_bin ?_ | with_reducible refine MW.ok_un ?_ | ((with_reducible apply MW.ok_ownBin); rfl) | with_reducible refine MW.ok_test ?_ | with_reducible refine MW.ok_tru ?_
  | with_reducible refine MW.ok_notB ?_ | with_reducible refine MW.ok_ofB ?_ | with_reducible refine MW.ok_andB ?_ | with_reducible refine MW.ok_orB ?_ | with_reducible refine MW.ok_andV ?_ | with_reducible refine MW.ok_orV ?_ | with_reducible refine MW.ok_chainT ?_
  | with_reducible refine MW.ok_nil ?_ | with_reducible refine MW.ok_cons ?_ | ((with_reducible apply MW.ok_lend); rfl) | with_reducible refine MW.ok_tup ?_ | with_reducible refine MW.ok_lst ?_ | with_reducible refine MW.ok_call ?_ | with_reducible refine MW.ok_callL ?_
  | ((with_reducible apply MW.ok_move); rfl) | with_reducible refine MW.ok_isD ?_ | with_reducible refine MW.ok_binL ?_ | with_reducible refine MW.ok_seqD ?_ | with_reducible refine MW.ok_store ?_ | with_reducible refine MW.ok_callD ?_ | with_reducible refine MW.ok_callDL ?_ | with_reducible refine MW.ok_for ?_ | with_reducible refine MW.ok_lc ?_ | with_reducible refine MW.ok_yes ?_ | ((with_reducible apply MW.ok_upd); rfl) | with_reducible refine MW.ok_listRg ?_ | with_reducible refine MW.ok_range1 ?_ | with_reducible refine MW.ok_enum ?_ | with_reducible refine MW.ite_yes ?_ | ((with_reducible apply MW.ok_callO); rfl; rfl))
local macro_rules | `(tactic| walk_at "mv1") => `(tactic| first
  | with_reducible refine ⟨_, MW.gAdd_ok, ?_⟩ | with_reducible refine ⟨_, MW.gSub_ok, ?_⟩ | with_reducible refine ⟨_, MW.bGt_ok, ?_⟩ | with_reducible refine ⟨_, MW.bLt_ok, ?_⟩ | with_reducible refine ⟨_, MW.bLe_ok, ?_⟩ | with_reducible refine ⟨_, MW.bGe_ok, ?_⟩
  | with_reducible refine ⟨_, MW.gLen_ok, ?_⟩ | with_reducible refine ⟨_, MW.gLenT_ok, ?_⟩ | with_reducible refine ⟨_, MW.gTupleOf_ok, ?_⟩ | with_reducible refine ⟨_, MW.gMod_ok (by omega), ?_⟩ | with_reducible refine ⟨_, MW.gDiv_ok (by omega) (by omega), ?_⟩ | with_reducible refine ⟨_, MW.gMul_ok (by omega), ?_⟩
  | (refine ⟨_, _, _, (rfl : MW.rd _ _ = some _), rfl, rfl, ?_⟩) | (refine ⟨_, (rfl : MW.rd _ _ = some _), ?_⟩) | (refine ⟨_, (rfl : MW.gIx _ _ = some _), ?_⟩) | (refine ⟨_, (rfl : MW.resolve _ _ _ = some _), ?_⟩))
local macro_rules | `(tactic| walk_at "mx") => `(tactic| repeat (first | walk_at "mx1" | walk_at "mv1"))
namespace MW
open PySem
abbrev nD (i : Nat) : D := .int (i : Int)
abbrev tD (q : List Nat) : D := .tuple (q.map nD)
theorem pen_le {N M : Int} {d : D} (h : Pen N d) (k : N ≤ M) : Pen M d := Pen.up h k
theorem fApp_ok {ds : List D} {d : D} (h : ds.length < 16777216) : fApp ds [d] = some (.none, ds ++ [d]) := if_pos h
/-- a view: the numbers 0 .. c - 1, each of them there -/
def Vw (v : List Nat) (c : Nat) : Prop := 1 ≤ v.length ∧ v.length ≤ 9 ∧ (1 ≤ c ∧ c ≤ v.length) ∧ (∀ x ∈ v, x < c) ∧ ∀ y, y < c → y ∈ v
theorem canLay_nD : ∀ q : List Nat, PyData.canLayAll0 (q.map nD) = true
  | [] => rfl
  | _ :: q => by simp [PyData.canLayAll0, PyData.canLay0, canLay_nD q]
theorem depth_nD : ∀ q : List Nat, PyData.depthAll (q.map nD) = 0
  | [] => rfl
  | _ :: q => by simp [PyData.depthAll, PyData.depth, depth_nD q]
theorem shaped_lD (q : List Nat) : SeqAt.shaped (.list (q.map nD)) = true := by simp [SeqAt.shaped, PyData.canLay0, PyData.depth, canLay_nD, depth_nD]
theorem shaped_nD (n : Int) : SeqAt.shaped (.int n) = true := by simp [SeqAt.shaped, PyData.canLay0, PyData.depth]
theorem intsD_nD : ∀ q : List Nat, intsD (q.map nD) = some (q.map Int.ofNat)
  | [] => rfl
  | x :: q => by
    have ih := intsD_nD q
    unfold intsD at ih ⊢
    rw [List.map_cons, List.mapM_cons, ih]
    rfl
theorem max_view {v : List Nat} {c : Nat} (h : Vw v c) : gMax [tD v] = some (.int ((c : Int) - 1)) := by
  obtain ⟨v1, v2, v3, v4, v5⟩ := h
  show ((intsD (v.map nD)).bind fun ns => if ns = [] then none else some (PyData.int (maxI ns))) = _
  rw [intsD_nD]
  have hne : v.map Int.ofNat ≠ [] := fun e => by
    have z : v = [] := List.map_eq_nil_iff.mp e
    rw [z] at v1
    exact absurd v1 (by simp)
  show (if v.map Int.ofNat = [] then none else some (PyData.int (maxI (v.map Int.ofNat)))) = _
  rw [if_neg hne, ← maxI_eq (xs := v.map Int.ofNat) (m := (c : Int) - 1) ?_ ?_]
  · refine List.mem_map.mpr ⟨c - 1, v5 _ (by omega), ?_⟩
    show ((c - 1 : Nat) : Int) = _
    omega
  · intro y hy
    obtain ⟨x, hx, e⟩ := List.mem_map.mp hy
    have := v4 x hx
    rw [← e]
    show (x : Int) ≤ _
    omega
/-- a table's rows -/
def oD : Option Nat → D
  | none => .none
  | some i => nD i
abbrev rD (r : List (Option Nat)) : D := .tuple (r.map oD)
abbrev tabD (t : List (List (Option Nat))) : D := .tuple (t.map rD)
def RowOk (n c : Nat) (r : List (Option Nat)) : Prop := r.length = c ∧ ∀ e ∈ r, ∀ i, e = some i → i < n
def Tab (n c : Nat) (t : List (List (Option Nat))) : Prop := t.length = n ∧ ∀ r ∈ t, RowOk n c r
theorem bEq_int (a b : Int) : bEq (.int a) (.int b) = some (a == b) := by
  unfold bEq
  rw [if_pos ⟨shaped_nD a, shaped_nD b⟩]
  simp [PyData.eqv]
theorem bNe_int (a b : Int) : bNe (.int a) (.int b) = some (!(a == b)) := by
  unfold bNe
  rw [if_pos ⟨shaped_nD a, shaped_nD b⟩]
  simp [PyData.eqv]
theorem at_map {α : Type} {f : α → D} {l : List α} {i : Nat} {d : D} (h : (l.map f)[i]? = some d) : ∃ hi : i < l.length, d = f l[i] := by
  obtain ⟨h1, h2⟩ := List.getElem?_eq_some_iff.mp h
  rw [List.length_map] at h1
  rw [List.getElem_map] at h2
  exact ⟨h1, h2.symm⟩
end MW
namespace MW
open PySem
def findFrom (f : Nat → Option D) : Nat → Nat → Option D
  | _, 0 => none
  | k, n + 1 => match f k with
    | some r => some r
    | none => findFrom f (k + 1) n
/-- a table's entry -/
def cell (t : List (List (Option Nat))) (s w : Nat) : Option Nat := (t.getD s []).getD w none
theorem cell_at {t : List (List (Option Nat))} {s w : Nat} (hs : s < t.length) (hw : w < t[s].length) : cell t s w = t[s][w] := by
  unfold cell
  simp [List.getD_eq_getElem?_getD, hs, hw]
end MW
namespace MW
open PySem
theorem ok_noP {ρ : Ev} {P : Option Int → Ev → Prop} (h : P none ρ) : Ok (mNoP ρ) P := h
theorem ok_part {ma : Ev → Out D} {ρ : Ev} {P : Option Int → Ev → Prop} (h : Ok (ma ρ) fun d ρ1 => ∃ i, d = .int i ∧ P (some i) ρ1) : Ok (mPart ma ρ) P := ok_bind (h.mono fun d ρ1 ⟨i, e, k3⟩ => by rw [e]; exact k3)
theorem cut_one (x : D) (l : List D) : cutD (x :: l) (some 1) none = l := by
  unfold cutD
  rw [show HT.sIx (x :: l).length 0 (some 1) = min 1 (x :: l).length from HT.sIx_nat (x :: l).length 0 1, HT.sIx_none]
  rw [show min 1 (x :: l).length = 1 by rw [List.length_cons]; omega]
  show List.take ((x :: l).length - 1) l = l
  rw [List.length_cons, Nat.add_sub_cancel]
  exact List.take_length
end MW
namespace MW
open PySem PySem.Spec PyProof.Rows L2
def gIndex (ds : List D) : List D → Option D := fun as => match as with
  | [d] => if SeqAt.shaped d = true ∧ SeqAt.shaped (.list ds) = true then (ds.findIdx? fun z => PyData.eqv z d).map fun j => .int (j : Nat) else none
  | _ => none
end MW
namespace MW
open PySem PySem.Spec PyProof.Rows L2
end MW
namespace MW
open PySem PySem.Spec PyProof.Rows L2
end MW
namespace MW
open PySem PySem.Spec PyProof.Rows L2
variable {gq : Bool}
section
variable {X : Cx}
variable {W : WX} {S : Sg} {e : Expr} {p pos : Pos} {ms : Ev → Out (List D)}
def mIndexO (i : Nat) (ms : Ev → Out (List D)) : Ev → Out D := fun ρ => (Out.of (rd ρ i) ρ).bind fun _ ρ => (ms ρ).bind fun as ρ2 => match rd ρ2 i with
  | some (.list ds) => Out.of (gIndex ds as) ρ2
  | _ => .bad
theorem me_indexO (i : Nat) {x : Str} {p' apos : Pos} {e0 : Expr} (k : knd S i = 1) (hv : PE X (.Name x p') (tVar i)) (hu : X.A.units + 65 < cLine) (ha : MA X W S [e0] ms)
    (hb : attributeBase (.Name x p') "index" X.env (eval (.Name x p') X.env) = eval (.Name x p') X.env := by rfl)
    (hf : ((backTo pos (starEach [e0] X.env)).all (fun x => !x.1) && (backToKw pos (keywordEach [] X.env)).all (fun x => x.1.isSome) && decide (([e0] : List Expr).length + ([] : List Keyword).length + (if ([] : List Keyword).isEmpty then 0 else 1) < 30)) = true := by rfl)
    (hl : (apos.endLine == pos.line) = true := by rfl) (hs : starEach [e0] X.env = (false, eval e0 X.env) :: starEach [] X.env := by rfl) (hp : (backTo pos (starEach [] X.env)).any (·.1) = false := by rfl) :
    ME X W S (.Call (.Attribute (.Name x p') "index" apos) [e0] [] pos) (mIndexO i ms) := by
  obtain ⟨t', pt', k'⟩ := ha.ex
  refine ⟨_, pe_bm PySem.F.plainAttrs_list PySem.F.slot_list_index PySem.F.type_list_index (mt_indexD hu) hv pt' hb hf hl hs hp, fun B F H σ ρ Q I h => ?_⟩
  obtain ⟨d0, e1, h1⟩ := sat_of (Sat.bind h)
  obtain ⟨a, ea, xs0, ds0, _, _, hH0, _⟩ := own_lst I k e1
  refine ⟨_, ea, .inl ⟨rfl, xs0, .inl (.inl hH0)⟩, ?_⟩
  refine k' B F H σ ρ _ I ((Sat.bind h1).mono (fun as ρ2 h2 F2 H2 vs I2 s2 r2 => ?_) fun _ _ z => z)
  split at h2
  · rename_i ds e2
    obtain ⟨z, hz, h3⟩ := sat_of h2
    obtain ⟨a', ea', xs, ds', e3, hF, hH, rr⟩ := own_lst I2 k e2
    rw [ea] at ea'
    cases ea'
    cases e3
    unfold gIndex at hz
    split at hz
    · split at hz
      · rename_i hk
        obtain ⟨j, q1, rfl⟩ := Option.map_eq_some_iff.mp hz
        obtain ⟨hj, q2, q3⟩ := List.findIdx?_eq_some_iff_getElem.mp q1
        cases r2 with
        | cons r2 rr2 =>
          cases rr2
          refine ⟨_, _, _, _, j, _, rfl, rfl, (Rp.lst (.inl hH) (rr.up I2.same)).dp (shaped_lay hk.2), (r2.up I2.same).dp (shaped_lay hk.1), hk.2, hk.1, List.getElem?_eq_getElem hj, q2, fun m z' hm hz' => ?_, h3 F2 H2 _ I2 s2 (.int _)⟩
          obtain ⟨hm2, rfl⟩ := List.getElem?_eq_some_iff.mp hz'
          simpa using q3 m hm
      · cases hz
    · cases hz
  · exact h2.elim
/-- xs[::-1] -/
def gRev : List D → Option (List D)
  | [.list ds] => some ds.reverse
  | _ => none
theorem ml_revO (i : Nat) {x : Str} {p' : Pos} {kk : Nat} {p1 p2 p3 : Pos} (k : knd S i = 1) (hv : PE X (.Name x p') (tVar i)) : ML X W S (.Subscript (.Name x p') (.Slice none none (some (.UnaryOp .USub (.Constant (.int 1) kk p1) p2)) p3) pos) (mCallOL gRev i) := by
  refine ⟨_, pe_revL hv, fun B F H σ ρ Q I h => ?_⟩
  obtain ⟨d, e1, h3⟩ := sat_of (Sat.bind h)
  obtain ⟨z, hz, h4⟩ := sat_of h3
  obtain ⟨a, ea, xs, ds, rfl, hF, hH, r⟩ := own_lst I k e1
  cases hz
  exact ⟨_, ea, _, _, rfl, .inl (.inl hH), fun p hp => LKo.mk h4 I r.rev hp⟩
end
end MW
namespace MW
open PySem PySem.Spec PyProof.Rows L2
section
variable {X : Cx} {W : WX} {S : Sg} {pos : Pos} {vs : List Nat}
theorem mg_twoK {K0 : Fg} (i j : Nat) {x y : Str} {p1 p2 : Pos} {kk : Nat} (e : X.K = K0) (k : knd S i = 0) (k' : knd S j = 0) (hc : X.calm = true) (h1 : PG X (.Name x p1) (gName i)) (h2 : PG X (.Name y p2) (gName j))
    (hs : (assignEach [Expr.Name x p1, Expr.Name y p2] X.env).map (·.2) = assign (.Name x p1) X.env :: (assignEach [Expr.Name y p2] X.env).map (·.2) := by rfl) (hs2 : (assignEach [Expr.Name y p2] X.env).map (·.2) = assign (.Name y p2) X.env :: (assignEach [] X.env).map (·.2) := by rfl)
    (hn : (assignEach [Expr.Name x p1, Expr.Name y p2] X.env).length = 2 := by rfl) (hst : (assignEach [Expr.Name x p1, Expr.Name y p2] X.env).findIdx? (·.1) = none := by rfl) :
    MG X S (.Tuple [.Name x p1, .Name y p2] kk pos) (gTup K0 2 (gCons (gName i) (gCons (gName j) gNil))) [i, j] (gN2 i j) := e ▸ mg_two i j k k' hc h1 h2 hs hs2 hn hst
/-- a, b = x, y -/
def mPar (i j : Nat) (ms : Ev → Out (List D)) : Ev → Out Fl := fun ρ => (ms ρ).bind fun ds ρ1 => match ds with
  | [d, e] => .ok .nx ((ρ1.set i (some d)).set j (some e))
  | _ => .bad
theorem ms_par (i j : Nat) {x y : Str} {a b : Expr} {ms : Ev → Out (List D)} {px py pt : Pos} {kt : Nat} {k2 : Nat} {pt2 : Pos} (k : knd S i = 0) (k' : knd S j = 0) (hc : X.calm = true) (hN : X.N.Nodup) (hi : X.N[i]? = some x) (hj : X.N[j]? = some y) (hij : i ≠ j)
    (hx : X.env.scope.names.lookup x = some .local) (hy : X.env.scope.names.lookup y = some .local) (ha : MA X W S [a, b] ms) (hw : swappedStores [.Tuple [.Name x px, .Name y py] kt pt] (.Tuple [a, b] k2 pt2) X.env = pure (some [x, y]))
    (hs : swapsWithSole [.Tuple [.Name x px, .Name y py] kt pt] (.Tuple [a, b] k2 pt2) pos.line X.env = pure false := by rfl) :
    MS X W S (.Assign [.Tuple [.Name x px, .Name y py] kt pt] (.Tuple [a, b] k2 pt2) pos) (mPar i j ms) := by
  obtain ⟨t, p, q⟩ := ha.ex
  refine ⟨_, ps_par hc hN hi hj hij hx hy p hw hs, fun B F H σ ρ D I h => ?_⟩
  refine q B F H σ ρ _ I ((Sat.bind h).mono (fun ds ρ1 h1 F1 H1 us I1 s1 r1 => ?_) fun _ _ z => XSo.ex z)
  have h1 : Sat (match ds with
    | [d, e] => Out.ok Fl.nx ((ρ1.set i (some d)).set j (some e))
    | _ => .bad) (FKo X.K S B F D) (XSo X W S B F) := h1
  split at h1
  · cases r1 with
    | cons ra rr =>
      cases rr with
      | cons rb rr =>
        cases rr
        exact ⟨_, _, rfl, h1 F1 H1 _ ((I1.setSh k ra).setSh k' rb) s1⟩
  · exact h1.elim
end
def tMSs (K : Fg) (mg : Str → Option Value) (W : WX) (S : Sg) (m : Ev → Out Fl) : TS := fun D σ H => ∃ B F ρ, SInv K S B σ F H ρ ∧ Sat (m ρ) (FKo K S B F D) (fun c ρ' => ∀ F' H' σ' C, SInv K S B σ' F' H' ρ' → Same F F' → mg c = some (.ref C) → W (.ref C) none σ' H')
theorem MSs.run {X : Cx} {W : WX} {S : Sg} {sts : List Stmt} {m : Ev → Out Fl} (h : MSs X W S sts m) : PSs X sts (tMSs X.K X.mg W S m) := by
  obtain ⟨t, p, q⟩ := h.ex
  exact ⟨fun pins s σ H D I ⟨B, F, ρ, J, z⟩ => p.run pins s σ H D I (q B F H σ ρ D J z)⟩
/-- cs: of which classes it is known whether they are caught -/
def mTry (mb : Ev → Out Fl) (cs : List (Str × Bool)) (mh : Ev → Out Fl) : Ev → Out Fl := fun ρ => match mb ρ with
  | .ok fl ρ1 => .ok fl ρ1
  | .err c ρ1 => match cs.lookup c with
    | some true => noE (mh ρ1)
    | some false => .err c ρ1
    | none => .bad
  | .bad => .bad
theorem cs_nil {X : Cx} {C : Value} : ∀ (n : Str) (b : Bool), (n, b) ∈ ([] : List (Str × Bool)) → ∀ A, X.mg n = some (.ref A) → PySem.W.exmOne X.K (.ref A) C = some b := fun _ _ h => by cases h
theorem cs_cons {X : Cx} {C : Value} {x : Str} {A0 : Addr} {b0 : Bool} {cs : List (Str × Bool)} (e : X.mg x = some (.ref A0)) (h : PySem.W.exmOne X.K (.ref A0) C = some b0) (t : ∀ n b, (n, b) ∈ cs → ∀ A, X.mg n = some (.ref A) → PySem.W.exmOne X.K (.ref A) C = some b) : ∀ (n : Str) (b : Bool), (n, b) ∈ (x, b0) :: cs → ∀ A, X.mg n = some (.ref A) → PySem.W.exmOne X.K (.ref A) C = some b := fun n b hm A hA => by
  rcases List.mem_cons.mp hm with z | z
  · cases z
    rw [e] at hA
    cases hA
    exact h
  · exact t n b z A hA
theorem ms_try {X : Cx} {W : WX} {S : Sg} {pos pos' np : Pos} {x : Str} {C : Addr} {body suite : List Stmt} {b₀ : Stmt} {mb mh : Ev → Out Fl} {cs : List (Str × Bool)} (hs : X.stack = X.env :: X.outer) (hf : X.env.frame = some X.env.locals) (hc : Names X x (.ref C)) (tk : Takes X W)
    (hcs : ∀ n b, (n, b) ∈ cs → ∀ A, X.mg n = some (.ref A) → PySem.W.exmOne X.K (.ref A) (.ref C) = some b)
    (hb : ∀ (W' : WX) (pn : List (Addr × Obj)) (xe : Value → Shared → Prop), Takes (X.tr pn xe) W' → PassesOwn (model X.prog X.w) X.A X.env xe → MSs (X.tr pn xe) W' S body mb)
    (hsu : ∀ (a : Addr) (oe : Obj) (cls : Value) (d : Option Addr) (pn : List (Addr × Obj)), Zc cls d oe → (∃ vs, oe.data = .fields vs) → MSs (X.suite a ((a, oe) :: pn)) (fun _ _ _ _ => False) S (b₀ :: suite) mh) :
    MS X W S (.Try body [.ExceptHandler (some (.Name x np)) none (b₀ :: suite) pos'] [] [] pos) (mTry mb cs mh) := by
  refine ⟨_, ps_try_only (tb := fun W' => tMSs X.K X.mg W' S mb) (ts := fun _ _ _ => tMSs X.K X.mg (fun _ _ _ _ => False) S mh) hs hf hc tk (fun W' pn xe t1 t2 => (hb W' pn xe t1 t2).run) (fun a oe cls d pn z1 z2 => (hsu a oe cls d pn z1 z2).run), fun B F H σ ρ D I h => ?_⟩
  refine ⟨B, F, ρ, I, ?_⟩
  unfold mTry at h
  cases e : mb ρ with
  | bad => rw [e] at h; exact h.elim
  | ok fl ρ1 => rw [e] at h; exact h
  | err c ρ1 =>
    rw [e] at h
    intro F' H' σ' A J s hm
    have h : Sat (match cs.lookup c with
      | some true => noE (mh ρ1)
      | some false => .err c ρ1
      | none => .bad) (FKo X.K S B F D) (XSo X W S B F) := h
    cases e2 : cs.lookup c with
    | none => rw [e2] at h; exact h.elim
    | some b =>
      rw [e2] at h
      have hmem : (c, b) ∈ cs := PySem.mem_of_lookup e2
      refine ⟨b, hcs c b hmem A hm, fun hb1 a ha => ?_, fun hb0 => ?_⟩
      · subst hb1
        refine ⟨B, F', ρ1, J, ?_⟩
        have h : Sat (noE (mh ρ1)) (FKo X.K S B F D) (XSo X W S B F) := h
        cases e3 : mh ρ1 with
        | bad => rw [e3] at h; exact h.elim
        | err c ρ2 => rw [e3] at h; exact h.elim
        | ok fl ρ2 => rw [e3] at h; exact FKo.up s h
      · subst hb0
        exact h F' H' σ' A J s hm
end MW
namespace MW
open PySem
theorem comp_filter {α : Type} {g : Ev → D → Option Ev} {mt : Ev → Out Bool} {me : Ev → Out D} {vs : List Nat} {enc : α → D} {ρ0 : Ev} (p : α → Bool) (f : α → D) : ∀ {l : List α}, (∀ x ∈ l, ∃ ρ1, g ρ0 (enc x) = some ρ1 ∧ Ok (mt ρ1) fun b ρ2 => b = p x ∧ if b = true then Ok (me ρ2) (fun z ρ3 => z = f x ∧ wipeE ρ3 vs = ρ0) else wipeE ρ2 vs = ρ0) →
    Ok (compM g mt me vs (l.map enc) ρ0) fun ys ρ => ys = (l.filter p).map f ∧ ρ = ρ0
  | [], _ => ⟨rfl, rfl⟩
  | x :: l, h => by
    obtain ⟨ρ1, e, k⟩ := h x List.mem_cons_self
    have ih := comp_filter p f (l := l) fun y hy => h y (List.mem_cons_of_mem _ hy)
    rw [List.map_cons]
    unfold compM
    refine ok_bind (ok_of e (ok_bind (k.mono fun b ρ2 ⟨hb, z⟩ => ?_)))
    cases b with
    | true =>
      have z : Ok (me ρ2) (fun z ρ3 => z = f x ∧ wipeE ρ3 vs = ρ0) := z
      show Ok ((me ρ2).bind fun y ρ3 => (compM g mt me vs (l.map enc) (wipeE ρ3 vs)).bind fun ys ρ4 => .ok (y :: ys) ρ4) _
      refine ok_bind (z.mono fun y ρ3 ⟨e1, e2⟩ => ok_bind ?_)
      rw [e2]
      refine ih.mono fun ys ρ4 ⟨e3, e4⟩ => ?_
      refine ⟨?_, e4⟩
      rw [List.filter_cons_of_pos hb.symm, List.map_cons, e1, e3]
    | false =>
      have z : wipeE ρ2 vs = ρ0 := z
      show Ok (compM g mt me vs (l.map enc) (wipeE ρ2 vs)) _
      rw [z]
      refine ih.mono fun ys ρ4 ⟨e3, e4⟩ => ⟨?_, e4⟩
      rw [List.filter_cons_of_neg (by rw [← hb]; exact Bool.false_ne_true), e3]
theorem comp_map {α : Type} {g : Ev → D → Option Ev} {me : Ev → Out D} {vs : List Nat} {enc : α → D} {ρ0 : Ev} (f : α → D) {l : List α} (h : ∀ x ∈ l, ∃ ρ1, g ρ0 (enc x) = some ρ1 ∧ Ok (me ρ1) (fun z ρ3 => z = f x ∧ wipeE ρ3 vs = ρ0)) : Ok (compM g mYes me vs (l.map enc) ρ0) fun ys ρ => ys = l.map f ∧ ρ = ρ0 := by
  refine (comp_filter (fun _ => true) f (l := l) fun x hx => ?_).mono fun ys ρ ⟨e1, e2⟩ => ⟨?_, e2⟩
  · obtain ⟨ρ1, e, k⟩ := h x hx
    exact ⟨ρ1, e, rfl, k⟩
  · rw [e1]; congr 1; exact List.filter_eq_self.mpr fun _ _ => rfl
theorem rangeD_nD (n : Nat) : rangeD 0 n = (List.range n).map nD := by
  unfold rangeD
  apply List.map_congr_left
  intro i _
  show PyData.int (0 + (i : Int)) = PyData.int (i : Int)
  rw [Int.zero_add]
theorem ok_par {i j : Nat} {ms : Ev → Out (List D)} {ρ : Ev} {PF : Fl → Ev → Prop} (h : Ok (ms ρ) fun ds ρ1 => ∃ d e, ds = [d, e] ∧ PF .nx ((ρ1.set i (some d)).set j (some e))) : Ok (mPar i j ms ρ) PF := ok_bind (h.mono fun ds ρ1 ⟨d, e, e1, k⟩ => by subst e1; exact k)
/-- a body that ends well -/
theorem ok_try {mb mh : Ev → Out Fl} {cs : List (Str × Bool)} {ρ : Ev} {PF : Fl → Ev → Prop} (h : Ok (mb ρ) PF) : Ok (mTry mb cs mh ρ) PF := by
  unfold mTry
  cases e : mb ρ with
  | ok fl ρ1 => rw [e] at h; exact h
  | err c ρ1 => rw [e] at h; exact h.elim
  | bad => rw [e] at h; exact h.elim
theorem ok_indexO {i : Nat} {ms : Ev → Out (List D)} {ρ : Ev} {d : D} {P : D → Ev → Prop} (e : rd ρ i = some d) (h : Ok (ms ρ) fun as ρ1 => ∃ ds z, rd ρ1 i = some (.list ds) ∧ gIndex ds as = some z ∧ P z ρ1) : Ok (mIndexO i ms ρ) P := ok_bind (ok_of e (ok_bind (h.mono fun as ρ1 ⟨ds, z, e1, e2, k⟩ => by rw [e1]; exact ok_of e2 k)))
theorem bIn_nD (n : Nat) (q : List Nat) : bIn (nD n) (.list (q.map nD)) = some (q.contains n) := by
  show (if SeqAt.shaped (nD n) = true ∧ SeqAt.shaped (.list (q.map nD)) = true then some ((q.map nD).any fun z => PyData.eqv z (nD n)) else none) = _
  rw [if_pos ⟨shaped_nD n, shaped_lD q⟩]
  congr 1
  rw [List.any_map, List.contains_eq_any_beq]
  congr 1
  funext x
  show ((x : Int) == (n : Int)) = (n == x)
  by_cases e : n = x
  · subst e; simp
  · rw [beq_eq_false_iff_ne.mpr (show (x : Int) ≠ n by omega), beq_eq_false_iff_ne.mpr e]
theorem bNotIn_nD (n : Nat) (q : List Nat) : bNotIn (nD n) (.list (q.map nD)) = some (!q.contains n) := by
  unfold bNotIn
  rw [bIn_nD]; rfl
theorem gIndex_nD {q : List Nat} {n : Nat} (h : n ∈ q) : gIndex (q.map nD) [nD n] = some (nD (q.idxOf n)) := by
  show (if SeqAt.shaped (nD n) = true ∧ SeqAt.shaped (.list (q.map nD)) = true then ((q.map nD).findIdx? fun z => PyData.eqv z (nD n)).map fun j => PyData.int (j : Nat) else none) = _
  rw [if_pos ⟨shaped_nD n, shaped_lD q⟩]
  have e : (q.map nD).findIdx? (fun z => PyData.eqv z (nD n)) = some (q.idxOf n) := by
    rw [List.findIdx?_map]
    have : ((fun z => PyData.eqv z (nD n)) ∘ nD) = fun x => x == n := by
      funext x
      show ((x : Int) == (n : Int)) = (x == n)
      by_cases e : x = n
      · subst e; simp
      · rw [beq_eq_false_iff_ne.mpr (show (x : Int) ≠ n by omega), beq_eq_false_iff_ne.mpr e]
    rw [this, List.findIdx?_eq_some_iff_findIdx_eq]
    exact ⟨by rw [List.idxOf_lt_length_iff]; exact h, rfl⟩
  rw [e]; rfl
end MW
namespace MW
open PySem
def Rb (L k : Nat) (d : D) : Prop := d.showable = true ∧ d.hasDict = false ∧ d.depth ≤ k ∧ d.shown.length ≤ L
theorem Rb.up {L L' k k' : Nat} {d : D} (h : Rb L k d) (h1 : L ≤ L') (h2 : k ≤ k') : Rb L' k' d := ⟨h.1, h.2.1, Nat.le_trans h.2.2.1 h2, Nat.le_trans h.2.2.2 h1⟩
theorem shown_all : ∀ {ds : List D} {L : Nat}, (∀ d ∈ ds, d.shown.length ≤ L) → piled (PyData.shownAll ds) ≤ ds.length * (L + 2)
  | [], _, _ => by simp [PyData.shownAll, piled]
  | d :: ds, L, h => by
    have ih := shown_all (ds := ds) (L := L) fun x hx => h x (List.mem_cons_of_mem _ hx)
    have h1 := h d List.mem_cons_self
    have e : piled (PyData.shownAll (d :: ds)) = (d.shown.length + 2) + piled (PyData.shownAll ds) := by
      simp [PyData.shownAll, piled]
    rw [e, List.length_cons, Nat.succ_mul]
    omega
theorem all_of : ∀ {ds : List D} {L k : Nat}, (∀ d ∈ ds, Rb L k d) → PyData.showableAll ds = true ∧ PyData.hasDictAll ds = false ∧ PyData.depthAll ds ≤ k
  | [], _, _, _ => ⟨rfl, rfl, Nat.zero_le _⟩
  | d :: ds, L, k, h => by
    obtain ⟨a, b, c⟩ := all_of (ds := ds) fun x hx => h x (List.mem_cons_of_mem _ hx)
    obtain ⟨a1, b1, c1, _⟩ := h d List.mem_cons_self
    refine ⟨?_, ?_, ?_⟩
    · simp [PyData.showableAll, a, a1]
    · simp [PyData.hasDictAll, b, b1]
    · simp only [PyData.depthAll]; omega
theorem tuple_len (ts : List Str) : (tupleText ts).length ≤ piled ts + 3 := by
  by_cases e : ts = []
  · subst e; decide +kernel
  · have := join_length_add ts e
    unfold tupleText
    rw [Str.length_append, Str.length_append]
    have h1 : ((("(" : String) : Str)).length = 1 := by decide +kernel
    have h2 : (((if ts.length == 1 then ",)" else ")" : String) : Str)).length ≤ 2 := by split <;> decide +kernel
    omega
theorem rb_tuple {ds : List D} {L k n : Nat} (h : ∀ d ∈ ds, Rb L k d) (hn : ds.length ≤ n) : Rb (n * (L + 2) + 3) (k + 1) (.tuple ds) := by
  obtain ⟨a, b, c⟩ := all_of h
  refine ⟨by simpa [PyData.showable] using a, by simpa [PyData.hasDict] using b, by simp only [PyData.depth]; omega, ?_⟩
  simp only [PyData.shown]
  have h1 := tuple_len (PyData.shownAll ds)
  have h2 := shown_all fun d hd => (h d hd).2.2.2
  have h3 : ds.length * (L + 2) ≤ n * (L + 2) := Nat.mul_le_mul_right _ hn
  omega
theorem bNe_str (a : Str) : bNe (.str a) (.str a) = some false := by
  unfold bNe
  split
  · simp [PyData.eqv]
  · simp [sEq]
end MW
namespace MW
open PySem
theorem for_list {α : Type} {enc : α → D} {g : Ev → D → Option Ev} {mb : Ev → Out Fl} {PF : Fl → Ev → Prop} {l : List α} {ρ : Ev} (I : Nat → Ev → Prop) (h0 : I 0 ρ) (h1 : ∀ i (h : i < l.length) ρ, I i ρ → ∃ ρ', g ρ (enc l[i]) = some ρ' ∧ Ok (mb ρ') (Turned (I (i + 1)) PF)) (h2 : ∀ ρ, I l.length ρ → PF .nx ρ) : Ok (forM g mb (l.map enc) ρ) PF := by
  refine for_inv I 0 h0 (fun i d ρ hi k => ?_) fun ρ k => h2 ρ (by rw [List.length_map, Nat.zero_add] at k; exact k)
  obtain ⟨h, rfl⟩ := at_map hi
  rw [Nat.zero_add] at k ⊢
  exact h1 i h ρ k
theorem comp_list {α : Type} {enc : α → D} {g : Ev → D → Option Ev} {mt : Ev → Out Bool} {me : Ev → Out D} {vs : List Nat} {PL : List D → Ev → Prop} {l : List α} {ρ : Ev} (J : Nat → List D → Ev → Prop) (h0 : J 0 [] ρ)
    (h1 : ∀ i (h : i < l.length) ys ρ, J i ys ρ → ∃ ρ1, g ρ (enc l[i]) = some ρ1 ∧ Ok (mt ρ1) fun b ρ2 => if b = true then Ok (me ρ2) fun y ρ3 => J (i + 1) (ys ++ [y]) (wipeE ρ3 vs) else J (i + 1) ys (wipeE ρ2 vs))
    (h2 : ∀ ys ρ, J l.length ys ρ → PL ys ρ) : Ok (compM g mt me vs (l.map enc) ρ) PL := by
  refine comp_inv J 0 [] h0 (fun i d ys ρ hi k => ?_) fun ys ρ k => h2 ys ρ (by rw [List.length_map, Nat.zero_add, List.nil_append] at k; exact k)
  obtain ⟨h, rfl⟩ := at_map hi
  rw [Nat.zero_add] at k ⊢
  exact h1 i h ys ρ k
theorem range_get {n i : Nat} (h : i < (List.range n).length) : (List.range n)[i] = i ∧ i < n := ⟨List.getElem_range h, by simpa using h⟩
end MW
namespace MW
open PySem PySem.Spec PyProof.Rows L2
inductive MHds (X : Cx) (S : Sg) : List ExceptHandler → List (List (Str × Bool) × (Ev → Out Fl)) → List (Value × (Addr → Value → Option Addr → TS)) → Prop
  | nil : MHds X S [] [] []
  | cons {x : Str} {C : Addr} {np pos' : Pos} {b₀ : Stmt} {suite : List Stmt} {cs : List (Str × Bool)} {mh : Ev → Out Fl} {hds : List ExceptHandler} {l : List (List (Str × Bool) × (Ev → Out Fl))} {ts : List (Value × (Addr → Value → Option Addr → TS))} (hc : Names X x (.ref C))
      (hcs : ∀ n b, (n, b) ∈ cs → ∀ A, X.mg n = some (.ref A) → PySem.W.exmOne X.K (.ref A) (.ref C) = some b)
      (hsu : ∀ (a : Addr) (oe : Obj) (cls : Value) (d : Option Addr) (pn : List (Addr × Obj)), Zc cls d oe → (∃ vs, oe.data = .fields vs) → MSs (X.suite a ((a, oe) :: pn)) (fun _ _ _ _ => False) S (b₀ :: suite) mh)
      (r : MHds X S hds l ts) : MHds X S (.ExceptHandler (some (.Name x np)) none (b₀ :: suite) pos' :: hds) ((cs, mh) :: l) ((.ref C, fun _ _ _ => tMSs X.K X.mg (fun _ _ _ _ => False) S mh) :: ts)
section
variable {X : Cx} {W : WX} {S : Sg} {pos : Pos} {hds : List ExceptHandler} {l : List (List (Str × Bool) × (Ev → Out Fl))} {ts : List (Value × (Addr → Value → Option Addr → TS))}
theorem MHds.ok (h : MHds X S hds l ts) : HdsOk X hds ts := by
  induction h with
  | nil => exact .nil
  | cons hc hcs hsu r ih => exact .cons hc (fun a oe cls d pn z1 z2 => (hsu a oe cls d pn z1 z2).run) ih
end
end MW
namespace MW
open PySem PySem.Spec PyProof.Rows L2
/-- σ knows what σ0 knows -/
def Kp (σ0 σ : Sts) : Prop := σ0.length = σ.length ∧ ∀ (j : Nat) (v : V), σ0[j]? = some (some v) → σ[j]? = some (some v)
theorem Kp.refl (σ : Sts) : Kp σ σ := ⟨rfl, fun _ _ e => e⟩
theorem Kp.trans {a b c : Sts} (h : Kp a b) (k : Kp b c) : Kp a c := ⟨h.1.trans k.1, fun j v e => k.2 j v (h.2 j v e)⟩
end MW
namespace MW
open PySem PySem.Spec PyProof.Rows L2
end MW
namespace MW
open PySem PySem.Spec PyProof.Rows L2
abbrev tI (ks : List Int) : D := .tuple (ks.map .int)
end MW
namespace MW
open PySem PySem.Spec PyProof.Rows L2
def keyI : D → Option (List Int)
  | .tuple ds => intsOf ds
  | _ => none
/-- what a set of pairs has to do with the items that were put into it -/
structure SetRel (K : Fg) (F : Hp) (L : List (Addr × List Int)) (ys : List D) : Prop where
  nd : (L.map (·.2)).Nodup
  rp : ∀ p ∈ L, p.2 ≠ [] ∧ Rp K F (.ref p.1) (tI p.2)
  mem : ∀ k, k ∈ L.map (·.2) ↔ k ∈ ys.filterMap keyI
  len : L.length ≤ ys.length
theorem SetRel.up {K : Fg} {F F' : Hp} {L : List (Addr × List Int)} {ys : List D} (s : Same F F') (h : SetRel K F L ys) : SetRel K F' L ys := ⟨h.nd, fun p hp => ⟨(h.rp p hp).1, (h.rp p hp).2.up s⟩, h.mem, h.len⟩
end MW
namespace MW
open PySem PySem.Spec PyProof.Rows L2
end MW
namespace MW
open PySem PySem.Spec PyProof.Rows L2
end MW
namespace MW
open PySem PySem.Spec PyProof.Rows L2
inductive RpP (K : Fg) (F : Hp) : List (L2.Key × V) → List (L2.Key × D) → Prop
  | nil : RpP K F [] []
  | cons {k : L2.Key} {v : V} {kvs : List (L2.Key × V)} {d : D} {ps : List (L2.Key × D)} : Rp K F v d → RpP K F kvs ps → RpP K F ((k, v) :: kvs) ((k, d) :: ps)
section
variable {K : Fg} {F F' : Hp}
theorem RpP.up (s : Same F F') : ∀ {kvs : List (L2.Key × V)} {ps : List (L2.Key × D)}, RpP K F kvs ps → RpP K F' kvs ps
  | _, _, .nil => .nil
  | _, _, .cons r t => .cons (r.up s) (t.up s)
theorem RpP.len : ∀ {kvs : List (L2.Key × V)} {ps : List (L2.Key × D)}, RpP K F kvs ps → kvs.length = ps.length
  | _, _, .nil => rfl
  | _, _, .cons r t => by rw [List.length_cons, List.length_cons, t.len]
theorem RpP.any (k : L2.Key) : ∀ {kvs : List (L2.Key × V)} {ps : List (L2.Key × D)}, RpP K F kvs ps → (kvs.any fun kv => decide (kv.1 = k)) = ps.any fun p => decide (p.1 = k)
  | _, _, .nil => rfl
  | _, _, .cons r t => by rw [List.any_cons, List.any_cons, t.any k]
theorem RpP.app : ∀ {kvs ls : List (L2.Key × V)} {ps qs : List (L2.Key × D)}, RpP K F kvs ps → RpP K F ls qs → RpP K F (kvs ++ ls) (ps ++ qs)
  | _, _, _, _, .nil, h => h
  | _, _, _, _, .cons r t, h => .cons r (t.app h)
end
end MW
namespace MW
open PySem PySem.Spec PyProof.Rows L2
end MW
namespace MW
open PySem PySem.Spec PyProof.Rows L2
end MW
namespace MW
open PySem PySem.Spec PyProof.Rows L2
end MW
namespace MW
open PySem PySem.Spec PyProof.Rows L2
section
variable {X : Cx} {W : WX} {S : Sg}
theorem EKo.dct {B : Base} {σ : Sts} {F H : Hp} {ρ : Ev} {Q : VK} {kvs : List (L2.Key × V)} {ps : List (D × D)} {p : Addr} {K : Fg} (h : EKo K S B σ F Q (.dict ps) ρ) (I : SInv K S B σ F H ρ) (r : RpK K F kvs ps) (r' : ∀ F', Same F F' → RpK K F' kvs ps) (hp : H p = none) : ∃ d u, V.ref p = .ref d ∧ upd H p (.dK kvs) d = some u ∧ L2.Mut (some u) ∧ ∀ od, Q (.ref p) (upd (upd H p (.dK kvs)) d (.frz od u)) := by
  have hF : F p = none := Same.free I.same hp
  refine ⟨p, _, rfl, upd_same, trivial, fun od => ?_⟩
  rw [upd_upd]
  exact h _ _ _ (I.newF hp) (same_upd hF) (.dct upd_same (r' _ (same_upd hF)))
end
end MW
namespace MW
open PySem PySem.Spec PyProof.Rows L2
end MW
namespace MW
open PySem PySem.Spec PyProof.Rows L2
end MW
namespace MW
open PySem PySem.Spec PyProof.Rows L2
section
variable {prog : Program} {w : World} {A : Around} {s0 : Shared} {R : Result → Shared → Prop} {xs ys : Array Value} {a b z TI TO i1 i2 S : Addr} {h0 : Heap} {J : List Addr → Heap → Prop}
/-- the pairs that are in the list by now -/
structure ZPairs (xs ys : Array Value) (z TO i1 i2 S : Addr) (h0 h : Heap) (ts : List Addr) (c : Nat) : Prop where
  lst : h.get? S = some { cls := .type "list", data := .seq (ts.map Value.ref).toArray c }
  pair : ∀ j (hj : j < ts.length), ∃ x y, xs[j]? = some x ∧ ys[j]? = some y ∧ IsPair h ts[j] x y
  fresh : ∀ t ∈ ts, t ≠ z ∧ t ≠ i1 ∧ t ≠ i2 ∧ t ≠ S ∧ h0.get? t = none
  old : ∀ c o, c ≠ z → c ≠ TO → c ≠ i1 → c ≠ i2 → c ≠ S → h0.get? c = some o → h.get? c = some o
theorem ZPairs.keep {h h' : Heap} {ts : List Addr} {c : Nat} (p : ZPairs xs ys z TO i1 i2 S h0 h ts c) (hS : S ≠ z ∧ S ≠ TO ∧ S ≠ i1 ∧ S ≠ i2) (k : ∀ c o, c ≠ z → c ≠ i1 → c ≠ i2 → h.get? c = some o → h'.get? c = some o) : ZPairs xs ys z TO i1 i2 S h0 h' ts c :=
  ⟨k _ _ hS.1 hS.2.2.1 hS.2.2.2 p.lst, fun j hj => by
    obtain ⟨x, y, e1, e2, e3⟩ := p.pair j hj
    obtain ⟨n1, n2, n3, _, _⟩ := p.fresh _ (List.getElem_mem hj)
    exact ⟨x, y, e1, e2, k _ _ n1 n2 n3 e3⟩, p.fresh, fun c o m1 m2 m3 m4 m5 q => k _ _ m1 m3 m4 (p.old c o m1 m2 m3 m4 m5 q)⟩
/-- one more -/
theorem ZPairs.push {h : Heap} {ts : List Addr} {c T : Nat} {x y : Value} (p : ZPairs xs ys z TO i1 i2 S h0 h ts c) (g : IsPair h T x y) (n : T ≠ z ∧ T ≠ i1 ∧ T ≠ i2 ∧ T ≠ S ∧ h0.get? T = none) (e1 : xs[ts.length]? = some x) (e2 : ys[ts.length]? = some y) :
    ZPairs xs ys z TO i1 i2 S h0 (h.update S (Obj.mapSeq fun v => v.push (.ref T))) (ts ++ [T]) (if ((ts.map Value.ref).toArray.push (.ref T)).size == (ts.map Value.ref).toArray.size then c else c + 1) := by
  have other : ∀ c, c ≠ S → (h.update S (Obj.mapSeq fun v => v.push (.ref T))).get? c = h.get? c := fun c hc => Heap.get?_update_other h _ (Ne.symm hc)
  refine ⟨?_, fun j hj => ?_, fun t ht => ?_, fun c o m1 m2 m3 m4 m5 q => (other c m5).trans (p.old c o m1 m2 m3 m4 m5 q)⟩
  · have := Heap.get?_update_self (Obj.mapSeq fun v => v.push (.ref T)) p.lst rfl
    rw [List.map_append, List.map_singleton, ← List.push_toArray]
    exact this
  · by_cases z : j < ts.length
    · obtain ⟨x', y', q1, q2, q3⟩ := p.pair j z
      refine ⟨x', y', q1, q2, ?_⟩
      rw [List.getElem_append_left z]
      exact (other _ (p.fresh _ (List.getElem_mem z)).2.2.2.1).trans q3
    · have ej : j = ts.length := by rw [List.length_append, List.length_singleton] at hj; omega
      subst ej
      refine ⟨x, y, e1, e2, ?_⟩
      rw [List.getElem_append_right (Nat.le_refl _)]
      simp only [Nat.sub_self, List.getElem_singleton]
      exact (other _ n.2.2.2.1).trans g
  · rcases List.mem_append.mp ht with z | z
    · exact p.fresh t z
    · rw [List.mem_singleton.mp z]; exact n
/-- where the walk stands -/
structure ZWalk (xs ys : Array Value) (a b z TI i1 i2 : Addr) (i : Nat) (h : Heap) : Prop where
  ti : IsPair h TI (.ref i1) (.ref i2)
  one : h.IsTupleIter i1 a i
  two : h.IsTupleIter i2 b i
  ta : h.IsTuple a xs
  tb : h.IsTuple b ys
theorem ZWalk.at {i : Nat} {h h' : Heap} (w : ZWalk xs ys a b z TI i1 i2 i h) (k : ∀ c o, (c = TI ∨ c = i1 ∨ c = i2 ∨ c = a ∨ c = b) → h.get? c = some o → h'.get? c = some o) : ZWalk xs ys a b z TI i1 i2 i h' :=
  ⟨k _ _ (.inl rfl) w.ti, w.one.at fun o q => k _ o (.inr (.inl rfl)) q, w.two.at fun o q => k _ o (.inr (.inr (.inl rfl))) q, w.ta.at fun o q => k _ o (.inr (.inr (.inr (.inl rfl)))) q, w.tb.at fun o q => k _ o (.inr (.inr (.inr (.inr rfl)))) q⟩
end
end MW
namespace MW
open PySem PySem.Spec PyProof.Rows L2
end MW
namespace MW
open PySem PySem.Spec PyProof.Rows L2
end MW
namespace MW
open PySem PySem.Spec PyProof.Rows L2
end MW
namespace MW
open PySem PySem.Spec PyProof.Rows L2
variable {gq : Bool}
def FkO (K : Fg) (S : Sg) (B : Base) (F : Hp) (D : Ends) (i : Nat) : Fl → Ev → Prop := fun fl ρ' => fl = .nx ∧ ∀ F' H' σ', SInv K S B σ' F' H' ρ' → Same F F' → ∀ p, σ'[i]? = some (some (.ref p)) → D.rt (.ref p) H'
theorem FkO.up {K : Fg} {S : Sg} {B : Base} {F F1 : Hp} {D : Ends} {i : Nat} {fl : Fl} {ρ : Ev} (s : Same F F1) (h : FkO K S B F D i fl ρ) : FkO K S B F1 D i fl ρ := ⟨h.1, fun F' H' σ' I s' => h.2 F' H' σ' I (s.trans s')⟩
end MW
namespace MW
open PySem PySem.Spec PyProof.Rows L2
end MW
namespace MW
open PySem PySem.Spec PyProof.Rows L2
end MW
namespace MW
open PySem PySem.Spec PyProof.Rows L2
end MW
namespace MW
open PySem PySem.Spec PyProof.Rows L2
end MW
namespace MW
open PySem PySem.Spec PyProof.Rows L2
theorem RpK.at {K : Fg} {F : Hp} : ∀ {kvs : List (L2.Key × V)} {ps : List (D × D)} {i : Nat} {k : L2.Key} {v : V}, RpK K F kvs ps → kvs[i]? = some (k, v) → ∃ d, ps[i]? = some (keyD k, d) ∧ Rp K F v d
  | _, _, i, _, _, .nil, h => by simp at h
  | _, _, 0, _, _, .cons r t, h => by
    simp at h
    obtain ⟨rfl, rfl⟩ := h
    exact ⟨_, rfl, r⟩
  | _, _, i + 1, _, _, .cons r t, h => by
    obtain ⟨d, e, q⟩ := t.at (i := i) (by simpa using h)
    exact ⟨d, by simpa using e, q⟩
end MW
namespace MW
open PySem PySem.Spec PyProof.Rows L2
end MW
namespace MW
open PySem PySem.Spec PyProof.Rows L2
end MW
namespace MW
open PySem PySem.Spec PyProof.Rows L2
end MW
namespace MW
open PySem PySem.Spec PyProof.Rows L2 PySem.W
end MW
namespace MW
open PySem PySem.Spec PyProof.Rows L2
end MW
namespace MW
open PySem PySem.Spec PyProof.Rows L2
end MW
namespace MW
open PySem PySem.Spec PyProof.Rows L2
end MW
namespace MW
open PySem PySem.Spec PyProof.Rows L2
end MW
namespace PySem
end PySem
namespace MW
open PySem PySem.Spec PyProof.Rows L2
end MW
namespace MW
open PySem PySem.Spec PyProof.Rows L2
end MW
namespace MW
open PySem PySem.Spec PyProof.Rows L2
end MW
namespace MW
open PySem PySem.Spec PyProof.Rows L2 GenW
end MW
namespace MW
open PySem PySem.Spec PyProof.Rows L2 GenW
end MW
namespace MW
open PySem PySem.Spec PyProof.Rows L2
end MW
namespace MW
open PySem PySem.Spec PyProof.Rows L2
end MW
namespace MW
open PySem PySem.Spec PyProof.Rows L2
end MW
namespace MW
open PySem PySem.Spec PyProof.Rows L2
end MW
namespace MW
open PySem PySem.Spec PyProof.Rows L2
end MW
namespace MW
open PySem PySem.Spec PyProof.Rows L2
end MW
namespace MW
open PySem PySem.Spec PyProof.Rows L2
end MW
namespace MW
open PySem PySem.Spec PyProof.Rows L2 LamX
end MW
namespace MW
open PySem PySem.Spec PyProof.Rows L2 LamX L2H
section
variable {X : Cx} {a D : Addr}
def Grow (H H1 : Hp) : Prop := (∀ b o, H b = some o → H1 b = some o) ∧ ∀ b, H1 b = none → H b = none
theorem Grow.refl (H : Hp) : Grow H H := ⟨fun _ _ e => e, fun _ e => e⟩
theorem Grow.trans {H H1 H2 : Hp} (g : Grow H H1) (h : Grow H1 H2) : Grow H H2 := ⟨fun b o e => h.1 b o (g.1 b o e), fun b e => g.2 b (h.2 b e)⟩
theorem Grow.new {H : Hp} {p : Addr} {o : HO} (hp : H p = none) : Grow H (upd H p o) := ⟨fun b u e => by rw [upd_ne (ne_of_none e hp)]; exact e, fun b e => by
  by_cases hb : b = p
  · rw [hb]; exact hp
  · rw [upd_ne hb] at e; exact e⟩
/-- what slot i holds: a list, or it does not matter -/
def HoldL (σ : Sts) (H : Hp) (i : Nat) : Option (List V) → Prop
  | none => True
  | some vs => ∃ q, σ[i]? = some (some (.ref q)) ∧ H q = some (.lst vs)
theorem HoldL.up {σ σ' : Sts} {H H' : Hp} {i : Nat} {o : Option (List V)} (h : HoldL σ H i o) (e : σ'[i]? = σ[i]?) (g : Grow H H') : HoldL σ' H' i o := by
  cases o with
  | none => trivial
  | some vs => obtain ⟨q, e1, e2⟩ := h; exact ⟨q, e.trans e1, g.1 _ _ e2⟩
end
end MW
namespace MW
open PySem PySem.Spec PyProof.Rows L2 LamX L2H
end MW
namespace MW
open PySem PySem.Spec PyProof.Rows L2 LamX
end MW
namespace MW
open PySem PySem.Spec PyProof.Rows L2 LamX L2H
end MW
namespace MW
open PySem PySem.Spec PyProof.Rows L2
end MW
namespace MW
open PySem PySem.Spec PyProof.Rows L2
end MW
namespace MW
open PySem PySem.Spec PyProof.Rows L2
end MW
namespace MW
open PySem PySem.Spec PyProof.Rows L2
end MW
namespace MW
open PySem PySem.Spec PyProof.Rows L2
def strsD : List D → Option (List Str)
  | [] => some []
  | .str x :: ds => (strsD ds).map (x :: ·)
  | _ :: _ => none
theorem rpL_strsD {K : Fg} {F : Hp} : ∀ {xs : List V} {ds : List D} {ys : List Str}, RpL K F xs ds → strsD ds = some ys → xs = ys.map V.str
  | _, _, ys, .nil, e => by cases e; rfl
  | _, _, ys, .cons (d := d) (ds := ds) h r, e => by
    cases h with
    | str x =>
      obtain ⟨zs, e1, rfl⟩ := Option.map_eq_some_iff.mp e
      rw [rpL_strsD r e1]; rfl
    | non => cases e
    | bl b => cases e
    | int i => cases e
    | lst a b => cases e
    | tup a b => cases e
    | dct a b => cases e
theorem rpL_ofStrs {K : Fg} {F : Hp} : ∀ ys : List Str, RpL K F (ys.map V.str) (ys.map PyData.str)
  | [] => .nil
  | y :: ys => .cons (.str y) (rpL_ofStrs ys)
section
variable {X : Cx} {W : WX} {S : Sg} {pos apos : Pos} {o e : Expr} {mo me : Ev → Out D}
/-- a text's method of one argument -/
def mStrM (g : Str → D → Option D) (mo me : Ev → Out D) : Ev → Out D := fun ρ => (mo ρ).bind fun d ρ1 => match d with
  | .str a => (me ρ1).bind fun e ρ2 => Out.of (g a e) ρ2
  | _ => .bad
def mStrML (g : Str → D → Option (List D)) (mo me : Ev → Out D) : Ev → Out (List D) := fun ρ => (mo ρ).bind fun d ρ1 => match d with
  | .str a => (me ρ1).bind fun e ρ2 => Out.of (g a e) ρ2
  | _ => .bad
def gJoin : Str → D → Option D
  | a, .list ds => match strsD ds with
    | some ys => if (ys.map (·.length)).sum + ys.length * a.length ≤ 16777216 then some (.str (Txt.join a ys)) else none
    | none => none
  | _, _ => none
theorem me_join (ho : ME X W S o mo) (he : ME X W S e me) (hs : starEach [e] X.env = [(false, eval e X.env)] := by rfl) (hbase : attributeBase o "join" X.env (eval o X.env) = eval o X.env := by rfl) (hline : (apos.endLine == pos.line) = true := by rfl) :
    ME X W S (.Call (.Attribute o "join" apos) [e] [] pos) (mStrM gJoin mo me) := by
  obtain ⟨t, p, q⟩ := ho.ex
  obtain ⟨t', p', q'⟩ := he.ex
  refine ⟨_, pe_join p p' hs hbase hline, fun B F H σ ρ Q I h => ?_⟩
  refine q B F H σ ρ _ I ((Sat.bind h).mono (fun d ρ1 h1 F1 H1 x I1 s1 r1 => ?_) fun _ _ z => z)
  split at h1
  · cases r1
    refine ⟨⟨_, rfl⟩, q' B F1 H1 σ ρ1 _ I1 ((Sat.bind h1).mono (fun d2 ρ2 h2 F2 H2 y I2 s2 r2 => ?_) fun _ _ z => XKo.up s1 z)⟩
    obtain ⟨z, hz, h3⟩ := sat_of h2
    unfold gJoin at hz
    split at hz
    · split at hz
      · rename_i ys ey
        split at hz
        · rename_i hl
          cases hz
          cases r2 with
          | lst hq hr =>
            rw [rpL_strsD hr ey] at hq
            exact ⟨_, _, ys, rfl, rfl, .inl (.inl (rd_same I2.same hq)), hl, h3 F2 H2 _ I2 (s1.trans s2) (.str _)⟩
        · cases hz
      · cases hz
    · cases hz
  · exact h1.elim
def gSplit : Str → D → Option (List D)
  | a, .str b => if (b.length == 0) = false ∧ a.length + 2 ≤ 16777216 then some ((Txt.split a b).map .str) else none
  | _, _ => none
theorem ml_split (ho : ME X W S o mo) (he : ME X W S e me) (hs : starEach [e] X.env = [(false, eval e X.env)] := by rfl) (hbase : attributeBase o "split" X.env (eval o X.env) = eval o X.env := by rfl) (hline : (apos.endLine == pos.line) = true := by rfl) :
    ML X W S (.Call (.Attribute o "split" apos) [e] [] pos) (mStrML gSplit mo me) := by
  obtain ⟨t, p, q⟩ := ho.ex
  obtain ⟨t', p', q'⟩ := he.ex
  have hsz := sizeLine_eq
  refine ⟨_, pe_split p p' hs hbase hline, fun B F H σ ρ Q I h => ?_⟩
  refine q B F H σ ρ _ I ((Sat.bind h).mono (fun d ρ1 h1 F1 H1 x I1 s1 r1 => ?_) fun _ _ z => z)
  split at h1
  · cases r1
    refine ⟨⟨_, rfl⟩, q' B F1 H1 σ ρ1 _ I1 ((Sat.bind h1).mono (fun d2 ρ2 h2 F2 H2 y I2 s2 r2 => ?_) fun _ _ z => XKo.up s1 z)⟩
    obtain ⟨z, hz, h3⟩ := sat_of h2
    unfold gSplit at hz
    split at hz
    · split at hz
      · rename_i hl
        cases hz
        cases r2
        exact ⟨_, _, rfl, rfl, hl.1, by omega, fun pp hp => LKo.mk (fun F' H' p' xs' I' s' => h3 F' H' p' xs' I' ((s1.trans s2).trans s')) I2 (rpL_ofStrs _) hp⟩
      · cases hz
    · cases hz
  · exact h1.elim
def gFmt : D → Option D
  | .str y => if y.length ≤ 16777216 then some (.str y) else none
  | .int i => if i.natAbs.log2 < 1920 then some (.str (toString i)) else none
  | _ => none
theorem me_fmt {p : Pos} (he : ME X W S e me) : ME X W S (.FormattedValue e (-1) none p) (mUn gFmt me) := by
  obtain ⟨t, p', q⟩ := he.ex
  have hsz := sizeLine_eq
  refine ⟨_, pe_fmt p', fun B F H σ ρ Q I h => ?_⟩
  refine q B F H σ ρ _ I ((Sat.bind h).mono (fun d ρ1 h1 F1 H1 x I1 s1 r1 => ?_) fun _ _ z => z)
  obtain ⟨z, hz, h3⟩ := sat_of h1
  unfold gFmt at hz
  split at hz
  · split at hz
    · cases hz
      cases r1
      exact .inl ⟨_, rfl, by omega, h3 F1 H1 _ I1 s1 (.str _)⟩
    · cases hz
  · split at hz
    · rename_i hl
      cases hz
      cases r1
      exact .inr ⟨_, rfl, hl, h3 F1 H1 _ I1 s1 (.str _)⟩
    · cases hz
  · cases hz
def mJ : List (Ev → Out D) → Str → Ev → Out D
  | [], acc => fun ρ => .ok (.str acc) ρ
  | m :: ms, acc => fun ρ => (m ρ).bind fun d ρ1 => match d with
    | .str y => if (acc ++ y).length ≤ 16777216 then mJ ms (acc ++ y) ρ1 else .bad
    | _ => .bad
inductive MJ (X : Cx) (W : WX) (S : Sg) : List Expr → List (Ev → Out D) → Prop
  | nil : MJ X W S [] []
  | cons {e : Expr} {m : Ev → Out D} {es : List Expr} {ms : List (Ev → Out D)} : ME X W S e m → MJ X W S es ms → MJ X W S (e :: es) (m :: ms)
theorem MJ.run {es : List Expr} {ms : List (Ev → Out D)} (h : MJ X W S es ms) : ∃ ts, PJ X es ts ∧ ∀ B F H σ ρ acc (Q : Str → Hp → Prop), SInv X.K S B σ F H ρ → Sat (mJ ms acc ρ) (EKo X.K S B σ F fun v H' => ∃ y, v = .str y ∧ Q y H') (XKo X W S B σ F) → tJs ts acc σ H Q := by
  induction h with
  | nil =>
    refine ⟨[], .nil, fun B F H σ ρ acc Q I h => ?_⟩
    obtain ⟨y, e, k⟩ := h F H (.str acc) I (Same.refl _) (.str acc)
    cases e
    exact k
  | cons h1 r ih =>
    obtain ⟨ts, p, q⟩ := ih
    obtain ⟨t, p1, q1⟩ := h1.ex
    have hsz := sizeLine_eq
    refine ⟨t :: ts, .cons p1 p, fun B F H σ ρ acc Q I h => ?_⟩
    refine q1 B F H σ ρ _ I ((Sat.bind h).mono (fun d ρ1 h1 F1 H1 x I1 s1 r1 => ?_) fun _ _ z => z)
    split at h1
    · split at h1
      · rename_i hl
        cases r1
        exact ⟨_, rfl, by omega, q B F1 H1 σ ρ1 _ Q I1 (Sat.mono h1 (fun d ρ2 k => EKo.up s1 k) fun _ _ z => XKo.up s1 z)⟩
      · exact h1.elim
    · exact h1.elim
theorem mJ_str : ∀ {ms : List (Ev → Out D)} {acc : Str} {ρ ρ1 : Ev} {d : D}, mJ ms acc ρ = .ok d ρ1 → ∃ y, d = .str y
  | [], acc, ρ, ρ1, d, h => by
    cases h
    exact ⟨acc, rfl⟩
  | m :: ms, acc, ρ, ρ1, d, h => by
    unfold mJ at h
    generalize m ρ = o at h
    cases o with
    | bad => cases h
    | err c ρ2 => cases h
    | ok d2 ρ2 =>
      replace h : (match (motive := D → Out D) d2 with
        | .str y => if (acc ++ y).length ≤ 16777216 then mJ ms (acc ++ y) ρ2 else .bad
        | _ => .bad) = Out.ok d ρ1 := h
      split at h
      · split at h
        · exact mJ_str h
        · cases h
      · cases h
theorem me_joined {v1 v2 : Expr} {rest : List Expr} {ms : List (Ev → Out D)} {p : Pos} (h : MJ X W S (v1 :: v2 :: rest) ms) : ME X W S (.JoinedStr (v1 :: v2 :: rest) p) (mJ ms Str.empty) := by
  obtain ⟨ts, p1, q⟩ := h.run
  refine ⟨_, pe_joined p1, fun B F H σ ρ Q I h => q B F H σ ρ _ _ I (Sat.mono (Sat.tell h) (fun d ρ1 ⟨k, e⟩ F1 H1 v I1 s1 r1 => ?_) fun _ _ z => z)⟩
  obtain ⟨y, rfl⟩ := mJ_str e
  have r2 := r1
  cases r1
  exact ⟨y, rfl, k F1 H1 _ I1 s1 r2⟩
def gStrI : List D → Option D
  | [.int i] => if i.natAbs.log2 < 1920 then some (.str (toString i)) else none
  | _ => none
variable {es : List Expr} {ms : Ev → Out (List D)} {p : Pos}
theorem me_strI (hg : Gl X "str") (hm : X.mg "str" = none) (ha : MA X W S [e] ms) (hv : bootBuiltins "str" = some (.type "str") := by decide +kernel) (he : starEach [e] X.env = (false, eval e X.env) :: starEach [] X.env := by rfl) (hpl : (backTo pos (starEach [] X.env)).any (·.1) = false := by rfl) : ME X W S (.Call (.Name "str" p) [e] [] pos) (mCall gStrI ms) := by
  refine me_callV (r := fun xs H Q => ∃ i, xs = [.int i] ∧ i.natAbs.log2 < 1920 ∧ Q (.str (toString i)) H) (fun S B F H σ ρ Q xs ds z I r hz k => ?_) ha fun t pt => pe_callTy call_str_int hg hm hv pt (by decide) (by decide) he hpl
  unfold gStrI at hz
  split at hz
  · split at hz
    · rename_i hl
      cases hz
      obtain ⟨x, rfl, rx⟩ := seen1 r
      exact ⟨_, by rw [rx.int], hl, k.now I (.str _)⟩
    · cases hz
  · cases hz
def gIntS : List D → Option D
  | [.str a] => if a.length ≤ 640 then (PySem.intText? a).map .int else none
  | _ => none
theorem me_intS (hg : Gl X "int") (hm : X.mg "int" = none) (ha : MA X W S [e] ms) (hv : bootBuiltins "int" = some (.type "int") := by decide +kernel) (he : starEach [e] X.env = (false, eval e X.env) :: starEach [] X.env := by rfl) (hpl : (backTo pos (starEach [] X.env)).any (·.1) = false := by rfl) : ME X W S (.Call (.Name "int" p) [e] [] pos) (mCall gIntS ms) := by
  refine me_callV (r := fun xs H Q => ∃ a n, xs = [.str a] ∧ PySem.intText? a = some n ∧ a.length ≤ 640 ∧ Q (.int n) H) (fun S B F H σ ρ Q xs ds z I r hz k => ?_) ha fun t pt => pe_callTy call_int_str hg hm hv pt (by decide) (by decide) he hpl
  unfold gIntS at hz
  split at hz
  · split at hz
    · rename_i hl
      obtain ⟨n, e1, rfl⟩ := Option.map_eq_some_iff.mp hz
      obtain ⟨x, rfl, rx⟩ := seen1 r
      exact ⟨_, n, by rw [rx.str], e1, hl, k.now I (.int _)⟩
    · cases hz
  · cases hz
/-- whether a text stands in another -/
def bInS : D → D → Option Bool
  | .str a, .str b => some (!(Builtin.Str.occurrences b a 0 b.length 1).isEmpty)
  | _, _ => none
theorem opb_inS : OpB X (fun x y H Q => ∃ i j, x = .str i ∧ y = .str j ∧ Q (.bl (!(Builtin.Str.occurrences j i 0 j.length 1).isEmpty)) H) bInS := fun S B F H σ ρ x y d e b Q I rx ry hz q => by
  unfold bInS at hz
  split at hz
  · cases hz
    exact ⟨_, _, rx.str, ry.str, q⟩
  · cases hz
variable {a b : Expr} {ma mb : Ev → Out D}
theorem mt_inS (ha : ME X W S a ma) (hb : ME X W S b mb) (hm : behindInMarks .In b = false) : MT X W S (.Compare a [.In] [b] pos) (mTest bInS ma mb) := mt_cmp op_in_str opb_inS ha hb hm
end
end MW
namespace MW
open PySem PySem.Spec PyProof.Rows L2 PySem.W
variable {X : Cx} {W : WX} {S : Sg} {pos : Pos}
def gStar (K : Fg) (t : TGs) : TG := fun v σ H Q => ∃ a x r, v = .ref a ∧ SqL K H a (x :: r) ∧ ∀ p, H p = none → t [x, .ref p] σ (upd H p (.lst r)) Q
theorem pg_star {a b : Expr} {k : Nat} {pos2 : Pos} {t : TGs} (hc : X.calm = true) (h : PGs X [a, b] t)
    (hs : (assignEach [a, .Starred b pos2] X.env).map (·.2) = (assignEach [a, b] X.env).map (·.2) := by rfl) (hn : (assignEach [a, .Starred b pos2] X.env).length = 2 := by rfl)
    (hst : (assignEach [a, .Starred b pos2] X.env).findIdx? (·.1) = some 1 := by rfl) : PG X (.Tuple [a, .Starred b pos2] k pos) (gStar X.K t) := by
  refine ⟨fun pins s σ H v u Q I r hw => ?_⟩
  obtain ⟨l, x, xr, e1, hq, hw⟩ := hw
  subst e1
  cases r
  obtain ⟨its, rv, ht, hz⟩ := I.list hq
  cases rv with
  | @cons _ u1 _ ur r1 rr =>
  have hl := ht.isList
  have hh := I.ok.hd hc
  rw [assign_Tuple]
  refine wpAny_bind (wpAny_standAt ?_)
  unfold unpack
  rw [hn, hst, hs]
  have hlt : l ≠ s.heap.objs.size := by obtain ⟨o, ho, _⟩ := hl; exact Nat.ne_of_lt (Heap.lt_size ho)
  have hll : l < s.heap.objs.size := by obtain ⟨o, ho, _⟩ := hl; exact Heap.lt_size ho
  have hsz : (u1 :: ur).toArray.size = ur.length + 1 := by simp
  refine wpAny_bind (wpAny_holding ?_)
  unfold unpackItems
  refine wpAny_bind ?_
  unfold notIterableAtAll
  refine wpAny_bind (wpAny_specialOf hl.typeIs slot_list_iter.lookup ?_)
  refine wpAny_pure ?_
  simp only [Bool.false_eq_true, if_false]
  refine wpAny_bind (wpAny_holding (wpAny_pyIter_list hl ?_))
  refine wpAny_bind (wpAny_holding (kun_draw hlt 1 0 _ _ ⟨_, Heap.get?_push_size _ rfl, rfl, rfl⟩ (hl.push _) (by rw [hsz]; omega) fun h₁ hit₁ hs₁ => ?_))
  have hl₁ := (hl.push _).extBut hs₁.extBut hlt
  rw [Nat.zero_add] at hit₁
  have hit₁' := hit₁
  obtain ⟨oi, hoi, _⟩ := hit₁'
  have hl₁' := hl₁
  obtain ⟨ol, hol, _⟩ := hl₁'
  have hz2 : ur.length + 1 ≤ sizeLine := by
    have := rr.length
    have : xr.length + 1 ≤ sizeLine := by simpa using hz
    omega
  have hd1 : List.take 1 (List.drop 0 (u1 :: ur).toArray.toList) = [u1] := by simp
  rw [hd1]
  rw [if_neg (by simp)]
  refine wpAny_bind (wpAny_holding (kun_collect (s := { s with heap := h₁ }) (T := "list_iterator") (.inr (.inr (.inl rfl))) (Walks.list (A := X.A.in1) hh s.heap.objs.size l hlt (u1 :: ur).toArray) (fun j u st => st.1.typeIs) (k := 1) (by rw [hsz]; omega) ⟨hit₁, hl₁⟩ (Heap.lt_size hoi) (Heap.lt_size hol) (fun h₂ tk hk => ?_) (by rw [hsz]; exact hz2)))
  have hd2 : List.drop 1 (u1 :: ur).toArray.toList = ur := by simp
  rw [hd2]
  have he : ∀ b o, s.heap.get? b = some o → h₂.get? b = some o := fun b o e => hk b o (Nat.ne_of_lt (Heap.lt_size e)) (hs₁.extBut b o (Nat.ne_of_lt (Heap.lt_size e)) (Heap.get?_push_of_some _ e))
  have I1 : Inv X pins σ H { s with heap := h₂, toks := tk } := I.kept he
  show wpAny _ _ (if ur.length < 2 - 1 - 1 then _ else _) _ _ _
  rw [if_neg (by omega)]
  show wpAny _ _ (newList (ur.take (ur.length - 0)) >>= fun d => pure ([u1] ++ [d] ++ ur.drop (ur.length - 0))) _ _ _
  rw [Nat.sub_zero, List.take_length, List.drop_length]
  refine wpAny_bind (wpAny_newList ?_ (by omega))
  refine wpAny_pure ?_
  have I2 := I1.laid (a := h₂.objs.size) (o := .lst xr) (h' := h₂.push { cls := .type "list", data := .seq ur.toArray }) (t' := tk) (fun b o e => Heap.get?_push_of_some _ e) (Nat.le_refl _) ⟨by rw [rr.length]; omega, ur, 0, rr, Heap.get?_push_size _ rfl⟩
  exact h.run pins _ σ _ _ _ Q I2 (.cons r1 (.cons (show RelV (.ref h₂.objs.size) (.ref h₂.objs.size) from rfl) .nil)) (hw h₂.objs.size (I1.hok.fresh (Nat.le_refl _)))
def mStar (i j : Nat) (m : Ev → Out D) : Ev → Out Fl := fun ρ => (m ρ).bind fun d ρ1 => match d with
  | .list (x :: r) => .ok .nx ((ρ1.set i (some x)).set j (some (.list r)))
  | _ => .bad
theorem ms_star (i j : Nat) {x y : Str} {p1 p2 p3 p4 : Pos} {kk : Nat} {e : Expr} {m : Ev → Out D} (k : knd S i = 0) (k' : knd S j = 0) (hc : X.calm = true) (he : ME X W S e m) (h1 : PG X (.Name x p1) (gName i)) (h2 : PG X (.Name y p2) (gName j))
    (hs1 : (assignEach [Expr.Name x p1, Expr.Name y p2] X.env).map (·.2) = assign (.Name x p1) X.env :: (assignEach [Expr.Name y p2] X.env).map (·.2) := by rfl) (hs2 : (assignEach [Expr.Name y p2] X.env).map (·.2) = assign (.Name y p2) X.env :: (assignEach [] X.env).map (·.2) := by rfl)
    (hs3 : (assignEach [.Name x p1, .Starred (.Name y p2) p3] X.env).map (·.2) = (assignEach [Expr.Name x p1, Expr.Name y p2] X.env).map (·.2) := by rfl) (hn : (assignEach [.Name x p1, .Starred (.Name y p2) p3] X.env).length = 2 := by rfl)
    (hst : (assignEach [.Name x p1, .Starred (.Name y p2) p3] X.env).findIdx? (·.1) = some 1 := by rfl)
    (hs : swapsWithSole [.Tuple [.Name x p1, .Starred (.Name y p2) p3] kk p4] e pos.line X.env = pure false := by rfl) (hw : swappedStores [.Tuple [.Name x p1, .Starred (.Name y p2) p3] kk p4] e X.env = pure none := by rfl)
    (h1' : (assignEach [.Tuple [.Name x p1, .Starred (.Name y p2) p3] kk p4] X.env).map (·.2) = [assign (.Tuple [.Name x p1, .Starred (.Name y p2) p3] kk p4) X.env] := by rfl) :
    MS X W S (.Assign [.Tuple [.Name x p1, .Starred (.Name y p2) p3] kk p4] e pos) (mStar i j m) := by
  obtain ⟨te, pe, q⟩ := he.ex
  refine ⟨_, ps_asg pe (pg_star hc (pgs_cons h1 (pgs_cons h2 pgs_nil hs2) hs1) hs3 hn hst) hs hw h1', fun B F H σ ρ D I h => ?_⟩
  refine q B F H σ ρ _ I ((Sat.bind h).mono (fun d ρ1 z F1 H1 v I1 s1 r1 => ?_) fun _ _ z => XSo.ex z)
  split at z
  · cases r1 with
    | lst hq hr =>
      cases hr with
      | @cons _ xs _ _ r1 hr =>
        refine ⟨_, _, _, rfl, .inl (rd_same I1.same hq), fun p hp => ?_⟩
        have hF : F1 p = none := Same.free I1.same hp
        have I2 := fun xs => I1.newF (o := .lst xs) hp
        refine ⟨_, _, rfl, _, _, rfl, rfl, ?_⟩
        exact z _ _ _ (((I2 _).setSh k (r1.up (same_upd hF))).setSh k' (.lst (.inl upd_same) (hr.up (same_upd hF)))) (s1.trans (same_upd hF))
  · exact z.elim
end MW
namespace MW
open PySem PySem.Spec PyProof.Rows L2
section
variable {X : Cx} {W : WX} {S : Sg} {a b : Expr} {ma mb : Ev → Out D} {lo hi : Option Expr} {ml mh : Ev → Out (Option Int)} {pos p2 : Pos}
def gCutS (d : D) (lo hi : Option Int) : Option D := match d with
  | .str z => if z.length ≤ 16777216 then some (.str (cutS z lo hi)) else none
  | _ => none
def mSlS (ma : Ev → Out D) (ml mh : Ev → Out (Option Int)) : Ev → Out D := fun ρ => (ma ρ).bind fun d ρ1 => (ml ρ1).bind fun lo ρ2 => (mh ρ2).bind fun hi ρ3 => Out.of (gCutS d lo hi) ρ3
theorem me_slS (ha : ME X W S a ma) (hl : MO X W S lo ml) (hh : MO X W S hi mh) : ME X W S (.Subscript a (.Slice lo hi none p2) pos) (mSlS ma ml mh) := by
  obtain ⟨t, p, q⟩ := ha.ex
  obtain ⟨tl, pl, ql⟩ := hl.ex
  obtain ⟨th, ph, qh⟩ := hh.ex
  have hsz := sizeLine_eq
  refine ⟨_, pe_slice sl_str p pl ph, fun B F H σ ρ Q I h => ?_⟩
  refine q B F H σ ρ _ I ((Sat.bind h).mono (fun d ρ1 h1 F1 H1 x I1 s1 r1 => ?_) fun _ _ z => z)
  refine ql B F1 H1 σ ρ1 _ I1 ((Sat.bind h1).mono (fun l ρ2 h2 F2 H2 I2 s2 => ?_) fun _ _ z => XKo.up s1 z)
  refine qh B F2 H2 σ ρ2 _ I2 ((Sat.bind h2).mono (fun u ρ3 h3 F3 H3 I3 s3 => ?_) fun _ _ z => XKo.up (s1.trans s2) z)
  obtain ⟨z, hz, h4⟩ := sat_of h3
  unfold gCutS at hz
  split at hz
  · split at hz
    · cases hz
      cases r1
      exact ⟨_, rfl, by omega, h4 F3 H3 _ I3 (s1.trans (s2.trans s3)) (.str _)⟩
    · cases hz
  · cases hz
def gIxS : D → D → Option D
  | .str z, .int i => if z.length ≤ 16777216 then (atI z.cps.toList i).map fun c => .str ⟨#[c]⟩ else none
  | _, _ => none
theorem opd_ixS : OpD X rIxS gIxS := by
  intro S B F H σ ρ Q x y d e z I rx ry hz k
  have hsz := sizeLine_eq
  unfold gIxS at hz
  split at hz
  · split at hz
    · obtain ⟨c, e1, rfl⟩ := Option.map_eq_some_iff.mp hz
      exact ⟨_, _, c, rx.str, ry.int, by omega, e1, k.now I (.str _)⟩
    · cases hz
  · cases hz
theorem me_atS (ha : ME X W S a ma) (hb : ME X W S b mb) (hs : PlainIx b) : ME X W S (.Subscript a b pos) (mBin gIxS ma mb) := me_ix ix_str opd_ixS ha hb hs
end
end MW
namespace Pf
open PySem MW
abbrev N_is_whole : List Str := ["thing"]
abbrev S_is_whole : Sg := ⟨[0], 1, [], []⟩
def mb_is_whole : Ev → Out Fl := (mRet (mAndV (mIsD "int" (mVar 0)) (mNotV (mIsD "bool" (mVar 0)))))
def m_is_whole : List D → Out D := mDef S_is_whole 1 mb_is_whole
abbrev N_is_below : List Str := ["thing", "limit"]
abbrev S_is_below : Sg := ⟨[0, 0], 2, [], []⟩
def mb_is_below : Ev → Out Fl := (mRet (mAndV (mCallD m_is_whole [none] (mCons (mVar 0) mNil)) (mOfB (mChainT bLe bLt (mC (.int 0)) (mVar 0) (mVar 1)))))
def m_is_below : List D → Out D := mDef S_is_below 2 mb_is_below
abbrev N_is_view : List Str := ["thing", "number"]
abbrev S_is_view : Sg := ⟨[0, 0], 1, [], []⟩
def mb_is_view : Ev → Out Fl := (mSeq (mIfS (mOrB (mNotB (mTru (mIsD "tuple" (mVar 0)))) (mNotB (mChainT bLe bLe (mC (.int 1)) (mCall gLen (mCons (mVar 0) mNil)) (mC (.int 9)))))
    (mRet (mC (.bool false)))
    mNext)
  (mSeq (mIfS (mNotB (mTru (mCall gAll (mCons (mLst (mLc (mSeqD (mVar 0)) (gN 1) mYes (mCallD m_is_below [none, none] (mCons (mVar 1) (mCons (mCall gLen (mCons (mVar 0) mNil)) mNil))) [1])) mNil))))
    (mRet (mC (.bool false)))
    mNext)
  (mRet (mBin (gB bEq) (mUn gLenSet (mVar 0)) (mBin gAdd (mCall gMax (mCons (mVar 0) mNil)) (mC (.int 1)))))))
def m_is_view : List D → Out D := mDef S_is_view 2 mb_is_view
abbrev N_need_view : List Str := ["view"]
abbrev S_need_view : Sg := ⟨[0], 1, [], []⟩
def mb_need_view : Ev → Out Fl := (mIfS (mNotB (mTru (mCallD m_is_view [none] (mCons (mVar 0) mNil))))
    (fun ρ => .err "NoView" ρ)
    mNext)
def m_need_view : List D → Out D := mDef S_need_view 1 mb_need_view
abbrev N_count_values : List Str := ["view"]
abbrev S_count_values : Sg := ⟨[0], 1, [], []⟩
def mb_count_values : Ev → Out Fl := (mRet (mBin gAdd (mCall gMax (mCons (mVar 0) mNil)) (mC (.int 1))))
def m_count_values : List D → Out D := mDef S_count_values 1 mb_count_values
abbrev N__is_row : List Str := ["view", "thing", "entry"]
abbrev S__is_row : Sg := ⟨[0, 0, 0], 2, [], []⟩
def mb__is_row : Ev → Out Fl := (mSeq (mIfS (mOrB (mNotB (mTru (mIsD "tuple" (mVar 1)))) (mTest bNe (mCall gLen (mCons (mVar 1) mNil)) (mCallD m_count_values [none] (mCons (mVar 0) mNil))))
    (mRet (mC (.bool false)))
    mNext)
  (mRet (mCall gAll (mCons (mLst (mLc (mSeqD (mVar 1)) (gN 2) mYes (mOrV (mBin (gB bIs) (mVar 2) (mC .none)) (mCallD m_is_below [none, none] (mCons (mVar 2) (mCons (mCall gLen (mCons (mVar 0) mNil)) mNil)))) [2])) mNil))))
def m__is_row : List D → Out D := mDef S__is_row 3 mb__is_row
abbrev N_is_table : List Str := ["view", "thing", "row"]
abbrev S_is_table : Sg := ⟨[0, 0, 0], 2, [], []⟩
def mb_is_table : Ev → Out Fl := (mSeq (mDrop (mCallD m_need_view [none] (mCons (mVar 0) mNil)))
  (mSeq (mIfS (mOrB (mNotB (mTru (mIsD "tuple" (mVar 1)))) (mTest bNe (mCall gLen (mCons (mVar 1) mNil)) (mCall gLen (mCons (mVar 0) mNil))))
    (mRet (mC (.bool false)))
    mNext)
  (mRet (mCall gAll (mCons (mLst (mLc (mSeqD (mVar 1)) (gN 2) mYes (mCallD m__is_row [none, none] (mCons (mVar 0) (mCons (mVar 2) mNil))) [2])) mNil)))))
def m_is_table : List D → Out D := mDef S_is_table 3 mb_is_table
abbrev N__law_cell_at : List Str := ["_law_script", "_law_k"]
abbrev S__law_cell_at : Sg := ⟨[0, 0], 2, [], []⟩
def mb__law_cell_at : Ev → Out Fl := (mSeq (mIfS (mTest bLt (mVar 1) (mCall gLen (mCons (mVar 0) mNil)))
    (mRet (mBin gIx (mVar 0) (mVar 1)))
    mNext)
  (mRet (mC (.int 0))))
def m__law_cell_at : List D → Out D := mDef S__law_cell_at 2 mb__law_cell_at
abbrev N__law_pen : List Str := ["_law_cell"]
abbrev S__law_pen : Sg := ⟨[0], 1, [], []⟩
def mb__law_pen : Ev → Out (List D) := (mCons (mCall gMax (mCons (mC (.int 0)) (mCons (mBin gSub (mVar 0) (mBin gPow (mC (.int 10)) (mC (.int 18)))) mNil))) (mCons (mBin gMod (mVar 0) (mC (.int 1000000007))) (mCons (mC (.int 0)) mNil)))
def m__law_pen : List D → Out (List D) := mDefL 1 mb__law_pen
abbrev N__law_draw : List Str := ["_law_pen_here", "_law_many", "_law_stir", "_law_digit"]
abbrev S__law_draw : Sg := ⟨[1, 0, 0, 0], 2, [], []⟩
def mb__law_draw : Ev → Out Fl := (mSeq (mIfS (mTest bGt (mOwnBin gIx 0 (mC (.int 0))) (mC (.int 0)))
    (mSeq (mSet 3 (mBin gMod (mOwnBin gIx 0 (mC (.int 0))) (mVar 1)))
  (mSeq (mStore 0 (mBin gDiv (mOwnBin gIx 0 (mC (.int 0))) (mVar 1)) (mC (.int 0)))
  (mRet (mVar 3))))
    mNext)
  (mSeq (mStore 0 (mBin gAdd (mOwnBin gIx 0 (mC (.int 2))) (mC (.int 1))) (mC (.int 2)))
  (mSeq (mSet 2 (mBin gMod (mBin gMul (mBin gAdd (mOwnBin gIx 0 (mC (.int 1))) (mBin gMul (mC (.int 17)) (mOwnBin gIx 0 (mC (.int 2))))) (mBin gAdd (mC (.int 69621)) (mBin gMul (mC (.int 2)) (mOwnBin gIx 0 (mC (.int 2)))))) (mC (.int 2147483647))))
  (mSeq (mSet 2 (mBin gMod (mBin gAdd (mBin gAdd (mBin gMul (mVar 2) (mVar 2)) (mBin gMul (mC (.int 40503)) (mOwnBin gIx 0 (mC (.int 2))))) (mC (.int 5))) (mC (.int 2147483629))))
  (mRet (mBin gMod (mBin gDiv (mBin gMod (mBin gMul (mVar 2) (mC (.int 48271))) (mC (.int 2147483647))) (mC (.int 32))) (mVar 1)))))))
def m__law_draw : List D → Out D := mDef S__law_draw 4 mb__law_draw
abbrev N_need_table : List Str := ["view", "table"]
abbrev S_need_table : Sg := ⟨[0, 0], 2, [], []⟩
def mb_need_table : Ev → Out Fl := (mIfS (mNotB (mTru (mCallD m_is_table [none, none] (mCons (mVar 0) (mCons (mVar 1) mNil)))))
    (fun ρ => .err "NoTable" ρ)
    mNext)
def m_need_table : List D → Out D := mDef S_need_table 2 mb_need_table
abbrev N__law_view : List Str := ["_law_pen_here", "_law_low", "_law_high", "_law_raw", "_law_names", "_law_value", "_law_turn"]
abbrev S__law_view : Sg := ⟨[1, 0, 0, 0, 1, 0, 0], 3, [], []⟩
def mb__law_view : Ev → Out Fl := (mSeq (mSet 3 (mLst (mLc (mRange1 (mCons (mBin gAdd (mVar 1) (mCallD m__law_draw [some 0, none] (mLend 0 (mCons (mBin gAdd (mBin gSub (mVar 2) (mVar 1)) (mC (.int 1))) mNil)))) mNil)) (gN 6) mYes (mCallD m__law_draw [some 0, none] (mLend 0 (mCons (mC (.int 4)) mNil))) [6])))
  (mSeq (mSetL 4 mNil)
  (mSeq (mFor (mSeqD (mVar 3)) (gN 5)
    (mIfS (mTestOwn bNotIn (mVar 5) 4)
    (mDrop (mUpd 4 fApp (mCons (mVar 5) mNil)))
    mNext))
  (mSeq (mIfS (mTest bEq (mCallD m__law_draw [some 0, none] (mLend 0 (mCons (mC (.int 2)) mNil))) (mC (.int 0)))
    (mSetL 4 (mCallOL gRev 4))
    mNext)
  (mRet (mCall gTupleOf (mCons (mLst (mLc (mSeqD (mVar 3)) (gN 5) mYes (mIndexO 4 (mCons (mVar 5) mNil)) [5])) mNil)))))))
def m__law_view : List D → Out D := mDef S__law_view 7 mb__law_view
abbrev N_words : List Str := ["entries", "entry"]
abbrev S_words : Sg := ⟨[0, 0], 1, [], []⟩
def mb_words : Ev → Out Fl := (mRet (mStrM gJoin (mC (.str " ")) (mLst (mLc (mSeqD (mVar 0)) (gN 1) mYes (mIf (mTest bIs (mVar 1) (mC .none)) (mC (.str "-")) (mCall gStrI (mCons (mVar 1) mNil))) [1]))))
def m_words : List D → Out D := mDef S_words 2 mb_words
abbrev N_table_text : List Str := ["view", "table", "lines", "line", "state", "row"]
abbrev S_table_text : Sg := ⟨[0, 0, 0, 0, 0, 0], 2, [], []⟩
def mb_table_text : Ev → Out Fl := (mSeq (mDrop (mCallD m_need_table [none, none] (mCons (mVar 0) (mCons (mVar 1) mNil))))
  (mSeq (mSet 2 (mBin gAdd (mLst (mCons (mJ [(mC (.str "view ")), (mUn gFmt (mCallD m_words [none] (mCons (mVar 0) mNil)))] Str.empty) mNil)) (mLst (mLc (mEnum (mCons (mVar 1) mNil)) (gN2 4 5) mYes (mJ [(mUn gFmt (mVar 4)), (mC (.str ": ")), (mUn gFmt (mCallD m_words [none] (mCons (mVar 5) mNil)))] Str.empty) [4, 5]))))
  (mRet (mStrM gJoin (mC (.str "")) (mLst (mLc (mSeqD (mVar 2)) (gN 3) mYes (mBin gAdd (mVar 3) (mC (.str "\n"))) [3]))))))
def m_table_text : List D → Out D := mDef S_table_text 6 mb_table_text
abbrev N__entry : List Str := ["word"]
abbrev S__entry : Sg := ⟨[0], 1, [], []⟩
def mb__entry : Ev → Out Fl := (mRet (mIf (mAndB (mTest bEq (mCall gLen (mCons (mVar 0) mNil)) (mC (.int 1))) (mTest bInS (mVar 0) (mC (.str "0123456789")))) (mCall gIntS (mCons (mVar 0) mNil)) (mC .none)))
def m__entry : List D → Out D := mDef S__entry 1 mb__entry
abbrev N__entries : List Str := ["line", "word"]
abbrev S__entries : Sg := ⟨[0, 0], 1, [], []⟩
def mb__entries : Ev → Out Fl := (mRet (mCall gTupleOf (mCons (mLst (mLc (mSeqD (mSl (mVar 0) (mPart (mC (.int 1))) mNoP)) (gN 1) mYes (mCallD m__entry [none] (mCons (mVar 1) mNil)) [1])) mNil)))
def m__entries : List D → Out D := mDef S__entries 2 mb__entries
abbrev N_read_table : List Str := ["text", "view", "table", "first", "others", "line"]
abbrev S_read_table : Sg := ⟨[0, 0, 0, 0, 0, 0], 1, [], []⟩
def mb_read_table : Ev → Out Fl := (mSeq (mIfS (mNotB (mTru (mIsD "str" (mVar 0))))
    (fun ρ => .err "NoText" ρ)
    mNext)
  (mSeq (mStar 3 4 (mLst (mLc (mSeqD (mLst (mStrML gSplit (mVar 0) (mC (.str "\n"))))) (gN 5) mYes (mLst (mStrML gSplit (mVar 5) (mC (.str " ")))) [5])))
  (mSeq (mSet 1 (mCallD m__entries [none] (mCons (mVar 3) mNil)))
  (mSeq (mSet 2 (mCall gTupleOf (mCons (mLst (mLc (mSeqD (mSl (mVar 4) mNoP (mPart (mUn gNeg (mC (.int 1)))))) (gN 5) mYes (mCallD m__entries [none] (mCons (mVar 5) mNil)) [5])) mNil)))
  (mSeq (mIfS (mOrB (mNotB (mTru (mCallD m_is_view [none] (mCons (mVar 1) mNil)))) (mOrB (mNotB (mTru (mCallD m_is_table [none, none] (mCons (mVar 1) (mCons (mVar 2) mNil))))) (mTest bNe (mCallD m_table_text [none, none] (mCons (mVar 1) (mCons (mVar 2) mNil))) (mVar 0))))
    (fun ρ => .err "NoText" ρ)
    mNext)
  (mRet (mTup (mCons (mVar 1) (mCons (mVar 2) mNil)))))))))
def m_read_table : List D → Out D := mDef S_read_table 6 mb_read_table
abbrev N__law_any : List Str := ["_law_pen_here", "_law_view_here", "_law_rows", "_law_state", "_law_row", "_law_value", "_law_entry"]
abbrev S__law_any : Sg := ⟨[1, 0, 1, 0, 0, 0, 0], 2, [], []⟩
def mb__law_any : Ev → Out Fl := (mSeq (mSetL 2 mNil)
  (mSeq (mFor (mRange1 (mCons (mCall gLen (mCons (mVar 1) mNil)) mNil)) (gN 3)
    (mSeq (mSet 4 (mLst (mLc (mRange1 (mCons (mBin gAdd (mCall gMax (mCons (mVar 1) mNil)) (mC (.int 1))) mNil)) (gN 5) mYes (mCallD m__law_draw [some 0, none] (mLend 0 (mCons (mBin gAdd (mCall gLen (mCons (mVar 1) mNil)) (mC (.int 1))) mNil))) [5])))
  (mDrop (mUpd 2 fApp (mCons (mCall gTupleOf (mCons (mLst (mLc (mSeqD (mVar 4)) (gN 6) mYes (mIf (mTest bEq (mVar 6) (mCall gLen (mCons (mVar 1) mNil))) (mC .none) (mVar 6)) [6])) mNil)) mNil)))))
  (mRet (mCallO gTupleOf 2))))
def m__law_any : List D → Out D := mDef S__law_any 7 mb__law_any
abbrev N__law_read_v2 : List Str := ["_law_text"]
abbrev S__law_read_v2 : Sg := ⟨[0], 1, [], []⟩
def mb__law_read_v2 : Ev → Out Fl := (mTry (mRet (mCallD m_read_table [none] (mCons (mVar 0) mNil))) [("NoTable", false), ("NoText", true), ("NoView", false)] (mRet (mC .none)))
def m__law_read_v2 : List D → Out D := mDef S__law_read_v2 1 mb__law_read_v2
abbrev N__law_turned_v3 : List Str := ["_law_pen_here", "_law_text", "_law_sign", "_law_place", "_law_kind"]
abbrev S__law_turned_v3 : Sg := ⟨[1, 0, 0, 0, 0], 2, [], []⟩
def mb__law_turned_v3 : Ev → Out Fl := (mSeq (mPar 3 4 (mCons (mCallD m__law_draw [some 0, none] (mLend 0 (mCons (mCall gLen (mCons (mVar 1) mNil)) mNil))) (mCons (mCallD m__law_draw [some 0, none] (mLend 0 (mCons (mC (.int 4)) mNil))) mNil)))
  (mSeq (mSet 2 (mBin gIxS (mC (.str "0123-: \nv8")) (mCallD m__law_draw [some 0, none] (mLend 0 (mCons (mC (.int 10)) mNil)))))
  (mSeq (mIfS (mTest bEq (mVar 4) (mC (.int 0)))
    (mRet (mBin gAdd (mSlS (mVar 1) mNoP (mPart (mVar 3))) (mSlS (mVar 1) (mPart (mBin gAdd (mVar 3) (mC (.int 1)))) mNoP)))
    mNext)
  (mSeq (mIfS (mTest bEq (mVar 4) (mC (.int 1)))
    (mRet (mBin gAdd (mBin gAdd (mSlS (mVar 1) mNoP (mPart (mVar 3))) (mVar 2)) (mSlS (mVar 1) (mPart (mVar 3)) mNoP)))
    mNext)
  (mRet (mBin gAdd (mBin gAdd (mSlS (mVar 1) mNoP (mPart (mVar 3))) (mVar 2)) (mSlS (mVar 1) (mPart (mBin gAdd (mVar 3) (mC (.int 1)))) mNoP)))))))
def m__law_turned_v3 : List D → Out D := mDef S__law_turned_v3 5 mb__law_turned_v3
abbrev N_law_k66 : List Str := ["_law_script", "_law_cell", "_law_pen_here", "_law_view_here", "_law_table", "_law_text", "_law_turn", "_law_other", "_law_found"]
abbrev S_law_k66 : Sg := ⟨[0, 0, 1, 0, 0, 0, 0, 0, 0], 1, [], []⟩
def mb_law_k66 : Ev → Out Fl := (mSeq (mFor (mSeqD (mBin gAdd (mLst (mCons (mCallD m__law_cell_at [none, none] (mCons (mVar 0) (mCons (mC (.int 0)) mNil))) mNil)) (mSl (mVar 0) (mPart (mC (.int 1))) (mPart (mC (.int 3)))))) (gN 1)
    (mSeq (mSetL 2 (mCallDL m__law_pen [none] (mCons (mVar 1) mNil)))
  (mSeq (mSet 3 (mCallD m__law_view [some 2, none, none] (mLend 2 (mCons (mC (.int 1)) (mCons (mC (.int 6)) mNil)))))
  (mSeq (mSet 4 (mCallD m__law_any [some 2, none] (mLend 2 (mCons (mVar 3) mNil))))
  (mSeq (mSet 5 (mCallD m_table_text [none, none] (mCons (mVar 3) (mCons (mVar 4) mNil))))
  (mSeq (mIfS (mTest bNe (mCallD m_read_table [none] (mCons (mVar 5) mNil)) (mTup (mCons (mVar 3) (mCons (mVar 4) mNil))))
    (mRet (mC (.bool false)))
    mNext)
  (mFor (mRange1 (mCons (mC (.int 40)) mNil)) (gN 6)
    (mSeq (mSet 7 (mCallD m__law_turned_v3 [some 2, none] (mLend 2 (mCons (mVar 5) mNil))))
  (mSeq (mIfS (mTest bEq (mCallD m__law_draw [some 2, none] (mLend 2 (mCons (mC (.int 3)) mNil))) (mC (.int 0)))
    (mSet 7 (mCallD m__law_turned_v3 [some 2, none] (mLend 2 (mCons (mVar 7) mNil))))
    mNext)
  (mSeq (mSet 8 (mCallD m__law_read_v2 [none] (mCons (mVar 7) mNil)))
  (mSeq (mIfS (mAndB (mTest bIs (mVar 8) (mC .none)) (mTest bEq (mVar 7) (mVar 5)))
    (mRet (mC (.bool false)))
    mNext)
  (mSeq (mIfS (mAndB (mTest bIsNot (mVar 8) (mC .none)) (mTest bNe (mCallD m_table_text [none, none] (mCons (mBin gIx (mVar 8) (mC (.int 0))) (mCons (mBin gIx (mVar 8) (mC (.int 1))) mNil))) (mVar 7)))
    (mRet (mC (.bool false)))
    mNext)
  (mIfS (mAndB (mTest bIsNot (mVar 8) (mC .none)) (mTest bNe (mCallD m_read_table [none] (mCons (mVar 7) mNil)) (mVar 8)))
    (mRet (mC (.bool false)))
    mNext)))))))))))))
  (mRet (mC (.bool true))))
def m_law_k66 : List D → Out D := mDef S_law_k66 9 mb_law_k66
end Pf
namespace Pf
open PySem MW
theorem draw_ok {N q : Int} {d : D} (h : Pen N d) (hN : N ≤ 1000000) (hq : 1 ≤ q) (hq2 : q < 1000000) : Ok (m__law_draw [d, .int q]) (fun z os => ∃ (i : Int) (p : D), z = .int i ∧ 0 ≤ i ∧ i < q ∧ os = [some p, none] ∧ Pen (N + 1) p) := by
  obtain ⟨a, b, n, rfl, ha, hb, hb2, hn, hn2⟩ := h
  refine ok_def (by rfl) ?_
  unfold mb__law_draw
  walk_at "mx"
  refine ite_dec (fun c => ?_) (fun c => ?_)
  · walk_at "mx"
    exact defK_rt rfl ⟨_, _, rfl, Int.emod_nonneg _ (by omega), Int.emod_lt_of_pos _ (by omega), rfl, _, _, _, rfl, Int.ediv_nonneg ha (by omega), hb, hb2, hn, by omega⟩
  · walk_at "mx"
    exact defK_rt rfl ⟨_, _, rfl, Int.emod_nonneg _ (by omega), Int.emod_lt_of_pos _ (by omega), rfl, _, _, _, rfl, ha, hb, hb2, by omega, by omega⟩
theorem cell_ok (ns : List Int) (k : Nat) : Ok (m__law_cell_at [.list (ns.map .int), .int k]) (fun z os => ∃ i : Int, z = .int i ∧ os = [none, none]) := by
  refine ok_def (by rfl) ?_
  unfold mb__law_cell_at
  walk_at "mx"
  refine ite_dec (fun c => ?_) (fun c => ?_)
  · walk_at "mx"
    have h : k < ns.length := by rw [List.length_map] at c; omega
    refine ⟨.int ns[k], gIx_ok (by rw [List.getElem?_map, List.getElem?_eq_getElem h]; rfl), ?_⟩
    walk_at "mx"
    exact defK_rt rfl ⟨_, rfl, rfl⟩
  · walk_at "mx"
    exact defK_rt rfl ⟨_, rfl, rfl⟩
theorem pen_ok (c : Int) : Ok (m__law_pen [.int c]) (fun ds os => Pen 0 (.list ds) ∧ os = [none]) := by
  refine ok_defL (by rfl) ?_
  unfold mb__law_pen
  walk_at "mx"
  refine ⟨.int 1000000000000000000, rfl, ?_⟩
  walk_at "mx"
  refine ⟨.int (if c - 1000000000000000000 > 0 then c - 1000000000000000000 else 0), rfl, ?_⟩
  walk_at "mx"
  refine ⟨⟨_, _, _, rfl, ?_, Int.emod_nonneg _ (by omega), Int.emod_lt_of_pos _ (by omega), by omega, by omega⟩, rfl⟩
  split <;> omega
end Pf
namespace Pf
open PySem MW
abbrev Tb := List (List (Option Nat))
/-- parts of the first n states: each state in one of them, each part not empty, ascending, no value twice -/
structure Pn (v : List Nat) (n : Nat) (ps : List (List Nat)) : Prop where
  all : ps.flatten.Perm (List.range n)
  ne : ∀ q ∈ ps, q ≠ []
  asc : ∀ q ∈ ps, q.Pairwise (· < ·)
  dif : ∀ q ∈ ps, ∀ s ∈ q, ∀ t ∈ q, v.getD s 0 = v.getD t 0 → s = t
section
variable {v : List Nat} {n : Nat} {ps : List (List Nat)}
theorem Pn.lt (h : Pn v n ps) {q : List Nat} (hq : q ∈ ps) {s : Nat} (hs : s ∈ q) : s < n :=
  List.mem_range.mp (h.all.mem_iff.mp (List.mem_flatten.mpr ⟨q, hq, hs⟩))
theorem Pn.perm (h : Pn v n ps) {qs : List (List Nat)} (e : qs.Perm ps) : Pn v n qs :=
  ⟨e.flatten.trans h.all, fun q hq => h.ne q (e.mem_iff.mp hq), fun q hq => h.asc q (e.mem_iff.mp hq), fun q hq => h.dif q (e.mem_iff.mp hq)⟩
theorem Pn.count (h : Pn v n ps) : ps.length ≤ n := by
  have : ∀ ps : List (List Nat), (∀ q ∈ ps, q ≠ []) → ps.length ≤ ps.flatten.length := by
    intro ps
    induction ps with
    | nil => intro _; exact Nat.le_refl _
    | cons q ps ih =>
      intro k
      have h1 := List.length_pos_iff.mpr (k q List.mem_cons_self)
      have h2 := ih fun r hr => k r (List.mem_cons_of_mem _ hr)
      rw [List.flatten_cons, List.length_append, List.length_cons]
      omega
  have h1 := this ps h.ne
  rw [h.all.length_eq, List.length_range] at h1
  exact h1
theorem Pn.len (h : Pn v n ps) {q : List Nat} (hq : q ∈ ps) : q.length ≤ n := by
  have : ∀ ps : List (List Nat), q ∈ ps → q.length ≤ ps.flatten.length := by
    intro ps
    induction ps with
    | nil => intro h; cases h
    | cons r ps ih =>
      intro k
      rw [List.flatten_cons, List.length_append]
      rcases List.mem_cons.mp k with z | z
      · rw [z]; omega
      · have := ih z; omega
  have h1 := this ps hq
  rw [h.all.length_eq, List.length_range] at h1
  exact h1
theorem set_flatten {x : Nat} : ∀ {ps : List (List Nat)} {k : Nat} (hk : k < ps.length), (ps.set k (ps[k] ++ [x])).flatten.Perm (ps.flatten ++ [x])
  | [], _, h => by cases h
  | q :: ps, 0, _ => by
    rw [List.set_cons_zero, List.flatten_cons, List.flatten_cons, List.getElem_cons_zero, List.append_assoc, List.append_assoc]
    exact List.Perm.append_left q List.perm_append_comm
  | q :: ps, k + 1, h => by
    rw [List.set_cons_succ, List.flatten_cons, List.flatten_cons, List.append_assoc]
    exact List.Perm.append_left q (set_flatten (Nat.lt_of_succ_lt_succ h))
theorem Pn.join (h : Pn v n ps) {k : Nat} (hk : k < ps.length) (hv : v.getD n 0 ∉ ps[k].map fun s => v.getD s 0) : Pn v (n + 1) (ps.set k (ps[k] ++ [n])) := by
  have hm := List.getElem_mem hk
  refine ⟨?_, fun q hq => ?_, fun q hq => ?_, fun q hq s hs t ht e => ?_⟩
  · rw [List.range_succ]
    exact (set_flatten hk).trans (h.all.append (List.Perm.refl _))
  · rcases List.mem_or_eq_of_mem_set hq with z | z
    · exact h.ne q z
    · rw [z]; simp
  · rcases List.mem_or_eq_of_mem_set hq with z | z
    · exact h.asc q z
    · rw [z, List.pairwise_append]
      refine ⟨h.asc _ hm, List.pairwise_singleton _ _, fun a ha b hb => ?_⟩
      rw [List.mem_singleton.mp hb]
      exact h.lt hm ha
  · rcases List.mem_or_eq_of_mem_set hq with z | z
    · exact h.dif q z s hs t ht e
    · rw [z] at hs ht
      rcases List.mem_append.mp hs with s1 | s1 <;> rcases List.mem_append.mp ht with t1 | t1
      · exact h.dif _ hm s s1 t t1 e
      · rw [List.mem_singleton.mp t1] at e
        exact absurd (List.mem_map.mpr ⟨s, s1, e⟩) hv
      · rw [List.mem_singleton.mp s1] at e
        exact absurd (List.mem_map.mpr ⟨t, t1, e.symm⟩) hv
      · rw [List.mem_singleton.mp s1, List.mem_singleton.mp t1]
end
/-- the three rules -/
structure Sound (v : List Nat) (c : Nat) (t : Tb) : Prop where
  tab : Tab v.length c t
  stay : ∀ s, s < v.length → cell t s (v.getD s 0) = some s
  shown : ∀ s w o, s < v.length → w < c → cell t s w = some o → v.getD o 0 = w
  forget : ∀ s w o, s < v.length → w < c → cell t s w = some o → ∀ x, x < c → cell t o x = cell t s x
theorem Tab.lt {n c : Nat} {t : Tb} (h : Tab n c t) {s w o : Nat} (e : cell t s w = some o) : o < n := by
  by_cases hs : s < t.length
  · by_cases hw : w < t[s].length
    · rw [cell_at hs hw] at e
      exact (h.2 _ (List.getElem_mem hs)).2 _ (List.getElem_mem hw) _ e
    · unfold cell at e
      simp [List.getD_eq_getElem?_getD, hs, hw] at e
  · unfold cell at e
    simp [List.getD_eq_getElem?_getD, hs] at e
theorem vw_getD {v : List Nat} {c : Nat} (hv : Vw v c) {s : Nat} (hs : s < v.length) : v.getD s 0 < c := by
  rw [List.getD_eq_getElem?_getD, List.getElem?_eq_getElem hs]
  exact hv.2.2.2.1 _ (List.getElem_mem hs)
end Pf
namespace Pf
open PySem MW
def leN (a b : List Nat) : Bool := decide (a ≤ b)
def sortT (ps : List (List Nat)) : List (List Nat) := ps.mergeSort leN
end Pf
namespace Pf
open PySem MW
theorem fold_app {α : Type} (l : List α) (i : Nat) (h : i < l.length) : l.take (i + 1) = l.take i ++ [l[i]] := by rw [List.take_add_one, List.getElem?_eq_getElem h]; rfl
end Pf
namespace Pf
open PySem MW
theorem whole_ok (d : D) (P : D → Ev → Prop) (h : ∀ b, (∀ i : Int, d = .int i → b = true) → P (.bool b) [none]) : Ok (m_is_whole [d]) P := by
  refine ok_def (by rfl) ?_
  unfold mb_is_whole
  walk_at "mx"
  refine ⟨isD "int" d, rfl, ?_⟩
  cases e : isD "int" d with
  | true =>
    refine L2.iteT ?_
    walk_at "mx"
    refine defK_rt rfl (h _ fun i e => ?_)
    subst e; rfl
  | false =>
    refine L2.iteF ?_
    refine defK_rt rfl (h _ fun i e' => ?_)
    subst e'
    cases e
theorem below_ok (i : Int) (n : Int) (h0 : 0 ≤ i) (h1 : i < n) : Ok (m_is_below [.int i, .int n]) (fun z os => z = .bool true ∧ os = [none, none]) := by
  refine ok_def (by rfl) ?_
  unfold mb_is_below
  walk_at "mx"
  refine whole_ok _ _ fun b hb => ?_
  have := hb i rfl
  subst this
  refine ⟨_, rfl, L2.iteT ?_⟩
  walk_at "mx"
  rw [decide_eq_true h0]
  refine L2.iteT ?_
  walk_at "mx"
  rw [decide_eq_true h1]
  exact defK_rt rfl ⟨rfl, rfl⟩
theorem all_true (n : Nat) : gAll [.list (List.replicate n (.bool true))] = some (.bool true) := by
  have e : ∀ n, boolsD (List.replicate n (PyData.bool true)) = some (List.replicate n true) := by
    intro n
    induction n with
    | zero => rfl
    | succ n ih =>
      unfold boolsD at ih ⊢
      rw [List.replicate_succ, List.mapM_cons, ih]
      rfl
  show ((boolsD (List.replicate n (PyData.bool true))).map fun ns => PyData.bool (ns.all id)) = _
  rw [e]
  simp
theorem view_is {v : List Nat} {c : Nat} (hv : Vw v c) : Ok (m_is_view [tD v]) (fun z os => z = .bool true ∧ os = [none]) := by
  have hv0 := hv
  obtain ⟨v1, v2, v3, v4, v5⟩ := hv
  refine ok_def (by rfl) ?_
  unfold mb_is_view
  walk_at "mx"
  refine ⟨_, rfl, ?_⟩
  refine L2.iteF ?_
  walk_at "mx"
  rw [List.length_map, decide_eq_true (show (1 : Int) ≤ (v.length : Int) by omega)]
  refine L2.iteT ?_
  walk_at "mx"
  rw [decide_eq_true (show (v.length : Int) ≤ 9 by omega)]
  refine L2.iteF ?_
  refine ok_next ?_
  refine then_nx ?_
  walk_at "mx"
  refine ⟨_, rfl, ?_⟩
  refine comp_inv (fun k ys ρ => ρ = [some (tD v), none] ∧ ys = List.replicate k (.bool true)) 0 [] ⟨rfl, rfl⟩ ?_ ?_
  · rintro i d ys ρ hi0 ⟨rfl, rfl⟩
    obtain ⟨hi, rfl⟩ := at_map hi0
    refine ⟨_, rfl, ?_⟩
    walk_at "mx"
    have := v4 v[i] (List.getElem_mem hi)
    show Ok (m_is_below [.int (v[i] : Nat), .int ((v.map nD).length : Int)]) _
    rw [List.length_map]
    refine (below_ok _ _ (by omega) (by omega)).mono ?_
    rintro z os ⟨rfl, rfl⟩
    refine ⟨rfl, ?_⟩
    rw [show 0 + (i + 1) = 0 + i + 1 by omega, List.replicate_succ']
  rintro ys ρ ⟨rfl, e⟩
  rw [List.nil_append] at e
  subst e
  walk_at "mx"
  refine ⟨_, all_true _, ?_⟩
  refine ⟨_, rfl, ?_⟩
  refine L2.iteF ?_
  refine ok_next ?_
  refine then_nx ?_
  refine ok_at (ρ' := [some (tD v), none]) rfl ?_
  have hset : gLenSet (tD v) = some (.int c) := by
    have e : ∀ q : List Nat, intsOf (q.map nD) = some (q.map Int.ofNat) := by
      intro q
      induction q with
      | nil => rfl
      | cons x q ih => show (intsOf (q.map nD)).map (_ :: ·) = _; rw [ih]; rfl
    show ((intsOf (v.map nD)).bind fun ns => if ns.length ≤ 4000 then some (PyData.int ((dd ns).length : Nat)) else none) = _
    rw [e]
    show (if (v.map Int.ofNat).length ≤ 4000 then some (PyData.int ((dd (v.map Int.ofNat)).length : Nat)) else none) = _
    rw [if_pos (by rw [List.length_map]; omega)]
    have h1 : (dd (v.map Int.ofNat)).length = ((List.range c).map Int.ofNat).length := by
      refine nodup_len (dd_nodup _) ?_ fun n => ?_
      · have hr : ∀ n : Nat, ((List.range n).map Int.ofNat).Nodup := by
          intro n
          induction n with
          | zero => exact List.nodup_nil
          | succ n ih =>
            rw [List.range_succ, List.map_append]
            refine List.nodup_append.mpr ⟨ih, by simp, fun a ha b hb e => ?_⟩
            obtain ⟨x, hx, e1⟩ := List.mem_map.mp ha
            have := List.mem_range.mp hx
            have hb : b = Int.ofNat n := by simpa using hb
            rw [hb, ← e1] at e
            have e : (x : Int) = (n : Int) := e
            omega
        exact hr c
      · rw [mem_dd, List.mem_map, List.mem_map]
        constructor
        · rintro ⟨x, hx, e⟩
          exact ⟨x, List.mem_range.mpr (v4 x hx), e⟩
        · rintro ⟨x, hx, e⟩
          exact ⟨x, v5 x (List.mem_range.mp hx), e⟩
    rw [h1, List.length_map, List.length_range]
  walk_at "mx"
  refine ⟨_, hset, ?_⟩
  walk_at "mx"
  refine ⟨_, max_view hv0, ?_⟩
  walk_at "mx"
  rw [show (c : Int) - 1 + 1 = c by omega]
  refine ⟨.bool true, ?_, defK_rt rfl ⟨rfl, rfl⟩⟩
  show (bEq (.int c) (.int c)).map PyData.bool = _
  rw [bEq_int]
  simp
theorem need_view {v : List Nat} {c : Nat} (hv : Vw v c) : Ok (m_need_view [tD v]) (fun z os => os = [none]) := by
  refine ok_def (by rfl) ?_
  unfold mb_need_view
  walk_at "mx"
  refine (view_is hv).mono ?_
  rintro z os ⟨rfl, rfl⟩
  refine ⟨_, rfl, ?_⟩
  refine L2.iteF ?_
  walk_at "mx"
  exact defK_nx rfl rfl
theorem count_ok {v : List Nat} {c : Nat} (hv : Vw v c) : Ok (m_count_values [tD v]) (fun z os => z = .int c ∧ os = [none]) := by
  refine ok_def (by rfl) ?_
  unfold mb_count_values
  walk_at "mx"
  refine ⟨_, max_view hv, ?_⟩
  walk_at "mx"
  rw [show (c : Int) - 1 + 1 = c by omega]
  exact defK_rt rfl ⟨rfl, rfl⟩
theorem row_ok {v : List Nat} {c : Nat} {r : List (Option Nat)} (hv : Vw v c) (hr : RowOk v.length c r) : Ok (m__is_row [tD v, rD r]) (fun z os => z = .bool true ∧ os = [none, none]) := by
  refine ok_def (by rfl) ?_
  unfold mb__is_row
  walk_at "mx"
  refine ⟨_, rfl, ?_⟩
  refine L2.iteF ?_
  walk_at "mx"
  refine (count_ok hv).mono ?_
  rintro z os ⟨rfl, rfl⟩
  refine ⟨_, bNe_int _ _, ?_⟩
  rw [List.length_map, hr.1, beq_self_eq_true]
  refine L2.iteF ?_
  refine ok_next ?_
  refine then_nx ?_
  refine ok_at (ρ' := [some (tD v), some (rD r), none]) rfl ?_
  walk_at "mx"
  refine ⟨_, rfl, ?_⟩
  refine comp_inv (fun k ys ρ => ρ = [some (tD v), some (rD r), none] ∧ ys = List.replicate k (.bool true)) 0 [] ⟨rfl, rfl⟩ ?_ ?_
  · rintro i d ys ρ hi0 ⟨rfl, rfl⟩
    obtain ⟨hi, rfl⟩ := at_map hi0
    refine ⟨_, rfl, ?_⟩
    walk_at "mx"
    have hb := hr.2 r[i] (List.getElem_mem hi)
    have fin : ∀ (ρ : Ev), ρ = [some (tD v), some (rD r), none] → ρ = [some (tD v), some (rD r), none] ∧ List.replicate (0 + i) (PyData.bool true) ++ [.bool true] = List.replicate (0 + (i + 1)) (PyData.bool true) := fun ρ h => ⟨h, by rw [show 0 + (i + 1) = 0 + i + 1 by omega, List.replicate_succ']⟩
    cases e : r[i] with
    | none =>
      refine ⟨.bool true, rfl, true, rfl, L2.iteT ?_⟩
      exact fin _ rfl
    | some j =>
      refine ⟨.bool false, rfl, false, rfl, L2.iteF ?_⟩
      walk_at "mx"
      show Ok (m_is_below [.int (j : Nat), .int ((v.map nD).length : Int)]) _
      rw [List.length_map]
      have := hb j e
      refine (below_ok _ _ (by omega) (by omega)).mono ?_
      rintro z os ⟨rfl, rfl⟩
      exact fin _ rfl
  rintro ys ρ ⟨rfl, e⟩
  rw [List.nil_append] at e
  subst e
  walk_at "mx"
  refine ⟨_, all_true _, ?_⟩
  exact defK_rt rfl ⟨rfl, rfl⟩
theorem table_is {v : List Nat} {c : Nat} {t : List (List (Option Nat))} (hv : Vw v c) (ht : Tab v.length c t) : Ok (m_is_table [tD v, tabD t]) (fun z os => z = .bool true ∧ os = [none, none]) := by
  refine ok_def (by rfl) ?_
  unfold mb_is_table
  walk_at "mx"
  refine (need_view hv).mono ?_
  rintro z os rfl
  refine then_nx ?_
  refine ok_at (ρ' := [some (tD v), some (tabD t), none]) rfl ?_
  walk_at "mx"
  refine ⟨_, rfl, ?_⟩
  refine L2.iteF ?_
  walk_at "mx"
  refine ⟨_, bNe_int _ _, ?_⟩
  rw [List.length_map, List.length_map, ht.1, beq_self_eq_true]
  refine L2.iteF ?_
  refine ok_next ?_
  refine then_nx ?_
  walk_at "mx"
  refine ⟨_, rfl, ?_⟩
  refine comp_inv (fun k ys ρ => ρ = [some (tD v), some (tabD t), none] ∧ ys = List.replicate k (.bool true)) 0 [] ⟨rfl, rfl⟩ ?_ ?_
  · rintro i d ys ρ hi0 ⟨rfl, rfl⟩
    obtain ⟨hi, rfl⟩ := at_map hi0
    refine ⟨_, rfl, ?_⟩
    walk_at "mx"
    refine (row_ok hv (ht.2 t[i] (List.getElem_mem hi))).mono ?_
    rintro z os ⟨rfl, rfl⟩
    refine ⟨rfl, ?_⟩
    rw [show 0 + (i + 1) = 0 + i + 1 by omega, List.replicate_succ']
  rintro ys ρ ⟨rfl, e⟩
  rw [List.nil_append] at e
  subst e
  walk_at "mx"
  refine ⟨_, all_true _, ?_⟩
  exact defK_rt rfl ⟨rfl, rfl⟩
theorem need_table {v : List Nat} {c : Nat} {t : List (List (Option Nat))} (hv : Vw v c) (ht : Tab v.length c t) : Ok (m_need_table [tD v, tabD t]) (fun z os => os = [none, none]) := by
  refine ok_def (by rfl) ?_
  unfold mb_need_table
  walk_at "mx"
  refine (table_is hv ht).mono ?_
  rintro z os ⟨rfl, rfl⟩
  refine ⟨_, rfl, ?_⟩
  refine L2.iteF ?_
  walk_at "mx"
  exact defK_nx rfl rfl
end Pf
namespace Pf
open PySem MW
def B1 (v : List Nat) (t : List (List (Option Nat))) (s : Nat) : Option D := if cell t s (v.getD s 0) == some s then none else some (.tuple [.str "stay", nD s])
def B2 (v : List Nat) (t : List (List (Option Nat))) (s w : Nat) : Option D := match cell t s w with
  | none => none
  | some r => if v.getD r 0 == w then none else some (.tuple [.str "shown", nD s, nD w])
def B3 (t : List (List (Option Nat))) (s w o : Nat) : Option D := match cell t s w with
  | none => none
  | some r => if cell t r o == cell t s o then none else some (.tuple [.str "forget", nD s, nD w, nD o])
end Pf
namespace Pf
open PySem MW
/-- the first broken rule -/
def brk (v : List Nat) (c : Nat) (t : List (List (Option Nat))) : Option D := match findFrom (B1 v t) 0 v.length with
  | some r => some r
  | none => match findFrom (fun s => findFrom (B2 v t s) 0 c) 0 v.length with
    | some r => some r
    | none => findFrom (fun s => findFrom (fun w => findFrom (B3 t s w) 0 c) 0 c) 0 v.length
end Pf
namespace Pf
open PySem MW
theorem ok_testOwn {b : D → D → Option Bool} {ma : Ev → Out D} {i : Nat} {ρ : Ev} {PB : Bool → Ev → Prop} (h : Ok (ma ρ) fun d ρ1 => ∃ e, rd ρ1 i = some e ∧ ∃ z, b d e = some z ∧ PB z ρ1) : Ok (mTestOwn b ma i ρ) PB := ok_bind (h.mono fun d ρ1 ⟨e, e1, z, e2, k⟩ => ok_bind (ok_of e1 (ok_of e2 k)))
/-- a view with names told in the order in which they come, or turned about -/
theorem names_view {raw names : List Nat} (hn : names.Nodup) (hm : ∀ x, x ∈ names ↔ x ∈ raw) (h1 : 1 ≤ raw.length) (h9 : raw.length ≤ 9) (hl : names.length ≤ raw.length) : Vw (raw.map fun x => names.idxOf x) names.length := by
  refine ⟨by simpa using h1, by simpa using h9, ⟨?_, by simpa using hl⟩, fun x hx => ?_, fun y hy => ?_⟩
  · have := List.getElem_mem (show 0 < raw.length by omega)
    exact List.length_pos_of_mem ((hm _).mpr this)
  · obtain ⟨r, hr, rfl⟩ := List.mem_map.mp hx
    exact List.idxOf_lt_length_iff.mpr ((hm r).mpr hr)
  · exact List.mem_map.mpr ⟨names[y], (hm _).mp (List.getElem_mem hy), hn.idxOf_getElem y hy⟩
end Pf
namespace Pf
open PySem MW
theorem eqv_nums : ∀ a b : List Nat, PyData.eqvAll (a.map nD) (b.map nD) = (a == b)
  | [], [] => rfl
  | [], _ :: _ => rfl
  | _ :: _, [] => rfl
  | x :: a, y :: b => by
    show (((x : Int) == (y : Int)) && PyData.eqvAll (a.map nD) (b.map nD)) = _
    rw [eqv_nums a b]
    have : ((x : Int) == (y : Int)) = (x == y) := by
      by_cases e : x = y
      · subst e; simp
      · rw [beq_eq_false_iff_ne.mpr (show (x : Int) ≠ y by omega), beq_eq_false_iff_ne.mpr e]
    rw [this]
    rfl
end Pf
namespace Pf
open PySem MW
abbrev Cl := Nat × Nat × Nat
/-- cells: each once, and with each the ones ahead of it in its row and in its column -/
structure Bl (cs : List Cl) : Prop where
  nd : cs.Nodup
  few : cs.length ≤ 9
  row : ∀ x ∈ cs, ∀ r, r ≤ x.2.1 → (x.1, r, x.2.2) ∈ cs
  col : ∀ x ∈ cs, ∀ q, q ≤ x.2.2 → (x.1, x.2.1, q) ∈ cs
  rect : ∀ x ∈ cs, ∀ y ∈ cs, x.1 = y.1 → (x.1, x.2.1, y.2.2) ∈ cs
theorem Bl.perm {cs ds : List Cl} (h : Bl cs) (p : ds.Perm cs) : Bl ds := ⟨p.nodup_iff.mpr h.nd, by rw [p.length_eq]; exact h.few, fun x hx r hr => p.mem_iff.mpr (h.row x (p.mem_iff.mp hx) r hr), fun x hx q hq => p.mem_iff.mpr (h.col x (p.mem_iff.mp hx) q hq), fun x hx y hy e => p.mem_iff.mpr (h.rect x (p.mem_iff.mp hx) y (p.mem_iff.mp hy) e)⟩
def blk (b h w : Nat) : List Cl := (List.range h).flatMap fun r => (List.range w).map fun c => (b, r, c)
theorem mem_blk {b h w : Nat} {x : Cl} : x ∈ blk b h w ↔ x.1 = b ∧ x.2.1 < h ∧ x.2.2 < w := by
  unfold blk
  rw [List.mem_flatMap]
  constructor
  · rintro ⟨r, hr, hx⟩
    obtain ⟨c, hc, rfl⟩ := List.mem_map.mp hx
    exact ⟨rfl, List.mem_range.mp hr, List.mem_range.mp hc⟩
  · rintro ⟨rfl, h1, h2⟩
    exact ⟨x.2.1, List.mem_range.mpr h1, List.mem_map.mpr ⟨x.2.2, List.mem_range.mpr h2, rfl⟩⟩
theorem blk_len (b h w : Nat) : (blk b h w).length = h * w := by
  unfold blk
  rw [List.length_flatMap]
  induction h with
  | zero => simp
  | succ h ih => rw [List.range_succ, List.map_append, List.sum_append, ih, Nat.succ_mul]; simp
theorem blk_succ (b h w : Nat) : blk b (h + 1) w = blk b h w ++ (List.range w).map fun c => (b, h, c) := by
  unfold blk
  rw [List.range_succ, List.flatMap_append]
  simp
theorem blk_nodup (b h w : Nat) : (blk b h w).Nodup := by
  induction h with
  | zero => exact List.nodup_nil
  | succ h ih =>
    rw [blk_succ]
    refine List.nodup_append.mpr ⟨ih, ?_, fun x hx y hy e => ?_⟩
    · exact List.pairwise_map.mpr ((List.nodup_range (n := w)).imp fun hne e => hne (by injection e with _ e; injection e))
    · obtain ⟨c, _, rfl⟩ := List.mem_map.mp hy
      have := (mem_blk.mp hx).2.1
      rw [e] at this
      exact Nat.lt_irrefl _ this
theorem Bl.more {cs : List Cl} (h : Bl cs) {b hh w : Nat} (hb : ∀ x ∈ cs, x.1 ≠ b) (few : cs.length + hh * w ≤ 9) : Bl (cs ++ blk b hh w) := by
  refine ⟨List.nodup_append.mpr ⟨h.nd, blk_nodup _ _ _, fun x hx y hy e => hb x hx (by rw [e]; exact (mem_blk.mp hy).1)⟩, by rw [List.length_append, blk_len]; exact few, fun x hx r hr => ?_, fun x hx q hq => ?_, fun x hx y hy e => ?_⟩
  · rcases List.mem_append.mp hx with z | z
    · exact List.mem_append_left _ (h.row x z r hr)
    · obtain ⟨e, h1, h2⟩ := mem_blk.mp z
      exact List.mem_append_right _ (mem_blk.mpr ⟨e, by show r < hh; omega, h2⟩)
  · rcases List.mem_append.mp hx with z | z
    · exact List.mem_append_left _ (h.col x z q hq)
    · obtain ⟨e, h1, h2⟩ := mem_blk.mp z
      exact List.mem_append_right _ (mem_blk.mpr ⟨e, h1, by show q < w; omega⟩)
  · rcases List.mem_append.mp hx with z | z <;> rcases List.mem_append.mp hy with z2 | z2
    · exact List.mem_append_left _ (h.rect x z y z2 e)
    · exact absurd (e.trans (mem_blk.mp z2).1) (hb x z)
    · exact absurd (e.symm.trans (mem_blk.mp z).1) (hb y z2)
    · exact List.mem_append_right _ (mem_blk.mpr ⟨(mem_blk.mp z).1, (mem_blk.mp z).2.1, (mem_blk.mp z2).2.2⟩)
end Pf
namespace Pf
open PySem MW
theorem nodup_len : ∀ {a b : List Nat}, a.Nodup → (∀ x ∈ a, x ∈ b) → a.length ≤ b.length
  | [], b, _, _ => Nat.zero_le _
  | x :: a, b, hn, h => by
    have hx := h x List.mem_cons_self
    have hn := List.nodup_cons.mp hn
    have ih := nodup_len (a := a) (b := b.erase x) hn.2 fun y hy => (List.mem_erase_of_ne (fun e => hn.1 (by rw [← e]; exact hy))).mpr (h y (List.mem_cons_of_mem _ hy))
    rw [List.length_erase_of_mem hx] at ih
    have := List.length_pos_of_mem hx
    rw [List.length_cons]
    omega
end Pf
namespace Pf
open PySem MW
def Er {α : Type} (o : Out α) (c : Str) (PE : Ev → Prop) : Prop := match o with
  | .err c' ρ => c' = c ∧ PE ρ
  | _ => False
theorem Er.mono {α : Type} {o : Out α} {c : Str} {P Q : Ev → Prop} (h : Er o c P) (k : ∀ ρ, P ρ → Q ρ) : Er o c Q := by
  cases o with
  | err c' ρ => exact ⟨h.1, k ρ h.2⟩
  | ok a ρ => exact h
  | bad => exact h
theorem Er.eq {α : Type} {o : Out α} {c : Str} {P : Ev → Prop} (h : Er o c P) : ∃ ρ, o = .err c ρ ∧ P ρ := by
  cases o with
  | err c' ρ => exact ⟨ρ, by rw [h.1], h.2⟩
  | ok a ρ => exact h.elim
  | bad => exact h.elim
section
variable {α β : Type} {o : Out α} {c : Str} {PE : Ev → Prop} {ρ : Ev}
theorem er_bind {f : α → Ev → Out β} (h : Er o c PE) : Er (o.bind f) c PE := by
  cases o with
  | err c' ρ => exact h
  | ok a ρ => exact h.elim
  | bad => exact h.elim
theorem er_then {f : α → Ev → Out β} (h : Ok o fun a ρ => Er (f a ρ) c PE) : Er (o.bind f) c PE := by
  cases o with
  | ok a ρ => exact h
  | err c' ρ => exact h.elim
  | bad => exact h.elim
theorem er_seq {m n : Ev → Out Fl} (h : Er (m ρ) c PE) : Er (mSeq m n ρ) c PE := er_bind h
theorem er_seq2 {m n : Ev → Out Fl} (h : Ok (m ρ) fun fl ρ1 => fl = .nx ∧ Er (n ρ1) c PE) : Er (mSeq m n ρ) c PE := er_then (h.mono fun fl ρ1 ⟨e, k⟩ => by subst e; exact k)
theorem er_ret {m : Ev → Out D} (h : Er (m ρ) c PE) : Er (mRet m ρ) c PE := er_bind h
theorem er_ifY {mt : Ev → Out Bool} {n1 n2 : Ev → Out Fl} (h : Ok (mt ρ) fun b ρ1 => b = true ∧ Er (n1 ρ1) c PE) : Er (mIfS mt n1 n2 ρ) c PE := er_then (h.mono fun b ρ1 ⟨e, k⟩ => by subst e; exact k)
theorem er_callD {f : List D → Out D} {ks : List (Option Nat)} {ms : Ev → Out (List D)} (h : Ok (ms ρ) fun ds ρ1 => ∃ as, resolve ρ1 ks ds = some as ∧ Er (f as) c fun os => PE (wback ks os ρ1)) : Er (mCallD f ks ms ρ) c PE := er_then (h.mono fun ds ρ1 ⟨as, e, k⟩ => er_then (ok_of e (by
  obtain ⟨os, e2, k2⟩ := k.eq
  show Er (match f as with | .ok d os => Out.ok d (wback ks os ρ1) | .err c os => .err c (wback ks os ρ1) | .bad => .bad) c PE
  rw [e2]; exact ⟨rfl, k2⟩)))
theorem er_def {S : Sg} {n : Nat} {mb : Ev → Out Fl} {ds : List D} (h : Er (mb (ds.map some ++ List.replicate (n - ds.length) none)) c fun ρ => chk S (outs S ρ) = true ∧ PE (outs S ρ)) : Er (mDef S n mb ds) c PE := by
  obtain ⟨ρ1, e, k1, k2⟩ := h.eq
  unfold mDef
  rw [e]
  show Er (if chk S (outs S ρ1) = true then Out.err c (outs S ρ1) else .bad) c PE
  rw [if_pos k1]
  exact ⟨rfl, k2⟩
end
def wholeB : D → Bool
  | .int _ => true
  | _ => false
def belowB (n : Int) : D → Bool
  | .int i => decide (0 ≤ i) && decide (i < n)
  | _ => false
def entryB (n : Int) : D → Bool
  | .none => true
  | d => belowB n d
theorem whole_any (d : D) : Ok (m_is_whole [d]) (fun z os => z = .bool (wholeB d) ∧ os = [none]) := by
  cases d with
  | bool b => exact ⟨rfl, rfl⟩
  | int i => exact ⟨rfl, rfl⟩
  | none => exact ⟨rfl, rfl⟩
  | str x => exact ⟨rfl, rfl⟩
  | list x => exact ⟨rfl, rfl⟩
  | tuple x => exact ⟨rfl, rfl⟩
  | dict x => exact ⟨rfl, rfl⟩
theorem belowB_no {d : D} {n : Int} (h : wholeB d = false) : belowB n d = false := by
  cases d <;> first | rfl | cases h
theorem belowB_int {i n : Int} : belowB n (.int i) = (decide (0 ≤ i) && decide (i < n)) := rfl
theorem wholeB_int {d : D} (h : wholeB d = true) : ∃ i, d = .int i := by
  cases d <;> first | exact ⟨_, rfl⟩ | cases h
theorem below_any (d : D) (n : Int) : Ok (m_is_below [d, .int n]) (fun z os => z = .bool (belowB n d) ∧ os = [none, none]) := by
  refine ok_def (by rfl) ?_
  unfold mb_is_below
  walk_at "mx"
  refine (whole_any d).mono ?_
  rintro z os ⟨rfl, rfl⟩
  refine ⟨_, rfl, ?_⟩
  cases e : wholeB d with
  | false =>
    refine L2.iteF ?_
    rw [belowB_no e]
    exact defK_rt rfl ⟨rfl, rfl⟩
  | true =>
    obtain ⟨i, rfl⟩ := wholeB_int e
    refine L2.iteT ?_
    walk_at "mx"
    rw [belowB_int]
    cases e1 : decide ((0 : Int) ≤ i) with
    | false =>
      refine L2.iteF ?_
      exact defK_rt rfl ⟨rfl, rfl⟩
    | true =>
      refine L2.iteT ?_
      walk_at "mx"
      exact defK_rt rfl ⟨by simp, rfl⟩
theorem all_bools {l : List D} (f : D → Bool) : gAll [.list (l.map fun d => .bool (f d))] = some (.bool (l.all f)) := by
  have e : boolsD (l.map fun d => PyData.bool (f d)) = some (l.map f) := by
    induction l with
    | nil => rfl
    | cons d l ih =>
      unfold boolsD at ih ⊢
      rw [List.map_cons, List.mapM_cons, ih]
      rfl
  show ((boolsD (l.map fun d => PyData.bool (f d))).map fun ns => PyData.bool (ns.all id)) = _
  rw [e, Option.map_some, List.all_map]
  rfl
theorem comp_any {g : Ev → D → Option Ev} {me : Ev → Out D} {vs : List Nat} {ρ0 : Ev} (f : D → D) {l : List D} {PL : List D → Ev → Prop} (h : ∀ x ∈ l, ∃ ρ1, g ρ0 x = some ρ1 ∧ Ok (me ρ1) (fun z ρ3 => z = f x ∧ wipeE ρ3 vs = ρ0)) (k : PL (l.map f) ρ0) : Ok (compM g mYes me vs l ρ0) PL := by
  have := comp_map (g := g) (me := me) (vs := vs) (enc := fun d : D => d) (ρ0 := ρ0) f (l := l) h
  rw [List.map_id'] at this
  refine this.mono ?_
  rintro ys ρ ⟨rfl, rfl⟩
  exact k
def IsV (d : D) : Prop := ∃ v c, d = tD v ∧ Vw v c
/-- all items are numbers below how many there are -/
theorem all_below {ds : List D} {n : Nat} (h : ds.all (belowB n) = true) : ∃ v : List Nat, ds = v.map nD ∧ ∀ x ∈ v, x < n := by
  induction ds with
  | nil => exact ⟨[], rfl, fun _ h => by cases h⟩
  | cons d ds ih =>
    rw [List.all_cons, Bool.and_eq_true] at h
    obtain ⟨v, rfl, hv⟩ := ih h.2
    cases d with
    | int i =>
      have h1 := h.1
      rw [belowB_int, Bool.and_eq_true, decide_eq_true_eq, decide_eq_true_eq] at h1
      obtain ⟨i, rfl⟩ := Int.eq_ofNat_of_zero_le h1.1
      refine ⟨i :: v, rfl, fun x hx => ?_⟩
      rcases List.mem_cons.mp hx with z | z
      · rw [z]; omega
      · exact hv x z
    | _ => exact absurd h.1 (by simp [belowB])
/-- the greatest -/
theorem max_nD {v : List Nat} (h : v ≠ []) : ∃ m, m ∈ v ∧ (∀ x ∈ v, x ≤ m) ∧ gMax [tD v] = some (nD m) := by
  have : ∃ m, m ∈ v ∧ ∀ x ∈ v, x ≤ m := by
    induction v with
    | nil => exact absurd rfl h
    | cons a v ih =>
      by_cases z : v = []
      · subst z; exact ⟨a, List.mem_cons_self, fun x hx => by rw [List.mem_singleton.mp hx]; exact Nat.le_refl _⟩
      · obtain ⟨m, h1, h2⟩ := ih z
        by_cases hm : m ≤ a
        · refine ⟨a, List.mem_cons_self, fun x hx => ?_⟩
          rcases List.mem_cons.mp hx with y | y
          · rw [y]; exact Nat.le_refl _
          · exact Nat.le_trans (h2 x y) hm
        · refine ⟨m, List.mem_cons_of_mem _ h1, fun x hx => ?_⟩
          rcases List.mem_cons.mp hx with y | y
          · rw [y]; omega
          · exact h2 x y
  obtain ⟨m, h1, h2⟩ := this
  refine ⟨m, h1, h2, ?_⟩
  show ((intsD (v.map nD)).bind fun ns => if ns = [] then none else some (PyData.int (maxI ns))) = _
  rw [intsD_nD]
  show (if v.map Int.ofNat = [] then none else some (PyData.int (maxI (v.map Int.ofNat)))) = _
  rw [if_neg (fun e => h (List.map_eq_nil_iff.mp e)), ← maxI_eq (xs := v.map Int.ofNat) (m := (m : Int)) (List.mem_map.mpr ⟨m, h1, rfl⟩) ?_]
  intro y hy
  obtain ⟨x, hx, e⟩ := List.mem_map.mp hy
  have := h2 x hx
  rw [← e]
  show (x : Int) ≤ _
  omega
theorem ints_nD : ∀ q : List Nat, intsOf (q.map nD) = some (q.map Int.ofNat)
  | [] => rfl
  | x :: q => by show (intsOf (q.map nD)).map (_ :: ·) = _; rw [ints_nD q]; rfl
/-- as many as the greatest says: each of them is there -/
theorem full_of {v : List Nat} {m : Nat} (hm : ∀ x ∈ v, x ≤ m) (h : (dd (v.map Int.ofNat)).length = m + 1) : ∀ y, y ≤ m → y ∈ v := by
  intro y hy
  by_cases hyv : y ∈ v
  · exact hyv
  exfalso
  have h1 : ∀ k ∈ dd (v.map Int.ofNat), k ∈ (((List.range (m + 1)).erase y).map Int.ofNat) := fun k hk => by
    obtain ⟨x, hx, rfl⟩ := List.mem_map.mp (mem_dd.mp hk)
    refine List.mem_map.mpr ⟨x, ?_, rfl⟩
    have h2 := hm x hx
    exact (List.mem_erase_of_ne (fun e => hyv (by rw [← e]; exact hx))).mpr (List.mem_range.mpr (by omega))
  have h2 := sub_len (dd_nodup _) h1
  rw [h, List.length_map, List.length_erase_of_mem (List.mem_range.mpr (by omega)), List.length_range] at h2
  omega
theorem view_no {d : D} (h : ¬ IsV d) : Ok (m_is_view [d]) (fun z os => z = .bool false ∧ os = [none]) := by
  refine ok_def (by rfl) ?_
  unfold mb_is_view
  refine ok_seq (ok_ifS (ok_orB (ok_notB (ok_tru (ok_isD (ok_var (d := d) rfl ⟨_, rfl, ?_⟩))))))
  by_cases ht : ∃ ds, d = .tuple ds
  · obtain ⟨ds, rfl⟩ := ht
    refine L2.iteF ?_
    refine ok_notB (ok_chainT (ok_c (ok_call (ok_cons (ok_var (d := .tuple ds) rfl (ok_nil ⟨_, gLenT_ok, ⟨_, bLe_ok, ?_⟩⟩))))))
    cases h1 : decide ((1 : Int) ≤ (ds.length : Int)) with
    | false =>
      refine L2.iteF ?_
      refine L2.iteT ?_
      walk_at "mx"
      exact defK_rt rfl ⟨rfl, rfl⟩
    | true =>
      refine L2.iteT ?_
      refine ok_c ⟨_, bLe_ok, ?_⟩
      cases h9 : decide ((ds.length : Int) ≤ 9) with
      | false =>
        refine L2.iteT ?_
        walk_at "mx"
        exact defK_rt rfl ⟨rfl, rfl⟩
      | true =>
        rw [decide_eq_true_eq] at h1 h9
        refine L2.iteF ?_
        refine ok_next (then_nx ?_)
        refine ok_at (ρ' := [some (.tuple ds), none]) rfl ?_
        walk_at "mx"
        refine ⟨_, rfl, ?_⟩
        refine comp_any (fun d => .bool (belowB ds.length d)) (fun x hx => ?_) ?_
        · refine ⟨_, rfl, ?_⟩
          walk_at "mx"
          refine (below_any x _).mono ?_
          rintro z os ⟨rfl, rfl⟩
          exact ⟨rfl, rfl⟩
        · walk_at "mx"
          refine ⟨_, all_bools _, ?_⟩
          refine ⟨_, rfl, ?_⟩
          cases ha : ds.all (belowB ds.length) with
          | false =>
            refine L2.iteT ?_
            walk_at "mx"
            exact defK_rt rfl ⟨rfl, rfl⟩
          | true =>
            refine L2.iteF ?_
            refine ok_next (then_nx ?_)
            obtain ⟨v, rfl, hv⟩ := all_below ha
            rw [List.length_map] at h1 h9 hv
            refine ok_at (ρ' := [some (tD v), none]) rfl ?_
            obtain ⟨m, m1, m2, m3⟩ := max_nD (v := v) (by intro e; rw [e] at h1; simp at h1)
            have hset : gLenSet (tD v) = some (nD (dd (v.map Int.ofNat)).length) := by
              show ((intsOf (v.map nD)).bind fun ns => if ns.length ≤ 4000 then some (PyData.int ((dd ns).length : Nat)) else none) = _
              rw [ints_nD]
              show (if (v.map Int.ofNat).length ≤ 4000 then some (PyData.int ((dd (v.map Int.ofNat)).length : Nat)) else none) = _
              rw [if_pos (by rw [List.length_map]; omega)]
            walk_at "mx"
            refine ⟨_, hset, ?_⟩
            walk_at "mx"
            refine ⟨_, m3, ?_⟩
            walk_at "mx"
            refine ⟨.bool false, ?_, defK_rt rfl ⟨rfl, rfl⟩⟩
            show (bEq _ _).map PyData.bool = _
            rw [bEq_int]
            show some (PyData.bool _) = _
            congr 2
            rw [beq_eq_false_iff_ne]
            intro e
            refine h ⟨v, m + 1, rfl, by omega, by omega, ⟨by omega, ?_⟩, fun x hx => by have := m2 x hx; omega, fun y hy => full_of m2 (by omega) y (by omega)⟩
            have := hv m m1
            omega
  · have : isD "tuple" d = false := by
      cases d with
      | tuple ds => exact absurd ⟨ds, rfl⟩ ht
      | _ => rfl
    rw [this]
    refine L2.iteT ?_
    refine L2.iteT ?_
    walk_at "mx"
    exact defK_rt rfl ⟨rfl, rfl⟩
end Pf
namespace Pf
open PySem MW
theorem tuple_or (d : D) : (∃ ds, d = .tuple ds) ∨ isD "tuple" d = false := by
  cases d with
  | tuple ds => exact .inl ⟨ds, rfl⟩
  | _ => exact .inr rfl
def rowB (n c : Nat) : D → Bool
  | .tuple es => decide (es.length = c) && es.all (entryB n)
  | _ => false
def tabB (n c : Nat) : D → Bool
  | .tuple rs => decide (rs.length = n) && rs.all (rowB n c)
  | _ => false
theorem entry_of {n : Nat} {d : D} (h : entryB n d = true) : ∃ e : Option Nat, d = oD e ∧ ∀ i, e = some i → i < n := by
  cases d with
  | none => exact ⟨none, rfl, fun i h => by cases h⟩
  | int i =>
    have h : belowB n (.int i) = true := h
    rw [belowB_int, Bool.and_eq_true, decide_eq_true_eq, decide_eq_true_eq] at h
    obtain ⟨i, rfl⟩ := Int.eq_ofNat_of_zero_le h.1
    exact ⟨some i, rfl, fun j e => by cases e; omega⟩
  | _ => exact absurd h (by simp [entryB, belowB])
theorem row_of {n c : Nat} {d : D} (h : rowB n c d = true) : ∃ r, d = rD r ∧ RowOk n c r := by
  cases d with
  | tuple es =>
    have h : (decide (es.length = c) && es.all (entryB n)) = true := h
    rw [Bool.and_eq_true, decide_eq_true_eq, List.all_eq_true] at h
    have : ∀ es : List D, (∀ d ∈ es, entryB n d = true) → ∃ r : List (Option Nat), es = r.map oD ∧ ∀ e ∈ r, ∀ i, e = some i → i < n := by
      intro es
      induction es with
      | nil => intro _; exact ⟨[], rfl, fun _ h => by cases h⟩
      | cons d es ih =>
        intro k
        obtain ⟨e, rfl, he⟩ := entry_of (k d List.mem_cons_self)
        obtain ⟨r, rfl, hr⟩ := ih fun d hd => k d (List.mem_cons_of_mem _ hd)
        refine ⟨e :: r, rfl, fun x hx => ?_⟩
        rcases List.mem_cons.mp hx with z | z
        · rw [z]; exact he
        · exact hr x z
    obtain ⟨r, rfl, hr⟩ := this es h.2
    exact ⟨r, rfl, by rw [← h.1, List.length_map], hr⟩
  | _ => cases h
theorem tab_of {n c : Nat} {d : D} (h : tabB n c d = true) : ∃ t, d = tabD t ∧ Tab n c t := by
  cases d with
  | tuple rs =>
    have h : (decide (rs.length = n) && rs.all (rowB n c)) = true := h
    rw [Bool.and_eq_true, decide_eq_true_eq, List.all_eq_true] at h
    have : ∀ rs : List D, (∀ d ∈ rs, rowB n c d = true) → ∃ t : Tb, rs = t.map rD ∧ ∀ r ∈ t, RowOk n c r := by
      intro rs
      induction rs with
      | nil => intro _; exact ⟨[], rfl, fun _ h => by cases h⟩
      | cons d rs ih =>
        intro k
        obtain ⟨r, rfl, hr⟩ := row_of (k d List.mem_cons_self)
        obtain ⟨t, rfl, ht⟩ := ih fun d hd => k d (List.mem_cons_of_mem _ hd)
        refine ⟨r :: t, rfl, fun x hx => ?_⟩
        rcases List.mem_cons.mp hx with z | z
        · rw [z]; exact hr
        · exact ht x z
    obtain ⟨t, rfl, ht⟩ := this rs h.2
    exact ⟨t, rfl, by rw [← h.1, List.length_map], ht⟩
  | _ => cases h
section
variable {v : List Nat} {c : Nat}
theorem row_any (hv : Vw v c) (d : D) : Ok (m__is_row [tD v, d]) (fun z os => z = .bool (rowB v.length c d) ∧ os = [none, none]) := by
  refine ok_def (by rfl) ?_
  unfold mb__is_row
  refine ok_seq (ok_ifS (ok_orB (ok_notB (ok_tru (ok_isD (ok_var (d := d) rfl ⟨_, rfl, ?_⟩))))))
  rcases tuple_or d with ⟨ds, rfl⟩ | ht
  · refine L2.iteF ?_
    walk_at "mx"
    refine (count_ok hv).mono ?_
    rintro z os ⟨rfl, rfl⟩
    refine ⟨_, bNe_int _ _, ?_⟩
    by_cases hl : ds.length = c
    · rw [hl, beq_self_eq_true]
      refine L2.iteF ?_
      refine ok_next (then_nx ?_)
      refine ok_at (ρ' := [some (tD v), some (.tuple ds), none]) rfl ?_
      walk_at "mx"
      refine ⟨_, rfl, ?_⟩
      refine comp_any (fun d => .bool (entryB v.length d)) (fun x hx => ?_) ?_
      · refine ⟨_, rfl, ?_⟩
        refine ok_orV (ok_bin (ok_var (d := x) rfl (ok_c ?_)))
        by_cases hn : x = .none
        · subst hn
          exact ⟨_, rfl, _, rfl, L2.iteT ⟨rfl, rfl⟩⟩
        · have e1 : gB bIs x .none = some (.bool false) := by
            cases x <;> first | rfl | exact absurd rfl hn
          refine ⟨_, e1, _, rfl, L2.iteF ?_⟩
          walk_at "mx"
          show Ok (m_is_below [x, .int ((v.map nD).length : Int)]) _
          rw [List.length_map]
          refine (below_any x _).mono ?_
          rintro z os ⟨rfl, rfl⟩
          refine ⟨?_, rfl⟩
          cases x <;> first | rfl | exact absurd rfl hn
      · walk_at "mx"
        refine ⟨_, all_bools _, ?_⟩
        refine defK_rt rfl ⟨?_, rfl⟩
        show _ = PyData.bool (decide (ds.length = c) && ds.all (entryB v.length))
        rw [decide_eq_true hl, Bool.true_and]
    · rw [beq_eq_false_iff_ne.mpr (show (ds.length : Int) ≠ c by omega)]
      refine L2.iteT ?_
      walk_at "mx"
      refine defK_rt rfl ⟨?_, rfl⟩
      show _ = PyData.bool (decide (ds.length = c) && ds.all (entryB v.length))
      rw [decide_eq_false hl, Bool.false_and]
  · rw [ht]
    refine L2.iteT ?_
    refine L2.iteT ?_
    walk_at "mx"
    refine defK_rt rfl ⟨?_, rfl⟩
    cases d <;> first | rfl | cases ht
theorem table_any (hv : Vw v c) (d : D) : Ok (m_is_table [tD v, d]) (fun z os => z = .bool (tabB v.length c d) ∧ os = [none, none]) := by
  refine ok_def (by rfl) ?_
  unfold mb_is_table
  walk_at "mx"
  refine (need_view hv).mono ?_
  rintro z os rfl
  refine then_nx ?_
  refine ok_at (ρ' := [some (tD v), some d, none]) rfl ?_
  refine ok_seq (ok_ifS (ok_orB (ok_notB (ok_tru (ok_isD (ok_var (d := d) rfl ⟨_, rfl, ?_⟩))))))
  rcases tuple_or d with ⟨ds, rfl⟩ | ht
  · refine L2.iteF ?_
    walk_at "mx"
    refine ⟨_, bNe_int _ _, ?_⟩
    rw [List.length_map]
    by_cases hl : ds.length = v.length
    · rw [hl, beq_self_eq_true]
      refine L2.iteF ?_
      refine ok_next (then_nx ?_)
      refine ok_at (ρ' := [some (tD v), some (.tuple ds), none]) rfl ?_
      walk_at "mx"
      refine ⟨_, rfl, ?_⟩
      refine comp_any (fun d => .bool (rowB v.length c d)) (fun x hx => ?_) ?_
      · refine ⟨_, rfl, ?_⟩
        walk_at "mx"
        refine (row_any hv x).mono ?_
        rintro z os ⟨rfl, rfl⟩
        exact ⟨rfl, rfl⟩
      · walk_at "mx"
        refine ⟨_, all_bools _, ?_⟩
        refine defK_rt rfl ⟨?_, rfl⟩
        show _ = PyData.bool (decide (ds.length = v.length) && ds.all (rowB v.length c))
        rw [decide_eq_true hl, Bool.true_and]
    · rw [beq_eq_false_iff_ne.mpr (show (ds.length : Int) ≠ v.length by omega)]
      refine L2.iteT ?_
      walk_at "mx"
      refine defK_rt rfl ⟨?_, rfl⟩
      show _ = PyData.bool (decide (ds.length = v.length) && ds.all (rowB v.length c))
      rw [decide_eq_false hl, Bool.false_and]
  · rw [ht]
    refine L2.iteT ?_
    refine L2.iteT ?_
    walk_at "mx"
    refine defK_rt rfl ⟨?_, rfl⟩
    cases d <;> first | rfl | cases ht
end
end Pf
namespace Pf
open PySem MW
theorem view_any (d : D) : Ok (m_is_view [d]) (fun z os => (∃ b, z = .bool b ∧ (b = true ↔ IsV d)) ∧ os = [none]) := by
  by_cases h : IsV d
  · obtain ⟨v, c, rfl, hv⟩ := h
    exact (view_is hv).mono fun z os ⟨e1, e2⟩ => ⟨⟨true, e1, ⟨fun _ => ⟨v, c, rfl, hv⟩, fun _ => rfl⟩⟩, e2⟩
  · exact (view_no h).mono fun z os ⟨e1, e2⟩ => ⟨⟨false, e1, ⟨fun z => (by cases z), fun z => absurd z h⟩⟩, e2⟩
end Pf
namespace Pf
open PySem MW
theorem textFrom_le : ∀ (ts : List Str) (k : Nat) (acc : Str), (textFrom k acc ts).length ≤ acc.length + piled ts
  | [], k, acc => Nat.le_add_right _ _
  | t :: r, k, acc => by
    have ih := textFrom_le r (k + 1) (acc ++ (if k > 0 then ", " else "" : String) ++ t)
    have e : (acc ++ (if k > 0 then ", " else "" : String) ++ t).length = acc.length + (if k > 0 then 2 else 0) + t.length := by
      rw [strLen_append, strLen_append]
      split <;> rfl
    rw [e] at ih
    rw [piled_cons]
    show (textFrom (k + 1) _ r).length ≤ _
    have : (if k > 0 then 2 else 0 : Nat) ≤ 2 := by split <;> omega
    omega
theorem rb_list {ds : List D} {L k n : Nat} (h : ∀ d ∈ ds, Rb L k d) (hn : ds.length ≤ n) : Rb (n * (L + 2) + 3) (k + 1) (.list ds) := by
  obtain ⟨a, b, c⟩ := all_of h
  refine ⟨by simpa [PyData.showable] using a, by simpa [PyData.hasDict] using b, by simp only [PyData.depth]; omega, ?_⟩
  simp only [PyData.shown]
  have h2 := shown_all fun d hd => (h d hd).2.2.2
  have h3 : ds.length * (L + 2) ≤ n * (L + 2) := Nat.mul_le_mul_right _ hn
  have h4 := textFrom_le (PyData.shownAll ds) 0 "["
  unfold listText
  rw [strLen_append]
  have h5 : ((("[" : String) : Str)).length = 1 := by decide +kernel
  have h6 : ((("]" : String) : Str)).length = 1 := by decide +kernel
  omega
theorem cut_len' (ds : List D) (lo hi : Option Int) : (cutD ds lo hi).length ≤ ds.length := by
  unfold cutD
  rw [List.length_take, List.length_drop]
  omega
theorem gAddL_ok {xs ys : List D} (h : xs.length + ys.length ≤ 16777216) : gAdd (.list xs) (.list ys) = some (.list (xs ++ ys)) := if_pos h
structure Mix (L k n : Nat) (xs : List D) : Prop where
  len : xs.length ≤ n
  all : ∀ d ∈ xs, Rb L k d
theorem Mix.app {L k n m : Nat} {xs ys : List D} (h : Mix L k n xs) (g : Mix L k m ys) : Mix L k (n + m) (xs ++ ys) :=
  ⟨by rw [List.length_append]; have := h.len; have := g.len; omega, fun d hd => (List.mem_append.mp hd).elim (h.all d) (g.all d)⟩
theorem cut_mem {ds : List D} {lo hi : Option Int} {d : D} (h : d ∈ cutD ds lo hi) : d ∈ ds := List.mem_of_mem_drop (List.mem_of_mem_take h)
theorem Mix.cut {L k n : Nat} {xs : List D} (h : Mix L k n xs) (lo hi : Option Int) : Mix L k n (cutD xs lo hi) :=
  ⟨Nat.le_trans (cut_len' xs lo hi) h.len, fun d hd => h.all d (cut_mem hd)⟩
theorem Mix.tup {L k n : Nat} {xs : List D} (h : Mix L k n xs) : Rb (n * (L + 2) + 3) (k + 1) (.tuple xs) := rb_tuple h.all h.len
theorem Mix.lst {L k n : Nat} {xs : List D} (h : Mix L k n xs) : Rb (n * (L + 2) + 3) (k + 1) (.list xs) := rb_list h.all h.len
theorem Mix.up {L k n L' k' n' : Nat} {xs : List D} (h : Mix L k n xs) (h1 : L ≤ L') (h2 : k ≤ k') (h3 : n ≤ n') : Mix L' k' n' xs := ⟨Nat.le_trans h.len h3, fun d hd => (h.all d hd).up h1 h2⟩
end Pf
namespace Pf
open PySem MW
abbrev Fd := List (Nat × List Nat)
/-- a way from state to state -/
inductive Way (near : List (List Nat)) (s : Nat) : List Nat → Nat → Prop
  | one : Way near s [s] s
  | more {tr : List Nat} {a b : Nat} : Way near s tr a → b ∈ near.getD a [] → Way near s (tr ++ [b]) b
theorem Way.ne {near : List (List Nat)} {s o : Nat} {tr : List Nat} : Way near s tr o → tr ≠ []
  | .one => by simp
  | .more _ _ => by simp
theorem Way.last {near : List (List Nat)} {s o : Nat} {tr : List Nat} : Way near s tr o → tr.getLast? = some o
  | .one => rfl
  | .more _ _ => by simp
/-- reached by ways -/
def Conn (near : List (List Nat)) (s o : Nat) : Prop := ∃ tr, Way near s tr o
structure BInv (near : List (List Nat)) (s : Nat) (f : Fd) : Prop where
  nd : (f.map (·.1)).Nodup
  lt : ∀ p ∈ f, p.1 < near.length
  st : (s, [s]) ∈ f
  wy : ∀ p ∈ f, Way near s p.2 p.1 ∧ p.2.length ≤ f.length
theorem BInv.len {near : List (List Nat)} {s : Nat} {f : Fd} (h : BInv near s f) : f.length ≤ near.length := by
  have := nodup_len (a := f.map (·.1)) (b := List.range near.length) h.nd fun x hx => by
    obtain ⟨p, hp, rfl⟩ := List.mem_map.mp hx
    exact List.mem_range.mpr (h.lt p hp)
  simpa using this
/-- what the search ends with: all states that ways lead to, each once, with a way -/
structure BEnd (near : List (List Nat)) (s : Nat) (f : Fd) : Prop extends BInv near s f where
  all : ∀ o, Conn near s o ↔ o ∈ f.map (·.1)
end Pf
namespace Pf
open PySem MW
/-- what a table links -/
def LT (t : Tb) (s o : Nat) : Prop := ∃ w, cell t s w = some o
end Pf
namespace Pf
open PySem MW
open Classical in
/-- all states that ways lead to, ascending -/
noncomputable def cmp (near : List (List Nat)) (s : Nat) : List Nat := (List.range near.length).filter fun o => decide (Conn near s o)
theorem intsD_nD (q : List Nat) : intsD (q.map nD) = some (q.map Int.ofNat) := by
  induction q with
  | nil => rfl
  | cons a q ih =>
    unfold intsD at ih ⊢
    rw [List.map_cons, List.mapM_cons, ih]
    rfl
/-- a way whose ends are different and show the same -/
def Tw (near : List (List Nat)) (v : List Nat) (tr : List Nat) : Prop := ∃ s o, Way near s tr o ∧ s < v.length ∧ o < v.length ∧ s ≠ o ∧ v.getD s 0 = v.getD o 0
end Pf
namespace Pf
open PySem MW
section
variable {mi mi1 : Ev → Out (List D)} {g g1 : Ev → D → Option Ev} {me mk mv : Ev → Out D} {vs vs1 : List Nat} {ρ : Ev} {P : D → Ev → Prop}
theorem ok_slL {ma : Ev → Out D} {ml mh : Ev → Out (Option Int)} (h : Ok (ma ρ) fun d ρ1 => Ok (ml ρ1) fun lo ρ2 => Ok (mh ρ2) fun hi ρ3 => ∃ ds, d = .list ds ∧ P (.list (cutD ds lo hi)) ρ3) : Ok (mSl ma ml mh ρ) P := ok_bind (h.mono fun d ρ1 k => ok_bind (k.mono fun lo ρ2 k => ok_bind (k.mono fun hi ρ3 ⟨ds, e, k3⟩ => by rw [e]; exact k3)))
end
end Pf
namespace Pf
open PySem MW
def once (R : List (List Nat)) : List (List Nat) := ((List.range R.length).filter fun k => !(R.take k).contains (R.getD k [])).map fun k => R.getD k []
end Pf
namespace Pf
open PySem MW
/-- the first place of x -/
def plc (l : List (List Nat)) (x : List Nat) : Nat := l.findIdx fun y => y == x
/-- what several views show at a state -/
def tup (vs : List (List Nat)) (s : Nat) : List Nat := vs.map fun v => v.getD s 0
/-- the joined view -/
def jvOf (n : Nat) (vs : List (List Nat)) : List Nat := (List.range n).map fun s => plc (sortT (once ((List.range n).map (tup vs)))) (tup vs s)
end Pf
namespace Pf
open PySem MW
section
variable {v : List Nat} {c : Nat}
theorem tr {d : D} {ρ : Ev} : ρ = ρ ∧ True := ⟨rfl, trivial⟩
end
end Pf
namespace Pf
open PySem MW
theorem bEq_row (a b : List (Option Nat)) : PyData.eqvAll (a.map oD) (b.map oD) = (a == b) := by
  induction a generalizing b with
  | nil => cases b <;> rfl
  | cons x a ih =>
    cases b with
    | nil => rfl
    | cons y b =>
      show (PyData.eqv (oD x) (oD y) && PyData.eqvAll (a.map oD) (b.map oD)) = _
      rw [ih b]
      have : PyData.eqv (oD x) (oD y) = (x == y) := by
        cases x with
        | none => cases y <;> rfl
        | some i =>
          cases y with
          | none => rfl
          | some j =>
            show ((i : Int) == (j : Int)) = (some i == some j)
            by_cases e : i = j
            · subst e; simp
            · rw [beq_eq_false_iff_ne.mpr (show (i : Int) ≠ j by omega), beq_eq_false_iff_ne.mpr fun z => e (Option.some.inj z)]
      rw [this]
      rfl
theorem eqv_tab (a b : Tb) : PyData.eqvAll (a.map rD) (b.map rD) = (a == b) := by
  induction a generalizing b with
  | nil => cases b <;> rfl
  | cons x a ih =>
    cases b with
    | nil => rfl
    | cons y b =>
      show (PyData.eqvAll (x.map oD) (y.map oD) && PyData.eqvAll (a.map rD) (b.map rD)) = _
      rw [ih b, bEq_row x y]
      rfl
theorem shaped_tab (t : Tb) : SeqAt.shaped (tabD t) = true := by
  have c0 : ∀ r : List (Option Nat), PyData.canLayAll0 (r.map oD) = true ∧ PyData.depthAll (r.map oD) = 0 := by
    intro r
    induction r with
    | nil => exact ⟨rfl, rfl⟩
    | cons x r ih =>
      rw [List.map_cons]
      cases x <;> simp [PyData.canLayAll0, PyData.canLay0, PyData.depthAll, PyData.depth, oD, ih.1, ih.2]
  have c1 : ∀ l : Tb, PyData.canLayAll0 (l.map rD) = true ∧ PyData.depthAll (l.map rD) ≤ 1 := by
    intro l
    induction l with
    | nil => exact ⟨rfl, Nat.zero_le _⟩
    | cons q l ih =>
      rw [List.map_cons]
      refine ⟨by simp [PyData.canLayAll0, PyData.canLay0, (c0 q).1, ih.1], ?_⟩
      simp only [PyData.depthAll, PyData.depth, (c0 q).2]
      omega
  have := (c1 t).2
  simp [SeqAt.shaped, PyData.canLay0, PyData.depth, (c1 t).1]
  omega
theorem bEq_tab (a b : Tb) : bEq (tabD a) (tabD b) = some (a == b) := by
  unfold bEq
  rw [if_pos ⟨shaped_tab a, shaped_tab b⟩]
  exact congrArg some (eqv_tab a b)
end Pf
namespace Pf
open PySem MW
/-- the parts of linked states -/
noncomputable def qsOf (n : Nat) (near : List (List Nat)) : List (List Nat) := sortT (once ((List.range n).map (cmp near)))
/-- what parts or clash tell -/
def Po (n : Nat) (near : List (List Nat)) (vs : List (List Nat)) (d : D) : Prop := ((∃ tr, Tw near (jvOf n vs) tr) ∧ d = .str "clash") ∨ ((∀ tr, ¬ Tw near (jvOf n vs) tr) ∧ d = .str (PyData.tuple ((qsOf n near).map tD)).shown)
theorem Po.str {n : Nat} {near vs : List (List Nat)} {d : D} (h : Po n near vs d) : ∃ x, d = .str x := by
  rcases h with ⟨_, e⟩ | ⟨_, e⟩ <;> exact ⟨_, e⟩
end Pf
namespace Pf
open PySem MW
def sm {α : Type} (l : List α) (f : α → Nat) : Nat := (l.map f).sum
section
variable {v : List Nat} {c : Nat}
/-- how many states of q show a -/
def hq (v q : List Nat) (a : Nat) : Nat := (q.map fun s => v.getD s 0).count a
end
end Pf
namespace Pf
open PySem MW
/-- a partition with one more state -/
def freeB (v : List Nat) (n : Nat) (js : List (List Nat)) (p : Nat) : Bool := !((js.getD p []).map fun s => v.getD s 0).contains (v.getD n 0)
def putN (n : Nat) (js : List (List Nat)) (p : Nat) : List (List Nat) := js.set p (js.getD p [] ++ [n])
def ext (v : List Nat) (n : Nat) (js : List (List Nat)) : List (List (List Nat)) := (js ++ [[n]]) :: ((List.range js.length).filter (freeB v n js)).map (putN n js)
end Pf
namespace Pf
open PySem MW
theorem viewLH_ok {N : Int} {d : D} {lw up : Nat} (h : Pen N d) (hN : N ≤ 100000) (l1 : 1 ≤ lw) (l2 : lw ≤ up) (l3 : up ≤ 9) :
    Ok (m__law_view [d, nD lw, nD up]) (fun z os => ∃ (v : List Nat) (c : Nat) (p : D), z = tD v ∧ Vw v c ∧ v.length ≤ up ∧ os = [some p, none, none] ∧ Pen (N + 20) p) := by
  refine ok_def (ρ0 := [some d, some (nD lw), some (nD up), none, none, none, none]) (by rfl) ?_
  unfold mb__law_view
  refine ok_seq (ok_set (ok_lst (ok_lc (ok_range1 (ok_cons (ok_bin (ok_var (d := nD lw) rfl (ok_callD (ok_lend (d := d) rfl (ok_cons (ok_bin (ok_bin (ok_var (d := nD up) rfl (ok_var (d := nD lw) rfl ⟨_, gSub_ok, ok_c ⟨_, gAdd_ok, ok_nil ⟨_, rfl, ?_⟩⟩⟩))))))))))))))
  refine (draw_ok h (by omega) (by omega) (by omega)).mono ?_
  rintro z os ⟨x, p, rfl, x0, x1, rfl, hp⟩
  obtain ⟨x, rfl⟩ := Int.eq_ofNat_of_zero_le x0
  refine ⟨_, gAdd_ok, ok_nil ⟨_, rfl, by omega, ?_⟩⟩
  obtain ⟨many, em, h1, h9, hhi⟩ : ∃ many : Nat, ((lw : Nat) : Int) + (x : Int) = (many : Int) ∧ 1 ≤ many ∧ many ≤ 9 ∧ many ≤ up := ⟨lw + x, by omega, by omega, by omega, by omega⟩
  rw [em, Int.toNat_natCast, rangeD_nD]
  refine ok_at (ρ' := [some p, some (nD lw), some (nD up), none, none, none, none]) rfl ?_
  refine comp_list (fun k ys ρ => ∃ (p : D) (raw : List Nat), ρ = [some p, some (nD lw), some (nD up), none, none, none, none] ∧ Pen (N + 1 + k) p ∧ ys = raw.map nD ∧ raw.length = k) ⟨p, [], rfl, pen_le hp (by omega), rfl, rfl⟩ ?_ ?_
  · rintro i hi ys ρ ⟨p, raw, rfl, hp, rfl, hl⟩
    obtain ⟨e, hi⟩ := range_get hi
    refine ⟨_, rfl, ?_⟩
    walk_at "mx"
    refine (draw_ok hp (by omega) (by omega) (by omega)).mono ?_
    rintro z os ⟨x, p, rfl, h4, h5, rfl, hp⟩
    obtain ⟨x, rfl⟩ := Int.eq_ofNat_of_zero_le h4
    exact ⟨p, raw ++ [x], rfl, pen_le hp (by omega), by simp, by simp [hl]⟩
  · rintro ys ρ ⟨p, raw, rfl, hp, rfl, hl⟩
    rw [List.length_range] at hl hp
    refine ok_at (ρ' := [some p, some (nD lw), some (nD up), some (.list (raw.map nD)), none, none, none]) rfl ?_
    walk_at "mx"
    refine ⟨_, rfl, ?_⟩
    refine for_list (fun k ρ => ∃ (names : List Nat) (x5 : Option D), ρ = [some p, some (nD lw), some (nD up), some (.list (raw.map nD)), some (.list (names.map nD)), x5, none] ∧ names.Nodup ∧ (∀ x, x ∈ names ↔ x ∈ raw.take k) ∧ names.length ≤ k) ⟨[], none, rfl, List.nodup_nil, by simp, Nat.le_refl _⟩ ?_ ?_
    · rintro i hi ρ ⟨names, x5, rfl, hn, hm, hk⟩
      refine ⟨_, rfl, ?_⟩
      refine ok_at (ρ' := [some p, some (nD lw), some (nD up), some (.list (raw.map nD)), some (.list (names.map nD)), some (nD raw[i]), none]) rfl ?_
      refine ok_ifS (ok_testOwn ?_)
      walk_at "mx"
      refine ⟨_, bNotIn_nD _ _, ?_⟩
      have ht := fold_app raw i hi
      cases hc : !names.contains raw[i] with
      | false =>
        refine L2.iteF ?_
        refine ok_next ?_
        refine ⟨names, _, rfl, hn, fun x => ?_, by omega⟩
        rw [ht, List.mem_append, List.mem_singleton, hm x]
        refine ⟨.inl, fun z => z.elim id fun z => ?_⟩
        rw [z]
        exact (hm _).mp (List.contains_iff_mem.mp (by simpa using hc))
      | true =>
        refine L2.iteT ?_
        walk_at "mx"
        refine ⟨_, _, _, rfl, fApp_ok (by rw [List.length_map]; omega), ?_⟩
        refine ⟨names ++ [raw[i]], _, by rw [List.map_append]; rfl, ?_, fun x => ?_, by simp; omega⟩
        · refine List.nodup_append.mpr ⟨hn, by simp, fun a ha b hb e => ?_⟩
          rw [List.mem_singleton.mp hb] at e
          rw [e] at ha
          rw [List.contains_iff_mem.mpr ha] at hc
          cases hc
        · rw [ht, List.mem_append, List.mem_append, hm x]
    · rintro ρ ⟨names, x5, rfl, hn, hm, hk⟩
      rw [List.take_length] at hm
      rw [hl] at hk
      have fin : ∀ (p : D) (names : List Nat), Pen (N + many + 2) p → names.Nodup → (∀ x, x ∈ names ↔ x ∈ raw) → names.length ≤ many → Ok (mRet (mCall gTupleOf (mCons (mLst (mLc (mSeqD (mVar 3)) (gN 5) mYes (mIndexO 4 (mCons (mVar 5) mNil)) [5])) mNil)) [some p, some (nD lw), some (nD up), some (.list (raw.map nD)), some (.list (names.map nD)), x5, none])
          (DefK S__law_view fun z os => ∃ (v : List Nat) (c : Nat) (p : D), z = tD v ∧ Vw v c ∧ v.length ≤ up ∧ os = [some p, none, none] ∧ Pen (N + 20) p) := by
        intro p names hp hn hm hk
        walk_at "mx"
        refine ⟨_, rfl, ?_⟩
        refine ok_at (ρ' := [some p, some (nD lw), some (nD up), some (.list (raw.map nD)), some (.list (names.map nD)), none, none]) rfl ?_
        refine (comp_map (fun x => nD (names.idxOf x)) (l := raw) ?_).mono ?_
        · intro x hx
          refine ⟨_, rfl, ?_⟩
          refine ok_indexO rfl ?_
          walk_at "mx"
          exact ⟨_, _, rfl, gIndex_nD ((hm x).mpr hx), rfl, rfl⟩
        · rintro ys ρ ⟨rfl, rfl⟩
          walk_at "mx"
          refine defK_rt rfl ⟨raw.map fun x => names.idxOf x, names.length, p, by simp [tD], names_view hn hm (by omega) (by omega) (by omega), by rw [List.length_map]; omega, rfl, pen_le hp (by omega)⟩
      refine then_nx ?_
      walk_at "mx"
      refine (draw_ok hp (by omega) (by omega) (by omega)).mono ?_
      rintro z os ⟨x, p, rfl, h4, h5, rfl, hp⟩
      walk_at "mx"
      refine ⟨_, bEq_int _ _, ?_⟩
      cases (x == 0) with
      | true =>
        refine L2.iteT ?_
        walk_at "mx"
        refine ok_callOL rfl rfl ?_
        refine then_nx ?_
        rw [← List.map_reverse]
        exact fin p names.reverse (pen_le hp (by omega)) ((List.reverse_perm names).nodup_iff.mpr hn) (fun x => by rw [List.mem_reverse]; exact hm x) (by rw [List.length_reverse]; exact hk)
      | false =>
        refine L2.iteF ?_
        refine ok_next ?_
        refine then_nx ?_
        exact fin p names (pen_le hp (by omega)) hn hm hk
end Pf
namespace Pf
open PySem MW L2 TL
section
variable {ρ : Ev} {P : D → Ev → Prop} {PL : List D → Ev → Prop} {mo me m : Ev → Out D} {ml mh : Ev → Out (Option Int)}
theorem ok_strM {g : Str → D → Option D} (h : Ok (mo ρ) fun d ρ1 => ∃ a, d = .str a ∧ Ok (me ρ1) fun e ρ2 => ∃ z, g a e = some z ∧ P z ρ2) : Ok (mStrM g mo me ρ) P :=
  ok_bind (h.mono fun d ρ1 ⟨a, e, k⟩ => by subst e; exact ok_bind (k.mono fun e ρ2 ⟨z, e1, k2⟩ => ok_of e1 k2))
theorem ok_strML {g : Str → D → Option (List D)} (h : Ok (mo ρ) fun d ρ1 => ∃ a, d = .str a ∧ Ok (me ρ1) fun e ρ2 => ∃ z, g a e = some z ∧ PL z ρ2) : Ok (mStrML g mo me ρ) PL :=
  ok_bind (h.mono fun d ρ1 ⟨a, e, k⟩ => by subst e; exact ok_bind (k.mono fun e ρ2 ⟨z, e1, k2⟩ => ok_of e1 k2))
theorem ok_star {i j : Nat} {PF : Fl → Ev → Prop} (h : Ok (m ρ) fun d ρ1 => ∃ x r, d = .list (x :: r) ∧ PF .nx ((ρ1.set i (some x)).set j (some (.list r)))) : Ok (mStar i j m ρ) PF :=
  ok_bind (h.mono fun d ρ1 ⟨x, r, e, k⟩ => by subst e; exact k)
theorem ok_jN {acc : Str} (h : P (.str acc) ρ) : Ok (mJ [] acc ρ) P := h
theorem ok_jC {acc : Str} {ms : List (Ev → Out D)} (h : Ok (m ρ) fun d ρ1 => ∃ y, d = .str y ∧ (acc ++ y).length ≤ 16777216 ∧ Ok (mJ ms (acc ++ y) ρ1) P) : Ok (mJ (m :: ms) acc ρ) P :=
  ok_bind (h.mono fun d ρ1 ⟨y, e, l, k⟩ => by
    subst e
    show Ok (if (acc ++ y).length ≤ 16777216 then mJ ms (acc ++ y) ρ1 else .bad) P
    rw [if_pos l]; exact k)
end
def dg (i : Nat) : Str := Str.ofString (toString ((i : Nat) : Int))
def wS : Option Nat → Str
  | none => "-"
  | some i => dg i
def Sm10 (r : List (Option Nat)) : Prop := ∀ e ∈ r, ∀ i, e = some i → i < 10
theorem dg_small : ∀ i, i < 10 → tl (dg i) = [48 + i] ∧ intText? (dg i) = some (i : Int) ∧ (!(Builtin.Str.occurrences (Str.ofString "0123456789") (dg i) 0 (Str.ofString "0123456789").length 1).isEmpty) = true := by decide +kernel
theorem wS_tl {e : Option Nat} (h : ∀ i, e = some i → i < 10) : ∃ a, tl (wS e) = [a] ∧ (a = 45 ∨ 48 ≤ a ∧ a < 58) := by
  cases e with
  | none => exact ⟨45, by decide +kernel, .inl rfl⟩
  | some i => exact ⟨48 + i, (dg_small i (h i rfl)).1, .inr ⟨by omega, by have := h i rfl; omega⟩⟩
theorem wS_len {e : Option Nat} (h : ∀ i, e = some i → i < 10) : (wS e).length = 1 := by
  obtain ⟨a, ea, _⟩ := wS_tl h
  rw [len_tl, ea]; rfl
theorem gStrI_ok {i : Nat} (h : i < 10) : gStrI [nD i] = some (.str (dg i)) := by
  have hl : (i : Int).natAbs.log2 < 1920 := by
    rw [Int.natAbs_natCast]
    have := Nat.log2_le_self i
    omega
  show (if (i : Int).natAbs.log2 < 1920 then some (PyData.str (dg i)) else none) = _
  rw [if_pos hl]
theorem strsD_map {α : Type} (f : α → Str) : ∀ l : List α, strsD (l.map fun x => .str (f x)) = some (l.map f)
  | [] => rfl
  | x :: l => by
    show (strsD (l.map fun x => .str (f x))).map (f x :: ·) = _
    rw [strsD_map f l]; rfl
theorem gJoin_ok {α : Type} {a : Str} (f : α → Str) {l : List α} (h : ((l.map f).map (·.length)).sum + (l.map f).length * a.length ≤ 16777216) : gJoin a (.list (l.map fun x => .str (f x))) = some (.str (Txt.join a (l.map f))) := by
  unfold gJoin
  simp only [strsD_map]
  rw [if_pos h]
theorem sum_le {α : Type} (f : α → Nat) {b : Nat} : ∀ {l : List α}, (∀ x ∈ l, f x ≤ b) → (l.map f).sum ≤ l.length * b
  | [], _ => by simp
  | x :: l, h => by
    rw [List.map_cons, List.sum_cons, List.length_cons, Nat.add_mul, Nat.one_mul]
    have := sum_le f (l := l) fun y hy => h y (List.mem_cons_of_mem _ hy)
    have := h x List.mem_cons_self
    omega
theorem joinL_len (S : List Nat) : ∀ ps : List (List Nat), (joinL S ps).length ≤ (ps.map (·.length)).sum + ps.length * S.length
  | [] => by simp [joinL]
  | [p] => by simp [joinL]
  | p :: q :: r => by
    have := joinL_len S (q :: r)
    show (p ++ (S ++ joinL S (q :: r))).length ≤ _
    rw [List.length_append, List.length_append, List.map_cons, List.sum_cons, List.length_cons (a := p), Nat.add_mul, Nat.one_mul]
    omega
def wds (r : List (Option Nat)) : Str := Txt.join " " (r.map wS)
theorem wds_tl (r : List (Option Nat)) : tl (wds r) = joinL [32] (r.map fun e => tl (wS e)) := by
  unfold wds
  rw [join_eq, tl_join, List.map_map]
  rfl
theorem wds_len {r : List (Option Nat)} (h : Sm10 r) : (wds r).length ≤ 2 * r.length := by
  rw [len_tl, wds_tl]
  have h1 := joinL_len [32] (r.map fun e => tl (wS e))
  rw [List.map_map, List.length_map] at h1
  have h2 := sum_le (fun e => (tl (wS e)).length) (b := 1) (l := r) fun e he => by
    have := wS_len (h e he); rw [len_tl] at this; omega
  have h3 : (List.map ((fun x => x.length) ∘ fun e => tl (wS e)) r).sum = (r.map fun e => (tl (wS e)).length).sum := rfl
  rw [h3] at h1
  simp only [List.length_cons, List.length_nil] at h1
  omega
theorem words_ok {r : List (Option Nat)} (h : Sm10 r) (hl : r.length ≤ 9) : Ok (m_words [rD r]) (fun z os => z = .str (wds r) ∧ os = [none]) := by
  refine ok_def (ρ0 := [some (rD r), none]) (by rfl) ?_
  unfold mb_words
  refine ok_ret (ok_strM (ok_c ⟨_, rfl, ok_lst (ok_lc (ok_seqD (ok_var (d := rD r) rfl ⟨_, rfl, ?_⟩)))⟩))
  refine (comp_map (enc := oD) (fun e => .str (wS e)) (l := r) fun e he => ?_).mono ?_
  · refine ⟨_, rfl, ok_if (ok_test (ok_var (d := oD e) rfl (ok_c ?_)))⟩
    cases e with
    | none => exact ⟨true, rfl, L2.iteT (ok_c ⟨rfl, rfl⟩)⟩
    | some i => exact ⟨false, rfl, L2.iteF (ok_call (ok_cons (ok_var (d := nD i) rfl (ok_nil ⟨_, gStrI_ok (h _ he i rfl), rfl, rfl⟩))))⟩
  · rintro ys ρ ⟨rfl, rfl⟩
    refine ⟨.str (wds r), ?_, defK_rt rfl ⟨rfl, rfl⟩⟩
    refine gJoin_ok wS ?_
    rw [List.map_map, List.length_map]
    have h2 := sum_le (fun e => (wS e).length) (b := 1) (l := r) fun e he => Nat.le_of_eq (wS_len (h e he))
    have h3 : (List.map ((fun x => x.length) ∘ wS) r).sum = (r.map fun e => (wS e).length).sum := rfl
    rw [h3]
    have h4 : (Str.ofString " ").length = 1 := by decide +kernel
    rw [h4]
    omega
theorem tD_rD (v : List Nat) : tD v = rD (v.map some) := by
  show PyData.tuple (v.map nD) = .tuple ((v.map some).map oD)
  rw [List.map_map]; rfl
theorem wordsV_ok {v : List Nat} (h : ∀ x ∈ v, x < 10) (hl : v.length ≤ 9) : Ok (m_words [tD v]) (fun z os => z = .str (wds (v.map some)) ∧ os = [none]) := by
  rw [tD_rD]
  refine words_ok (fun e he i hi => ?_) (by rw [List.length_map]; exact hl)
  subst hi
  obtain ⟨x, hx, e⟩ := List.mem_map.mp he
  have e := Option.some.inj e
  subst e
  exact h x hx
end Pf
namespace Pf
open PySem MW L2 TL
theorem app_len (x y : Str) : (x ++ y).length = x.length + y.length := by rw [len_tl, tl_append, List.length_append, ← len_tl, ← len_tl]
theorem joinL_nil : ∀ ps : List (List Nat), joinL [] ps = ps.flatten
  | [] => rfl
  | [p] => by simp [joinL]
  | p :: q :: r => by
    show p ++ ([] ++ joinL [] (q :: r)) = _
    rw [joinL_nil (q :: r)]
    simp
theorem joinL_mem {S : List Nat} {x : Nat} : ∀ {ps : List (List Nat)}, x ∈ joinL S ps → x ∈ S ∨ ∃ p ∈ ps, x ∈ p
  | [], h => by simp [joinL] at h
  | [p], h => .inr ⟨p, List.mem_singleton.mpr rfl, h⟩
  | p :: q :: r, h => by
    have h : x ∈ p ++ (S ++ joinL S (q :: r)) := h
    rcases List.mem_append.mp h with z | z
    · exact .inr ⟨p, List.mem_cons_self, z⟩
    · rcases List.mem_append.mp z with z | z
      · exact .inl z
      · rcases joinL_mem z with z | ⟨p', h1, h2⟩
        · exact .inl z
        · exact .inr ⟨p', List.mem_cons_of_mem _ h1, h2⟩
def line0 (v : List Nat) : Str := Str.empty ++ "view " ++ wds (v.map some)
def lineR (i : Nat) (r : List (Option Nat)) : Str := Str.empty ++ dg i ++ ": " ++ wds r
def rowsFrom : Nat → List (List (Option Nat)) → List Str
  | _, [] => []
  | i, r :: t => lineR i r :: rowsFrom (i + 1) t
theorem rowsFrom_len : ∀ (i : Nat) (t : List (List (Option Nat))), (rowsFrom i t).length = t.length
  | _, [] => rfl
  | i, _ :: t => by rw [rowsFrom, List.length_cons, List.length_cons, rowsFrom_len]
theorem rowsFrom_at : ∀ (i : Nat) (t : List (List (Option Nat))) (k : Nat) (h : k < t.length), (rowsFrom i t)[k]? = some (lineR (i + k) t[k])
  | _, [], k, h => by simp at h
  | i, r :: t, 0, h => rfl
  | i, r :: t, k + 1, h => by
    have := rowsFrom_at (i + 1) t k (by simpa using h)
    rw [rowsFrom, List.getElem?_cons_succ, this, show i + 1 + k = i + (k + 1) by omega]
    rfl
def linesOf (v : List Nat) (t : List (List (Option Nat))) : List Str := line0 v :: rowsFrom 0 t
def TT (v : List Nat) (t : List (List (Option Nat))) : Str := Txt.join "" ((linesOf v t).map fun l => l ++ "\n")
theorem TT_tl (v : List Nat) (t : List (List (Option Nat))) : tl (TT v t) = ((linesOf v t).map fun l => tl l ++ [10]).flatten := by
  have e : tl (Str.ofString "") = [] := by decide +kernel
  have e2 : tl (Str.ofString "\n") = [10] := by decide +kernel
  unfold TT
  rw [join_eq, tl_join, e, joinL_nil, List.map_map]
  congr 1
  refine List.map_congr_left fun l _ => ?_
  show tl (l ++ "\n") = _
  rw [tl_append, e2]
section
variable {v : List Nat} {c : Nat} {t : List (List (Option Nat))}
theorem tab_row10 (hv : Vw v c) (ht : Tab v.length c t) {r : List (Option Nat)} (hr : r ∈ t) : Sm10 r ∧ r.length ≤ 9 ∧ 1 ≤ r.length := by
  obtain ⟨h1, h2⟩ := ht.2 r hr
  obtain ⟨v1, v2, ⟨v3, v3'⟩, v4, v5⟩ := hv
  exact ⟨fun e he i hi => by have := h2 e he i hi; omega, by omega, by omega⟩
theorem vw_x10 (hv : Vw v c) {x : Nat} (hx : x ∈ v) : x < 10 := by
  obtain ⟨v1, v2, v3, v4, v5⟩ := hv
  have := v4 x hx
  omega
theorem view_sm (hv : Vw v c) : Sm10 (v.map some) := fun e he i hi => by
  subst hi
  obtain ⟨x, hx, e⟩ := List.mem_map.mp he
  have e := Option.some.inj e
  subst e
  exact vw_x10 hv hx
theorem len0 : Str.empty.length = 0 := rfl
theorem len_view : (Str.ofString "view ").length = 5 := by decide +kernel
theorem len_colon : (Str.ofString ": ").length = 2 := by decide +kernel
theorem len_nl : (Str.ofString "\n").length = 1 := by decide +kernel
theorem len_none : (Str.ofString "").length = 0 := by decide +kernel
theorem dg_len {i : Nat} (h : i < 10) : (dg i).length = 1 := wS_len (e := some i) fun j e => by cases e; exact h
theorem line0_len (hv : Vw v c) : (line0 v).length ≤ 23 := by
  have := wds_len (view_sm hv)
  rw [List.length_map] at this
  have := hv.2.1
  unfold line0
  rw [app_len, app_len, len0]
  have := len_view
  omega
theorem lineR_len {i : Nat} {r : List (Option Nat)} (hi : i < 10) (h : Sm10 r) (hl : r.length ≤ 9) : (lineR i r).length ≤ 21 := by
  have := wds_len h
  unfold lineR
  rw [app_len, app_len, app_len, len0, dg_len hi]
  have := len_colon
  omega
theorem line_len (hv : Vw v c) (ht : Tab v.length c t) {l : Str} (h : l ∈ linesOf v t) : l.length ≤ 23 := by
  rcases List.mem_cons.mp h with rfl | h
  · exact line0_len hv
  · obtain ⟨k, hk, e⟩ := List.mem_iff_getElem.mp h
    rw [rowsFrom_len] at hk
    have e2 := rowsFrom_at 0 t k hk
    rw [List.getElem?_eq_getElem (by rw [rowsFrom_len]; exact hk), e] at e2
    have e2 := Option.some.inj e2
    obtain ⟨h1, h2, _⟩ := tab_row10 hv ht (List.getElem_mem hk)
    have h3 := lineR_len (i := 0 + k) (r := t[k]) (by have := ht.1; have := hv.2.1; omega) h1 h2
    rw [e2]; omega
theorem lines_len (hv : Vw v c) (ht : Tab v.length c t) : (linesOf v t).length ≤ 10 := by
  unfold linesOf
  rw [List.length_cons, rowsFrom_len, ht.1]
  have := hv.2.1
  omega
theorem gFmt_str {y : Str} (h : y.length ≤ 16777216) : gFmt (.str y) = some (.str y) := if_pos h
theorem gFmt_dg {i : Nat} (h : i < 10) : gFmt (nD i) = some (.str (dg i)) := by
  have := gStrI_ok h
  exact this
theorem gAdd_str {x y : Str} (h : x.length + y.length ≤ 16777216) : gAdd (.str x) (.str y) = some (.str (x ++ y)) := if_pos h
theorem enum_rows : ∀ (i : Nat) (t : List (List (Option Nat))), (List.range' i t.length).zipWith (fun i d => PyData.tuple [.int (i : Nat), d]) (t.map rD) = (t.zipIdx i).map fun p => .tuple [nD p.2, rD p.1]
  | _, [] => rfl
  | i, r :: t => by
    rw [List.length_cons, List.range'_succ, List.map_cons, List.zipWith_cons_cons, enum_rows (i + 1) t]
    rfl
theorem enum_rD (t : List (List (Option Nat))) : enumD (t.map rD) = t.zipIdx.map fun p => .tuple [nD p.2, rD p.1] := by
  unfold enumD
  rw [List.length_map, List.range_eq_range']
  exact enum_rows 0 t
theorem rows_zip : ∀ (i : Nat) (t : List (List (Option Nat))), ((t.zipIdx i).map fun p => lineR p.2 p.1) = rowsFrom i t
  | _, [] => rfl
  | i, r :: t => by
    show lineR i r :: ((t.zipIdx (i + 1)).map fun p => lineR p.2 p.1) = _
    rw [rows_zip (i + 1) t]; rfl
theorem table_text_ok (hv : Vw v c) (ht : Tab v.length c t) : Ok (m_table_text [tD v, tabD t]) (fun z os => z = .str (TT v t) ∧ os = [none, none]) := by
  have hv9 := hv.2.1
  refine ok_def (ρ0 := [some (tD v), some (tabD t), none, none, none, none]) (by rfl) ?_
  unfold mb_table_text
  refine ok_seq (ok_drop (ok_callD (ok_cons (ok_var (d := tD v) rfl (ok_cons (ok_var (d := tabD t) rfl (ok_nil ⟨_, rfl, ?_⟩)))))))
  refine (need_table hv ht).mono ?_
  rintro z os rfl
  refine then_nx ?_
  refine ok_at (ρ' := [some (tD v), some (tabD t), none, none, none, none]) rfl ?_
  refine ok_seq (ok_set (ok_bin (ok_lst (ok_cons (ok_jC (ok_c ⟨_, rfl, by decide +kernel, ok_jC (ok_un (ok_callD (ok_cons (ok_var (d := tD v) rfl (ok_nil ⟨_, rfl, ?_⟩)))))⟩))))))
  refine (wordsV_ok (fun x hx => vw_x10 hv hx) hv9).mono ?_
  rintro z os ⟨rfl, rfl⟩
  have wl := wds_len (view_sm hv)
  rw [List.length_map] at wl
  refine ⟨_, gFmt_str (by omega), _, rfl, ?_, ok_jN (ok_nil ?_)⟩
  · show (line0 v).length ≤ _
    have := line0_len hv
    omega
  refine ok_lst (ok_lc (ok_enum (ok_cons (ok_var (d := tabD t) rfl (ok_nil ⟨_, .inr rfl, ?_⟩)))))
  rw [enum_rD]
  refine ok_at (ρ' := [some (tD v), some (tabD t), none, none, none, none]) rfl ?_
  refine (comp_map (enc := fun p : List (Option Nat) × Nat => PyData.tuple [nD p.2, rD p.1]) (fun p => .str (lineR p.2 p.1)) (l := t.zipIdx) fun p hp => ?_).mono ?_
  · obtain ⟨r, i⟩ := p
    have hp := List.mem_zipIdx_iff_getElem?.mp hp
    have hi : i < t.length := (List.getElem?_eq_some_iff.mp hp).1
    have hr : r ∈ t := List.mem_of_getElem? hp
    obtain ⟨h1, h2, _⟩ := tab_row10 hv ht hr
    have hi10 : i < 10 := by have := ht.1; omega
    have hl := lineR_len hi10 h1 h2
    have hd := dg_len hi10
    refine ⟨[some (tD v), some (tabD t), none, none, some (nD i), some (rD r)], rfl, ?_⟩
    refine ok_jC (ok_un (ok_var (d := nD i) rfl ⟨_, gFmt_dg hi10, _, rfl, ?_, ok_jC (ok_c ⟨_, rfl, ?_, ok_jC (ok_un (ok_callD (ok_cons (ok_var (d := rD r) rfl (ok_nil ⟨_, rfl, ?_⟩)))))⟩)⟩))
    · rw [app_len, len0]; omega
    · rw [app_len, app_len, len0, len_colon]; omega
    refine (words_ok h1 h2).mono ?_
    rintro z os ⟨rfl, rfl⟩
    have wl := wds_len h1
    refine ⟨_, gFmt_str (by omega), _, rfl, ?_, ok_jN ⟨rfl, rfl⟩⟩
    show (lineR i r).length ≤ _
    omega
  rintro ys ρ ⟨rfl, rfl⟩
  have hz := rows_zip 0 t
  have hll := lines_len hv ht
  refine ⟨_, gAddL_ok (by simp only [List.length_cons, List.length_nil, List.length_map, List.length_zipIdx]; have := ht.1; omega), then_nx ?_⟩
  have e : ([PyData.str (line0 v)] ++ t.zipIdx.map fun p => PyData.str (lineR p.2 p.1)) = (linesOf v t).map .str := by
    unfold linesOf
    rw [← hz, List.map_cons, List.map_map]
    rfl
  refine ok_at (ρ' := [some (tD v), some (tabD t), some (.list ((linesOf v t).map .str)), none, none, none]) (by rw [← e]; rfl) ?_
  refine ok_ret (ok_strM (ok_c ⟨_, rfl, ok_lst (ok_lc (ok_seqD (ok_var (d := .list ((linesOf v t).map .str)) rfl ⟨_, rfl, ?_⟩)))⟩))
  refine (comp_map (enc := PyData.str) (fun l => .str (l ++ "\n")) (l := linesOf v t) fun l hl => ?_).mono ?_
  · have := line_len hv ht hl
    exact ⟨_, rfl, ok_bin (ok_var (d := .str l) rfl (ok_c ⟨_, gAdd_str (by have := len_nl; omega), rfl, rfl⟩))⟩
  rintro ys ρ ⟨rfl, rfl⟩
  refine ⟨_, gJoin_ok (fun l => l ++ "\n") ?_, defK_rt rfl ⟨rfl, rfl⟩⟩
  rw [List.map_map, List.length_map, len_none]
  have h2 := sum_le (fun l => (l ++ Str.ofString "\n").length) (b := 24) (l := linesOf v t) fun l hl => by
    have := line_len hv ht hl
    rw [app_len, len_nl]; omega
  have h3 : (List.map ((fun x => x.length) ∘ fun l => l ++ Str.ofString "\n") (linesOf v t)).sum = ((linesOf v t).map fun l => (l ++ Str.ofString "\n").length).sum := rfl
  rw [h3]
  omega
end
end Pf
namespace Pf
open PySem MW
theorem tabD_inj {a b : Tb} (h : tabD a = tabD b) : a = b := by
  have h1 := bEq_tab a b
  rw [h] at h1
  have h2 := bEq_tab b b
  rw [h1] at h2
  simpa using h2
end Pf
namespace Pf
open PySem MW
def kK (tr : List Nat) : List Nat := tr.length :: tr
theorem kK_inj {a b : List Nat} (h : kK a = kK b) : a = b := by
  unfold kK at h
  injection h
theorem lt_cons_nat (a b : Nat) (x y : List Nat) : (a :: x < b :: y) ↔ a < b ∨ (a = b ∧ x < y) := by
  constructor
  · intro h
    cases h with
    | rel h => exact .inl h
    | cons h => exact .inr ⟨rfl, h⟩
  · rintro (h | ⟨rfl, h⟩)
    · exact List.Lex.rel h
    · exact List.Lex.cons h
end Pf
namespace Pf
open PySem MW
theorem lt_app : ∀ {a b x y : List Nat}, a < b → a.length = b.length → a ++ x < b ++ y
  | [], [], _, _, h, _ => absurd h (List.lt_irrefl _)
  | [], _ :: _, _, _, _, e => by simp at e
  | _ :: _, [], _, _, _, e => by simp at e
  | c :: a, d :: b, x, y, h, e => by
    rw [List.cons_append, List.cons_append, lt_cons_nat]
    rw [lt_cons_nat] at h
    exact h.imp id fun ⟨h1, h2⟩ => ⟨h1, lt_app h2 (by simpa using e)⟩
theorem lt_snoc {b c : Nat} (h : b < c) : ∀ t : List Nat, t ++ [b] < t ++ [c]
  | [] => by show [b] < [c]; rw [lt_cons_nat]; exact .inl h
  | x :: t => by rw [List.cons_append, List.cons_append, lt_cons_nat]; exact .inr ⟨rfl, lt_snoc h t⟩
theorem le_snoc {a b : List Nat} (h : a ≤ b) (e : a.length = b.length) (o : Nat) : a ++ [o] ≤ b ++ [o] := by
  rcases Classical.em (a = b) with z | z
  · rw [z]; exact List.le_refl _
  · rcases List.le_iff_lt_or_eq.mp h with z2 | z2
    · exact List.le_of_lt (lt_app z2 e)
    · exact absurd z2 z
theorem kK_le {a b : List Nat} : kK a ≤ kK b ↔ a.length < b.length ∨ (a.length = b.length ∧ a ≤ b) := by
  unfold kK
  rw [List.le_iff_lt_or_eq, lt_cons_nat, List.le_iff_lt_or_eq]
  constructor
  · rintro ((h | ⟨h1, h2⟩) | h)
    · exact .inl h
    · exact .inr ⟨h1, .inl h2⟩
    · injection h with h1 h2
      exact .inr ⟨h1, .inr h2⟩
  · rintro (h | ⟨h1, h2 | h2⟩)
    · exact .inl (.inl h)
    · exact .inl (.inr ⟨h1, h2⟩)
    · exact .inr (by rw [h2])
/-- what the states found last lead to, as it comes -/
def cds (near : List (List Nat)) (L : Fd) : Fd := L.flatMap fun p => (near.getD p.1 []).map fun b => (b, p.2 ++ [b])
theorem cds_mem {near : List (List Nat)} {L : Fd} {q : Nat × List Nat} : q ∈ cds near L ↔ ∃ p ∈ L, q.1 ∈ near.getD p.1 [] ∧ q.2 = p.2 ++ [q.1] := by
  unfold cds
  rw [List.mem_flatMap]
  refine exists_congr fun p => and_congr_right fun _ => ?_
  rw [List.mem_map]
  constructor
  · rintro ⟨b, hb, rfl⟩; exact ⟨hb, rfl⟩
  · rintro ⟨h1, h2⟩; exact ⟨q.1, h1, by rw [← h2]⟩
abbrev Asc2 (L : Fd) : Prop := L.Pairwise fun p q => p.2 < q.2
theorem cds_asc {near : List (List Nat)} (asc : ∀ a, (near.getD a []).Pairwise (· < ·)) {k : Nat} : ∀ {L : Fd}, Asc2 L → (∀ p ∈ L, p.2.length = k) → Asc2 (cds near L)
  | [], _, _ => List.Pairwise.nil
  | p :: L, h, hl => by
    obtain ⟨h1, h2⟩ := List.pairwise_cons.mp h
    show List.Pairwise _ ((near.getD p.1 []).map (fun b => (b, p.2 ++ [b])) ++ cds near L)
    rw [List.pairwise_append]
    refine ⟨List.pairwise_map.mpr ((asc p.1).imp fun h => lt_snoc h _), cds_asc asc h2 fun q hq => hl q (List.mem_cons_of_mem _ hq), fun x hx y hy => ?_⟩
    obtain ⟨b, _, rfl⟩ := List.mem_map.mp hx
    obtain ⟨q, hq, _, e⟩ := cds_mem.mp hy
    rw [e]
    exact lt_app (h1 q hq) (by rw [hl p List.mem_cons_self, hl q (List.mem_cons_of_mem _ hq)])
/-- within a round: what has been looked at, and what was found -/
structure GIn (f D R : Fd) : Prop where
  sub : R.Sublist D
  all : ∀ p ∈ D, p.1 ∈ f.map (·.1) ∨ ∃ t, (p.1, t) ∈ R ∧ t ≤ p.2
theorem GIn.new {f D R : Fd} {c : Nat × List Nat} (h : GIn f D R) : GIn f (D ++ [c]) (R ++ [c]) :=
  ⟨List.Sublist.append h.sub (List.Sublist.refl _), fun p hp => by
    rcases List.mem_append.mp hp with z | z
    · exact (h.all p z).imp id fun ⟨t, h1, h2⟩ => ⟨t, List.mem_append_left _ h1, h2⟩
    · rw [List.mem_singleton.mp z]
      exact .inr ⟨c.2, List.mem_append_right _ (List.mem_singleton.mpr rfl), List.le_refl _⟩⟩
theorem GIn.old {f D R : Fd} {c : Nat × List Nat} (h : GIn f D R) (asc : Asc2 (D ++ [c])) (hc : c.1 ∈ (f ++ R).map (·.1)) : GIn f (D ++ [c]) R :=
  ⟨h.sub.trans (List.sublist_append_left _ _), fun p hp => by
    rcases List.mem_append.mp hp with z | z
    · exact h.all p z
    · rw [List.mem_singleton.mp z]
      rw [List.map_append] at hc
      rcases List.mem_append.mp hc with y | y
      · exact .inl y
      · obtain ⟨q, hq, e⟩ := List.mem_map.mp y
        refine .inr ⟨q.2, by rw [← e]; exact hq, List.le_of_lt ?_⟩
        exact (List.pairwise_append.mp asc).2.2 q (h.sub.subset hq) c (List.mem_singleton.mpr rfl)⟩
/-- between the rounds: all states with ways of at most k states -/
structure RIn (near : List (List Nat)) (s k : Nat) (f L : Fd) : Prop extends BInv near s f where
  last : ∀ p ∈ L, p ∈ f ∧ p.2.length = k
  done : ∀ p ∈ f, p ∉ L → p.2.length < k ∧ ∀ o ∈ near.getD p.1 [], o ∈ f.map (·.1)
  asc : Asc2 L
  low : ∀ w o, Way near s w o → w.length ≤ k → ∃ t, (o, t) ∈ f ∧ kK t ≤ kK w
  once : ∀ p ∈ f, p.2.Nodup ∧ ∀ x ∈ p.2, x ∈ f.map (·.1)
theorem Way.len1 {near : List (List Nat)} {s o : Nat} {w : List Nat} (h : Way near s w o) (hl : w.length ≤ 1) : w = [s] ∧ o = s := by
  cases h with
  | one => exact ⟨rfl, rfl⟩
  | more h _ =>
    have := List.length_pos_iff.mpr h.ne
    simp only [List.length_append, List.length_cons, List.length_nil] at hl
    omega
theorem RIn.start {near : List (List Nat)} {s : Nat} (hs : s < near.length) : RIn near s 1 [(s, [s])] [(s, [s])] := by
  refine ⟨⟨by simp, by simpa using hs, by simp, ?_⟩, ?_, ?_, by simp, ?_, ?_⟩
  · intro p hp
    have : p = (s, [s]) := by simpa using hp
    subst this
    exact ⟨.one, by simp⟩
  · intro p hp
    have : p = (s, [s]) := by simpa using hp
    subst this
    exact ⟨by simp, rfl⟩
  · intro p hp hn
    exact absurd hp hn
  · intro w o hw hl
    obtain ⟨rfl, rfl⟩ := hw.len1 hl
    exact ⟨[o], by simp, List.le_refl _⟩
  · intro p hp
    have : p = (s, [s]) := by simpa using hp
    subst this
    exact ⟨by simp, by simp⟩
theorem RIn.next {near : List (List Nat)} {s k : Nat} {f L R : Fd} (h : RIn near s k f L) (k1 : 1 ≤ k) (asc : ∀ a, (near.getD a []).Pairwise (· < ·)) (hB : BInv near s (f ++ R)) (g : GIn f (cds near L) R) : RIn near s (k + 1) (f ++ R) R := by
  have keys : ∀ x, x ∈ f.map (·.1) → x ∈ (f ++ R).map (·.1) := fun x hx => by rw [List.map_append]; exact List.mem_append_left _ hx
  have flen : ∀ p ∈ f, p.2.length ≤ k := fun p hp => by
    by_cases hL : p ∈ L
    · exact Nat.le_of_eq (h.last p hL).2
    · exact Nat.le_of_lt (h.done p hp hL).1
  have rl : ∀ p ∈ R, ∃ a t, (a, t) ∈ L ∧ p.1 ∈ near.getD a [] ∧ p.2 = t ++ [p.1] := fun p hp => by
    obtain ⟨q, hq, h1, h2⟩ := cds_mem.mp (g.sub.subset hp)
    exact ⟨q.1, q.2, hq, h1, h2⟩
  have rlen : ∀ p ∈ R, p.2.length = k + 1 := fun p hp => by
    obtain ⟨a, t, hL, _, e⟩ := rl p hp
    rw [e, List.length_append, (h.last _ hL).2]; rfl
  have nd := hB.nd
  rw [List.map_append, List.nodup_append] at nd
  refine ⟨hB, fun p hp => ⟨List.mem_append_right _ hp, rlen p hp⟩, fun p hp hn => ?_, (cds_asc asc h.asc fun p hp => (h.last p hp).2).sublist g.sub, fun w o hw hl => ?_, fun p hp => ?_⟩
  · have hp : p ∈ f := (List.mem_append.mp hp).resolve_right hn
    refine ⟨by have := flen p hp; omega, fun o ho => ?_⟩
    by_cases hL : p ∈ L
    · rcases g.all (o, p.2 ++ [o]) (cds_mem.mpr ⟨p, hL, ho, rfl⟩) with z | ⟨t, z, _⟩
      · exact keys o z
      · rw [List.map_append]; exact List.mem_append_right _ (List.mem_map.mpr ⟨_, z, rfl⟩)
    · exact keys o ((h.done p hp hL).2 o ho)
  · by_cases hk : w.length ≤ k
    · obtain ⟨t, h1, h2⟩ := h.low w o hw hk
      exact ⟨t, List.mem_append_left _ h1, h2⟩
    · have hwl : w.length = k + 1 := by omega
      have infd : ∀ o, o ∈ f.map (·.1) → ∃ t, (o, t) ∈ f ++ R ∧ kK t ≤ kK w := fun o ho => by
        obtain ⟨q, hq, e⟩ := List.mem_map.mp ho
        exact ⟨q.2, List.mem_append_left _ (by rw [← e]; exact hq), kK_le.mpr (.inl (by have := flen q hq; omega))⟩
      cases hw with
      | one => simp at hwl; omega
      | more hw' ho =>
        rename_i w' a
        rw [List.length_append] at hwl
        have hwl : w'.length = k := by simpa using hwl
        obtain ⟨t, h1, h2⟩ := h.low w' a hw' (by omega)
        by_cases hL : (a, t) ∈ L
        · rcases g.all (o, t ++ [o]) (cds_mem.mpr ⟨(a, t), hL, ho, rfl⟩) with z | ⟨t2, z, le⟩
          · exact infd o z
          · have tl := (h.last _ hL).2
            refine ⟨t2, List.mem_append_right _ z, kK_le.mpr (.inr ⟨?_, ?_⟩)⟩
            · rw [rlen _ z, List.length_append, hwl]; rfl
            · refine List.le_trans le (le_snoc ?_ (by rw [hwl]; exact tl) o)
              rcases kK_le.mp h2 with y | y
              · have tl : t.length = k := tl
                omega
              · exact y.2
        · exact infd o ((h.done _ h1 hL).2 o ho)
  · rcases List.mem_append.mp hp with z | z
    · exact ⟨(h.once p z).1, fun x hx => keys x ((h.once p z).2 x hx)⟩
    · obtain ⟨a, t, hL, _, e⟩ := rl p z
      obtain ⟨o1, o2⟩ := h.once _ (h.last _ hL).1
      have hpn : p.1 ∉ f.map (·.1) := fun y => nd.2.2 _ y p.1 (List.mem_map.mpr ⟨_, z, rfl⟩) rfl
      rw [e]
      refine ⟨?_, fun x hx => ?_⟩
      · rw [List.nodup_append]
        refine ⟨o1, by simp, fun x hx y hy exy => ?_⟩
        rw [List.mem_singleton.mp hy] at exy
        rw [exy] at hx
        exact hpn (o2 _ hx)
      · rcases List.mem_append.mp hx with y | y
        · exact keys x (o2 x y)
        · rw [List.mem_singleton.mp y, List.map_append]
          exact List.mem_append_right _ (List.mem_map.mpr ⟨_, z, rfl⟩)
/-- what the search ends with: the least of the ways to each state -/
structure BLst (near : List (List Nat)) (s : Nat) (f : Fd) : Prop extends BEnd near s f where
  once : ∀ p ∈ f, p.2.Nodup
  least : ∀ p ∈ f, ∀ w, Way near s w p.1 → kK p.2 ≤ kK w
end Pf
namespace Pf
open PySem MW
structure GQ (f D R : Fd) : Prop where
  sub : ∀ p ∈ R, p ∈ D
  all : ∀ p ∈ D, p.1 ∈ f.map (·.1) ∨ ∃ t, (p.1, t) ∈ R ∧ t ≤ p.2
  nd : (R.map (·.1)).Nodup
  dis : ∀ p ∈ R, p.1 ∉ f.map (·.1)
structure QIn (near : List (List Nat)) (s k : Nat) (f L : Fd) : Prop extends BInv near s f where
  last : ∀ p ∈ L, p ∈ f ∧ p.2.length = k
  done : ∀ p ∈ f, p ∉ L → p.2.length < k ∧ ∀ o ∈ near.getD p.1 [], o ∈ f.map (·.1)
  low : ∀ w o, Way near s w o → w.length ≤ k → ∃ t, (o, t) ∈ f ∧ kK t ≤ kK w
  once : ∀ p ∈ f, p.2.Nodup ∧ ∀ x ∈ p.2, x ∈ f.map (·.1)
theorem QIn.start {near : List (List Nat)} {s : Nat} (hs : s < near.length) : QIn near s 1 [(s, [s])] [(s, [s])] :=
  let r := RIn.start hs
  ⟨r.toBInv, r.last, r.done, r.low, r.once⟩
section
variable {near : List (List Nat)} {s k : Nat} {f L R : Fd}
theorem QIn.next (h : QIn near s k f L) (k1 : 1 ≤ k) (hB : BInv near s (f ++ R)) (g : GQ f (cds near L) R) : QIn near s (k + 1) (f ++ R) R := by
  have keys : ∀ x, x ∈ f.map (·.1) → x ∈ (f ++ R).map (·.1) := fun x hx => by rw [List.map_append]; exact List.mem_append_left _ hx
  have flen : ∀ p ∈ f, p.2.length ≤ k := fun p hp => by
    by_cases hL : p ∈ L
    · exact Nat.le_of_eq (h.last p hL).2
    · exact Nat.le_of_lt (h.done p hp hL).1
  have rl : ∀ p ∈ R, ∃ a t, (a, t) ∈ L ∧ p.1 ∈ near.getD a [] ∧ p.2 = t ++ [p.1] := fun p hp => by
    obtain ⟨q, hq, h1, h2⟩ := cds_mem.mp (g.sub p hp)
    exact ⟨q.1, q.2, hq, h1, h2⟩
  have rlen : ∀ p ∈ R, p.2.length = k + 1 := fun p hp => by
    obtain ⟨a, t, hL, _, e⟩ := rl p hp
    rw [e, List.length_append, (h.last _ hL).2]; rfl
  have nd := hB.nd
  rw [List.map_append, List.nodup_append] at nd
  refine ⟨hB, fun p hp => ⟨List.mem_append_right _ hp, rlen p hp⟩, fun p hp hn => ?_, fun w o hw hl => ?_, fun p hp => ?_⟩
  · have hp : p ∈ f := (List.mem_append.mp hp).resolve_right hn
    refine ⟨by have := flen p hp; omega, fun o ho => ?_⟩
    by_cases hL : p ∈ L
    · rcases g.all (o, p.2 ++ [o]) (cds_mem.mpr ⟨p, hL, ho, rfl⟩) with z | ⟨t, z, _⟩
      · exact keys o z
      · rw [List.map_append]; exact List.mem_append_right _ (List.mem_map.mpr ⟨_, z, rfl⟩)
    · exact keys o ((h.done p hp hL).2 o ho)
  · by_cases hk : w.length ≤ k
    · obtain ⟨t, h1, h2⟩ := h.low w o hw hk
      exact ⟨t, List.mem_append_left _ h1, h2⟩
    · have hwl : w.length = k + 1 := by omega
      have infd : ∀ o, o ∈ f.map (·.1) → ∃ t, (o, t) ∈ f ++ R ∧ kK t ≤ kK w := fun o ho => by
        obtain ⟨q, hq, e⟩ := List.mem_map.mp ho
        exact ⟨q.2, List.mem_append_left _ (by rw [← e]; exact hq), kK_le.mpr (.inl (by have := flen q hq; omega))⟩
      cases hw with
      | one => simp at hwl; omega
      | more hw' ho =>
        rename_i w' a
        rw [List.length_append] at hwl
        have hwl : w'.length = k := by simpa using hwl
        obtain ⟨t, h1, h2⟩ := h.low w' a hw' (by omega)
        by_cases hL : (a, t) ∈ L
        · rcases g.all (o, t ++ [o]) (cds_mem.mpr ⟨(a, t), hL, ho, rfl⟩) with z | ⟨t2, z, le⟩
          · exact infd o z
          · have tl := (h.last _ hL).2
            refine ⟨t2, List.mem_append_right _ z, kK_le.mpr (.inr ⟨?_, ?_⟩)⟩
            · rw [rlen _ z, List.length_append, hwl]; rfl
            · refine List.le_trans le (le_snoc ?_ (by rw [hwl]; exact tl) o)
              rcases kK_le.mp h2 with y | y
              · have tl : t.length = k := tl
                omega
              · exact y.2
        · exact infd o ((h.done _ h1 hL).2 o ho)
  · rcases List.mem_append.mp hp with z | z
    · exact ⟨(h.once p z).1, fun x hx => keys x ((h.once p z).2 x hx)⟩
    · obtain ⟨a, t, hL, _, e⟩ := rl p z
      obtain ⟨o1, o2⟩ := h.once _ (h.last _ hL).1
      have hpn : p.1 ∉ f.map (·.1) := g.dis p z
      rw [e]
      refine ⟨?_, fun x hx => ?_⟩
      · rw [List.nodup_append]
        refine ⟨o1, by simp, fun x hx y hy exy => ?_⟩
        rw [List.mem_singleton.mp hy] at exy
        rw [exy] at hx
        exact hpn (o2 _ hx)
      · rcases List.mem_append.mp hx with y | y
        · exact keys x (o2 x y)
        · rw [List.mem_singleton.mp y, List.map_append]
          exact List.mem_append_right _ (List.mem_map.mpr ⟨_, z, rfl⟩)
end
theorem GQ.old {f D R : Fd} {c : Nat × List Nat} (h : GQ f D R) (hc : c.1 ∈ f.map (·.1)) : GQ f (D ++ [c]) R :=
  ⟨fun p hp => List.mem_append_left _ (h.sub p hp), fun p hp => by
    rcases List.mem_append.mp hp with z | z
    · exact h.all p z
    · rw [List.mem_singleton.mp z]; exact .inl hc, h.nd, h.dis⟩
theorem Way.tr {near near' : List (List Nat)} (h : ∀ a o, o ∈ near.getD a [] → o ∈ near'.getD a []) {s o : Nat} {w : List Nat} (x : Way near s w o) : Way near' s w o := by
  induction x with
  | one => exact .one
  | more w hb ih => exact ih.more (h _ _ hb)
theorem BLst.tr {near near' : List (List Nat)} {s : Nat} {f : Fd} (hl : near.length = near'.length) (h : ∀ a o, o ∈ near.getD a [] ↔ o ∈ near'.getD a []) (x : BLst near s f) : BLst near' s f := by
  have h1 : ∀ a o, o ∈ near.getD a [] → o ∈ near'.getD a [] := fun a o => (h a o).mp
  have h2 : ∀ a o, o ∈ near'.getD a [] → o ∈ near.getD a [] := fun a o => (h a o).mpr
  refine ⟨⟨⟨x.nd, fun p hp => by rw [← hl]; exact x.lt p hp, x.st, fun p hp => ⟨(x.wy p hp).1.tr h1, (x.wy p hp).2⟩⟩, fun o => ?_⟩, x.once, fun p hp w hw => x.least p hp w (hw.tr h2)⟩
  rw [← x.all o]
  exact ⟨fun ⟨t, w⟩ => ⟨t, w.tr h2⟩, fun ⟨t, w⟩ => ⟨t, w.tr h1⟩⟩
/-- two searches find the same -/
theorem BLst.same {near : List (List Nat)} {s : Nat} {f g : Fd} (x : BLst near s f) (y : BLst near s g) : ∀ p, p ∈ f → p ∈ g := fun p hp => by
  have hk : p.1 ∈ g.map (·.1) := (y.all p.1).mp ⟨p.2, (x.wy p hp).1⟩
  obtain ⟨q, hq, e⟩ := List.mem_map.mp hk
  have l1 := x.least p hp q.2 (by rw [← e]; exact (y.wy q hq).1)
  have l2 := y.least q hq p.2 (by rw [e]; exact (x.wy p hp).1)
  have : p.2 = q.2 := kK_inj (List.le_antisymm l1 l2)
  have : p = q := Prod.ext e.symm this
  rw [this]; exact hq
end Pf
namespace Pf
open PySem MW
theorem bEq_strs7 (a b : Str) : bEq (.str a) (.str b) = some (a == b) := by
  unfold bEq
  by_cases z : SeqAt.shaped (.str a) = true ∧ SeqAt.shaped (.str b) = true
  · rw [if_pos z]
    by_cases e : a = b
    · subst e; simp [PyData.eqv]
    · simp [PyData.eqv, e]
  · rw [if_neg z]
    simp [sEq]
    by_cases e : a = b
    · subst e; simp
    · simp [e]
/-- plain things: numbers, None, tuples of such -/
inductive Pl : Nat → D → Prop
  | num (k a : Nat) : Pl k (nD a)
  | non (k : Nat) : Pl k .none
  | tup (k : Nat) (ds : List D) (h : ∀ d ∈ ds, Pl k d) : Pl (k + 1) (.tuple ds)
theorem Pl.lay : ∀ {k : Nat} {d : D}, Pl k d → d.canLay0 = true ∧ d.depth ≤ k + 1
  | _, _, .num k a => ⟨rfl, Nat.zero_le _⟩
  | _, _, .non k => ⟨rfl, Nat.zero_le _⟩
  | _, _, .tup k ds h => by
    have : ∀ l : List D, (∀ d ∈ l, d.canLay0 = true ∧ d.depth ≤ k + 1) → PyData.canLayAll0 l = true ∧ PyData.depthAll l ≤ k + 1 := by
      intro l
      induction l with
      | nil => intro _; exact ⟨rfl, Nat.zero_le _⟩
      | cons x l ih =>
        intro hl
        have h1 := hl x List.mem_cons_self
        have h2 := ih fun d hd => hl d (List.mem_cons_of_mem _ hd)
        refine ⟨by simp [PyData.canLayAll0, h1.1, h2.1], ?_⟩
        simp only [PyData.depthAll]
        omega
    have z := this ds fun d hd => (h d hd).lay
    refine ⟨by simp [PyData.canLay0, z.1], ?_⟩
    simp only [PyData.depth]
    omega
theorem Pl.shaped {k : Nat} {d : D} (h : Pl k d) (hk : k ≤ 20) : SeqAt.shaped d = true := by
  have := h.lay
  simp [SeqAt.shaped, this.1]
  omega
end Pf
namespace Pf
open PySem MW
section
variable {v u : List Nat} {c k : Nat} {t r : Tb}
/-- in one part -/
theorem lt_own (hs : Sound v c t) {s o : Nat} (h : s < v.length) : LT t s o ↔ cell t s (v.getD o 0) = some o := by
  constructor
  · rintro ⟨w, e⟩
    have hw : w < c := by
      by_cases h1 : s < t.length
      · have hr := hs.tab.2 t[s] (List.getElem_mem h1)
        by_cases h2 : w < t[s].length
        · rw [← hr.1]; exact h2
        · unfold cell at e
          simp [List.getD_eq_getElem?_getD, h1, h2] at e
      · exact absurd (by rw [hs.tab.1]; exact h) h1
    rw [hs.shown s w o h hw e]; exact e
  · exact fun h => ⟨_, h⟩
theorem lt_refl (hs : Sound v c t) {s : Nat} (h : s < v.length) : LT t s s := (lt_own hs h).mpr (hs.stay s h)
theorem lt_row (hv : Vw v c) (hs : Sound v c t) {s o : Nat} (h : s < v.length) (e : LT t s o) : o < v.length ∧ ∀ x, x < c → cell t o x = cell t s x := by
  have e := (lt_own hs h).mp e
  have ho := Tab.lt hs.tab e
  exact ⟨ho, hs.forget s _ o h (vw_getD hv ho) e⟩
/-- what two independent parts are -/
structure Ind (n : Nat) (v u : List Nat) (c k : Nat) (t r : Tb) : Prop where
  hv : Vw v c
  hu : Vw u k
  vl : v.length = n
  ul : u.length = n
  st : Sound v c t
  sr : Sound u k r
  ku : ∀ s o, s < n → LT t s o → u.getD o 0 = u.getD s 0
  kv : ∀ s o, s < n → LT r s o → v.getD o 0 = v.getD s 0
  com : ∀ s q o, s < n → LT t s q → LT r q o → ∃ q', LT r s q' ∧ LT t q' o
  moc : ∀ s q o, s < n → LT r s q → LT t q o → ∃ q', LT t s q' ∧ LT r q' o
namespace Ind
variable {n : Nat}
def TR (t r : Tb) (s o : Nat) : Prop := ∃ q, LT t s q ∧ LT r q o
theorem tl (h : Ind n v u c k t r) {s o : Nat} (hs : s < n) (e : LT t s o) : o < n := by
  have := (lt_row h.hv h.st (by rw [h.vl]; exact hs) e).1
  rw [h.vl] at this; exact this
theorem rl (h : Ind n v u c k t r) {s o : Nat} (hs : s < n) (e : LT r s o) : o < n := by
  have := (lt_row h.hu h.sr (by rw [h.ul]; exact hs) e).1
  rw [h.ul] at this; exact this
/-- all the values meet -/
theorem full (h : Ind n v u c k t r) {a b : Nat} (ha : a < n) (e : TR t r a b) : ∃ m, TR t r a m ∧ v.getD m 0 = v.getD a 0 ∧ u.getD m 0 = u.getD b 0 := by
  obtain ⟨q, e1, e2⟩ := e
  obtain ⟨q', f1, f2⟩ := h.com a q b ha e1 e2
  have hq' := h.rl ha f1
  refine ⟨q', ⟨a, lt_refl h.st (by rw [h.vl]; exact ha), f1⟩, h.kv a q' ha f1, ?_⟩
  exact (h.ku q' b hq' f2).symm
theorem two (h : Ind n v u c k t r) {s o : Nat} (hs : s < n) (e : TR t r s o) : ∃ q, q < n ∧ cell t s (v.getD o 0) = some q ∧ cell r q (u.getD o 0) = some o := by
  obtain ⟨q, e1, e2⟩ := e
  have hq := h.tl hs e1
  refine ⟨q, hq, ?_, (lt_own h.sr (by rw [h.ul]; exact hq)).mp e2⟩
  rw [h.kv q o hq e2]
  exact (lt_own h.st (by rw [h.vl]; exact hs)).mp e1
end Ind
end
end Pf
namespace Pf
open PySem MW
variable {v : List Nat} {c : Nat}
theorem Pn.nd {n : Nat} {ps : List (List Nat)} (h : Pn v n ps) : ps.flatten.Nodup := h.all.nodup_iff.mpr List.nodup_range
end Pf
namespace Pf
open PySem MW
section
variable {v : List Nat} {c : Nat}
abbrev Dif (v q : List Nat) : Prop := ∀ a ∈ q, ∀ b ∈ q, v.getD a 0 = v.getD b 0 → a = b
structure Fp (v : List Nat) (s0 : Nat) (r : List Nat) (k : Nat) (F : List (List Nat)) : Prop where
  ok : ∀ q ∈ F, ∃ u, q = s0 :: u ∧ u.Sublist (r.take k) ∧ Dif v q
  wt : sm F (fun q => 6 ^ (k + 1 - q.length)) ≤ 7 ^ k
  nd : F.Nodup
  all : ∀ u, u.Sublist (r.take k) → Dif v (s0 :: u) → (s0 :: u) ∈ F
theorem Fp.len {s0 : Nat} {r : List Nat} {k : Nat} {F : List (List Nat)} (h : Fp v s0 r k F) {q : List Nat} (hq : q ∈ F) : 1 ≤ q.length ∧ q.length ≤ k + 1 := by
  obtain ⟨u, rfl, hs, _⟩ := h.ok q hq
  have := hs.length_le
  rw [List.length_take] at this
  simp; omega
structure Gj (v st : List Nat) (js : List (List Nat)) : Prop where
  perm : js.flatten.Perm st
  sub : ∀ q ∈ js, q ≠ [] ∧ q.Pairwise (· < ·) ∧ Dif v q
  ord : js.Pairwise fun a b => a.headD 0 < b.headD 0
theorem Gj.hd {st : List Nat} {js : List (List Nat)} (h : Gj v st js) {q : List Nat} (hq : q ∈ js) : q.headD 0 ∈ st := by
  refine h.perm.mem_iff.mp (List.mem_flatten.mpr ⟨q, hq, ?_⟩)
  obtain ⟨hne, _⟩ := h.sub q hq
  cases q with
  | nil => exact absurd rfl hne
  | cons a u => exact List.mem_cons_self
theorem Gj.few {st : List Nat} {js : List (List Nat)} (h : Gj v st js) : js.length ≤ st.length := by
  rw [← h.perm.length_eq, List.length_flatten]
  have : ∀ l : List (List Nat), (∀ q ∈ l, q ≠ []) → l.length ≤ (l.map List.length).sum := by
    intro l
    induction l with
    | nil => intro _; exact Nat.le_refl _
    | cons a l ih =>
      intro hne
      have h1 := ih fun q hq => hne q (List.mem_cons_of_mem _ hq)
      have h2 := List.length_pos_iff.mpr (hne a List.mem_cons_self)
      rw [List.map_cons, List.sum_cons, List.length_cons]
      omega
  exact this js fun q hq => (h.sub q hq).1
end
end Pf
namespace Pf
open PySem MW
theorem bNe_strs (a b : Str) : bNe (.str a) (.str b) = some (!(a == b)) := by
  have h := bEq_strs7 a b
  unfold bEq at h
  unfold bNe
  split at h
  · rename_i z
    rw [if_pos z]
    have h := Option.some.inj h
    rw [h]
  · rename_i z
    rw [if_neg z]
    rw [h]; rfl
end Pf
namespace Pf
open PySem MW L2 TL
theorem spl_ne (S : List Nat) : ∀ (k : Nat) (acc L : List Nat), spl S k acc L ≠ []
  | k, acc, [] => by rw [spl_nil]; simp
  | 0, acc, c :: r => by
    unfold spl
    split
    · simp
    · exact spl_ne S 0 _ r
  | k + 1, acc, c :: r => by
    show spl S k acc r ≠ []
    exact spl_ne S k acc r
theorem spl_len (S : List Nat) : ∀ (k : Nat) (acc L : List Nat) (p : List Nat), p ∈ spl S k acc L → p.length ≤ acc.length + L.length
  | k, acc, [], p, h => by
    rw [spl_nil] at h
    rw [List.mem_singleton.mp h]; simp
  | 0, acc, c :: r, p, h => by
    unfold spl at h
    split at h
    · rcases List.mem_cons.mp h with rfl | h
      · omega
      · have := spl_len S _ [] r p h
        simp only [List.length_nil, List.length_cons] at this ⊢
        omega
    · have := spl_len S 0 (acc ++ [c]) r p h
      simp only [List.length_append, List.length_cons, List.length_nil] at this ⊢
      omega
  | k + 1, acc, c :: r, p, h => by
    have h : p ∈ spl S k acc r := h
    have := spl_len S k acc r p h
    rw [List.length_cons]; omega
theorem nl_tl : tl (Str.ofString "\n") = [10] := by decide +kernel
theorem sp_tl : tl (Str.ofString " ") = [32] := by decide +kernel
def lns (x : Str) : List Str := Txt.split x "\n"
def wrds (x : Str) : List Str := Txt.split x " "
theorem lns_tl (x : Str) : (lns x).map tl = spl [10] 0 [] (tl x) := by
  have := split_spl x (Str.ofString "\n") (by rw [nl_tl]; simp) (kind_ok (by decide +kernel))
  rw [nl_tl] at this
  exact this
theorem wrds_tl (x : Str) : (wrds x).map tl = spl [32] 0 [] (tl x) := by
  have := split_spl x (Str.ofString " ") (by rw [sp_tl]; simp) (kind_ok (by decide +kernel))
  rw [sp_tl] at this
  exact this
theorem lns_cons (x : Str) : ∃ l ls, lns x = l :: ls := by
  cases e : lns x with
  | nil => exact absurd (lns_tl x) (by rw [e]; exact fun z => spl_ne _ _ _ _ z.symm)
  | cons l ls => exact ⟨l, ls, rfl⟩
theorem wrds_cons (x : Str) : ∃ l ls, wrds x = l :: ls := by
  cases e : wrds x with
  | nil => exact absurd (wrds_tl x) (by rw [e]; exact fun z => spl_ne _ _ _ _ z.symm)
  | cons l ls => exact ⟨l, ls, rfl⟩
theorem lns_le {x l : Str} (h : l ∈ lns x) : l.length ≤ x.length := by
  have := spl_len [10] 0 [] (tl x) (tl l) (by rw [← lns_tl]; exact List.mem_map_of_mem h)
  rw [len_tl, len_tl]; simpa using this
theorem wrds_le {x l : Str} (h : l ∈ wrds x) : l.length ≤ x.length := by
  have := spl_len [32] 0 [] (tl x) (tl l) (by rw [← wrds_tl]; exact List.mem_map_of_mem h)
  rw [len_tl, len_tl]; simpa using this
def entO (w : Str) : Option Nat := match tl w with
  | [a] => if 48 ≤ a ∧ a < 58 then some (a - 48) else none
  | _ => none
theorem digits_tl : tl (Str.ofString "0123456789") = [48, 49, 50, 51, 52, 53, 54, 55, 56, 57] := by decide +kernel
theorem entry_any {w : Str} (hw : w.length ≤ 16777216) : Ok (m__entry [.str w]) (fun z os => z = oD (entO w) ∧ os = [none]) := by
  refine ok_def (ρ0 := [some (.str w)]) (by rfl) ?_
  unfold mb__entry
  refine ok_ret (ok_if (ok_andB (ok_test (ok_call (ok_cons (ok_var (d := .str w) rfl (ok_nil ⟨.int (w.length : Nat), if_pos hw, ok_c ⟨_, bEq_int _ _, ?_⟩⟩)))))))
  by_cases h1 : w.length = 1
  · rw [show (((w.length : Nat) : Int) == (1 : Int)) = true by rw [h1]; rfl]
    refine L2.iteT (ok_test (ok_var (d := .str w) rfl (ok_c ?_)))
    obtain ⟨a, ea⟩ : ∃ a, tl w = [a] := by
      rw [len_tl] at h1
      exact List.length_eq_one_iff.mp h1
    have hb : bInS (.str w) (.str "0123456789") = some (decide (a ∈ tl (Str.ofString "0123456789"))) := by
      have e : w = ⟨#[a]⟩ := ext_tl (by rw [ea])
      have := PySem.StrLaws.found_one (Str.ofString "0123456789") a
      show some (!(Builtin.Str.occurrences (Str.ofString "0123456789") w 0 (Str.ofString "0123456789").length 1).isEmpty) = _
      rw [e, this]
    refine ⟨_, hb, ?_⟩
    rw [digits_tl]
    by_cases hd : 48 ≤ a ∧ a < 58
    · rw [decide_eq_true (by simp only [List.mem_cons, List.not_mem_nil, or_false]; omega)]
      obtain ⟨g1, g2, g3⟩ := dg_small (a - 48) (by omega)
      have e : w = dg (a - 48) := ext_tl (by rw [ea, g1]; congr 1; omega)
      have eo : entO w = some (a - 48) := by unfold entO; rw [ea]; exact if_pos hd
      rw [eo]
      refine L2.iteT (ok_call (ok_cons (ok_var (d := .str w) rfl (ok_nil ⟨nD (a - 48), ?_, defK_rt rfl ⟨rfl, rfl⟩⟩))))
      show (if w.length ≤ 640 then (intText? w).map PyData.int else none) = _
      rw [if_pos (by omega), e, g2]; rfl
    · rw [decide_eq_false (by simp only [List.mem_cons, List.not_mem_nil, or_false]; omega)]
      have eo : entO w = none := by unfold entO; rw [ea]; exact if_neg hd
      rw [eo]
      exact L2.iteF (ok_c (defK_rt rfl ⟨rfl, rfl⟩))
  · rw [show (((w.length : Nat) : Int) == (1 : Int)) = false by
      rw [beq_eq_false_iff_ne]; intro z; exact h1 (by omega)]
    have eo : entO w = none := by
      unfold entO
      split
      · rename_i a ea
        rw [len_tl, ea] at h1
        exact absurd rfl h1
      · rfl
    rw [eo]
    exact L2.iteF (L2.iteF (ok_c (defK_rt rfl ⟨rfl, rfl⟩)))
def ents (l : Str) : List (Option Nat) := ((wrds l).drop 1).map entO
abbrev wlD (l : Str) : D := .list ((wrds l).map .str)
theorem entries_any {l : Str} (hl : l.length ≤ 16777216) : Ok (m__entries [wlD l]) (fun z os => z = rD (ents l) ∧ os = [none]) := by
  obtain ⟨w, ws, e⟩ := wrds_cons l
  have hm : ∀ x ∈ ws, x.length ≤ 16777216 := fun x hx => Nat.le_trans (wrds_le (x := l) (by rw [e]; exact List.mem_cons_of_mem _ hx)) hl
  have ee : ents l = ws.map entO := by unfold ents; rw [e]; rfl
  rw [ee]
  have ew : wlD l = .list (.str w :: ws.map .str) := by show PyData.list ((wrds l).map .str) = _; rw [e]; rfl
  rw [ew]
  refine ok_def (ρ0 := [some (.list (.str w :: ws.map .str)), none]) (by rfl) ?_
  unfold mb__entries
  refine ok_ret (ok_call (ok_cons (ok_lst (ok_lc (ok_seqD (ok_slL (ok_var (d := .list (.str w :: ws.map .str)) rfl (ok_part (ok_c ⟨1, rfl, ok_noP ⟨_, rfl, _, rfl, ?_⟩⟩)))))))))
  rw [cut_one]
  refine (comp_map (enc := PyData.str) (fun w => oD (entO w)) (l := ws) fun x hx => ?_).mono ?_
  · refine ⟨_, rfl, ok_callD (ok_cons (ok_var (d := .str x) rfl (ok_nil ⟨_, rfl, ?_⟩)))⟩
    refine (entry_any (hm x hx)).mono ?_
    rintro z os ⟨rfl, rfl⟩
    exact ⟨rfl, rfl⟩
  rintro ys ρ ⟨rfl, rfl⟩
  refine ok_nil ⟨_, gTupleOf_ok, defK_rt rfl ⟨?_, rfl⟩⟩
  show PyData.tuple (ws.map fun w => oD (entO w)) = .tuple ((ws.map entO).map oD)
  rw [List.map_map]; rfl
theorem cut_dropLast (ds : List D) : cutD ds none (some (-1 : Int)) = ds.dropLast := by
  unfold cutD
  rw [HT.sIx_none, List.drop_zero, Nat.sub_zero, List.dropLast_eq_take]
  congr 1
  simp only [HT.sIx]
  rw [if_pos (by omega)]
  omega
section
variable {x l0 : Str} {ls : List Str}
abbrev rs2 : Ev → Out Fl := mStar 3 4 (mLst (mLc (mSeqD (mLst (mStrML gSplit (mVar 0) (mC (.str "\n"))))) (gN 5) mYes (mLst (mStrML gSplit (mVar 5) (mC (.str " ")))) [5]))
abbrev rs3 : Ev → Out Fl := mSet 1 (mCallD m__entries [none] (mCons (mVar 3) mNil))
abbrev rs4 : Ev → Out Fl := mSet 2 (mCall gTupleOf (mCons (mLst (mLc (mSeqD (mSl (mVar 4) mNoP (mPart (mUn gNeg (mC (.int 1)))))) (gN 5) mYes (mCallD m__entries [none] (mCons (mVar 5) mNil)) [5])) mNil))
abbrev rst : Ev → Out Bool := mOrB (mNotB (mTru (mCallD m_is_view [none] (mCons (mVar 1) mNil)))) (mOrB (mNotB (mTru (mCallD m_is_table [none, none] (mCons (mVar 1) (mCons (mVar 2) mNil))))) (mTest bNe (mCallD m_table_text [none, none] (mCons (mVar 1) (mCons (mVar 2) mNil))) (mVar 0)))
def Good (x l0 : Str) (ls : List Str) (v : List Nat) (c : Nat) (t : List (List (Option Nat))) : Prop := Vw v c ∧ Tab v.length c t ∧ ents l0 = v.map some ∧ ls.dropLast.map ents = t ∧ TT v t = x
theorem rs2_ok (hx : x.length ≤ 1000000) (e : lns x = l0 :: ls) : Ok (rs2 [some (.str x), none, none, none, none, none]) (fun fl ρ => fl = .nx ∧ ρ = [some (.str x), none, none, some (wlD l0), some (.list (ls.map wlD)), none]) := by
  have hnl := len_nl
  have hs1 : (Str.ofString " ").length = 1 := by decide +kernel
  refine ok_star (ok_lst (ok_lc (ok_seqD (ok_lst (ok_strML (ok_var (d := .str x) rfl ⟨x, rfl, ok_c ⟨(lns x).map .str, ?_, _, rfl, ?_⟩⟩))))))
  · show (if ((Str.ofString "\n").length == 0) = false ∧ x.length + 2 ≤ 16777216 then some ((Txt.split x (Str.ofString "\n")).map PyData.str) else none) = _
    rw [if_pos ⟨by rw [hnl]; rfl, by omega⟩]; rfl
  refine (comp_map (enc := PyData.str) wlD (l := lns x) fun l hl => ?_).mono ?_
  · have := lns_le hl
    refine ⟨_, rfl, ok_lst (ok_strML (ok_var (d := .str l) rfl ⟨l, rfl, ok_c ⟨(wrds l).map .str, ?_, rfl, rfl⟩⟩))⟩
    show (if ((Str.ofString " ").length == 0) = false ∧ l.length + 2 ≤ 16777216 then some ((Txt.split l (Str.ofString " ")).map PyData.str) else none) = _
    rw [if_pos ⟨by rw [hs1]; rfl, by omega⟩]; rfl
  rintro ys ρ ⟨rfl, rfl⟩
  rw [e]
  exact ⟨_, _, rfl, rfl, rfl⟩
theorem rs3_ok (hx : x.length ≤ 1000000) (e : lns x = l0 :: ls) : Ok (rs3 [some (.str x), none, none, some (wlD l0), some (.list (ls.map wlD)), none]) (fun fl ρ => fl = .nx ∧ ρ = [some (.str x), some (rD (ents l0)), none, some (wlD l0), some (.list (ls.map wlD)), none]) := by
  have := lns_le (x := x) (l := l0) (by rw [e]; exact List.mem_cons_self)
  refine ok_set (ok_callD (ok_cons (ok_var (d := wlD l0) rfl (ok_nil ⟨_, rfl, ?_⟩))))
  refine (entries_any (by omega)).mono ?_
  rintro z os ⟨rfl, rfl⟩
  exact ⟨rfl, rfl⟩
theorem rs4_ok (hx : x.length ≤ 1000000) (e : lns x = l0 :: ls) : Ok (rs4 [some (.str x), some (rD (ents l0)), none, some (wlD l0), some (.list (ls.map wlD)), none]) (fun fl ρ => fl = .nx ∧ ρ = [some (.str x), some (rD (ents l0)), some (tabD (ls.dropLast.map ents)), some (wlD l0), some (.list (ls.map wlD)), none]) := by
  refine ok_set (ok_call (ok_cons (ok_lst (ok_lc (ok_seqD (ok_slL (ok_var (d := .list (ls.map wlD)) rfl (ok_noP (ok_part (ok_un (ok_c ⟨.int (-1), rfl, -1, rfl, _, rfl, _, rfl, ?_⟩)))))))))))
  rw [cut_dropLast, ← List.map_dropLast]
  refine (comp_map (enc := wlD) (fun l => rD (ents l)) (l := ls.dropLast) fun l hl => ?_).mono ?_
  · have := lns_le (x := x) (l := l) (by rw [e]; exact List.mem_cons_of_mem _ (List.dropLast_subset _ hl))
    refine ⟨_, rfl, ok_callD (ok_cons (ok_var (d := wlD l) rfl (ok_nil ⟨_, rfl, ?_⟩)))⟩
    refine (entries_any (by omega)).mono ?_
    rintro z os ⟨rfl, rfl⟩
    exact ⟨rfl, rfl⟩
  rintro ys ρ ⟨rfl, rfl⟩
  refine ok_nil ⟨_, gTupleOf_ok, rfl, ?_⟩
  have e2 : tabD (ls.dropLast.map ents) = .tuple (ls.dropLast.map fun l => rD (ents l)) := by
    show PyData.tuple ((ls.dropLast.map ents).map rD) = _
    rw [List.map_map]; rfl
  rw [e2]; rfl
theorem oD_inj {a b : Option Nat} (h : oD a = oD b) : a = b := by
  cases a with
  | none => cases b with
    | none => rfl
    | some j => cases h
  | some i => cases b with
    | none => cases h
    | some j =>
      have h : PyData.int (i : Int) = .int (j : Int) := h
      injection h with h
      rw [Int.ofNat_inj.mp h]
theorem rD_tD {r : List (Option Nat)} {v : List Nat} (h : rD r = tD v) : r = v.map some := by
  rw [tD_rD] at h
  have h : r.map oD = (v.map some).map oD := by injection h
  exact List.map_inj_right (fun a b => oD_inj) |>.mp h
theorem vw_uniqT {v : List Nat} {c k : Nat} (h : Vw v c) (g : Vw v k) : c = k := by
  obtain ⟨a1, a2, a3, a4, a5⟩ := h
  obtain ⟨b1, b2, b3, b4, b5⟩ := g
  have := a4 (k - 1) (b5 (k - 1) (by omega))
  have := b4 (c - 1) (a5 (c - 1) (by omega))
  omega
theorem rst_ok (y3 y4 : Option D) : Ok (rst [some (.str x), some (rD (ents l0)), some (tabD (ls.dropLast.map ents)), y3, y4, none]) (fun b ρ => (b = false ↔ ∃ v c t, Good x l0 ls v c t) ∧ ρ = [some (.str x), some (rD (ents l0)), some (tabD (ls.dropLast.map ents)), y3, y4, none]) := by
  refine ok_orB (ok_notB (ok_tru (ok_callD (ok_cons (ok_var (d := rD (ents l0)) rfl (ok_nil ⟨_, rfl, ?_⟩))))))
  refine (view_any (rD (ents l0))).mono ?_
  rintro z os ⟨⟨b, rfl, hb⟩, rfl⟩
  cases b with
  | false =>
    refine ⟨false, rfl, L2.iteT ⟨⟨fun z => (by cases z), ?_⟩, rfl⟩⟩
    rintro ⟨v, c, t, g1, g2, g3, g4, g5⟩
    have := hb.mpr ⟨v, c, by rw [g3, ← tD_rD], g1⟩
    cases this
  | true =>
    obtain ⟨v, c, ev, hv⟩ := hb.mp rfl
    have ev2 := rD_tD ev
    refine ⟨true, rfl, L2.iteF ?_⟩
    refine ok_at (ρ' := [some (.str x), some (rD (ents l0)), some (tabD (ls.dropLast.map ents)), y3, y4, none]) rfl ?_
    refine ok_orB (ok_notB (ok_tru (ok_callD (ok_cons (ok_var (d := rD (ents l0)) rfl (ok_cons (ok_var (d := tabD (ls.dropLast.map ents)) rfl (ok_nil ⟨_, rfl, ?_⟩))))))))
    rw [ev]
    refine (table_any hv (tabD (ls.dropLast.map ents))).mono ?_
    rintro z os ⟨rfl, rfl⟩
    cases hb2 : tabB v.length c (tabD (ls.dropLast.map ents)) with
    | false =>
      refine ⟨false, rfl, L2.iteT ⟨⟨fun z => (by cases z), ?_⟩, by rw [← ev]; rfl⟩⟩
      rintro ⟨v', c', t, g1, g2, g3, g4, g5⟩
      have e1 : v' = v := List.map_inj_right (fun a b h => Option.some.inj h) |>.mp (g3.symm.trans ev2)
      subst e1
      have e2 := vw_uniqT g1 hv
      subst e2
      obtain ⟨d, zs, q, rfl, _⟩ := (table_is g1 g2).eq
      obtain ⟨d, zs', q', rfl, _⟩ := (table_any g1 (tabD t)).eq
      rw [q] at q'
      injection q' with q' _
      injection q' with q'
      rw [g4, ← q'] at hb2
      cases hb2
    | true =>
      obtain ⟨t, et, ht⟩ := tab_of hb2
      have et2 := tabD_inj et
      refine ⟨true, rfl, L2.iteF ?_⟩
      refine ok_at (ρ' := [some (.str x), some (tD v), some (tabD t), y3, y4, none]) (by rw [← et, ← ev]; rfl) ?_
      refine ok_test (ok_callD (ok_cons (ok_var (d := tD v) rfl (ok_cons (ok_var (d := tabD t) rfl (ok_nil ⟨_, rfl, ?_⟩))))))
      refine (table_text_ok hv ht).mono ?_
      rintro z os ⟨rfl, rfl⟩
      refine ok_var (d := .str x) rfl ⟨_, bNe_strs _ _, ?_, by rw [← et, ← ev]; rfl⟩
      constructor
      · intro z
        refine ⟨v, c, t, hv, ht, ev2, et2, ?_⟩
        rw [Bool.not_eq_false', beq_iff_eq] at z
        exact z
      · rintro ⟨v', c', t', g1, g2, g3, g4, g5⟩
        have e1 : v' = v := List.map_inj_right (fun a b h => Option.some.inj h) |>.mp (g3.symm.trans ev2)
        subst e1
        have e3 : t' = t := g4.symm.trans et2
        subst e3
        rw [g5]
        simp
end
end Pf
namespace Pf
open PySem MW L2 TL
section
variable {x l0 : Str} {ls : List Str} {v : List Nat} {c : Nat} {t : List (List (Option Nat))}
theorem read_yes (hx : x.length ≤ 1000000) (e : lns x = l0 :: ls) (g : Good x l0 ls v c t) : Ok (m_read_table [.str x]) (fun z os => z = .tuple [tD v, tabD t] ∧ os = [none]) := by
  refine ok_def (ρ0 := [some (.str x), none, none, none, none, none]) (by rfl) ?_
  unfold mb_read_table
  refine ok_seq (ok_ifS (ok_notB (ok_tru (ok_isD (ok_var (d := .str x) rfl ⟨true, rfl, L2.iteF (ok_next (then_nx ?_))⟩)))))
  refine ok_seq ((rs2_ok hx e).mono ?_)
  rintro fl ρ ⟨rfl, rfl⟩
  refine then_nx (ok_seq ((rs3_ok hx e).mono ?_))
  rintro fl ρ ⟨rfl, rfl⟩
  refine then_nx (ok_seq ((rs4_ok hx e).mono ?_))
  rintro fl ρ ⟨rfl, rfl⟩
  refine then_nx (ok_seq (ok_ifS ((rst_ok _ _).mono ?_)))
  rintro b ρ ⟨hb, rfl⟩
  rw [hb.mpr ⟨v, c, t, g⟩]
  refine L2.iteF (ok_next (then_nx ?_))
  obtain ⟨g1, g2, g3, g4, g5⟩ := g
  refine ok_at (ρ' := [some (.str x), some (tD v), some (tabD t), some (wlD l0), some (.list (ls.map wlD)), none]) (by rw [g3, g4, ← tD_rD]) ?_
  exact ok_ret (ok_tup (ok_cons (ok_var (d := tD v) rfl (ok_cons (ok_var (d := tabD t) rfl (ok_nil (defK_rt rfl ⟨rfl, rfl⟩)))))))
theorem read_no (hx : x.length ≤ 1000000) (e : lns x = l0 :: ls) (g : ¬ ∃ v c t, Good x l0 ls v c t) : Er (m_read_table [.str x]) "NoText" fun os => os = [none] := by
  refine er_def ?_
  unfold mb_read_table
  refine er_seq2 (ok_ifS (ok_notB (ok_tru (ok_isD (ok_var (d := .str x) rfl ⟨true, rfl, L2.iteF (ok_next ⟨rfl, ?_⟩)⟩)))))
  refine er_seq2 ((rs2_ok hx e).mono ?_)
  rintro fl ρ ⟨rfl, rfl⟩
  refine ⟨rfl, er_seq2 ((rs3_ok hx e).mono ?_)⟩
  rintro fl ρ ⟨rfl, rfl⟩
  refine ⟨rfl, er_seq2 ((rs4_ok hx e).mono ?_)⟩
  rintro fl ρ ⟨rfl, rfl⟩
  refine ⟨rfl, er_seq (er_ifY ((rst_ok _ _).mono ?_))⟩
  rintro b ρ ⟨hb, rfl⟩
  cases b with
  | true => exact ⟨rfl, rfl, rfl, rfl⟩
  | false => exact absurd (hb.mp rfl) g
theorem entO_wS {e : Option Nat} (h : ∀ i, e = some i → i < 10) : entO (wS e) = e := by
  cases e with
  | none => decide +kernel
  | some i =>
    have hi := h i rfl
    unfold entO
    show (match tl (dg i) with | [a] => if 48 ≤ a ∧ a < 58 then some (a - 48) else none | _ => none) = some i
    rw [(dg_small i hi).1]
    show (if 48 ≤ 48 + i ∧ 48 + i < 58 then some (48 + i - 48) else none) = some i
    rw [if_pos (by omega)]
    congr 1; omega
theorem free32 {r : List (Option Nat)} (h : Sm10 r) : ∀ p ∈ r.map fun e => tl (wS e), 32 ∉ p := by
  intro p hp
  obtain ⟨e, he, rfl⟩ := List.mem_map.mp hp
  obtain ⟨a, ea, ha⟩ := wS_tl (h e he)
  show 32 ∉ tl (wS e)
  rw [ea, List.mem_singleton]
  omega
theorem join_cons {S p : List Nat} {ps : List (List Nat)} (h : ps ≠ []) : joinL S (p :: ps) = p ++ (S ++ joinL S ps) := by
  cases ps with
  | nil => exact absurd rfl h
  | cons q r => rfl
theorem wrds_of {l w : Str} {p : List Nat} {r : List (Option Nat)} (h : Sm10 r) (hr : 1 ≤ r.length) (ep : tl w = p) (hp : 32 ∉ p) (e : tl l = p ++ (32 :: tl (wds r))) : wrds l = w :: r.map wS := by
  refine map_tl_inj ?_
  rw [wrds_tl, List.map_cons, ep, List.map_map]
  have e2 : tl l = joinL [32] (p :: r.map fun e => tl (wS e)) := by
    rw [join_cons (by intro z; rw [List.map_eq_nil_iff] at z; rw [z] at hr; simp at hr), e, wds_tl]; rfl
  rw [e2]
  refine spl_join (s := 32) (S := []) (by simp) fun q hq => ?_
  rcases List.mem_cons.mp hq with rfl | hq
  · exact hp
  · exact free32 h q hq
theorem ents_of {l w : Str} {r : List (Option Nat)} (h : Sm10 r) (e : wrds l = w :: r.map wS) : ents l = r := by
  unfold ents
  rw [e]
  show (r.map wS).map entO = r
  rw [List.map_map]
  conv => rhs; rw [← List.map_id r]
  exact List.map_congr_left fun e he => entO_wS (h e he)
theorem ents_view (hv : Vw v c) : ents (line0 v) = v.map some := by
  have hl := hv.1
  refine ents_of (view_sm hv) (wrds_of (p := [118, 105, 101, 119]) (w := Str.ofString "view") (view_sm hv) (by rw [List.length_map]; exact hl) (by decide +kernel) (by decide) ?_)
  have e1 : tl (Str.ofString "view ") = [118, 105, 101, 119, 32] := by decide +kernel
  unfold line0
  rw [tl_append, tl_append, e1]; rfl
theorem ents_row {i : Nat} {r : List (Option Nat)} (hi : i < 10) (h : Sm10 r) (hr : 1 ≤ r.length) : ents (lineR i r) = r := by
  have ed := (dg_small i hi).1
  have e1 : tl (Str.ofString ": ") = [58, 32] := by decide +kernel
  refine ents_of h (wrds_of (p := [48 + i, 58]) (w := dg i ++ Str.ofString ":") h hr ?_ (by simp only [List.mem_cons, List.not_mem_nil, or_false]; omega) ?_)
  · have e2 : tl (Str.ofString ":") = [58] := by decide +kernel
    rw [tl_append, ed, e2]; rfl
  · unfold lineR
    rw [tl_append, tl_append, tl_append, ed, e1]; rfl
theorem wds_free {r : List (Option Nat)} (h : Sm10 r) : 10 ∉ tl (wds r) := fun hm => by
  rw [wds_tl] at hm
  rcases joinL_mem hm with z | ⟨p, hp, z⟩
  · simp at z
  · obtain ⟨e, he, rfl⟩ := List.mem_map.mp hp
    obtain ⟨a, ea, ha⟩ := wS_tl (h e he)
    have z : 10 ∈ tl (wS e) := z
    rw [ea, List.mem_singleton] at z
    omega
theorem line_free (hv : Vw v c) (ht : Tab v.length c t) {l : Str} (h : l ∈ linesOf v t) : 10 ∉ tl l := by
  rcases List.mem_cons.mp h with rfl | h
  · have e1 : tl (Str.ofString "view ") = [118, 105, 101, 119, 32] := by decide +kernel
    have := wds_free (view_sm hv)
    unfold line0
    rw [tl_append, tl_append, e1]
    intro z
    rcases List.mem_append.mp z with z | z
    · exact absurd z (by decide)
    · exact this z
  · obtain ⟨k, hk, e⟩ := List.mem_iff_getElem.mp h
    rw [rowsFrom_len] at hk
    have e2 := rowsFrom_at 0 t k hk
    rw [List.getElem?_eq_getElem (by rw [rowsFrom_len]; exact hk), e] at e2
    have e2 := Option.some.inj e2
    obtain ⟨h1, h2, _⟩ := tab_row10 hv ht (List.getElem_mem hk)
    have := wds_free h1
    have ed := (dg_small (0 + k) (by have := ht.1; have := hv.2.1; omega)).1
    have e1 : tl (Str.ofString ": ") = [58, 32] := by decide +kernel
    rw [e2]
    unfold lineR
    rw [tl_append, tl_append, tl_append, ed, e1]
    intro z
    rcases List.mem_append.mp z with z | z
    · have z : 10 ∈ [] ++ [48 + (0 + k)] ++ [58, 32] := z
      simp only [List.nil_append, List.cons_append, List.mem_cons, List.not_mem_nil, or_false] at z
      omega
    · exact this z
theorem spl_lines : ∀ ls : List (List Nat), (∀ l ∈ ls, 10 ∉ l) → spl [10] 0 [] ((ls.map fun l => l ++ [10]).flatten) = ls ++ [[]]
  | [], _ => rfl
  | l :: ls, h => by
    rw [List.map_cons, List.flatten_cons, List.append_assoc]
    have := spl_part1 (s := 10) (S := []) (p := l) (rest := (ls.map fun l => l ++ [10]).flatten) (acc := []) (h l List.mem_cons_self)
    rw [show l ++ ([10] ++ (ls.map fun l => l ++ [10]).flatten) = l ++ (10 :: [] ++ (ls.map fun l => l ++ [10]).flatten) from rfl, this, spl_lines ls fun q hq => h q (List.mem_cons_of_mem _ hq)]
    rfl
theorem lns_TT (hv : Vw v c) (ht : Tab v.length c t) : lns (TT v t) = line0 v :: (rowsFrom 0 t ++ [Str.empty]) := by
  refine map_tl_inj ?_
  rw [lns_tl, TT_tl]
  have e : ((linesOf v t).map fun l => tl l ++ [10]) = ((linesOf v t).map tl).map fun l => l ++ [10] := by rw [List.map_map]; rfl
  rw [e, spl_lines _ fun p hp => by
    obtain ⟨l, hl, rfl⟩ := List.mem_map.mp hp
    exact line_free hv ht hl]
  unfold linesOf
  rw [List.map_cons, List.map_cons, List.map_append]
  rfl
theorem rows_ents (hv : Vw v c) : ∀ (i : Nat) (t : List (List (Option Nat))), i + t.length ≤ 10 → (∀ r ∈ t, Sm10 r ∧ 1 ≤ r.length) → (rowsFrom i t).map ents = t
  | _, [], _, _ => rfl
  | i, r :: t, hi, h => by
    rw [List.length_cons] at hi
    rw [rowsFrom, List.map_cons, rows_ents hv (i + 1) t (by omega) fun q hq => h q (List.mem_cons_of_mem _ hq), ents_row (by omega) (h r List.mem_cons_self).1 (h r List.mem_cons_self).2]
theorem good_TT (hv : Vw v c) (ht : Tab v.length c t) : Good (TT v t) (line0 v) (rowsFrom 0 t ++ [Str.empty]) v c t := by
  refine ⟨hv, ht, ents_view hv, ?_, rfl⟩
  rw [List.dropLast_concat]
  exact rows_ents hv 0 t (by have := ht.1; have := hv.2.1; omega) fun r hr => ⟨(tab_row10 hv ht hr).1, (tab_row10 hv ht hr).2.2⟩
theorem flatT_len {b : Nat} : ∀ {ls : List Str}, (∀ l ∈ ls, l.length ≤ b) → (ls.map fun l => tl l ++ [10]).flatten.length ≤ (b + 1) * ls.length
  | [], _ => by simp
  | l :: ls, h => by
    have := flatT_len (ls := ls) fun q hq => h q (List.mem_cons_of_mem _ hq)
    have h1 := h l List.mem_cons_self
    rw [len_tl] at h1
    rw [List.map_cons, List.flatten_cons, List.length_append, List.length_append, List.length_singleton, List.length_cons, Nat.mul_add, Nat.mul_one]
    omega
theorem TT_len (hv : Vw v c) (ht : Tab v.length c t) : 5 ≤ (TT v t).length ∧ (TT v t).length ≤ 240 := by
  rw [len_tl, TT_tl]
  have h1 := flatT_len (b := 23) fun l hl => line_len hv ht hl
  have h2 := lines_len hv ht
  refine ⟨?_, by omega⟩
  unfold linesOf
  rw [List.map_cons, List.flatten_cons, List.length_append, List.length_append]
  have e1 : tl (Str.ofString "view ") = [118, 105, 101, 119, 32] := by decide +kernel
  unfold line0
  rw [tl_append, tl_append, e1, List.length_append, List.length_append]
  simp only [List.length_cons, List.length_nil]
  omega
theorem read_TT (hv : Vw v c) (ht : Tab v.length c t) : Ok (m_read_table [.str (TT v t)]) (fun z os => z = .tuple [tD v, tabD t] ∧ os = [none]) :=
  read_yes (by have := (TT_len hv ht).2; omega) (lns_TT hv ht) (good_TT hv ht)
theorem lany_ok {N : Int} {d : D} (h : Pen N d) (hN : N ≤ 100000) (hv : Vw v c) : Ok (m__law_any [d, tD v]) (fun z os => ∃ t p, z = tabD t ∧ Tab v.length c t ∧ os = [some p, none] ∧ Pen (N + 100) p) := by
  have hv0 := hv
  obtain ⟨v1, v2, v3, v4, v5⟩ := hv
  refine ok_def (ρ0 := [some d, some (tD v), none, none, none, none, none]) (by rfl) ?_
  unfold mb__law_any
  refine ok_seq (ok_setL (ok_nil (then_nx ?_)))
  refine ok_at (ρ' := [some d, some (tD v), some (.list []), none, none, none, none]) rfl ?_
  refine ok_seq (ok_for (ok_range1 (ok_cons (ok_call (ok_cons (ok_var (d := tD v) rfl (ok_nil ⟨_, gLenT_ok, ok_nil ⟨_, rfl, by rw [List.length_map]; omega, ?_⟩⟩)))))))
  rw [List.length_map]
  refine for_inv (fun k ρ => ∃ (p : D) (t : List (List (Option Nat))) (x3 x4 x5 x6 : Option D), ρ = [some p, some (tD v), some (.list (t.map rD)), x3, x4, none, none] ∧ Pen (N + 10 * k) p ∧ t.length = k ∧ ∀ r ∈ t, RowOk v.length c r) 0 ⟨d, [], none, none, none, none, rfl, pen_le h (by omega), rfl, (fun r hr => by cases hr)⟩ ?_ ?_
  · rintro i e ρ hi0 ⟨p, t, x3, x4, x5, x6, rfl, hp, htl, ht⟩
    obtain ⟨hi, rfl⟩ := rangeD_at hi0
    rw [Int.toNat_natCast] at hi
    refine ⟨_, rfl, ?_⟩
    refine ok_at (ρ' := [some p, some (tD v), some (.list (t.map rD)), some (nD i), x4, none, none]) rfl ?_
    refine ok_seq (ok_set (ok_lst (ok_lc (ok_range1 (ok_cons (ok_bin (ok_call (ok_cons (ok_var (d := tD v) rfl (ok_nil ⟨_, max_view hv0, ok_c ⟨_, gAdd_ok, ok_nil ⟨_, rfl, by omega, ?_⟩⟩⟩))))))))))
    rw [show ((c : Int) - 1 + 1).toNat = c by omega, rangeD_nD]
    refine ok_at (ρ' := [some p, some (tD v), some (.list (t.map rD)), some (nD i), x4, none, none]) rfl ?_
    refine comp_list (fun k ys ρ => ∃ (p : D) (r : List Nat), ρ = [some p, some (tD v), some (.list (t.map rD)), some (nD i), x4, none, none] ∧ Pen (N + 10 * (0 + i : Nat) + k) p ∧ ys = r.map nD ∧ r.length = k ∧ ∀ x ∈ r, x ≤ v.length) ⟨p, [], rfl, pen_le hp (by omega), rfl, rfl, fun x hx => by cases hx⟩ ?_ ?_
    · rintro w hw ys ρ ⟨p, r, rfl, hp, rfl, hrl, hr⟩
      obtain ⟨e, hw⟩ := range_get hw
      refine ⟨_, rfl, ok_yes ?_⟩
      refine L2.iteT ?_
      refine ok_callD (ok_lend (d := p) rfl (ok_cons (ok_bin (ok_call (ok_cons (ok_var (d := tD v) rfl (ok_nil ⟨_, gLenT_ok, ok_c ⟨_, gAdd_ok, ok_nil ⟨_, rfl, ?_⟩⟩⟩)))))))
      rw [List.length_map]
      refine (draw_ok hp (by omega) (by omega) (by omega)).mono ?_
      rintro z os ⟨x, p, rfl, h4, h5, rfl, hp⟩
      obtain ⟨x, rfl⟩ := Int.eq_ofNat_of_zero_le h4
      refine ⟨p, r ++ [x], rfl, pen_le hp (by omega), by simp, by simp [hrl], fun y hy => ?_⟩
      rcases List.mem_append.mp hy with z | z
      · exact hr y z
      · rw [List.mem_singleton.mp z]; omega
    · rintro ys ρ ⟨p, r, rfl, hp, rfl, hrl, hr⟩
      rw [List.length_range] at hrl hp
      refine then_nx ?_
      refine ok_at (ρ' := [some p, some (tD v), some (.list (t.map rD)), some (nD i), some (.list (r.map nD)), none, none]) rfl ?_
      refine ok_drop (ok_upd (d := .list (t.map rD)) rfl (ok_cons (ok_call (ok_cons (ok_lst (ok_lc (ok_seqD (ok_var (d := .list (r.map nD)) rfl ⟨_, rfl, ?_⟩))))))))
      refine (comp_map (enc := nD) (fun x => oD (if x = v.length then none else some x)) (l := r) fun x hx => ?_).mono ?_
      · refine ⟨_, rfl, ok_if (ok_test (ok_var (d := nD x) rfl (ok_call (ok_cons (ok_var (d := tD v) rfl (ok_nil ⟨_, gLenT_ok, _, bEq_int _ _, ?_⟩))))))⟩
        rw [List.length_map]
        by_cases hc : x = v.length
        · rw [if_pos hc, show (((x : Nat) : Int) == ((v.length : Nat) : Int)) = true by rw [hc]; exact beq_self_eq_true _]
          exact L2.iteT (ok_c ⟨rfl, rfl⟩)
        · rw [if_neg hc, show (((x : Nat) : Int) == ((v.length : Nat) : Int)) = false by rw [beq_eq_false_iff_ne]; omega]
          exact L2.iteF (ok_var (d := nD x) rfl ⟨rfl, rfl⟩)
      rintro ys ρ ⟨rfl, rfl⟩
      refine ok_nil ⟨_, gTupleOf_ok, ok_nil ⟨_, _, _, rfl, fApp_ok (by rw [List.length_map]; omega), ?_⟩⟩
      refine ⟨p, t ++ [r.map fun x => if x = v.length then none else some x], some (nD i), some (.list (r.map nD)), x5, x6, ?_, pen_le hp (by omega), by rw [List.length_append]; simp; omega, fun q hq => ?_⟩
      · rw [List.map_append]
        have e3 : rD (r.map fun x => if x = v.length then none else some x) = .tuple (r.map fun x => oD (if x = v.length then none else some x)) := by
          show PyData.tuple ((r.map fun x => if x = v.length then none else some x).map oD) = _
          rw [List.map_map]; rfl
        rw [show [r.map fun x => if x = v.length then none else some x].map rD = [.tuple (r.map fun x => oD (if x = v.length then none else some x))] by rw [← e3]; rfl]
        rfl
      · rcases List.mem_append.mp hq with z | z
        · exact ht q z
        · rw [List.mem_singleton.mp z]
          refine ⟨by rw [List.length_map, hrl], fun e he j hj => ?_⟩
          obtain ⟨x, hx, rfl⟩ := List.mem_map.mp he
          have := hr x hx
          split at hj
          · cases hj
          · cases hj; omega
  · rintro ρ ⟨p, t, x3, x4, x5, x6, rfl, hp, htl, ht⟩
    rw [rangeD_len, Int.toNat_natCast] at htl hp
    refine then_nx (ok_ret (ok_callO (d := .list (t.map rD)) rfl gTupleOf_ok (defK_rt rfl ⟨t, p, rfl, ⟨by omega, ht⟩, rfl, pen_le hp (by omega)⟩)))
end
end Pf
namespace Pf
open PySem MW L2 TL
theorem ok_slS {ma : Ev → Out D} {ml mh : Ev → Out (Option Int)} {ρ : Ev} {P : D → Ev → Prop} (h : Ok (ma ρ) fun d ρ1 => Ok (ml ρ1) fun lo ρ2 => Ok (mh ρ2) fun hi ρ3 => ∃ z, d = .str z ∧ z.length ≤ 16777216 ∧ P (.str (cutS z lo hi)) ρ3) : Ok (mSlS ma ml mh ρ) P :=
  ok_bind (h.mono fun d ρ1 k => ok_bind (k.mono fun lo ρ2 k => ok_bind (k.mono fun hi ρ3 ⟨z, e, l, k3⟩ => by subst e; exact ok_of (if_pos l) k3)))
theorem ok_try_er {mb mh : Ev → Out Fl} {cs : List (Str × Bool)} {ρ : Ev} {PF : Fl → Ev → Prop} {c : Str} {PE : Ev → Prop} (h : Er (mb ρ) c PE) (hc : cs.lookup c = some true) (k : ∀ ρ1, PE ρ1 → Ok (mh ρ1) PF) : Ok (mTry mb cs mh ρ) PF := by
  obtain ⟨ρ1, e, p⟩ := h.eq
  unfold mTry
  rw [e]
  show Ok (match cs.lookup c with | some true => noE (mh ρ1) | some false => .err c ρ1 | none => .bad) PF
  rw [hc]
  exact ok_noE (k ρ1 p)
theorem cutS_to {z : Str} {k : Nat} (h : k ≤ z.length) : (cutS z none (some (k : Int))).length = k := by
  have e : z.cps.toList.length = z.length := by rw [len_tl]
  show (((z.cps.toList.drop (HT.sIx z.length 0 none)).take (HT.sIx z.length z.length (some (k : Int)) - HT.sIx z.length 0 none)).toArray).size = k
  rw [List.size_toArray, HT.sIx_none, HT.sIx_nat, List.length_take, List.length_drop, e]
  omega
theorem cutS_from {z : Str} {k : Nat} (h : k ≤ z.length) : (cutS z (some (k : Int)) none).length = z.length - k := by
  have e : z.cps.toList.length = z.length := by rw [len_tl]
  show (((z.cps.toList.drop (HT.sIx z.length 0 (some (k : Int)))).take (HT.sIx z.length z.length none - HT.sIx z.length 0 (some (k : Int)))).toArray).size = _
  rw [List.size_toArray, HT.sIx_none, HT.sIx_nat, List.length_take, List.length_drop, e]
  omega
theorem signs10 : ∀ i : Nat, i < 10 → (atI (Str.ofString "0123-: \nv8").cps.toList (i : Int)).isSome = true := by decide +kernel
theorem sign_ok {i : Nat} (h : i < 10) : ∃ y : Str, gIxS (.str (Str.ofString "0123-: \nv8")) (nD i) = some (.str y) ∧ y.length = 1 := by
  obtain ⟨a, ea⟩ := Option.isSome_iff_exists.mp (signs10 i h)
  refine ⟨⟨#[a]⟩, ?_, rfl⟩
  have hl : (Str.ofString "0123-: \nv8").length ≤ 16777216 := by decide +kernel
  show (if (Str.ofString "0123-: \nv8").length ≤ 16777216 then (atI (Str.ofString "0123-: \nv8").cps.toList (i : Int)).map fun c => PyData.str ⟨#[c]⟩ else none) = _
  rw [if_pos hl, ea]; rfl
section
variable {x : Str} {pl : Nat} {ρ : Ev} {P : D → Ev → Prop}
theorem sl_to (e1 : rd ρ 1 = some (.str x)) (e3 : rd ρ 3 = some (nD pl)) (l : x.length ≤ 1000) (h : P (.str (cutS x none (some (pl : Int)))) ρ) : Ok (mSlS (mVar 1) mNoP (mPart (mVar 3)) ρ) P :=
  ok_slS (ok_var e1 (ok_noP (ok_part (ok_var e3 ⟨(pl : Int), rfl, x, rfl, by omega, h⟩))))
theorem sl_from (e1 : rd ρ 1 = some (.str x)) (e3 : rd ρ 3 = some (nD pl)) (l : x.length ≤ 1000) (h : P (.str (cutS x (some (pl : Int)) none)) ρ) : Ok (mSlS (mVar 1) (mPart (mVar 3)) mNoP ρ) P :=
  ok_slS (ok_var e1 (ok_part (ok_var e3 ⟨(pl : Int), rfl, ok_noP ⟨x, rfl, by omega, h⟩⟩)))
theorem sl_from1 (e1 : rd ρ 1 = some (.str x)) (e3 : rd ρ 3 = some (nD pl)) (l : x.length ≤ 1000) (h : P (.str (cutS x (some ((pl : Int) + 1)) none)) ρ) : Ok (mSlS (mVar 1) (mPart (mBin gAdd (mVar 3) (mC (.int 1)))) mNoP ρ) P :=
  ok_slS (ok_var e1 (ok_part (ok_bin (ok_var e3 (ok_c ⟨_, gAdd_ok, (pl : Int) + 1, rfl, ok_noP ⟨x, rfl, by omega, h⟩⟩)))))
end
theorem turnedT_ok {N : Int} {d : D} {x : Str} (h : Pen N d) (hN : N ≤ 100000) (h1 : 1 ≤ x.length) (h2 : x.length ≤ 1000) :
    Ok (m__law_turned_v3 [d, .str x]) (fun z os => ∃ y p, z = .str y ∧ x.length ≤ y.length + 1 ∧ y.length ≤ x.length + 1 ∧ os = [some p, none] ∧ Pen (N + 3) p) := by
  refine ok_def (ρ0 := [some d, some (.str x), none, none, none]) (by rfl) ?_
  unfold mb__law_turned_v3
  refine ok_seq (ok_par (ok_cons (ok_callD (ok_lend (d := d) rfl (ok_cons (ok_call (ok_cons (ok_var (d := .str x) rfl (ok_nil ⟨.int (x.length : Nat), if_pos (by omega), ok_nil ⟨_, rfl, ?_⟩⟩)))))))))
  refine (draw_ok h (by omega) (by omega) (by omega)).mono ?_
  rintro z os ⟨pl, p, rfl, p0, p1, rfl, hp⟩
  obtain ⟨pl, rfl⟩ := Int.eq_ofNat_of_zero_le p0
  refine ok_cons (ok_callD (ok_lend (d := p) rfl (ok_cons (ok_c (ok_nil ⟨_, rfl, ?_⟩)))))
  refine (draw_ok hp (by omega) (by omega) (by omega)).mono ?_
  rintro z os ⟨kd, p, rfl, k0, k1, rfl, hp⟩
  refine ok_nil ⟨_, _, rfl, then_nx ?_⟩
  refine ok_at (ρ' := [some p, some (.str x), none, some (nD pl), some (.int kd)]) rfl ?_
  refine ok_seq (ok_set (ok_bin (ok_c (ok_callD (ok_lend (d := p) rfl (ok_cons (ok_c (ok_nil ⟨_, rfl, ?_⟩))))))))
  refine (draw_ok hp (by omega) (by omega) (by omega)).mono ?_
  rintro z os ⟨sg, p, rfl, s0, s1, rfl, hp⟩
  obtain ⟨sg, rfl⟩ := Int.eq_ofNat_of_zero_le s0
  obtain ⟨y, ey, hy⟩ := sign_ok (i := sg) (by omega)
  refine ⟨_, ey, then_nx ?_⟩
  refine ok_at (ρ' := [some p, some (.str x), some (.str y), some (nD pl), some (.int kd)]) rfl ?_
  have hpl : pl + 1 ≤ x.length := by omega
  have ct := cutS_to (z := x) (k := pl) (by omega)
  have cf := cutS_from (z := x) (k := pl) (by omega)
  have cf1 := cutS_from (z := x) (k := pl + 1) (by omega)
  have e1 : (((pl + 1 : Nat)) : Int) = (pl : Int) + 1 := by omega
  rw [e1] at cf1
  refine ok_seq (ok_ifS (ok_test (ok_var (d := .int kd) rfl (ok_c ⟨_, bEq_int _ _, ?_⟩))))
  cases hk0 : (kd == 0) with
  | true =>
    refine L2.iteT (ok_ret (ok_bin ?_))
    refine sl_to rfl rfl h2 (sl_from1 rfl rfl h2 ⟨_, gAdd_str (by omega), then_rt (defK_rt rfl ⟨_, p, rfl, ?_, ?_, rfl, pen_le hp (by omega)⟩)⟩)
    · rw [app_len]; omega
    · rw [app_len]; omega
  | false =>
    refine L2.iteF (ok_next (then_nx ?_))
    refine ok_seq (ok_ifS (ok_test (ok_var (d := .int kd) rfl (ok_c ⟨_, bEq_int _ _, ?_⟩))))
    cases hk1 : (kd == 1) with
    | true =>
      refine L2.iteT (ok_ret (ok_bin (ok_bin ?_)))
      refine sl_to rfl rfl h2 (ok_var (d := .str y) rfl ⟨_, gAdd_str (by omega), sl_from rfl rfl h2 ⟨_, gAdd_str (by rw [app_len]; omega), then_rt (defK_rt rfl ⟨_, p, rfl, ?_, ?_, rfl, pen_le hp (by omega)⟩)⟩⟩)
      · rw [app_len, app_len]; omega
      · rw [app_len, app_len]; omega
    | false =>
      refine L2.iteF (ok_next (then_nx ?_))
      refine ok_ret (ok_bin (ok_bin ?_))
      refine sl_to rfl rfl h2 (ok_var (d := .str y) rfl ⟨_, gAdd_str (by omega), sl_from1 rfl rfl h2 ⟨_, gAdd_str (by rw [app_len]; omega), defK_rt rfl ⟨_, p, rfl, ?_, ?_, rfl, pen_le hp (by omega)⟩⟩⟩)
      · rw [app_len, app_len]; omega
      · rw [app_len, app_len]; omega
theorem lread_yes {x l0 : Str} {ls : List Str} {v : List Nat} {c : Nat} {t : List (List (Option Nat))} (hx : x.length ≤ 1000000) (e : lns x = l0 :: ls) (g : Good x l0 ls v c t) : Ok (m__law_read_v2 [.str x]) (fun z os => z = .tuple [tD v, tabD t] ∧ os = [none]) := by
  refine ok_def (ρ0 := [some (.str x)]) (by rfl) ?_
  unfold mb__law_read_v2
  refine ok_try (ok_ret (ok_callD (ok_cons (ok_var (d := .str x) rfl (ok_nil ⟨_, rfl, ?_⟩)))))
  refine (read_yes hx e g).mono ?_
  rintro z os ⟨rfl, rfl⟩
  exact defK_rt rfl ⟨rfl, rfl⟩
theorem lread_no {x l0 : Str} {ls : List Str} (hx : x.length ≤ 1000000) (e : lns x = l0 :: ls) (g : ¬ ∃ v c t, Good x l0 ls v c t) : Ok (m__law_read_v2 [.str x]) (fun z os => z = .none ∧ os = [none]) := by
  refine ok_def (ρ0 := [some (.str x)]) (by rfl) ?_
  unfold mb__law_read_v2
  refine ok_try_er (c := "NoText") (PE := fun ρ => ρ = [some (.str x)]) (er_ret (er_callD (ok_cons (ok_var (d := .str x) rfl (ok_nil ⟨_, rfl, ?_⟩))))) (by decide +kernel) ?_
  · refine (read_no hx e g).mono ?_
    rintro os rfl
    rfl
  · rintro ρ1 rfl
    exact ok_ret (ok_c (defK_rt rfl ⟨rfl, rfl⟩))
end Pf
namespace Pf
open PySem MW L2 TL
theorem shaped_vt (v : List Nat) (t : Tb) : SeqAt.shaped (.tuple [tD v, tabD t]) = true := by
  have h1 := shaped_tab t
  have h2 : SeqAt.shaped (tD v) = true := by
    have e : PyData.depthAll (v.map nD) = 0 := by
      clear h1
      induction v with
      | nil => rfl
      | cons x v ih => rw [List.map_cons]; simp [PyData.depthAll, PyData.depth, ih]
    simp [SeqAt.shaped, PyData.canLay0, PyData.depth, canLay_nD v, e]
  have c1 := SeqAt.canLay_of_shaped h1
  have c2 := SeqAt.canLay_of_shaped h2
  have d1 : (tabD t).depth ≤ 2 := by
    have c0 : ∀ r : List (Option Nat), PyData.depthAll (r.map oD) = 0 := by
      intro r
      induction r with
      | nil => rfl
      | cons x r ih => rw [List.map_cons]; cases x <;> simp [PyData.depthAll, PyData.depth, oD, ih]
    have c1 : ∀ l : Tb, PyData.depthAll (l.map rD) ≤ 1 := by
      intro l
      induction l with
      | nil => exact Nat.zero_le _
      | cons q l ih =>
        rw [List.map_cons]
        simp only [PyData.depthAll, PyData.depth, c0 q]
        omega
    have := c1 t
    simp only [PyData.depth]
    omega
  have d2 : (tD v).depth ≤ 2 := by
    have e : PyData.depthAll (v.map nD) = 0 := by
      clear h1 h2 c1 c2 d1
      induction v with
      | nil => rfl
      | cons x v ih => rw [List.map_cons]; simp [PyData.depthAll, PyData.depth, ih]
    simp only [PyData.depth, e]
    omega
  unfold SeqAt.shaped
  rw [Bool.and_eq_true, decide_eq_true_eq]
  refine ⟨?_, ?_⟩
  · show PyData.canLayAll0 [tD v, tabD t] = true
    simp only [PyData.canLayAll0, c1, c2, Bool.and_true]
  · show (PyData.tuple [tD v, tabD t]).depth ≤ 64
    simp only [PyData.depth, PyData.depthAll]
    simp only [PyData.depth] at d1 d2
    omega
theorem bNe_vt (v : List Nat) (t : Tb) : bNe (.tuple [tD v, tabD t]) (.tuple [tD v, tabD t]) = some false := by
  unfold bNe
  rw [if_pos ⟨shaped_vt v t, shaped_vt v t⟩]
  have : PyData.eqv (.tuple [tD v, tabD t]) (.tuple [tD v, tabD t]) = true := by
    show (PyData.eqvAll (v.map nD) (v.map nD) && (PyData.eqvAll (t.map rD) (t.map rD) && true)) = true
    rw [eqv_nums, eqv_tab]; simp
  rw [this]; rfl
theorem head64 (ns : List Int) (hl : ns.length ≤ 63) {rest : Ev} {P : List D → Ev → Prop} (h : ∀ items : List D, (∀ d ∈ items, ∃ i : Int, d = .int i) → P items (some (.list (ns.map .int)) :: rest)) :
    Ok (mSeqD (mBin gAdd (mLst (mCons (mCallD m__law_cell_at [none, none] (mCons (mVar 0) (mCons (mC (.int 0)) mNil))) mNil)) (mSl (mVar 0) (mPart (mC (.int 1))) (mPart (mC (.int 3))))) (some (.list (ns.map .int)) :: rest)) P := by
  refine ok_seqD (ok_bin (ok_lst (ok_cons (ok_callD (ok_cons (ok_var (d := .list (ns.map .int)) rfl (ok_cons (ok_c (ok_nil ⟨_, rfl, ?_⟩)))))))))
  refine (cell_ok ns 0).mono ?_
  rintro z os ⟨i0, rfl, rfl⟩
  refine ok_nil (ok_slL (ok_var (d := .list (ns.map .int)) rfl (ok_part (ok_c ⟨1, rfl, ok_part (ok_c ⟨3, rfl, _, rfl, _, gAddL_ok ?_, _, rfl, ?_⟩)⟩))))
  · have := cut_len' (ns.map PyData.int) (some 1) (some 3)
    rw [List.length_map] at this
    simp only [List.length_cons, List.length_nil]
    omega
  refine h _ fun d hd => ?_
  rcases List.mem_append.mp hd with z | z
  · exact ⟨i0, List.mem_singleton.mp z⟩
  · obtain ⟨i, _, e⟩ := List.mem_map.mp (cut_mem z)
    exact ⟨i, e.symm⟩
end Pf
namespace Pf
open PySem MW L2 TL
theorem law_ok66 (ns : List Int) (hl : ns.length ≤ 63) : Ok (m_law_k66 [.list (ns.map .int)]) (fun z _ => z = .bool true) := by
  refine ok_def (ρ0 := [some (.list (ns.map .int)), none, none, none, none, none, none, none, none]) (by rfl) ?_
  unfold mb_law_k66
  refine ok_seq (ok_for (head64 ns hl fun items hit => ?_))
  refine for_inv (fun _ ρ => ∃ x1 x2 x3 x4 x5 x6 x7 x8, ρ = [some (.list (ns.map .int)), x1, x2, x3, x4, x5, x6, x7, x8]) 0 ⟨_, _, _, _, _, _, _, _, rfl⟩ ?_ ?_
  · rintro i e ρ hi ⟨x1, x2, x3, x4, x5, x6, x7, x8, rfl⟩
    obtain ⟨cell, rfl⟩ := hit e (List.mem_of_getElem? hi)
    refine ⟨_, rfl, ?_⟩
    refine ok_at (ρ' := [some (.list (ns.map .int)), some (.int cell), x2, x3, x4, x5, x6, x7, x8]) rfl ?_
    refine ok_seq (ok_setL (ok_callDL (ok_cons (ok_var (d := .int cell) rfl (ok_nil ⟨_, rfl, ?_⟩)))))
    refine (pen_ok cell).mono ?_
    rintro ds os ⟨hp, rfl⟩
    refine then_nx ?_
    generalize PyData.list ds = p at hp
    refine ok_at (ρ' := [some (.list (ns.map .int)), some (.int cell), some p, x3, x4, x5, x6, x7, x8]) rfl ?_
    refine ok_seq (ok_set (ok_callD (ok_lend (d := p) rfl (ok_cons (ok_c (ok_cons (ok_c (ok_nil ⟨_, rfl, ?_⟩))))))))
    refine (viewLH_ok (lw := 1) (up := 6) hp (by omega) (by omega) (by omega) (by omega)).mono ?_
    rintro z os ⟨v, c, p, rfl, hv, hl, rfl, hp⟩
    refine then_nx ?_
    refine ok_at (ρ' := [some (.list (ns.map .int)), some (.int cell), some p, some (tD v), x4, x5, x6, x7, x8]) rfl ?_
    refine ok_seq (ok_set (ok_callD (ok_lend (d := p) rfl (ok_cons (ok_var (d := tD v) rfl (ok_nil ⟨_, rfl, ?_⟩))))))
    refine (lany_ok hp (by omega) hv).mono ?_
    rintro z os ⟨t, p, rfl, ht, rfl, hp⟩
    refine then_nx ?_
    refine ok_at (ρ' := [some (.list (ns.map .int)), some (.int cell), some p, some (tD v), some (tabD t), x5, x6, x7, x8]) rfl ?_
    refine ok_seq (ok_set (ok_callD (ok_cons (ok_var (d := tD v) rfl (ok_cons (ok_var (d := tabD t) rfl (ok_nil ⟨_, rfl, ?_⟩)))))))
    refine (table_text_ok hv ht).mono ?_
    rintro z os ⟨rfl, rfl⟩
    refine then_nx ?_
    have hT := TT_len hv ht
    refine ok_at (ρ' := [some (.list (ns.map .int)), some (.int cell), some p, some (tD v), some (tabD t), some (.str (TT v t)), x6, x7, x8]) rfl ?_
    refine ok_seq (ok_ifS (ok_test (ok_callD (ok_cons (ok_var (d := .str (TT v t)) rfl (ok_nil ⟨_, rfl, ?_⟩))))))
    refine (read_TT hv ht).mono ?_
    rintro z os ⟨rfl, rfl⟩
    refine ok_tup (ok_cons (ok_var (d := tD v) rfl (ok_cons (ok_var (d := tabD t) rfl (ok_nil ⟨false, bNe_vt v t, ?_⟩)))))
    refine L2.iteF (ok_next (then_nx ?_))
    refine ok_at (ρ' := [some (.list (ns.map .int)), some (.int cell), some p, some (tD v), some (tabD t), some (.str (TT v t)), x6, x7, x8]) rfl ?_
    refine ok_for (ok_range1 (ok_cons (ok_c (ok_nil ⟨_, rfl, by omega, ?_⟩))))
    refine for_inv (fun k ρ => ∃ p x6 x7 x8, ρ = [some (.list (ns.map .int)), some (.int cell), some p, some (tD v), some (tabD t), some (.str (TT v t)), x6, x7, x8] ∧ Pen (200 + 10 * k) p) 0 ⟨p, x6, x7, x8, rfl, pen_le hp (by omega)⟩ ?_ ?_
    · rintro j e ρ hj ⟨p, x6, x7, x8, rfl, hp⟩
      obtain ⟨hj1, rfl⟩ := rangeD_at hj
      have hj3 : j < 40 := hj1
      refine ⟨_, rfl, ?_⟩
      refine ok_at (ρ' := [some (.list (ns.map .int)), some (.int cell), some p, some (tD v), some (tabD t), some (.str (TT v t)), some (nD j), x7, x8]) rfl ?_
      refine ok_seq (ok_set (ok_callD (ok_lend (d := p) rfl (ok_cons (ok_var (d := .str (TT v t)) rfl (ok_nil ⟨_, rfl, ?_⟩))))))
      refine (turnedT_ok hp (by omega) (by omega) (by omega)).mono ?_
      rintro z os ⟨y, p, rfl, hy1, hy2, rfl, hp⟩
      refine then_nx ?_
      refine ok_at (ρ' := [some (.list (ns.map .int)), some (.int cell), some p, some (tD v), some (tabD t), some (.str (TT v t)), some (nD j), some (.str y), x8]) rfl ?_
      -- what is asked of the other text, however it came to be
      have fin : ∀ (y : Str) (p : D), y.length ≤ 1000 → Pen (200 + 10 * (0 + j : Nat) + 7) p →
          ∀ {P : Fl → Ev → Prop}, (∀ x8, P .nx [some (.list (ns.map .int)), some (.int cell), some p, some (tD v), some (tabD t), some (.str (TT v t)), some (nD j), some (.str y), x8]) →
          Ok ((mSeq (mSet 8 (mCallD m__law_read_v2 [none] (mCons (mVar 7) mNil)))
  (mSeq (mIfS (mAndB (mTest bIs (mVar 8) (mC .none)) (mTest bEq (mVar 7) (mVar 5)))
    (mRet (mC (.bool false)))
    mNext)
  (mSeq (mIfS (mAndB (mTest bIsNot (mVar 8) (mC .none)) (mTest bNe (mCallD m_table_text [none, none] (mCons (mBin gIx (mVar 8) (mC (.int 0))) (mCons (mBin gIx (mVar 8) (mC (.int 1))) mNil))) (mVar 7)))
    (mRet (mC (.bool false)))
    mNext)
  (mIfS (mAndB (mTest bIsNot (mVar 8) (mC .none)) (mTest bNe (mCallD m_read_table [none] (mCons (mVar 7) mNil)) (mVar 8)))
    (mRet (mC (.bool false)))
    mNext)))) [some (.list (ns.map .int)), some (.int cell), some p, some (tD v), some (tabD t), some (.str (TT v t)), some (nD j), some (.str y), x8]) P := by
        intro y p hy hp P hP
        obtain ⟨l0, ls, el⟩ := lns_cons y
        refine ok_seq (ok_set (ok_callD (ok_cons (ok_var (d := .str y) rfl (ok_nil ⟨_, rfl, ?_⟩)))))
        by_cases g : ∃ v c t, Good y l0 ls v c t
        · obtain ⟨v', c', t', g⟩ := g
          refine (lread_yes (by omega) el g).mono ?_
          rintro z os ⟨rfl, rfl⟩
          refine then_nx ?_
          refine ok_at (ρ' := [some (.list (ns.map .int)), some (.int cell), some p, some (tD v), some (tabD t), some (.str (TT v t)), some (nD j), some (.str y), some (.tuple [tD v', tabD t'])]) rfl ?_
          refine ok_seq (ok_ifS (ok_andB (ok_test (ok_var (d := .tuple [tD v', tabD t']) rfl (ok_c ⟨false, rfl, L2.iteF (L2.iteF (ok_next (then_nx ?_)))⟩)))))
          refine ok_seq (ok_ifS (ok_andB (ok_test (ok_var (d := .tuple [tD v', tabD t']) rfl (ok_c ⟨true, rfl, L2.iteT ?_⟩)))))
          refine ok_test (ok_callD (ok_cons (ok_bin (ok_var (d := .tuple [tD v', tabD t']) rfl (ok_c ⟨tD v', rfl, ok_cons (ok_bin (ok_var (d := .tuple [tD v', tabD t']) rfl (ok_c ⟨tabD t', rfl, ok_nil ⟨_, rfl, ?_⟩⟩)))⟩)))))
          refine (table_text_ok g.1 g.2.1).mono ?_
          rintro z os ⟨rfl, rfl⟩
          rw [g.2.2.2.2]
          refine ok_var (d := .str y) rfl ⟨false, bNe_str _, L2.iteF (ok_next (then_nx ?_))⟩
          refine ok_at (ρ' := [some (.list (ns.map .int)), some (.int cell), some p, some (tD v), some (tabD t), some (.str (TT v t)), some (nD j), some (.str y), some (.tuple [tD v', tabD t'])]) rfl ?_
          refine ok_ifS (ok_andB (ok_test (ok_var (d := .tuple [tD v', tabD t']) rfl (ok_c ⟨true, rfl, L2.iteT ?_⟩))))
          refine ok_test (ok_callD (ok_cons (ok_var (d := .str y) rfl (ok_nil ⟨_, rfl, ?_⟩))))
          refine (read_yes (by omega) el g).mono ?_
          rintro z os ⟨rfl, rfl⟩
          exact ok_var (d := .tuple [tD v', tabD t']) rfl ⟨false, bNe_vt _ _, L2.iteF (ok_next (hP _))⟩
        · refine (lread_no (by omega) el g).mono ?_
          rintro z os ⟨rfl, rfl⟩
          refine then_nx ?_
          refine ok_at (ρ' := [some (.list (ns.map .int)), some (.int cell), some p, some (tD v), some (tabD t), some (.str (TT v t)), some (nD j), some (.str y), some .none]) rfl ?_
          refine ok_seq (ok_ifS (ok_andB (ok_test (ok_var (d := .none) rfl (ok_c ⟨true, rfl, L2.iteT ?_⟩)))))
          refine ok_test (ok_var (d := .str y) rfl (ok_var (d := .str (TT v t)) rfl ⟨_, bEq_strs7 _ _, ?_⟩))
          have hne : (y == TT v t) = false := by
            rw [beq_eq_false_iff_ne]
            intro z
            subst z
            have e2 := lns_TT hv ht
            rw [el] at e2
            injection e2 with e3 e4
            subst e3 e4
            exact g ⟨v, c, t, good_TT hv ht⟩
          rw [hne]
          refine L2.iteF (ok_next (then_nx ?_))
          refine ok_seq (ok_ifS (ok_andB (ok_test (ok_var (d := .none) rfl (ok_c ⟨false, rfl, L2.iteF (L2.iteF (ok_next (then_nx ?_)))⟩)))))
          exact ok_ifS (ok_andB (ok_test (ok_var (d := .none) rfl (ok_c ⟨false, rfl, L2.iteF (L2.iteF (ok_next (hP _)))⟩))))
      refine ok_seq (ok_ifS (ok_test (ok_callD (ok_lend (d := p) rfl (ok_cons (ok_c (ok_nil ⟨_, rfl, ?_⟩)))))))
      refine (draw_ok hp (by omega) (by omega) (by omega)).mono ?_
      rintro z os ⟨q, p, rfl, q0, q1, rfl, hp⟩
      refine ok_c ⟨_, bEq_int _ _, ?_⟩
      cases hq : (q == 0) with
      | true =>
        refine L2.iteT ?_
        refine ok_at (ρ' := [some (.list (ns.map .int)), some (.int cell), some p, some (tD v), some (tabD t), some (.str (TT v t)), some (nD j), some (.str y), x8]) rfl ?_
        refine ok_set (ok_callD (ok_lend (d := p) rfl (ok_cons (ok_var (d := .str y) rfl (ok_nil ⟨_, rfl, ?_⟩)))))
        refine (turnedT_ok hp (by omega) (by omega) (by omega)).mono ?_
        rintro z os ⟨y2, p, rfl, hy3, hy4, rfl, hp⟩
        refine then_nx ?_
        exact fin y2 p (by omega) (pen_le hp (by omega)) fun x8 => ⟨p, _, _, _, rfl, pen_le hp (by omega)⟩
      | false =>
        refine L2.iteF (ok_next (then_nx ?_))
        exact fin y p (by omega) (pen_le hp (by omega)) fun x8 => ⟨p, _, _, _, rfl, pen_le hp (by omega)⟩
    · rintro ρ ⟨p, x6, x7, x8, rfl, hp⟩
      exact ⟨_, _, _, _, _, _, _, _, rfl⟩
  · rintro ρ ⟨x1, x2, x3, x4, x5, x6, x7, x8, rfl⟩
    exact then_nx (ok_ret (ok_c (defK_rt rfl rfl)))
theorem law_holds : ∀ ns : List Int, ns.length ≤ 63 → ∃ zs, m_law_k66 [.list (ns.map PyData.int)] = .ok (.bool true) zs := fun ns hl => by
  obtain ⟨d, zs, e, rfl⟩ := (law_ok66 ns hl).eq
  exact ⟨zs, e⟩
end Pf
namespace Pf
open PySem PySem.Spec PyProof.Rows L2 MW
abbrev topS (i : Nat) : Stmt := PySem.Challenge.pw_writebacks_k66_whole_texts_there_and_bac.main.body.getD i (.Pass ⟨0, 0, 0, 0⟩)
structure Txt (K : Fg) (mg : Str → Option Value) (adr : Nat → Addr) (fds : Nat → FuncData) : Prop where
  F_is_whole : L2.Fun K "is_whole" "is_whole" (topS 6) (adr 6) (fds 6)
  b_is_whole : Binds K (fds 6) ["thing"] []
  g_is_whole : mg "is_whole" = some (.ref (adr 6))
  F_is_below : L2.Fun K "is_below" "is_below" (topS 7) (adr 7) (fds 7)
  b_is_below : Binds K (fds 7) ["thing", "limit"] []
  g_is_below : mg "is_below" = some (.ref (adr 7))
  F_is_view : L2.Fun K "is_view" "is_view" (topS 10) (adr 10) (fds 10)
  b_is_view : Binds K (fds 10) ["thing"] []
  g_is_view : mg "is_view" = some (.ref (adr 10))
  F_need_view : L2.Fun K "need_view" "need_view" (topS 11) (adr 11) (fds 11)
  b_need_view : Binds K (fds 11) ["view"] []
  g_need_view : mg "need_view" = some (.ref (adr 11))
  F_count_values : L2.Fun K "count_values" "count_values" (topS 12) (adr 12) (fds 12)
  b_count_values : Binds K (fds 12) ["view"] []
  g_count_values : mg "count_values" = some (.ref (adr 12))
  F__is_row : L2.Fun K "_is_row" "_is_row" (topS 14) (adr 14) (fds 14)
  b__is_row : Binds K (fds 14) ["view", "thing"] []
  g__is_row : mg "_is_row" = some (.ref (adr 14))
  F_is_table : L2.Fun K "is_table" "is_table" (topS 13) (adr 13) (fds 13)
  b_is_table : Binds K (fds 13) ["view", "thing"] []
  g_is_table : mg "is_table" = some (.ref (adr 13))
  F_need_table : L2.Fun K "need_table" "need_table" (topS 15) (adr 15) (fds 15)
  b_need_table : Binds K (fds 15) ["view", "table"] []
  g_need_table : mg "need_table" = some (.ref (adr 15))
  F_words : L2.Fun K "words" "words" (topS 18) (adr 18) (fds 18)
  b_words : Binds K (fds 18) ["entries"] []
  g_words : mg "words" = some (.ref (adr 18))
  F_table_text : L2.Fun K "table_text" "table_text" (topS 19) (adr 19) (fds 19)
  b_table_text : Binds K (fds 19) ["view", "table"] []
  g_table_text : mg "table_text" = some (.ref (adr 19))
  F__entry : L2.Fun K "_entry" "_entry" (topS 22) (adr 22) (fds 22)
  b__entry : Binds K (fds 22) ["word"] []
  g__entry : mg "_entry" = some (.ref (adr 22))
  F__entries : L2.Fun K "_entries" "_entries" (topS 21) (adr 21) (fds 21)
  b__entries : Binds K (fds 21) ["line"] []
  g__entries : mg "_entries" = some (.ref (adr 21))
  F_read_table : L2.Fun K "read_table" "read_table" (topS 20) (adr 20) (fds 20)
  b_read_table : Binds K (fds 20) ["text"] []
  g_read_table : mg "read_table" = some (.ref (adr 20))
  F__law_cell_at : L2.Fun K "_law_cell_at" "_law_cell_at" (topS 24) (adr 24) (fds 24)
  b__law_cell_at : Binds K (fds 24) ["_law_script", "_law_k"] []
  g__law_cell_at : mg "_law_cell_at" = some (.ref (adr 24))
  F__law_pen : L2.Fun K "_law_pen" "_law_pen" (topS 25) (adr 25) (fds 25)
  b__law_pen : Binds K (fds 25) ["_law_cell"] []
  g__law_pen : mg "_law_pen" = some (.ref (adr 25))
  F__law_draw : L2.Fun K "_law_draw" "_law_draw" (topS 26) (adr 26) (fds 26)
  b__law_draw : Binds K (fds 26) ["_law_pen_here", "_law_many"] []
  g__law_draw : mg "_law_draw" = some (.ref (adr 26))
  F__law_view : L2.Fun K "_law_view" "_law_view" (topS 27) (adr 27) (fds 27)
  b__law_view : Binds K (fds 27) ["_law_pen_here", "_law_low", "_law_high"] []
  g__law_view : mg "_law_view" = some (.ref (adr 27))
  F__law_any : L2.Fun K "_law_any" "_law_any" (topS 28) (adr 28) (fds 28)
  b__law_any : Binds K (fds 28) ["_law_pen_here", "_law_view_here"] []
  g__law_any : mg "_law_any" = some (.ref (adr 28))
  F__law_read : L2.Fun K "_law_read" "_law_read" (topS 29) (adr 29) (fds 29)
  b__law_read : Binds K (fds 29) ["_law_text"] []
  g__law_read : mg "_law_read" = some (.ref (adr 29))
  F__law_turned : L2.Fun K "_law_turned" "_law_turned" (topS 30) (adr 30) (fds 30)
  b__law_turned : Binds K (fds 30) ["_law_pen_here", "_law_text"] []
  g__law_turned : mg "_law_turned" = some (.ref (adr 30))
  F_law : L2.Fun K "law" "law" (topS 31) (adr 31) (fds 31)
  b_law : Binds K (fds 31) ["_law_script"] []
  g_law : mg "law" = some (.ref (adr 31))
  d_NoText : PySem.W.hasDictIn K (adr 4) = true
  u_NoTable_NoText : PySem.W.subIn K (.ref (adr 3)) (.ref (adr 4)) = some false
  u_NoText_NoText : PySem.W.subIn K (.ref (adr 4)) (.ref (adr 4)) = some true
  u_NoView_NoText : PySem.W.subIn K (.ref (adr 2)) (.ref (adr 4)) = some false
  c_MOST_STATES : ∃ t, mg "MOST_STATES" = some (.int 9 t)
  c_REFUSED : ∃ t, mg "REFUSED" = some (.str "-" t)
  e_NoTable : mg "NoTable" = some (.ref (adr 3))
  x_NoTable : PySem.W.excIn K (adr 3) [.type "ValueError", .type "Exception", .type "BaseException", .type "object"] "ValueError.__new__" = true
  k_NoTable : PySem.W.keepIn K (.ref (adr 3)) = true
  s_NoTable : PySem.W.subIn K (.ref (adr 3)) (.type "BaseException") = some true
  t_NoTable : PySem.W.typeIn K (.ref (adr 3)) = some (.type "type")
  e_NoText : mg "NoText" = some (.ref (adr 4))
  x_NoText : PySem.W.excIn K (adr 4) [.type "ValueError", .type "Exception", .type "BaseException", .type "object"] "ValueError.__new__" = true
  k_NoText : PySem.W.keepIn K (.ref (adr 4)) = true
  s_NoText : PySem.W.subIn K (.ref (adr 4)) (.type "BaseException") = some true
  t_NoText : PySem.W.typeIn K (.ref (adr 4)) = some (.type "type")
  e_NoView : mg "NoView" = some (.ref (adr 2))
  x_NoView : PySem.W.excIn K (adr 2) [.type "ValueError", .type "Exception", .type "BaseException", .type "object"] "ValueError.__new__" = true
  k_NoView : PySem.W.keepIn K (.ref (adr 2)) = true
  s_NoView : PySem.W.subIn K (.ref (adr 2)) (.type "BaseException") = some true
  t_NoView : PySem.W.typeIn K (.ref (adr 2)) = some (.type "type")
  z_all : mg "all" = none
  z_bool : mg "bool" = none
  z_enumerate : mg "enumerate" = none
  z_int : mg "int" = none
  z_isinstance : mg "isinstance" = none
  z_len : mg "len" = none
  z_max : mg "max" = none
  z_range : mg "range" = none
  z_set : mg "set" = none
  z_str : mg "str" = none
  z_tuple : mg "tuple" = none
section
variable {P : Program} {w : World} {K : PySem.W.Frag} {mg : Str → Option Value} {base : Heap} {adr : Nat → Addr} {fds : Nat → FuncData}
abbrev s_is_whole : Stmt := topS 6
theorem sc_is_whole : FnScope N_is_whole ["thing"] (defScope s_is_whole) := ⟨rfl, rfl, rfl, by decide +kernel, rfl, by decide +kernel, by decide +kernel⟩
theorem ok_is_whole {gq : Bool} (T : Txt K mg adr fds) : FnQ gq P w K mg base 1 (adr 6) (fds 6) ["thing"] (spM K mg [false] m_is_whole) := by
  refine def_ok S_is_whole [false] T.F_is_whole sc_is_whole rfl rfl rfl fun cdv A outer s H E hr => ?_
  have tk : Takes (cxOf (L2.CX P w) P w K mg base N_is_whole "is_whole" (defScope s_is_whole) (adr 6) cdv A outer s H E) (fun c d _ H => E c d H) := takes_of rfl rfl rfl rfl
  exact (mss_one (ms_ret (me_and (me_isinst rfl T.z_isinstance (me_var 0) rfl T.z_int (by decide +kernel) isD_int) (me_one (me_not (me_isinst rfl T.z_isinstance (me_var 0) rfl T.z_bool (by decide +kernel) isD_bool))))))
abbrev s_is_below : Stmt := topS 7
theorem sc_is_below : FnScope N_is_below ["thing", "limit"] (defScope s_is_below) := ⟨rfl, rfl, rfl, by decide +kernel, rfl, by decide +kernel, by decide +kernel⟩
theorem ok_is_below {gq : Bool} (T : Txt K mg adr fds) : FnQ gq P w K mg base 2 (adr 7) (fds 7) ["thing", "limit"] (spM K mg [false, false] m_is_below) := by
  refine def_ok S_is_below [false, false] T.F_is_below sc_is_below rfl rfl rfl fun cdv A outer s H E hr => ?_
  have tk : Takes (cxOf (L2.CX P w) P w K mg base N_is_below "is_below" (defScope s_is_below) (adr 7) cdv A outer s H E) (fun c d _ H => E c d H) := takes_of rfl rfl rfl rfl
  exact (mss_one (ms_ret (me_and (me_call (ks := [none]) (ok_is_whole T) (hr.mono (by decide)) rfl T.g_is_whole T.F_is_whole.kp T.b_is_whole tk (mac_cons (me_var 0) mac_nil) rfl rfl (by decide)) (me_one (me_leLt me_int (me_var 0) (me_var 1))))))
abbrev s_is_view : Stmt := topS 10
theorem sc_is_view : FnScope N_is_view ["thing"] (defScope s_is_view) := ⟨rfl, rfl, rfl, by decide +kernel, rfl, by decide +kernel, by decide +kernel⟩
theorem ok_is_view {gq : Bool} (T : Txt K mg adr fds) : FnQ gq P w K mg base 3 (adr 10) (fds 10) ["thing"] (spM K mg [false] m_is_view) := by
  refine def_ok S_is_view [false] T.F_is_view sc_is_view rfl rfl rfl fun cdv A outer s H E hr => ?_
  have tk : Takes (cxOf (L2.CX P w) P w K mg base N_is_view "is_view" (defScope s_is_view) (adr 10) cdv A outer s H E) (fun c d _ H => E c d H) := takes_of rfl rfl rfl rfl
  exact (mss_cons (ms_if (MTw.mt (mtw_or (mt_not (mt_val (me_isinst rfl T.z_isinstance (me_var 0) rfl T.z_tuple (by decide +kernel) isD_tuple))) (mtw_one (mt_not (mt_leLe me_int (me_len rfl T.z_len (ma_cons (me_var 0) ma_nil)) (me_glob (v := .int 9) rfl (T.c_MOST_STATES).choose_spec ⟨_, rfl⟩ (fun _ => .int _)))))))
    (mss_one (ms_ret me_bl))
    mss_nil)
  (mss_cons (ms_if (mt_not (mt_val (me_all rfl rfl T.z_all (ma_cons (ML.me (ml_lc (oS := [("number", 1)]) rfl sc_is_view.nd (mi_seq (me_var 0)) (by first | decide +kernel | rfl) rfl (fun _ _ _ _ _ => (mg_name 1 rfl sc_is_view.nd rfl (by first | exact Or.inl rfl | exact Or.inr rfl) (by first | exact .inl rfl | exact .inr rfl))) (fun _ _ _ _ _ => mts_nil) (fun _ _ _ _ _ => (me_call (ks := [none, none]) (ok_is_below T) (hr.mono (by decide)) rfl T.g_is_below T.F_is_below.kp T.b_is_below takes0 (mac_cons (me_var 1) (mac_cons (me_len rfl T.z_len (ma_cons (me_var 0) ma_nil)) mac_nil)) rfl rfl (by decide))))) ma_nil))))
    (mss_one (ms_ret me_bl))
    mss_nil)
  (mss_one (ms_ret (me_eq hr.units (me_lenSet rfl rfl T.z_len rfl T.z_set (me_var 0)) (me_add (me_max rfl rfl T.z_max (ma_cons (me_var 0) ma_nil)) me_int))))))
abbrev s_need_view : Stmt := topS 11
theorem sc_need_view : FnScope N_need_view ["view"] (defScope s_need_view) := ⟨rfl, rfl, rfl, by decide +kernel, rfl, by decide +kernel, by decide +kernel⟩
theorem ok_need_view {gq : Bool} (T : Txt K mg adr fds) : FnQ gq P w K mg base 4 (adr 11) (fds 11) ["view"] (spM K mg [false] m_need_view) := by
  refine def_ok S_need_view [false] T.F_need_view sc_need_view rfl rfl rfl fun cdv A outer s H E hr => ?_
  have tk : Takes (cxOf (L2.CX P w) P w K mg base N_need_view "need_view" (defScope s_need_view) (adr 11) cdv A outer s H E) (fun c d _ H => E c d H) := takes_of rfl rfl rfl rfl
  exact (mss_one (ms_if (mt_not (mt_val (me_call (ks := [none]) (ok_is_view T) (hr.mono (by decide)) rfl T.g_is_view T.F_is_view.kp T.b_is_view tk (mac_cons (me_var 0) mac_nil) rfl rfl (by decide))))
    (mss_one (ms_raise rfl tk PySem.F.excBase_ValueError T.x_NoView T.e_NoView T.k_NoView (raises_own T.s_NoView T.t_NoView) rfl))
    mss_nil))
abbrev s_count_values : Stmt := topS 12
theorem sc_count_values : FnScope N_count_values ["view"] (defScope s_count_values) := ⟨rfl, rfl, rfl, by decide +kernel, rfl, by decide +kernel, by decide +kernel⟩
theorem ok_count_values {gq : Bool} (T : Txt K mg adr fds) : FnQ gq P w K mg base 1 (adr 12) (fds 12) ["view"] (spM K mg [false] m_count_values) := by
  refine def_ok S_count_values [false] T.F_count_values sc_count_values rfl rfl rfl fun cdv A outer s H E hr => ?_
  have tk : Takes (cxOf (L2.CX P w) P w K mg base N_count_values "count_values" (defScope s_count_values) (adr 12) cdv A outer s H E) (fun c d _ H => E c d H) := takes_of rfl rfl rfl rfl
  exact (mss_one (ms_ret (me_add (me_max rfl rfl T.z_max (ma_cons (me_var 0) ma_nil)) me_int)))
abbrev s__is_row : Stmt := topS 14
theorem sc__is_row : FnScope N__is_row ["view", "thing"] (defScope s__is_row) := ⟨rfl, rfl, rfl, by decide +kernel, rfl, by decide +kernel, by decide +kernel⟩
theorem ok__is_row {gq : Bool} (T : Txt K mg adr fds) : FnQ gq P w K mg base 3 (adr 14) (fds 14) ["view", "thing"] (spM K mg [false, false] m__is_row) := by
  refine def_ok S__is_row [false, false] T.F__is_row sc__is_row rfl rfl rfl fun cdv A outer s H E hr => ?_
  have tk : Takes (cxOf (L2.CX P w) P w K mg base N__is_row "_is_row" (defScope s__is_row) (adr 14) cdv A outer s H E) (fun c d _ H => E c d H) := takes_of rfl rfl rfl rfl
  exact (mss_cons (ms_if (MTw.mt (mtw_or (mt_not (mt_val (me_isinst rfl T.z_isinstance (me_var 1) rfl T.z_tuple (by decide +kernel) isD_tuple))) (mtw_one (mt_ne hr.units (me_len rfl T.z_len (ma_cons (me_var 1) ma_nil)) (me_call (ks := [none]) (ok_count_values T) (hr.mono (by decide)) rfl T.g_count_values T.F_count_values.kp T.b_count_values tk (mac_cons (me_var 0) mac_nil) rfl rfl (by decide))))))
    (mss_one (ms_ret me_bl))
    mss_nil)
  (mss_one (ms_ret (me_all rfl rfl T.z_all (ma_cons (ML.me (ml_lc (oS := [("entry", 2)]) rfl sc__is_row.nd (mi_seq (me_var 1)) (by first | decide +kernel | rfl) rfl (fun _ _ _ _ _ => (mg_name 2 rfl sc__is_row.nd rfl (by first | exact Or.inl rfl | exact Or.inr rfl) (by first | exact .inl rfl | exact .inr rfl))) (fun _ _ _ _ _ => mts_nil) (fun _ _ _ _ _ => (me_or (me_is (me_var 2) me_non) (me_one (me_call (ks := [none, none]) (ok_is_below T) (hr.mono (by decide)) rfl T.g_is_below T.F_is_below.kp T.b_is_below takes0 (mac_cons (me_var 2) (mac_cons (me_len rfl T.z_len (ma_cons (me_var 0) ma_nil)) mac_nil)) rfl rfl (by decide))))))) ma_nil)))))
abbrev s_is_table : Stmt := topS 13
theorem sc_is_table : FnScope N_is_table ["view", "thing"] (defScope s_is_table) := ⟨rfl, rfl, rfl, by decide +kernel, rfl, by decide +kernel, by decide +kernel⟩
theorem ok_is_table {gq : Bool} (T : Txt K mg adr fds) : FnQ gq P w K mg base 5 (adr 13) (fds 13) ["view", "thing"] (spM K mg [false, false] m_is_table) := by
  refine def_ok S_is_table [false, false] T.F_is_table sc_is_table rfl rfl rfl fun cdv A outer s H E hr => ?_
  have tk : Takes (cxOf (L2.CX P w) P w K mg base N_is_table "is_table" (defScope s_is_table) (adr 13) cdv A outer s H E) (fun c d _ H => E c d H) := takes_of rfl rfl rfl rfl
  exact (mss_cons (ms_expr (me_call (ks := [none]) (ok_need_view T) (hr.mono (by decide)) rfl T.g_need_view T.F_need_view.kp T.b_need_view tk (mac_cons (me_var 0) mac_nil) rfl rfl (by decide)))
  (mss_cons (ms_if (MTw.mt (mtw_or (mt_not (mt_val (me_isinst rfl T.z_isinstance (me_var 1) rfl T.z_tuple (by decide +kernel) isD_tuple))) (mtw_one (mt_ne hr.units (me_len rfl T.z_len (ma_cons (me_var 1) ma_nil)) (me_len rfl T.z_len (ma_cons (me_var 0) ma_nil))))))
    (mss_one (ms_ret me_bl))
    mss_nil)
  (mss_one (ms_ret (me_all rfl rfl T.z_all (ma_cons (ML.me (ml_lc (oS := [("row", 2)]) rfl sc_is_table.nd (mi_seq (me_var 1)) (by first | decide +kernel | rfl) rfl (fun _ _ _ _ _ => (mg_name 2 rfl sc_is_table.nd rfl (by first | exact Or.inl rfl | exact Or.inr rfl) (by first | exact .inl rfl | exact .inr rfl))) (fun _ _ _ _ _ => mts_nil) (fun _ _ _ _ _ => (me_call (ks := [none, none]) (ok__is_row T) (hr.mono (by decide)) rfl T.g__is_row T.F__is_row.kp T.b__is_row takes0 (mac_cons (me_var 0) (mac_cons (me_var 2) mac_nil)) rfl rfl (by decide))))) ma_nil))))))
abbrev s_need_table : Stmt := topS 15
theorem sc_need_table : FnScope N_need_table ["view", "table"] (defScope s_need_table) := ⟨rfl, rfl, rfl, by decide +kernel, rfl, by decide +kernel, by decide +kernel⟩
theorem ok_need_table {gq : Bool} (T : Txt K mg adr fds) : FnQ gq P w K mg base 6 (adr 15) (fds 15) ["view", "table"] (spM K mg [false, false] m_need_table) := by
  refine def_ok S_need_table [false, false] T.F_need_table sc_need_table rfl rfl rfl fun cdv A outer s H E hr => ?_
  have tk : Takes (cxOf (L2.CX P w) P w K mg base N_need_table "need_table" (defScope s_need_table) (adr 15) cdv A outer s H E) (fun c d _ H => E c d H) := takes_of rfl rfl rfl rfl
  exact (mss_one (ms_if (mt_not (mt_val (me_call (ks := [none, none]) (ok_is_table T) (hr.mono (by decide)) rfl T.g_is_table T.F_is_table.kp T.b_is_table tk (mac_cons (me_var 0) (mac_cons (me_var 1) mac_nil)) rfl rfl (by decide))))
    (mss_one (ms_raise rfl tk PySem.F.excBase_ValueError T.x_NoTable T.e_NoTable T.k_NoTable (raises_own T.s_NoTable T.t_NoTable) rfl))
    mss_nil))
abbrev s_words : Stmt := topS 18
theorem sc_words : FnScope N_words ["entries"] (defScope s_words) := ⟨rfl, rfl, rfl, by decide +kernel, rfl, by decide +kernel, by decide +kernel⟩
theorem ok_words {gq : Bool} (T : Txt K mg adr fds) : FnQ gq P w K mg base 1 (adr 18) (fds 18) ["entries"] (spM K mg [false] m_words) := by
  refine def_ok S_words [false] T.F_words sc_words rfl rfl rfl fun cdv A outer s H E hr => ?_
  have tk : Takes (cxOf (L2.CX P w) P w K mg base N_words "words" (defScope s_words) (adr 18) cdv A outer s H E) (fun c d _ H => E c d H) := takes_of rfl rfl rfl rfl
  exact (mss_one (ms_ret (me_join me_str (ML.me (ml_lc (oS := [("entry", 1)]) rfl sc_words.nd (mi_seq (me_var 0)) (by first | decide +kernel | rfl) rfl (fun _ _ _ _ _ => (mg_name 1 rfl sc_words.nd rfl (by first | exact Or.inl rfl | exact Or.inr rfl) (by first | exact .inl rfl | exact .inr rfl))) (fun _ _ _ _ _ => mts_nil) (fun _ _ _ _ _ => (me_ifExp (mt_is (me_var 1) me_non) (me_glob (v := .str "-") rfl (T.c_REFUSED).choose_spec ⟨_, rfl⟩ (fun _ => .str _)) (me_strI rfl T.z_str (ma_cons (me_var 1) ma_nil)))))))))
abbrev s_table_text : Stmt := topS 19
theorem sc_table_text : FnScope N_table_text ["view", "table"] (defScope s_table_text) := ⟨rfl, rfl, rfl, by decide +kernel, rfl, by decide +kernel, by decide +kernel⟩
theorem ok_table_text {gq : Bool} (T : Txt K mg adr fds) : FnQ gq P w K mg base 7 (adr 19) (fds 19) ["view", "table"] (spM K mg [false, false] m_table_text) := by
  refine def_ok S_table_text [false, false] T.F_table_text sc_table_text rfl rfl rfl fun cdv A outer s H E hr => ?_
  have tk : Takes (cxOf (L2.CX P w) P w K mg base N_table_text "table_text" (defScope s_table_text) (adr 19) cdv A outer s H E) (fun c d _ H => E c d H) := takes_of rfl rfl rfl rfl
  exact (mss_cons (ms_expr (me_call (ks := [none, none]) (ok_need_table T) (hr.mono (by decide)) rfl T.g_need_table T.F_need_table.kp T.b_need_table tk (mac_cons (me_var 0) (mac_cons (me_var 1) mac_nil)) rfl rfl (by decide)))
  (mss_cons (ms_set 2 rfl sc_table_text.nd rfl (by first | exact Or.inl rfl | exact Or.inr rfl) (me_add (ML.me (ml_lst (ma_cons (me_joined (MJ.cons me_str (MJ.cons (me_fmt (me_call (ks := [none]) (ok_words T) (hr.mono (by decide)) rfl T.g_words T.F_words.kp T.b_words tk (mac_cons (me_var 0) mac_nil) rfl rfl (by decide))) MJ.nil))) ma_nil))) (ML.me (ml_lc (oS := [("state", 4), ("row", 5)]) rfl sc_table_text.nd (mi_enum rfl T.z_enumerate (ma_cons (me_var 1) ma_nil)) (by first | decide +kernel | rfl) rfl (fun _ _ _ _ _ => (mg_twoK (K0 := K) 4 5 rfl rfl rfl rfl (pg_name (i := 4) sc_table_text.nd rfl (by first | exact Or.inl rfl | exact Or.inr rfl) (by first | exact .inl rfl | exact .inr rfl)) (pg_name (i := 5) sc_table_text.nd rfl (by first | exact Or.inl rfl | exact Or.inr rfl) (by first | exact .inl rfl | exact .inr rfl)))) (fun _ _ _ _ _ => mts_nil) (fun _ _ _ _ _ => (me_joined (MJ.cons (me_fmt (me_var 4)) (MJ.cons me_str (MJ.cons (me_fmt (me_call (ks := [none]) (ok_words T) (hr.mono (by decide)) rfl T.g_words T.F_words.kp T.b_words takes0 (mac_cons (me_var 5) mac_nil) rfl rfl (by decide))) MJ.nil)))))))))
  (mss_one (ms_ret (me_join me_str (ML.me (ml_lc (oS := [("line", 3)]) rfl sc_table_text.nd (mi_seq (me_var 2)) (by first | decide +kernel | rfl) rfl (fun _ _ _ _ _ => (mg_name 3 rfl sc_table_text.nd rfl (by first | exact Or.inl rfl | exact Or.inr rfl) (by first | exact .inl rfl | exact .inr rfl))) (fun _ _ _ _ _ => mts_nil) (fun _ _ _ _ _ => (me_add (me_var 3) me_str)))))))))
abbrev s__entry : Stmt := topS 22
theorem sc__entry : FnScope N__entry ["word"] (defScope s__entry) := ⟨rfl, rfl, rfl, by decide +kernel, rfl, by decide +kernel, by decide +kernel⟩
theorem ok__entry {gq : Bool} (T : Txt K mg adr fds) : FnQ gq P w K mg base 1 (adr 22) (fds 22) ["word"] (spM K mg [false] m__entry) := by
  refine def_ok S__entry [false] T.F__entry sc__entry rfl rfl rfl fun cdv A outer s H E hr => ?_
  have tk : Takes (cxOf (L2.CX P w) P w K mg base N__entry "_entry" (defScope s__entry) (adr 22) cdv A outer s H E) (fun c d _ H => E c d H) := takes_of rfl rfl rfl rfl
  exact (mss_one (ms_ret (me_ifExp (MTw.mt (mtw_and (mt_eq hr.units (me_len rfl T.z_len (ma_cons (me_var 0) ma_nil)) me_int) (mtw_one (mt_inS (me_var 0) me_str rfl)))) (me_intS rfl T.z_int (ma_cons (me_var 0) ma_nil)) me_non)))
abbrev s__entries : Stmt := topS 21
theorem sc__entries : FnScope N__entries ["line"] (defScope s__entries) := ⟨rfl, rfl, rfl, by decide +kernel, rfl, by decide +kernel, by decide +kernel⟩
theorem ok__entries {gq : Bool} (T : Txt K mg adr fds) : FnQ gq P w K mg base 2 (adr 21) (fds 21) ["line"] (spM K mg [false] m__entries) := by
  refine def_ok S__entries [false] T.F__entries sc__entries rfl rfl rfl fun cdv A outer s H E hr => ?_
  have tk : Takes (cxOf (L2.CX P w) P w K mg base N__entries "_entries" (defScope s__entries) (adr 21) cdv A outer s H E) (fun c d _ H => E c d H) := takes_of rfl rfl rfl rfl
  exact (mss_one (ms_ret (me_tuple rfl T.z_tuple (ma_cons (ML.me (ml_lc (oS := [("word", 1)]) rfl sc__entries.nd (mi_seq (me_sl (me_var 0) (mo_some me_int) mo_none)) (by first | decide +kernel | rfl) rfl (fun _ _ _ _ _ => (mg_name 1 rfl sc__entries.nd rfl (by first | exact Or.inl rfl | exact Or.inr rfl) (by first | exact .inl rfl | exact .inr rfl))) (fun _ _ _ _ _ => mts_nil) (fun _ _ _ _ _ => (me_call (ks := [none]) (ok__entry T) (hr.mono (by decide)) rfl T.g__entry T.F__entry.kp T.b__entry takes0 (mac_cons (me_var 1) mac_nil) rfl rfl (by decide))))) ma_nil))))
abbrev s_read_table : Stmt := topS 20
theorem sc_read_table : FnScope N_read_table ["text"] (defScope s_read_table) := ⟨rfl, rfl, rfl, by decide +kernel, rfl, by decide +kernel, by decide +kernel⟩
theorem ok_read_table {gq : Bool} (T : Txt K mg adr fds) : FnQ gq P w K mg base 8 (adr 20) (fds 20) ["text"] (spM K mg [false] m_read_table) := by
  refine def_ok S_read_table [false] T.F_read_table sc_read_table rfl rfl rfl fun cdv A outer s H E hr => ?_
  have tk : Takes (cxOf (L2.CX P w) P w K mg base N_read_table "read_table" (defScope s_read_table) (adr 20) cdv A outer s H E) (fun c d _ H => E c d H) := takes_of rfl rfl rfl rfl
  exact (mss_cons (ms_if (mt_not (mt_val (me_isinst rfl T.z_isinstance (me_var 0) rfl T.z_str (by decide +kernel) isD_str)))
    (mss_one (ms_raise rfl tk PySem.F.excBase_ValueError T.x_NoText T.e_NoText T.k_NoText (raises_own T.s_NoText T.t_NoText) rfl))
    mss_nil)
  (mss_cons (ms_star 3 4 rfl rfl rfl (ML.me (ml_lc (oS := [("line", 5)]) rfl sc_read_table.nd (mi_seq (ML.me (ml_split (me_var 0) me_str))) (by first | decide +kernel | rfl) rfl (fun _ _ _ _ _ => (mg_name 5 rfl sc_read_table.nd rfl (by first | exact Or.inl rfl | exact Or.inr rfl) (by first | exact .inl rfl | exact .inr rfl))) (fun _ _ _ _ _ => mts_nil) (fun _ _ _ _ _ => (ML.me (ml_split (me_var 5) me_str))))) (pg_name (i := 3) sc_read_table.nd rfl (by first | exact Or.inl rfl | exact Or.inr rfl) (by first | exact .inl rfl | exact .inr rfl)) (pg_name (i := 4) sc_read_table.nd rfl (by first | exact Or.inl rfl | exact Or.inr rfl) (by first | exact .inl rfl | exact .inr rfl)))
  (mss_cons (ms_set 1 rfl sc_read_table.nd rfl (by first | exact Or.inl rfl | exact Or.inr rfl) (me_call (ks := [none]) (ok__entries T) (hr.mono (by decide)) rfl T.g__entries T.F__entries.kp T.b__entries tk (mac_cons (me_var 3) mac_nil) rfl rfl (by decide)))
  (mss_cons (ms_set 2 rfl sc_read_table.nd rfl (by first | exact Or.inl rfl | exact Or.inr rfl) (me_tuple rfl T.z_tuple (ma_cons (ML.me (ml_lc (oS := [("line", 5)]) rfl sc_read_table.nd (mi_seq (me_sl (me_var 4) mo_none (mo_some (me_neg me_int)))) (by first | decide +kernel | rfl) rfl (fun _ _ _ _ _ => (mg_name 5 rfl sc_read_table.nd rfl (by first | exact Or.inl rfl | exact Or.inr rfl) (by first | exact .inl rfl | exact .inr rfl))) (fun _ _ _ _ _ => mts_nil) (fun _ _ _ _ _ => (me_call (ks := [none]) (ok__entries T) (hr.mono (by decide)) rfl T.g__entries T.F__entries.kp T.b__entries takes0 (mac_cons (me_var 5) mac_nil) rfl rfl (by decide))))) ma_nil)))
  (mss_cons (ms_if (MTw.mt (mtw_or (mt_not (mt_val (me_call (ks := [none]) (ok_is_view T) (hr.mono (by decide)) rfl T.g_is_view T.F_is_view.kp T.b_is_view tk (mac_cons (me_var 1) mac_nil) rfl rfl (by decide)))) (mtw_or (mt_not (mt_val (me_call (ks := [none, none]) (ok_is_table T) (hr.mono (by decide)) rfl T.g_is_table T.F_is_table.kp T.b_is_table tk (mac_cons (me_var 1) (mac_cons (me_var 2) mac_nil)) rfl rfl (by decide)))) (mtw_one (mt_ne hr.units (me_call (ks := [none, none]) (ok_table_text T) (hr.mono (by decide)) rfl T.g_table_text T.F_table_text.kp T.b_table_text tk (mac_cons (me_var 1) (mac_cons (me_var 2) mac_nil)) rfl rfl (by decide)) (me_var 0))))))
    (mss_one (ms_raise rfl tk PySem.F.excBase_ValueError T.x_NoText T.e_NoText T.k_NoText (raises_own T.s_NoText T.t_NoText) rfl))
    mss_nil)
  (mss_one (ms_ret (me_tup (ma_cons (me_var 1) (ma_cons (me_var 2) ma_nil))))))))))
abbrev s__law_cell_at : Stmt := topS 24
theorem sc__law_cell_at : FnScope N__law_cell_at ["_law_script", "_law_k"] (defScope s__law_cell_at) := ⟨rfl, rfl, rfl, by decide +kernel, rfl, by decide +kernel, by decide +kernel⟩
theorem ok__law_cell_at {gq : Bool} (T : Txt K mg adr fds) : FnQ gq P w K mg base 1 (adr 24) (fds 24) ["_law_script", "_law_k"] (spM K mg [false, false] m__law_cell_at) := by
  refine def_ok S__law_cell_at [false, false] T.F__law_cell_at sc__law_cell_at rfl rfl rfl fun cdv A outer s H E hr => ?_
  have tk : Takes (cxOf (L2.CX P w) P w K mg base N__law_cell_at "_law_cell_at" (defScope s__law_cell_at) (adr 24) cdv A outer s H E) (fun c d _ H => E c d H) := takes_of rfl rfl rfl rfl
  exact (mss_cons (ms_if (mt_lt (me_var 1) (me_len rfl T.z_len (ma_cons (me_var 0) ma_nil)))
    (mss_one (ms_ret (me_at (me_var 0) (me_var 1) (fun _ _ => rfl))))
    mss_nil)
  (mss_one (ms_ret me_int)))
abbrev s__law_pen : Stmt := topS 25
theorem sc__law_pen : FnScope N__law_pen ["_law_cell"] (defScope s__law_pen) := ⟨rfl, rfl, rfl, by decide +kernel, rfl, by decide +kernel, by decide +kernel⟩
theorem ok__law_pen {gq : Bool} (T : Txt K mg adr fds) : FnQ gq P w K mg base 1 (adr 25) (fds 25) ["_law_cell"] (spML K mg [false] m__law_pen) := by
  refine def_okL S__law_pen [false] T.F__law_pen sc__law_pen rfl rfl rfl rfl rfl fun cdv A outer s H E hr => ?_
  have tk : Takes (cxOf (L2.CX P w) P w K mg base N__law_pen "_law_pen" (defScope s__law_pen) (adr 25) cdv A outer s H E) (fun c d _ H => E c d H) := takes_of rfl rfl rfl rfl
  exact (ml_lst (ma_cons (me_max rfl rfl T.z_max (ma_cons me_int (ma_cons (me_sub (me_var 0) (me_pow me_int me_int)) ma_nil))) (ma_cons (me_mod (me_var 0) me_int) (ma_cons me_int ma_nil))))
abbrev s__law_draw : Stmt := topS 26
theorem sc__law_draw : FnScope N__law_draw ["_law_pen_here", "_law_many"] (defScope s__law_draw) := ⟨rfl, rfl, rfl, by decide +kernel, rfl, by decide +kernel, by decide +kernel⟩
theorem ok__law_draw {gq : Bool} (T : Txt K mg adr fds) : FnQ gq P w K mg base 1 (adr 26) (fds 26) ["_law_pen_here", "_law_many"] (spM K mg [true, false] m__law_draw) := by
  refine def_ok S__law_draw [true, false] T.F__law_draw sc__law_draw rfl rfl rfl fun cdv A outer s H E hr => ?_
  have tk : Takes (cxOf (L2.CX P w) P w K mg base N__law_draw "_law_draw" (defScope s__law_draw) (adr 26) cdv A outer s H E) (fun c d _ H => E c d H) := takes_of rfl rfl rfl rfl
  exact (mss_cons (ms_if (mt_gt (me_atO 0 rfl me_int (fun _ _ => rfl) (pv 0)) me_int)
    (mss_cons (ms_set 3 rfl sc__law_draw.nd rfl (by first | exact Or.inl rfl | exact Or.inr rfl) (me_mod (me_atO 0 rfl me_int (fun _ _ => rfl) (pv 0)) (me_var 1)))
  (mss_cons (ms_store 0 rfl (pv 0) (me_div (me_atO 0 rfl me_int (fun _ _ => rfl) (pv 0)) (me_var 1)) me_int)
  (mss_one (ms_ret (me_var 3)))))
    mss_nil)
  (mss_cons (ms_store 0 rfl (pv 0) (me_add (me_atO 0 rfl me_int (fun _ _ => rfl) (pv 0)) me_int) me_int)
  (mss_cons (ms_set 2 rfl sc__law_draw.nd rfl (by first | exact Or.inl rfl | exact Or.inr rfl) (me_mod (me_mul (me_add (me_atO 0 rfl me_int (fun _ _ => rfl) (pv 0)) (me_mul me_int (me_atO 0 rfl me_int (fun _ _ => rfl) (pv 0)))) (me_add me_int (me_mul me_int (me_atO 0 rfl me_int (fun _ _ => rfl) (pv 0))))) me_int))
  (mss_cons (ms_set 2 rfl sc__law_draw.nd rfl (by first | exact Or.inl rfl | exact Or.inr rfl) (me_mod (me_add (me_add (me_mul (me_var 2) (me_var 2)) (me_mul me_int (me_atO 0 rfl me_int (fun _ _ => rfl) (pv 0)))) me_int) me_int))
  (mss_one (ms_ret (me_mod (me_div (me_mod (me_mul (me_var 2) me_int) me_int) me_int) (me_var 1))))))))
abbrev s__law_view : Stmt := topS 27
theorem sc__law_view : FnScope N__law_view ["_law_pen_here", "_law_low", "_law_high"] (defScope s__law_view) := ⟨rfl, rfl, rfl, by decide +kernel, rfl, by decide +kernel, by decide +kernel⟩
theorem ok__law_view {gq : Bool} (T : Txt K mg adr fds) : FnQ gq P w K mg base 2 (adr 27) (fds 27) ["_law_pen_here", "_law_low", "_law_high"] (spM K mg [true, false, false] m__law_view) := by
  refine def_ok S__law_view [true, false, false] T.F__law_view sc__law_view rfl rfl rfl fun cdv A outer s H E hr => ?_
  have tk : Takes (cxOf (L2.CX P w) P w K mg base N__law_view "_law_view" (defScope s__law_view) (adr 27) cdv A outer s H E) (fun c d _ H => E c d H) := takes_of rfl rfl rfl rfl
  exact (mss_cons (ms_setLc 3 rfl rfl sc__law_view.nd rfl rfl (sw_true rfl rfl rfl (by decide +kernel)) (oS := [("_law_turn", 6)]) (mi_range1 rfl T.z_range (ma_cons (me_add (me_var 1) (me_call (ks := [some 0, none]) (ok__law_draw T) (hr.mono (by decide)) rfl T.g__law_draw T.F__law_draw.kp T.b__law_draw tk (mac_lend 0 rfl (pv 0) (mac_cons (me_add (me_sub (me_var 2) (me_var 1)) me_int) mac_nil)) rfl rfl (by decide))) ma_nil)) (by first | decide +kernel | rfl) rfl (fun _ _ _ _ _ => (mg_name 6 rfl sc__law_view.nd rfl (by first | exact Or.inl rfl | exact Or.inr rfl) (by first | exact .inl rfl | exact .inr rfl))) (fun _ _ _ _ _ => mts_nil) (fun _ _ _ _ _ => (me_call (ks := [some 0, none]) (ok__law_draw T) (hr.mono (by decide)) rfl T.g__law_draw T.F__law_draw.kp T.b__law_draw takes0 (mac_lend 0 rfl (pv 0) (mac_cons me_int mac_nil)) rfl rfl (by decide))))
  (mss_cons (ms_setL 4 rfl rfl sc__law_view.nd rfl (by first | exact Or.inl rfl | exact Or.inr rfl) (ml_lst ma_nil))
  (mss_cons (ms_for (passes_of rfl) rfl (mi_seq (me_var 3)) (mg_name 5 rfl sc__law_view.nd rfl (by first | exact Or.inl rfl | exact Or.inr rfl) (by first | exact .inl rfl | exact .inr rfl))
    (mss_one (ms_if (mt_cmpO 4 (op_notInM (hu65 hr) ) opb_notIn rfl (me_var 5) rfl (pv 4))
    (mss_one (ms_expr (me_append 4 rfl (pv 4) (ma_cons (me_var 5) ma_nil) (fun _ pt => pe_bm PySem.F.plainAttrs_list PySem.F.slot_list_append PySem.F.type_list_append mt_append (pv 4) pt))))
    mss_nil)))
  (mss_cons (ms_if (mt_eq hr.units (me_call (ks := [some 0, none]) (ok__law_draw T) (hr.mono (by decide)) rfl T.g__law_draw T.F__law_draw.kp T.b__law_draw tk (mac_lend 0 rfl (pv 0) (mac_cons me_int mac_nil)) rfl rfl (by decide)) me_int)
    (mss_one (ms_setL 4 rfl rfl sc__law_view.nd rfl (by first | exact Or.inl rfl | exact Or.inr rfl) (ml_revO 4 rfl (pv 4))))
    mss_nil)
  (mss_one (ms_ret (me_tuple rfl T.z_tuple (ma_cons (ML.me (ml_lc (oS := [("_law_value", 5)]) rfl sc__law_view.nd (mi_seq (me_var 3)) (by first | decide +kernel | rfl) rfl (fun _ _ _ _ _ => (mg_name 5 rfl sc__law_view.nd rfl (by first | exact Or.inl rfl | exact Or.inr rfl) (by first | exact .inl rfl | exact .inr rfl))) (fun _ _ _ _ _ => mts_nil) (fun _ _ _ _ _ => (me_indexO 4 rfl (pv 4) (hu65 hr) (ma_cons (me_var 5) ma_nil))))) ma_nil))))))))
abbrev s__law_any : Stmt := topS 28
theorem sc__law_any : FnScope N__law_any ["_law_pen_here", "_law_view_here"] (defScope s__law_any) := ⟨rfl, rfl, rfl, by decide +kernel, rfl, by decide +kernel, by decide +kernel⟩
theorem ok__law_any {gq : Bool} (T : Txt K mg adr fds) : FnQ gq P w K mg base 2 (adr 28) (fds 28) ["_law_pen_here", "_law_view_here"] (spM K mg [true, false] m__law_any) := by
  refine def_ok S__law_any [true, false] T.F__law_any sc__law_any rfl rfl rfl fun cdv A outer s H E hr => ?_
  have tk : Takes (cxOf (L2.CX P w) P w K mg base N__law_any "_law_any" (defScope s__law_any) (adr 28) cdv A outer s H E) (fun c d _ H => E c d H) := takes_of rfl rfl rfl rfl
  exact (mss_cons (ms_setL 2 rfl rfl sc__law_any.nd rfl (by first | exact Or.inl rfl | exact Or.inr rfl) (ml_lst ma_nil))
  (mss_cons (ms_for (passes_of rfl) rfl (mi_range1 rfl T.z_range (ma_cons (me_len rfl T.z_len (ma_cons (me_var 1) ma_nil)) ma_nil)) (mg_name 3 rfl sc__law_any.nd rfl (by first | exact Or.inl rfl | exact Or.inr rfl) (by first | exact .inl rfl | exact .inr rfl))
    (mss_cons (ms_setLc 4 rfl rfl sc__law_any.nd rfl rfl (sw_true rfl rfl rfl (by decide +kernel)) (oS := [("_law_value", 5)]) (mi_range1 rfl T.z_range (ma_cons (me_add (me_max rfl rfl T.z_max (ma_cons (me_var 1) ma_nil)) me_int) ma_nil)) (by first | decide +kernel | rfl) rfl (fun _ _ _ _ _ => (mg_name 5 rfl sc__law_any.nd rfl (by first | exact Or.inl rfl | exact Or.inr rfl) (by first | exact .inl rfl | exact .inr rfl))) (fun _ _ _ _ _ => mts_nil) (fun _ _ _ _ _ => (me_call (ks := [some 0, none]) (ok__law_draw T) (hr.mono (by decide)) rfl T.g__law_draw T.F__law_draw.kp T.b__law_draw takes0 (mac_lend 0 rfl (pv 0) (mac_cons (me_add (me_len rfl T.z_len (ma_cons (me_var 1) ma_nil)) me_int) mac_nil)) rfl rfl (by decide))))
  (mss_one (ms_expr (me_append 2 rfl (pv 2) (ma_cons (me_tuple rfl T.z_tuple (ma_cons (ML.me (ml_lc (oS := [("_law_entry", 6)]) rfl sc__law_any.nd (mi_seq (me_var 4)) (by first | decide +kernel | rfl) rfl (fun _ _ _ _ _ => (mg_name 6 rfl sc__law_any.nd rfl (by first | exact Or.inl rfl | exact Or.inr rfl) (by first | exact .inl rfl | exact .inr rfl))) (fun _ _ _ _ _ => mts_nil) (fun _ _ _ _ _ => (me_ifExp (mt_eq hr.units (me_var 6) (me_len rfl T.z_len (ma_cons (me_var 1) ma_nil))) me_non (me_var 6))))) ma_nil)) ma_nil) (fun _ pt => pe_bm PySem.F.plainAttrs_list PySem.F.slot_list_append PySem.F.type_list_append mt_append (pv 2) pt))))))
  (mss_one (ms_ret (me_tupleO 2 rfl (pv 2) rfl T.z_tuple)))))
abbrev s__law_read : Stmt := topS 29
theorem sc__law_read : FnScope N__law_read_v2 ["_law_text"] (defScope s__law_read) := ⟨rfl, rfl, rfl, by decide +kernel, rfl, by decide +kernel, by decide +kernel⟩
theorem ok__law_read {gq : Bool} (T : Txt K mg adr fds) : FnQ gq P w K mg base 9 (adr 29) (fds 29) ["_law_text"] (spM K mg [false] m__law_read_v2) := by
  refine def_ok S__law_read_v2 [false] T.F__law_read sc__law_read rfl rfl rfl fun cdv A outer s H E hr => ?_
  have tk : Takes (cxOf (L2.CX P w) P w K mg base N__law_read_v2 "_law_read" (defScope s__law_read) (adr 29) cdv A outer s H E) (fun c d _ H => E c d H) := takes_of rfl rfl rfl rfl
  exact (mss_one (ms_try (C := adr 4) (cs := [("NoTable", false), ("NoText", true), ("NoView", false)]) rfl rfl ⟨rfl, by decide, .inl T.e_NoText⟩ tk (cs_cons T.e_NoTable (PySem.W.exm_ref T.s_NoText T.d_NoText T.t_NoText T.u_NoTable_NoText) (cs_cons T.e_NoText (PySem.W.exm_ref T.s_NoText T.d_NoText T.t_NoText T.u_NoText_NoText) (cs_cons T.e_NoView (PySem.W.exm_ref T.s_NoText T.d_NoText T.t_NoText T.u_NoView_NoText) cs_nil))) (fun _ _ _ tk1 _ => (mss_one (ms_ret (me_call (ks := [none]) (ok_read_table T) (hr.mono (by decide)) rfl T.g_read_table T.F_read_table.kp T.b_read_table tk1 (mac_cons (me_var 0) mac_nil) rfl rfl (by decide))))) (fun _ _ _ _ _ _ _ => (mss_one (ms_ret me_non)))))
abbrev s__law_turned : Stmt := topS 30
theorem sc__law_turned : FnScope N__law_turned_v3 ["_law_pen_here", "_law_text"] (defScope s__law_turned) := ⟨rfl, rfl, rfl, by decide +kernel, rfl, by decide +kernel, by decide +kernel⟩
theorem ok__law_turned {gq : Bool} (T : Txt K mg adr fds) : FnQ gq P w K mg base 2 (adr 30) (fds 30) ["_law_pen_here", "_law_text"] (spM K mg [true, false] m__law_turned_v3) := by
  refine def_ok S__law_turned_v3 [true, false] T.F__law_turned sc__law_turned rfl rfl rfl fun cdv A outer s H E hr => ?_
  have tk : Takes (cxOf (L2.CX P w) P w K mg base N__law_turned_v3 "_law_turned" (defScope s__law_turned) (adr 30) cdv A outer s H E) (fun c d _ H => E c d H) := takes_of rfl rfl rfl rfl
  exact (mss_cons (ms_par 3 4 rfl rfl rfl sc__law_turned.nd rfl rfl (by decide) rfl rfl (ma_cons (me_call (ks := [some 0, none]) (ok__law_draw T) (hr.mono (by decide)) rfl T.g__law_draw T.F__law_draw.kp T.b__law_draw tk (mac_lend 0 rfl (pv 0) (mac_cons (me_len rfl T.z_len (ma_cons (me_var 1) ma_nil)) mac_nil)) rfl rfl (by decide)) (ma_cons (me_call (ks := [some 0, none]) (ok__law_draw T) (hr.mono (by decide)) rfl T.g__law_draw T.F__law_draw.kp T.b__law_draw tk (mac_lend 0 rfl (pv 0) (mac_cons me_int mac_nil)) rfl rfl (by decide)) ma_nil)) rfl)
  (mss_cons (ms_set 2 rfl sc__law_turned.nd rfl (by first | exact Or.inl rfl | exact Or.inr rfl) (me_atS me_str (me_call (ks := [some 0, none]) (ok__law_draw T) (hr.mono (by decide)) rfl T.g__law_draw T.F__law_draw.kp T.b__law_draw tk (mac_lend 0 rfl (pv 0) (mac_cons me_int mac_nil)) rfl rfl (by decide)) (fun _ _ => rfl)))
  (mss_cons (ms_if (mt_eq hr.units (me_var 4) me_int)
    (mss_one (ms_ret (me_add (me_slS (me_var 1) mo_none (mo_some (me_var 3))) (me_slS (me_var 1) (mo_some (me_add (me_var 3) me_int)) mo_none))))
    mss_nil)
  (mss_cons (ms_if (mt_eq hr.units (me_var 4) me_int)
    (mss_one (ms_ret (me_add (me_add (me_slS (me_var 1) mo_none (mo_some (me_var 3))) (me_var 2)) (me_slS (me_var 1) (mo_some (me_var 3)) mo_none))))
    mss_nil)
  (mss_one (ms_ret (me_add (me_add (me_slS (me_var 1) mo_none (mo_some (me_var 3))) (me_var 2)) (me_slS (me_var 1) (mo_some (me_add (me_var 3) me_int)) mo_none))))))))
abbrev s_law : Stmt := topS 31
theorem sc_law : FnScope N_law_k66 ["_law_script"] (defScope s_law) := ⟨rfl, rfl, rfl, by decide +kernel, rfl, by decide +kernel, by decide +kernel⟩
theorem ok_law {gq : Bool} (T : Txt K mg adr fds) : FnQ gq P w K mg base 10 (adr 31) (fds 31) ["_law_script"] (spM K mg [false] m_law_k66) := by
  refine def_ok S_law_k66 [false] T.F_law sc_law rfl rfl rfl fun cdv A outer s H E hr => ?_
  have tk : Takes (cxOf (L2.CX P w) P w K mg base N_law_k66 "law" (defScope s_law) (adr 31) cdv A outer s H E) (fun c d _ H => E c d H) := takes_of rfl rfl rfl rfl
  exact (mss_cons (ms_for (passes_of rfl) rfl (mi_seq (me_add (ML.me (ml_lst (ma_cons (me_call (ks := [none, none]) (ok__law_cell_at T) (hr.mono (by decide)) rfl T.g__law_cell_at T.F__law_cell_at.kp T.b__law_cell_at tk (mac_cons (me_var 0) (mac_cons me_int mac_nil)) rfl rfl (by decide)) ma_nil))) (me_sl (me_var 0) (mo_some me_int) (mo_some me_int)))) (mg_name 1 rfl sc_law.nd rfl (by first | exact Or.inl rfl | exact Or.inr rfl) (by first | exact .inl rfl | exact .inr rfl))
    (mss_cons (ms_setL 2 rfl rfl sc_law.nd rfl (by first | exact Or.inl rfl | exact Or.inr rfl) (ml_call (ks := [none]) (ok__law_pen T) (hr.mono (by decide)) rfl T.g__law_pen T.F__law_pen.kp T.b__law_pen tk (mac_cons (me_var 1) mac_nil) rfl rfl (by decide)))
  (mss_cons (ms_set 3 rfl sc_law.nd rfl (by first | exact Or.inl rfl | exact Or.inr rfl) (me_call (ks := [some 2, none, none]) (ok__law_view T) (hr.mono (by decide)) rfl T.g__law_view T.F__law_view.kp T.b__law_view tk (mac_lend 2 rfl (pv 2) (mac_cons me_int (mac_cons me_int mac_nil))) rfl rfl (by decide)))
  (mss_cons (ms_set 4 rfl sc_law.nd rfl (by first | exact Or.inl rfl | exact Or.inr rfl) (me_call (ks := [some 2, none]) (ok__law_any T) (hr.mono (by decide)) rfl T.g__law_any T.F__law_any.kp T.b__law_any tk (mac_lend 2 rfl (pv 2) (mac_cons (me_var 3) mac_nil)) rfl rfl (by decide)))
  (mss_cons (ms_set 5 rfl sc_law.nd rfl (by first | exact Or.inl rfl | exact Or.inr rfl) (me_call (ks := [none, none]) (ok_table_text T) (hr.mono (by decide)) rfl T.g_table_text T.F_table_text.kp T.b_table_text tk (mac_cons (me_var 3) (mac_cons (me_var 4) mac_nil)) rfl rfl (by decide)))
  (mss_cons (ms_if (mt_ne hr.units (me_call (ks := [none]) (ok_read_table T) (hr.mono (by decide)) rfl T.g_read_table T.F_read_table.kp T.b_read_table tk (mac_cons (me_var 5) mac_nil) rfl rfl (by decide)) (me_tup (ma_cons (me_var 3) (ma_cons (me_var 4) ma_nil))))
    (mss_one (ms_ret me_bl))
    mss_nil)
  (mss_one (ms_for (passes_of rfl) rfl (mi_range1 rfl T.z_range (ma_cons me_int ma_nil)) (mg_name 6 rfl sc_law.nd rfl (by first | exact Or.inl rfl | exact Or.inr rfl) (by first | exact .inl rfl | exact .inr rfl))
    (mss_cons (ms_set 7 rfl sc_law.nd rfl (by first | exact Or.inl rfl | exact Or.inr rfl) (me_call (ks := [some 2, none]) (ok__law_turned T) (hr.mono (by decide)) rfl T.g__law_turned T.F__law_turned.kp T.b__law_turned tk (mac_lend 2 rfl (pv 2) (mac_cons (me_var 5) mac_nil)) rfl rfl (by decide)))
  (mss_cons (ms_if (mt_eq hr.units (me_call (ks := [some 2, none]) (ok__law_draw T) (hr.mono (by decide)) rfl T.g__law_draw T.F__law_draw.kp T.b__law_draw tk (mac_lend 2 rfl (pv 2) (mac_cons me_int mac_nil)) rfl rfl (by decide)) me_int)
    (mss_one (ms_set 7 rfl sc_law.nd rfl (by first | exact Or.inl rfl | exact Or.inr rfl) (me_call (ks := [some 2, none]) (ok__law_turned T) (hr.mono (by decide)) rfl T.g__law_turned T.F__law_turned.kp T.b__law_turned tk (mac_lend 2 rfl (pv 2) (mac_cons (me_var 7) mac_nil)) rfl rfl (by decide))))
    mss_nil)
  (mss_cons (ms_set 8 rfl sc_law.nd rfl (by first | exact Or.inl rfl | exact Or.inr rfl) (me_call (ks := [none]) (ok__law_read T) (hr.mono (by decide)) rfl T.g__law_read T.F__law_read.kp T.b__law_read tk (mac_cons (me_var 7) mac_nil) rfl rfl (by decide)))
  (mss_cons (ms_if (MTw.mt (mtw_and (mt_is (me_var 8) me_non) (mtw_one (mt_eq hr.units (me_var 7) (me_var 5)))))
    (mss_one (ms_ret me_bl))
    mss_nil)
  (mss_cons (ms_if (MTw.mt (mtw_and (mt_isNot (me_var 8) me_non) (mtw_one (mt_ne hr.units (me_call (ks := [none, none]) (ok_table_text T) (hr.mono (by decide)) rfl T.g_table_text T.F_table_text.kp T.b_table_text tk (mac_cons (me_at (me_var 8) me_int (fun _ _ => rfl)) (mac_cons (me_at (me_var 8) me_int (fun _ _ => rfl)) mac_nil)) rfl rfl (by decide)) (me_var 7)))))
    (mss_one (ms_ret me_bl))
    mss_nil)
  (mss_one (ms_if (MTw.mt (mtw_and (mt_isNot (me_var 8) me_non) (mtw_one (mt_ne hr.units (me_call (ks := [none]) (ok_read_table T) (hr.mono (by decide)) rfl T.g_read_table T.F_read_table.kp T.b_read_table tk (mac_cons (me_var 7) mac_nil) rfl rfl (by decide)) (me_var 8)))))
    (mss_one (ms_ret me_bl))
    mss_nil)))))))))))))))
  (mss_one (ms_ret me_bl)))
end
set_option maxHeartbeats 0 in
theorem all_mk {l : PySem.W.OpenLaw} {w : World} {K : PySem.W.Frag} {h : Heap} {mg : Str → Option Value} (X : K.In h) (G : h.Ns mainGlobals mg) {fa : Addr} (hfa : mg "law" = some (.ref fa)) (noL : noLst K = true) (hm : ∀ ns : List Int, ns.length ≤ 63 → ∃ zs, m_law_k66 [.list (ns.map PyData.int)] = .ok (.bool true) zs)
    {f6 f7 f10 f11 f12 f14 f13 f15 f18 f19 f22 f21 f20 f24 f25 f26 f27 f28 f29 f30 f31 C3 C4 C2 : Addr}
    {od6 an6 od7 an7 od10 an10 od11 an11 od12 an12 od14 an14 od13 an13 od15 an15 od18 an18 od19 an19 od22 an22 od21 an21 od20 an20 od24 an24 od25 an25 od26 an26 od27 an27 od28 an28 od29 an29 od30 an30 od31 an31 : Option Addr} {sl6 sl7 sl10 sl11 sl12 sl14 sl13 sl15 sl18 sl19 sl22 sl21 sl20 sl24 sl25 sl26 sl27 sl28 sl29 sl30 sl31 : Array (Option Value)} {oc6 kV6 dc6 pm6 cd6 ct6 oc7 kV7 dc7 pm7 cd7 ct7 oc10 kV10 dc10 pm10 cd10 ct10 oc11 kV11 dc11 pm11 cd11 ct11 oc12 kV12 dc12 pm12 cd12 ct12 oc14 kV14 dc14 pm14 cd14 ct14 oc13 kV13 dc13 pm13 cd13 ct13 oc15 kV15 dc15 pm15 cd15 ct15 oc18 kV18 dc18 pm18 cd18 ct18 oc19 kV19 dc19 pm19 cd19 ct19 oc22 kV22 dc22 pm22 cd22 ct22 oc21 kV21 dc21 pm21 cd21 ct21 oc20 kV20 dc20 pm20 cd20 ct20 oc24 kV24 dc24 pm24 cd24 ct24 oc25 kV25 dc25 pm25 cd25 ct25 oc26 kV26 dc26 pm26 cd26 ct26 oc27 kV27 dc27 pm27 cd27 ct27 oc28 kV28 dc28 pm28 cd28 ct28 oc29 kV29 dc29 pm29 cd29 ct29 oc30 kV30 dc30 pm30 cd30 ct30 oc31 kV31 dc31 pm31 cd31 ct31 : Value}
    {t_MOST_STATES t_REFUSED : Tok}
    (a6 : PySem.W.nsIn K mainGlobals "is_whole" = some (some (.ref f6))) (l6 : K.lookup f6 = some ⟨oc6, od6, .func (PySem.W.fnOf "is_whole" "is_whole" (defArgs (topS 6)) (defBody (topS 6)) (defScope (topS 6)) .none kV6 dc6 pm6 an6 cd6 ct6), sl6⟩) (c6 : PySem.W.codeIn K cd6 "is_whole" = true) (k6 : PySem.W.keepIn K (.ref f6) = true)
    (a7 : PySem.W.nsIn K mainGlobals "is_below" = some (some (.ref f7))) (l7 : K.lookup f7 = some ⟨oc7, od7, .func (PySem.W.fnOf "is_below" "is_below" (defArgs (topS 7)) (defBody (topS 7)) (defScope (topS 7)) .none kV7 dc7 pm7 an7 cd7 ct7), sl7⟩) (c7 : PySem.W.codeIn K cd7 "is_below" = true) (k7 : PySem.W.keepIn K (.ref f7) = true)
    (a10 : PySem.W.nsIn K mainGlobals "is_view" = some (some (.ref f10))) (l10 : K.lookup f10 = some ⟨oc10, od10, .func (PySem.W.fnOf "is_view" "is_view" (defArgs (topS 10)) (defBody (topS 10)) (defScope (topS 10)) .none kV10 dc10 pm10 an10 cd10 ct10), sl10⟩) (c10 : PySem.W.codeIn K cd10 "is_view" = true) (k10 : PySem.W.keepIn K (.ref f10) = true)
    (a11 : PySem.W.nsIn K mainGlobals "need_view" = some (some (.ref f11))) (l11 : K.lookup f11 = some ⟨oc11, od11, .func (PySem.W.fnOf "need_view" "need_view" (defArgs (topS 11)) (defBody (topS 11)) (defScope (topS 11)) .none kV11 dc11 pm11 an11 cd11 ct11), sl11⟩) (c11 : PySem.W.codeIn K cd11 "need_view" = true) (k11 : PySem.W.keepIn K (.ref f11) = true)
    (a12 : PySem.W.nsIn K mainGlobals "count_values" = some (some (.ref f12))) (l12 : K.lookup f12 = some ⟨oc12, od12, .func (PySem.W.fnOf "count_values" "count_values" (defArgs (topS 12)) (defBody (topS 12)) (defScope (topS 12)) .none kV12 dc12 pm12 an12 cd12 ct12), sl12⟩) (c12 : PySem.W.codeIn K cd12 "count_values" = true) (k12 : PySem.W.keepIn K (.ref f12) = true)
    (a14 : PySem.W.nsIn K mainGlobals "_is_row" = some (some (.ref f14))) (l14 : K.lookup f14 = some ⟨oc14, od14, .func (PySem.W.fnOf "_is_row" "_is_row" (defArgs (topS 14)) (defBody (topS 14)) (defScope (topS 14)) .none kV14 dc14 pm14 an14 cd14 ct14), sl14⟩) (c14 : PySem.W.codeIn K cd14 "_is_row" = true) (k14 : PySem.W.keepIn K (.ref f14) = true)
    (a13 : PySem.W.nsIn K mainGlobals "is_table" = some (some (.ref f13))) (l13 : K.lookup f13 = some ⟨oc13, od13, .func (PySem.W.fnOf "is_table" "is_table" (defArgs (topS 13)) (defBody (topS 13)) (defScope (topS 13)) .none kV13 dc13 pm13 an13 cd13 ct13), sl13⟩) (c13 : PySem.W.codeIn K cd13 "is_table" = true) (k13 : PySem.W.keepIn K (.ref f13) = true)
    (a15 : PySem.W.nsIn K mainGlobals "need_table" = some (some (.ref f15))) (l15 : K.lookup f15 = some ⟨oc15, od15, .func (PySem.W.fnOf "need_table" "need_table" (defArgs (topS 15)) (defBody (topS 15)) (defScope (topS 15)) .none kV15 dc15 pm15 an15 cd15 ct15), sl15⟩) (c15 : PySem.W.codeIn K cd15 "need_table" = true) (k15 : PySem.W.keepIn K (.ref f15) = true)
    (a18 : PySem.W.nsIn K mainGlobals "words" = some (some (.ref f18))) (l18 : K.lookup f18 = some ⟨oc18, od18, .func (PySem.W.fnOf "words" "words" (defArgs (topS 18)) (defBody (topS 18)) (defScope (topS 18)) .none kV18 dc18 pm18 an18 cd18 ct18), sl18⟩) (c18 : PySem.W.codeIn K cd18 "words" = true) (k18 : PySem.W.keepIn K (.ref f18) = true)
    (a19 : PySem.W.nsIn K mainGlobals "table_text" = some (some (.ref f19))) (l19 : K.lookup f19 = some ⟨oc19, od19, .func (PySem.W.fnOf "table_text" "table_text" (defArgs (topS 19)) (defBody (topS 19)) (defScope (topS 19)) .none kV19 dc19 pm19 an19 cd19 ct19), sl19⟩) (c19 : PySem.W.codeIn K cd19 "table_text" = true) (k19 : PySem.W.keepIn K (.ref f19) = true)
    (a22 : PySem.W.nsIn K mainGlobals "_entry" = some (some (.ref f22))) (l22 : K.lookup f22 = some ⟨oc22, od22, .func (PySem.W.fnOf "_entry" "_entry" (defArgs (topS 22)) (defBody (topS 22)) (defScope (topS 22)) .none kV22 dc22 pm22 an22 cd22 ct22), sl22⟩) (c22 : PySem.W.codeIn K cd22 "_entry" = true) (k22 : PySem.W.keepIn K (.ref f22) = true)
    (a21 : PySem.W.nsIn K mainGlobals "_entries" = some (some (.ref f21))) (l21 : K.lookup f21 = some ⟨oc21, od21, .func (PySem.W.fnOf "_entries" "_entries" (defArgs (topS 21)) (defBody (topS 21)) (defScope (topS 21)) .none kV21 dc21 pm21 an21 cd21 ct21), sl21⟩) (c21 : PySem.W.codeIn K cd21 "_entries" = true) (k21 : PySem.W.keepIn K (.ref f21) = true)
    (a20 : PySem.W.nsIn K mainGlobals "read_table" = some (some (.ref f20))) (l20 : K.lookup f20 = some ⟨oc20, od20, .func (PySem.W.fnOf "read_table" "read_table" (defArgs (topS 20)) (defBody (topS 20)) (defScope (topS 20)) .none kV20 dc20 pm20 an20 cd20 ct20), sl20⟩) (c20 : PySem.W.codeIn K cd20 "read_table" = true) (k20 : PySem.W.keepIn K (.ref f20) = true)
    (a24 : PySem.W.nsIn K mainGlobals "_law_cell_at" = some (some (.ref f24))) (l24 : K.lookup f24 = some ⟨oc24, od24, .func (PySem.W.fnOf "_law_cell_at" "_law_cell_at" (defArgs (topS 24)) (defBody (topS 24)) (defScope (topS 24)) .none kV24 dc24 pm24 an24 cd24 ct24), sl24⟩) (c24 : PySem.W.codeIn K cd24 "_law_cell_at" = true) (k24 : PySem.W.keepIn K (.ref f24) = true)
    (a25 : PySem.W.nsIn K mainGlobals "_law_pen" = some (some (.ref f25))) (l25 : K.lookup f25 = some ⟨oc25, od25, .func (PySem.W.fnOf "_law_pen" "_law_pen" (defArgs (topS 25)) (defBody (topS 25)) (defScope (topS 25)) .none kV25 dc25 pm25 an25 cd25 ct25), sl25⟩) (c25 : PySem.W.codeIn K cd25 "_law_pen" = true) (k25 : PySem.W.keepIn K (.ref f25) = true)
    (a26 : PySem.W.nsIn K mainGlobals "_law_draw" = some (some (.ref f26))) (l26 : K.lookup f26 = some ⟨oc26, od26, .func (PySem.W.fnOf "_law_draw" "_law_draw" (defArgs (topS 26)) (defBody (topS 26)) (defScope (topS 26)) .none kV26 dc26 pm26 an26 cd26 ct26), sl26⟩) (c26 : PySem.W.codeIn K cd26 "_law_draw" = true) (k26 : PySem.W.keepIn K (.ref f26) = true)
    (a27 : PySem.W.nsIn K mainGlobals "_law_view" = some (some (.ref f27))) (l27 : K.lookup f27 = some ⟨oc27, od27, .func (PySem.W.fnOf "_law_view" "_law_view" (defArgs (topS 27)) (defBody (topS 27)) (defScope (topS 27)) .none kV27 dc27 pm27 an27 cd27 ct27), sl27⟩) (c27 : PySem.W.codeIn K cd27 "_law_view" = true) (k27 : PySem.W.keepIn K (.ref f27) = true)
    (a28 : PySem.W.nsIn K mainGlobals "_law_any" = some (some (.ref f28))) (l28 : K.lookup f28 = some ⟨oc28, od28, .func (PySem.W.fnOf "_law_any" "_law_any" (defArgs (topS 28)) (defBody (topS 28)) (defScope (topS 28)) .none kV28 dc28 pm28 an28 cd28 ct28), sl28⟩) (c28 : PySem.W.codeIn K cd28 "_law_any" = true) (k28 : PySem.W.keepIn K (.ref f28) = true)
    (a29 : PySem.W.nsIn K mainGlobals "_law_read" = some (some (.ref f29))) (l29 : K.lookup f29 = some ⟨oc29, od29, .func (PySem.W.fnOf "_law_read" "_law_read" (defArgs (topS 29)) (defBody (topS 29)) (defScope (topS 29)) .none kV29 dc29 pm29 an29 cd29 ct29), sl29⟩) (c29 : PySem.W.codeIn K cd29 "_law_read" = true) (k29 : PySem.W.keepIn K (.ref f29) = true)
    (a30 : PySem.W.nsIn K mainGlobals "_law_turned" = some (some (.ref f30))) (l30 : K.lookup f30 = some ⟨oc30, od30, .func (PySem.W.fnOf "_law_turned" "_law_turned" (defArgs (topS 30)) (defBody (topS 30)) (defScope (topS 30)) .none kV30 dc30 pm30 an30 cd30 ct30), sl30⟩) (c30 : PySem.W.codeIn K cd30 "_law_turned" = true) (k30 : PySem.W.keepIn K (.ref f30) = true)
    (a31 : PySem.W.nsIn K mainGlobals "law" = some (some (.ref f31))) (l31 : K.lookup f31 = some ⟨oc31, od31, .func (PySem.W.fnOf "law" "law" (defArgs (topS 31)) (defBody (topS 31)) (defScope (topS 31)) .none kV31 dc31 pm31 an31 cd31 ct31), sl31⟩) (c31 : PySem.W.codeIn K cd31 "law" = true) (k31 : PySem.W.keepIn K (.ref f31) = true)
    (a3 : PySem.W.nsIn K mainGlobals "NoTable" = some (some (.ref C3))) (x3 : PySem.W.excIn K C3 [.type "ValueError", .type "Exception", .type "BaseException", .type "object"] "ValueError.__new__" = true) (k3 : PySem.W.keepIn K (.ref C3) = true) (s3 : PySem.W.subIn K (.ref C3) (.type "BaseException") = some true) (t3 : PySem.W.typeIn K (.ref C3) = some (.type "type"))
    (a4 : PySem.W.nsIn K mainGlobals "NoText" = some (some (.ref C4))) (x4 : PySem.W.excIn K C4 [.type "ValueError", .type "Exception", .type "BaseException", .type "object"] "ValueError.__new__" = true) (k4 : PySem.W.keepIn K (.ref C4) = true) (s4 : PySem.W.subIn K (.ref C4) (.type "BaseException") = some true) (t4 : PySem.W.typeIn K (.ref C4) = some (.type "type"))
    (a2 : PySem.W.nsIn K mainGlobals "NoView" = some (some (.ref C2))) (x2 : PySem.W.excIn K C2 [.type "ValueError", .type "Exception", .type "BaseException", .type "object"] "ValueError.__new__" = true) (k2 : PySem.W.keepIn K (.ref C2) = true) (s2 : PySem.W.subIn K (.ref C2) (.type "BaseException") = some true) (t2 : PySem.W.typeIn K (.ref C2) = some (.type "type"))
    (d4 : PySem.W.hasDictIn K C4 = true)
    (u3_4 : PySem.W.subIn K (.ref C3) (.ref C4) = some false)
    (u4_4 : PySem.W.subIn K (.ref C4) (.ref C4) = some true)
    (u2_4 : PySem.W.subIn K (.ref C2) (.ref C4) = some false)
    (z_all : PySem.W.nsIn K mainGlobals "all" = some none)
    (z_bool : PySem.W.nsIn K mainGlobals "bool" = some none)
    (z_enumerate : PySem.W.nsIn K mainGlobals "enumerate" = some none)
    (z_int : PySem.W.nsIn K mainGlobals "int" = some none)
    (z_isinstance : PySem.W.nsIn K mainGlobals "isinstance" = some none)
    (z_len : PySem.W.nsIn K mainGlobals "len" = some none)
    (z_max : PySem.W.nsIn K mainGlobals "max" = some none)
    (z_range : PySem.W.nsIn K mainGlobals "range" = some none)
    (z_set : PySem.W.nsIn K mainGlobals "set" = some none)
    (z_str : PySem.W.nsIn K mainGlobals "str" = some none)
    (z_tuple : PySem.W.nsIn K mainGlobals "tuple" = some none)
    (v_MOST_STATES : PySem.W.nsIn K mainGlobals "MOST_STATES" = some (some (.int 9 t_MOST_STATES)))
    (v_REFUSED : PySem.W.nsIn K mainGlobals "REFUSED" = some (some (.str "-" t_REFUSED)))
    : ∃ fd : FuncData, (∀ (s : Shared) (v : Value), BindsTo s fd ⟨[v], []⟩ [("_law_script", v)]) ∧ ∀ base : Heap, K.In base → base.Ns mainGlobals mg → FnG l.prog w K mg base 10 fa fd ["_law_script"] (spTop K) := by
  have e := hfa.symm.trans (PySem.W.mg_of X G a31)
  cases e
  let adr : Nat → Addr := fun i => ([0, 0, C2, C3, C4, 0, f6, f7, 0, 0, f10, f11, f12, f13, f14, f15, 0, 0, f18, f19, f20, f21, f22, 0, f24, f25, f26, f27, f28, f29, f30, fa] : List Addr).getD i 0
  let fds : Nat → FuncData := fun i => ([(PySem.W.fnOf "law" "law" (defArgs (topS 31)) (defBody (topS 31)) (defScope (topS 31)) .none kV31 dc31 pm31 an31 cd31 ct31), (PySem.W.fnOf "law" "law" (defArgs (topS 31)) (defBody (topS 31)) (defScope (topS 31)) .none kV31 dc31 pm31 an31 cd31 ct31), (PySem.W.fnOf "law" "law" (defArgs (topS 31)) (defBody (topS 31)) (defScope (topS 31)) .none kV31 dc31 pm31 an31 cd31 ct31), (PySem.W.fnOf "law" "law" (defArgs (topS 31)) (defBody (topS 31)) (defScope (topS 31)) .none kV31 dc31 pm31 an31 cd31 ct31), (PySem.W.fnOf "law" "law" (defArgs (topS 31)) (defBody (topS 31)) (defScope (topS 31)) .none kV31 dc31 pm31 an31 cd31 ct31), (PySem.W.fnOf "law" "law" (defArgs (topS 31)) (defBody (topS 31)) (defScope (topS 31)) .none kV31 dc31 pm31 an31 cd31 ct31), (PySem.W.fnOf "is_whole" "is_whole" (defArgs (topS 6)) (defBody (topS 6)) (defScope (topS 6)) .none kV6 dc6 pm6 an6 cd6 ct6), (PySem.W.fnOf "is_below" "is_below" (defArgs (topS 7)) (defBody (topS 7)) (defScope (topS 7)) .none kV7 dc7 pm7 an7 cd7 ct7), (PySem.W.fnOf "law" "law" (defArgs (topS 31)) (defBody (topS 31)) (defScope (topS 31)) .none kV31 dc31 pm31 an31 cd31 ct31), (PySem.W.fnOf "law" "law" (defArgs (topS 31)) (defBody (topS 31)) (defScope (topS 31)) .none kV31 dc31 pm31 an31 cd31 ct31), (PySem.W.fnOf "is_view" "is_view" (defArgs (topS 10)) (defBody (topS 10)) (defScope (topS 10)) .none kV10 dc10 pm10 an10 cd10 ct10), (PySem.W.fnOf "need_view" "need_view" (defArgs (topS 11)) (defBody (topS 11)) (defScope (topS 11)) .none kV11 dc11 pm11 an11 cd11 ct11), (PySem.W.fnOf "count_values" "count_values" (defArgs (topS 12)) (defBody (topS 12)) (defScope (topS 12)) .none kV12 dc12 pm12 an12 cd12 ct12), (PySem.W.fnOf "is_table" "is_table" (defArgs (topS 13)) (defBody (topS 13)) (defScope (topS 13)) .none kV13 dc13 pm13 an13 cd13 ct13), (PySem.W.fnOf "_is_row" "_is_row" (defArgs (topS 14)) (defBody (topS 14)) (defScope (topS 14)) .none kV14 dc14 pm14 an14 cd14 ct14), (PySem.W.fnOf "need_table" "need_table" (defArgs (topS 15)) (defBody (topS 15)) (defScope (topS 15)) .none kV15 dc15 pm15 an15 cd15 ct15), (PySem.W.fnOf "law" "law" (defArgs (topS 31)) (defBody (topS 31)) (defScope (topS 31)) .none kV31 dc31 pm31 an31 cd31 ct31), (PySem.W.fnOf "law" "law" (defArgs (topS 31)) (defBody (topS 31)) (defScope (topS 31)) .none kV31 dc31 pm31 an31 cd31 ct31), (PySem.W.fnOf "words" "words" (defArgs (topS 18)) (defBody (topS 18)) (defScope (topS 18)) .none kV18 dc18 pm18 an18 cd18 ct18), (PySem.W.fnOf "table_text" "table_text" (defArgs (topS 19)) (defBody (topS 19)) (defScope (topS 19)) .none kV19 dc19 pm19 an19 cd19 ct19), (PySem.W.fnOf "read_table" "read_table" (defArgs (topS 20)) (defBody (topS 20)) (defScope (topS 20)) .none kV20 dc20 pm20 an20 cd20 ct20), (PySem.W.fnOf "_entries" "_entries" (defArgs (topS 21)) (defBody (topS 21)) (defScope (topS 21)) .none kV21 dc21 pm21 an21 cd21 ct21), (PySem.W.fnOf "_entry" "_entry" (defArgs (topS 22)) (defBody (topS 22)) (defScope (topS 22)) .none kV22 dc22 pm22 an22 cd22 ct22), (PySem.W.fnOf "law" "law" (defArgs (topS 31)) (defBody (topS 31)) (defScope (topS 31)) .none kV31 dc31 pm31 an31 cd31 ct31), (PySem.W.fnOf "_law_cell_at" "_law_cell_at" (defArgs (topS 24)) (defBody (topS 24)) (defScope (topS 24)) .none kV24 dc24 pm24 an24 cd24 ct24), (PySem.W.fnOf "_law_pen" "_law_pen" (defArgs (topS 25)) (defBody (topS 25)) (defScope (topS 25)) .none kV25 dc25 pm25 an25 cd25 ct25), (PySem.W.fnOf "_law_draw" "_law_draw" (defArgs (topS 26)) (defBody (topS 26)) (defScope (topS 26)) .none kV26 dc26 pm26 an26 cd26 ct26), (PySem.W.fnOf "_law_view" "_law_view" (defArgs (topS 27)) (defBody (topS 27)) (defScope (topS 27)) .none kV27 dc27 pm27 an27 cd27 ct27), (PySem.W.fnOf "_law_any" "_law_any" (defArgs (topS 28)) (defBody (topS 28)) (defScope (topS 28)) .none kV28 dc28 pm28 an28 cd28 ct28), (PySem.W.fnOf "_law_read" "_law_read" (defArgs (topS 29)) (defBody (topS 29)) (defScope (topS 29)) .none kV29 dc29 pm29 an29 cd29 ct29), (PySem.W.fnOf "_law_turned" "_law_turned" (defArgs (topS 30)) (defBody (topS 30)) (defScope (topS 30)) .none kV30 dc30 pm30 an30 cd30 ct30), (PySem.W.fnOf "law" "law" (defArgs (topS 31)) (defBody (topS 31)) (defScope (topS 31)) .none kV31 dc31 pm31 an31 cd31 ct31)] : List FuncData).getD i (PySem.W.fnOf "law" "law" (defArgs (topS 31)) (defBody (topS 31)) (defScope (topS 31)) .none kV31 dc31 pm31 an31 cd31 ct31)
  have F6 := fun_mk (st := topS 6) l6 c6 k6
  have b6 := F6.binds (ps := ["thing"]) fun _ _ _ _ _ _ us hl => match us, hl with | [_], _ => rfl
  have F7 := fun_mk (st := topS 7) l7 c7 k7
  have b7 := F7.binds (ps := ["thing", "limit"]) fun _ _ _ _ _ _ us hl => match us, hl with | [_, _], _ => rfl
  have F10 := fun_mk (st := topS 10) l10 c10 k10
  have b10 := F10.binds (ps := ["thing"]) fun _ _ _ _ _ _ us hl => match us, hl with | [_], _ => rfl
  have F11 := fun_mk (st := topS 11) l11 c11 k11
  have b11 := F11.binds (ps := ["view"]) fun _ _ _ _ _ _ us hl => match us, hl with | [_], _ => rfl
  have F12 := fun_mk (st := topS 12) l12 c12 k12
  have b12 := F12.binds (ps := ["view"]) fun _ _ _ _ _ _ us hl => match us, hl with | [_], _ => rfl
  have F14 := fun_mk (st := topS 14) l14 c14 k14
  have b14 := F14.binds (ps := ["view", "thing"]) fun _ _ _ _ _ _ us hl => match us, hl with | [_, _], _ => rfl
  have F13 := fun_mk (st := topS 13) l13 c13 k13
  have b13 := F13.binds (ps := ["view", "thing"]) fun _ _ _ _ _ _ us hl => match us, hl with | [_, _], _ => rfl
  have F15 := fun_mk (st := topS 15) l15 c15 k15
  have b15 := F15.binds (ps := ["view", "table"]) fun _ _ _ _ _ _ us hl => match us, hl with | [_, _], _ => rfl
  have F18 := fun_mk (st := topS 18) l18 c18 k18
  have b18 := F18.binds (ps := ["entries"]) fun _ _ _ _ _ _ us hl => match us, hl with | [_], _ => rfl
  have F19 := fun_mk (st := topS 19) l19 c19 k19
  have b19 := F19.binds (ps := ["view", "table"]) fun _ _ _ _ _ _ us hl => match us, hl with | [_, _], _ => rfl
  have F22 := fun_mk (st := topS 22) l22 c22 k22
  have b22 := F22.binds (ps := ["word"]) fun _ _ _ _ _ _ us hl => match us, hl with | [_], _ => rfl
  have F21 := fun_mk (st := topS 21) l21 c21 k21
  have b21 := F21.binds (ps := ["line"]) fun _ _ _ _ _ _ us hl => match us, hl with | [_], _ => rfl
  have F20 := fun_mk (st := topS 20) l20 c20 k20
  have b20 := F20.binds (ps := ["text"]) fun _ _ _ _ _ _ us hl => match us, hl with | [_], _ => rfl
  have F24 := fun_mk (st := topS 24) l24 c24 k24
  have b24 := F24.binds (ps := ["_law_script", "_law_k"]) fun _ _ _ _ _ _ us hl => match us, hl with | [_, _], _ => rfl
  have F25 := fun_mk (st := topS 25) l25 c25 k25
  have b25 := F25.binds (ps := ["_law_cell"]) fun _ _ _ _ _ _ us hl => match us, hl with | [_], _ => rfl
  have F26 := fun_mk (st := topS 26) l26 c26 k26
  have b26 := F26.binds (ps := ["_law_pen_here", "_law_many"]) fun _ _ _ _ _ _ us hl => match us, hl with | [_, _], _ => rfl
  have F27 := fun_mk (st := topS 27) l27 c27 k27
  have b27 := F27.binds (ps := ["_law_pen_here", "_law_low", "_law_high"]) fun _ _ _ _ _ _ us hl => match us, hl with | [_, _, _], _ => rfl
  have F28 := fun_mk (st := topS 28) l28 c28 k28
  have b28 := F28.binds (ps := ["_law_pen_here", "_law_view_here"]) fun _ _ _ _ _ _ us hl => match us, hl with | [_, _], _ => rfl
  have F29 := fun_mk (st := topS 29) l29 c29 k29
  have b29 := F29.binds (ps := ["_law_text"]) fun _ _ _ _ _ _ us hl => match us, hl with | [_], _ => rfl
  have F30 := fun_mk (st := topS 30) l30 c30 k30
  have b30 := F30.binds (ps := ["_law_pen_here", "_law_text"]) fun _ _ _ _ _ _ us hl => match us, hl with | [_, _], _ => rfl
  have F31 := fun_mk (st := topS 31) l31 c31 k31
  have b31 := F31.binds (ps := ["_law_script"]) fun _ _ _ _ _ _ us hl => match us, hl with | [_], _ => rfl
  have T : Txt K mg adr fds := {
F_is_whole := F6,
    b_is_whole := b6,
    g_is_whole := PySem.W.mg_of X G a6,
    F_is_below := F7,
    b_is_below := b7,
    g_is_below := PySem.W.mg_of X G a7,
    F_is_view := F10,
    b_is_view := b10,
    g_is_view := PySem.W.mg_of X G a10,
    F_need_view := F11,
    b_need_view := b11,
    g_need_view := PySem.W.mg_of X G a11,
    F_count_values := F12,
    b_count_values := b12,
    g_count_values := PySem.W.mg_of X G a12,
    F__is_row := F14,
    b__is_row := b14,
    g__is_row := PySem.W.mg_of X G a14,
    F_is_table := F13,
    b_is_table := b13,
    g_is_table := PySem.W.mg_of X G a13,
    F_need_table := F15,
    b_need_table := b15,
    g_need_table := PySem.W.mg_of X G a15,
    F_words := F18,
    b_words := b18,
    g_words := PySem.W.mg_of X G a18,
    F_table_text := F19,
    b_table_text := b19,
    g_table_text := PySem.W.mg_of X G a19,
    F__entry := F22,
    b__entry := b22,
    g__entry := PySem.W.mg_of X G a22,
    F__entries := F21,
    b__entries := b21,
    g__entries := PySem.W.mg_of X G a21,
    F_read_table := F20,
    b_read_table := b20,
    g_read_table := PySem.W.mg_of X G a20,
    F__law_cell_at := F24,
    b__law_cell_at := b24,
    g__law_cell_at := PySem.W.mg_of X G a24,
    F__law_pen := F25,
    b__law_pen := b25,
    g__law_pen := PySem.W.mg_of X G a25,
    F__law_draw := F26,
    b__law_draw := b26,
    g__law_draw := PySem.W.mg_of X G a26,
    F__law_view := F27,
    b__law_view := b27,
    g__law_view := PySem.W.mg_of X G a27,
    F__law_any := F28,
    b__law_any := b28,
    g__law_any := PySem.W.mg_of X G a28,
    F__law_read := F29,
    b__law_read := b29,
    g__law_read := PySem.W.mg_of X G a29,
    F__law_turned := F30,
    b__law_turned := b30,
    g__law_turned := PySem.W.mg_of X G a30,
    F_law := F31,
    b_law := b31,
    g_law := PySem.W.mg_of X G a31,
    e_NoTable := PySem.W.mg_of X G a3,
    x_NoTable := x3,
    k_NoTable := k3,
    s_NoTable := s3,
    t_NoTable := t3,
    e_NoText := PySem.W.mg_of X G a4,
    x_NoText := x4,
    k_NoText := k4,
    s_NoText := s4,
    t_NoText := t4,
    e_NoView := PySem.W.mg_of X G a2,
    x_NoView := x2,
    k_NoView := k2,
    s_NoView := s2,
    t_NoView := t2,
    d_NoText := d4,
    u_NoTable_NoText := u3_4,
    u_NoText_NoText := u4_4,
    u_NoView_NoText := u2_4,
    z_all := PySem.W.mg_none_of X G z_all,
    z_bool := PySem.W.mg_none_of X G z_bool,
    z_enumerate := PySem.W.mg_none_of X G z_enumerate,
    z_int := PySem.W.mg_none_of X G z_int,
    z_isinstance := PySem.W.mg_none_of X G z_isinstance,
    z_len := PySem.W.mg_none_of X G z_len,
    z_max := PySem.W.mg_none_of X G z_max,
    z_range := PySem.W.mg_none_of X G z_range,
    z_set := PySem.W.mg_none_of X G z_set,
    z_str := PySem.W.mg_none_of X G z_str,
    z_tuple := PySem.W.mg_none_of X G z_tuple,
    c_MOST_STATES := ⟨_, PySem.W.mg_of X G v_MOST_STATES⟩,
    c_REFUSED := ⟨_, PySem.W.mg_of X G v_REFUSED⟩ }
  exact ⟨(PySem.W.fnOf "law" "law" (defArgs (topS 31)) (defBody (topS 31)) (defScope (topS 31)) .none kV31 dc31 pm31 an31 cd31 ct31), fun s v => .of_eq rfl, fun base _ _ => (ok_law T).imp (top_of (m := m_law_k66) noL hm)⟩
end Pf
open PySem PySem.W PyProof.Rows
set_option maxHeartbeats 0 in
theorem PySem.Challenge.cw_writebacks_k66_whole_texts_there_and_bac_holds : PySem.Challenge.rw_writebacks_k66_whole_texts_there_and_bac.Holds := by
  w_on; o_law; k_head; (case hw => w_witness2)
  k_fill
  refine MW.walk_G (l := PySem.Challenge.rw_writebacks_k66_whole_texts_there_and_bac) (k := 10) (x := "_law_script") rfl rfl ⟨rfl, by decide, by decide⟩ (fun w h Y => PySem.W.kIn_of Y) (fun w => ?noLL) ?F
  case noLL => rfl
  case F =>
    intro w mg fa h KX G hmg
    refine' Pf.all_mk KX G hmg ?noL ?hm ?a6 ?l6 ?c6 ?k6 ?a7 ?l7 ?c7 ?k7 ?a10 ?l10 ?c10 ?k10 ?a11 ?l11 ?c11 ?k11 ?a12 ?l12 ?c12 ?k12 ?a14 ?l14 ?c14 ?k14 ?a13 ?l13 ?c13 ?k13 ?a15 ?l15 ?c15 ?k15 ?a18 ?l18 ?c18 ?k18 ?a19 ?l19 ?c19 ?k19 ?a22 ?l22 ?c22 ?k22 ?a21 ?l21 ?c21 ?k21 ?a20 ?l20 ?c20 ?k20 ?a24 ?l24 ?c24 ?k24 ?a25 ?l25 ?c25 ?k25 ?a26 ?l26 ?c26 ?k26 ?a27 ?l27 ?c27 ?k27 ?a28 ?l28 ?c28 ?k28 ?a29 ?l29 ?c29 ?k29 ?a30 ?l30 ?c30 ?k30 ?a31 ?l31 ?c31 ?k31 ?a3 ?x3 ?k3 ?s3 ?t3 ?a4 ?x4 ?k4 ?s4 ?t4 ?a2 ?x2 ?k2 ?s2 ?t2 ?d4 ?u3_4 ?u4_4 ?u2_4 ?z_all ?z_bool ?z_enumerate ?z_int ?z_isinstance ?z_len ?z_max ?z_range ?z_set ?z_str ?z_tuple ?v_MOST_STATES ?v_REFUSED
    (case noL => rfl)
    (case hm => exact Pf.law_holds)
    (case a6 => k_is)
    (case l6 => k_is)
    (case c6 => k_is)
    (case k6 => k_is)
    (case a7 => k_is)
    (case l7 => k_is)
    (case c7 => k_is)
    (case k7 => k_is)
    (case a10 => k_is)
    (case l10 => k_is)
    (case c10 => k_is)
    (case k10 => k_is)
    (case a11 => k_is)
    (case l11 => k_is)
    (case c11 => k_is)
    (case k11 => k_is)
    (case a12 => k_is)
    (case l12 => k_is)
    (case c12 => k_is)
    (case k12 => k_is)
    (case a14 => k_is)
    (case l14 => k_is)
    (case c14 => k_is)
    (case k14 => k_is)
    (case a13 => k_is)
    (case l13 => k_is)
    (case c13 => k_is)
    (case k13 => k_is)
    (case a15 => k_is)
    (case l15 => k_is)
    (case c15 => k_is)
    (case k15 => k_is)
    (case a18 => k_is)
    (case l18 => k_is)
    (case c18 => k_is)
    (case k18 => k_is)
    (case a19 => k_is)
    (case l19 => k_is)
    (case c19 => k_is)
    (case k19 => k_is)
    (case a22 => k_is)
    (case l22 => k_is)
    (case c22 => k_is)
    (case k22 => k_is)
    (case a21 => k_is)
    (case l21 => k_is)
    (case c21 => k_is)
    (case k21 => k_is)
    (case a20 => k_is)
    (case l20 => k_is)
    (case c20 => k_is)
    (case k20 => k_is)
    (case a24 => k_is)
    (case l24 => k_is)
    (case c24 => k_is)
    (case k24 => k_is)
    (case a25 => k_is)
    (case l25 => k_is)
    (case c25 => k_is)
    (case k25 => k_is)
    (case a26 => k_is)
    (case l26 => k_is)
    (case c26 => k_is)
    (case k26 => k_is)
    (case a27 => k_is)
    (case l27 => k_is)
    (case c27 => k_is)
    (case k27 => k_is)
    (case a28 => k_is)
    (case l28 => k_is)
    (case c28 => k_is)
    (case k28 => k_is)
    (case a29 => k_is)
    (case l29 => k_is)
    (case c29 => k_is)
    (case k29 => k_is)
    (case a30 => k_is)
    (case l30 => k_is)
    (case c30 => k_is)
    (case k30 => k_is)
    (case a31 => k_is)
    (case l31 => k_is)
    (case c31 => k_is)
    (case k31 => k_is)
    (case a3 => k_is)
    (case x3 => k_exc)
    (case k3 => k_is)
    (case s3 => k_is)
    (case t3 => k_is)
    (case a4 => k_is)
    (case x4 => k_exc)
    (case k4 => k_is)
    (case s4 => k_is)
    (case t4 => k_is)
    (case a2 => k_is)
    (case x2 => k_exc)
    (case k2 => k_is)
    (case s2 => k_is)
    (case t2 => k_is)
    (case d4 => k_is)
    (case u3_4 => k_is)
    (case u4_4 => k_is)
    (case u2_4 => k_is)
    (case z_all => k_is)
    (case z_bool => k_is)
    (case z_enumerate => k_is)
    (case z_int => k_is)
    (case z_isinstance => k_is)
    (case z_len => k_is)
    (case z_max => k_is)
    (case z_range => k_is)
    (case z_set => k_is)
    (case z_str => k_is)
    (case z_tuple => k_is)
    (case v_MOST_STATES => k_is)
    (case v_REFUSED => k_is)
