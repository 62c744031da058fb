import PyProof.Rows.All
import Wide.All
import OpenK.AllK
import Wide.FinOn
import HandS.ForExc
import HandS.ForMost
import HandS.Flow
import HandS.Walk
import HandS.ExcOwn
import HandS.WordsExc
import HandS.Ends
import HandS.Lambda
import HandS.Nested
import KE.DataEq
import HandS.TupAny
import HandS.TupMul
import HandS.Conv
import HandS.IsInst
import HandS.WordsDict
import HandS.Deep
import HandS.Style
import KE.SortData
import KE.GoesMore
import HandS.Iter
import HandS.SetFor
import HandS.NoneIn
import KE.KEqSeq
import HandS.Zip
import HandS.TryOnly
import HandS.ExcIs
import PyProof.Rows.StrDigits
import HandS.TryMany
import HandS.SetBool
import HandS.DictComp
import HandS.TupSets
import HandS.Strs
import PyProof.ListNew
import HandS.Defaults
import HandS.Small
import HandS.Star
import KE.DataMinKey
import HandS.SortKw
import KE.KUnpack
import HandS.More
import HandS.GenCall
import HandS.GenYield
import HandS.GenList
import KE.KMathG
import KE.KMathGC
import HandS.Text
import HandS.EndTab
import HandS.HotCalls
import KE.KNestM
import KE.RegKIsAll
import KE.DataFind
import HandS.FStr
import HandS.RaiseMore
import KE.KUnpackStar
import HandS.Replace
import HandS.ReplaceDef
import HandS.ReplaceLit
import HandS.ReplaceList
import PySem.Challenge.RW_writebacks_k65_texts_refused
set_option Elab.async false
set_option linter.all false
set_option autoImplicit false
set_option maxRecDepth 100000
namespace MW
open PySem PySem.Spec PyProof.Rows L2
/-- room for a call; gq: no repr is under way -/
structure RoomQ (gq : Bool) (k : Nat) (A : Around) : Prop where
  rm : Room k A
  gd : gq = true → A.guards = some []
abbrev RoomG (k : Nat) (A : Around) : Prop := RoomQ true k A
section
variable {gq : Bool}
theorem RoomQ.mono {j k : Nat} {A : Around} (r : RoomQ gq k A) (h : j ≤ k) : RoomQ gq j A := ⟨r.rm.mono h, r.gd⟩
theorem RoomQ.units {k : Nat} {A : Around} (r : RoomQ gq k A) : A.units + 64 < cLine := r.rm.units
theorem RoomQ.un {k : Nat} {A : Around} (r : RoomQ gq k A) : A.units + 16 * k + 200 < cLine := r.rm.un
theorem RoomQ.deeper {k : Nat} {A : Around} (r : RoomQ gq (k + 1) A) (env : Env) : RoomQ gq k (A.deeper env) := ⟨r.rm.deeper env, fun z => by
  have h := r.gd z
  first | exact h | (simp [Around.deeper, h])⟩
end
structure FnQ (gq : Bool) (P : Program) (w : World) (K : PySem.W.Frag) (mg : Str → Option Value) (base : Heap) (k : Nat) (f : Addr) (fd : FuncData) (ps : List Str) (sp : Sp) : Prop where
  len : ∀ vs H Q E, sp vs H Q E → vs.length = ps.length
  run : ∀ (A : Around) (outer : List Env) (s : Shared) (H : Hp) (args : Args) (us : List Value) (vs : List V) (Q : VK) (E : XK), RoomQ gq k A → Env0 P w K mg base A outer s H → BindsTo s fd args (ps.zip us) → Vals vs us → sp vs H Q E →
    codeAny (model P w) A (.call (.ref f) args) (CR (L2.CX P w) outer P w H s Q E) s
abbrev FnG (P : Program) (w : World) (K : PySem.W.Frag) (mg : Str → Option Value) (base : Heap) (k : Nat) (f : Addr) (fd : FuncData) (ps : List Str) (sp : Sp) : Prop := FnQ true P w K mg base k f fd ps sp
section
variable {gq : Bool}
variable {P : Program} {w : World} {K : PySem.W.Frag} {mg : Str → Option Value} {base : Heap} {f : Addr} {fd : FuncData} {ps N : List Str} {sp : Sp}
theorem FnQ.mono {j k : Nat} (F : FnQ gq P w K mg base j f fd ps sp) (h : j ≤ k) : FnQ gq P w K mg base k f fd ps sp := ⟨F.len, fun A outer s H args us vs Q E hr => F.run A outer s H args us vs Q E (hr.mono h)⟩
theorem FnQ.imp {k : Nat} {sp' : Sp} (F : FnQ gq P w K mg base k f fd ps sp) (h : ∀ vs H Q E, sp' vs H Q E → sp vs H Q E) : FnQ gq P w K mg base k f fd ps sp' :=
  ⟨fun vs H Q E q => F.len vs H Q E (h _ _ _ _ q), fun A outer s H args us vs Q E hr e0 hb rv q => F.run A outer s H args us vs Q E hr e0 hb rv (h _ _ _ _ q)⟩
/-- a def, by what its body does -/
theorem FnQ.of {x qual : Str} {st : Stmt} {k : Nat} (F : L2.Fun K x qual st f fd) (S : FnScope N ps (defScope st)) (len : ∀ vs H Q E, sp vs H Q E → vs.length = ps.length)
    (body : ∀ (cdv : Value) (A : Around) (outer : List Env) (s : Shared) (H : Hp) (vs : List V) (Q : VK) (E : XK), RoomQ gq k (A.deeper (envOfC qual (defScope st) s.heap.objs.size f cdv)) → sp vs H Q E →
      ∃ t, PSs (cxOf (L2.CX P w) P w K mg base N qual (defScope st) f cdv A outer s H E) (defBody st) t ∧ t { nx := fun _ H' => Q .non H', rt := Q } (start N vs) H) : FnQ gq P w K mg base (k + 1) f fd ps sp := by
  obtain ⟨oc, od, kV, doc, pm, an, cdv, ct, osl, rfl, lk, hcd⟩ := F.ex
  constructor
  · exact len
  intro A outer s H args us vs Q E hr e0 hb rv hsp
  have hvs : vs.length = ps.length := len _ _ _ _ hsp
  have keep := fun b o e => (e0.bs b o e).1
  have kin : K.In s.heap := e0.mod.kin.keeps keep
  have nolim : s.heap.NoLimit := e0.mod.nolimit.keeps keep
  apply codeAny_call_function hr.rm.depth (kin _ _ lk) rfl S.co S.gen rfl (PySem.W.codeRec_of kin hcd)
  apply hb
  refine wpAny_newFunctionEnv_cells S.kind ?_ ?_
  · rintro ⟨y, u⟩ hy
    have hyp := S.par y (List.of_mem_zip hy).1
    cases hyp with
    | inl q => exact Or.inl q
    | inr q => exact Or.inr ⟨q, PySem.W.cellsFrom_some _ _ _ (Or.inl q)⟩
  · intro env henv s1 x
    subst henv
    constructor
    · exact nolim.keeps x.toInCall.keep
    · apply codeAny_func
      obtain ⟨t, ht, hq⟩ := body cdv A outer s H vs Q E (hr.deeper _) hsp
      have I0 : Inv (cxOf (L2.CX P w) P w K mg base N qual (defScope st) f cdv A outer s H E) [] (start N vs) H s1 := inv_start (CX := L2.CX P w) S hr.rm.hd e0 hvs rv x
      have run := ht.run [] s1 (start N vs) H _ I0 hq
      apply wpAny_mono run
      · intro fl s' hs
        have ends : ∀ {σ' : L2.St} {H' : Hp} {v : V} {u : Value}, Inv (cxOf (L2.CX P w) P w K mg base N qual (defScope st) f cdv A outer s H E) [] σ' H' s' → RelV v u → Q v H' → CE outer P w H s Q u s' := by
          intro σ' H' v u J ru q
          exact ⟨v, H', J.os, J.bare, J.base, J.hok, ru, q⟩
        match fl, hs with
        | .ret u, ⟨v, σ', H', J, ru, q⟩ => exact ends J ru q
        | .next, ⟨σ', H', J, q⟩ => exact ends (v := V.non) (u := Value.none) J rfl q
        | .brk, ⟨_, _, _, q⟩ => exact q.elim
        | .cont, ⟨_, _, _, q⟩ => exact q.elim
      · exact fun e s' hs => hs
end
section
variable {gq : Bool} {X : Cx} {k : Nat} {f : Addr} {fd : FuncData} {ps : List Str} {sp : Sp} {x : Str} {p pos : Pos} {e : Expr} {es : List Expr} {t : TA} {E : L2.St → XK}
theorem pe_callG (F : FnQ gq X.prog X.w X.K X.mg X.base k f fd ps sp) (hr : RoomQ gq k X.A) (hg : Gl X x) (hm : X.mg x = some (.ref f)) (hk : PySem.W.keepIn X.K (.ref f) = true) (hb : Binds X.K fd ps []) (hx : ∀ σ, PassesAt (L2.CX X.prog X.w) X σ (E σ))
    (ha : PA X (e :: es) t) (hdb : (x == ("__debug__" : Str)) = false := by decide) (he : starEach (e :: es) X.env = (false, eval e X.env) :: starEach es X.env := by rfl) (hpl : (backTo pos (starEach es X.env)).any (·.1) = false := by rfl) :
    PE X (.Call (.Name x p) (e :: es) [] pos) (tCallS sp E t) := by
  constructor
  intro pins s σ H Q I h
  apply wpAny_Call_Name_kw
  apply ld_glob I hg hm _ hdb
  refine PySem.W.callWith_K (h₀ := X.base) I.ok.mod.kin hk (thn (ha.run pos pins s σ H _ I h) ?_) he hpl
  rintro us s1 ⟨vs, H1, I1, r, q⟩
  refine ⟨I1.kIn, ?_⟩
  have n : us.length = ps.length := by rw [← F.len _ _ _ _ q, r.length]
  have bd : BindsTo s1 fd ⟨us, []⟩ (ps.zip us) := by
    have z := hb s1 us I1.kIn (by simpa using n)
    simpa using z
  have run := F.run X.A X.stack s1 H1 ⟨us, []⟩ us vs Q (E σ) hr I1.env0 bd r q
  apply wpAny_call
  apply codeAny_mono run
  intro r s' hq
  match r, hq with
  | .error e, hq => exact hx σ pins H1 s1 e s' I1 hq
  | .ok (.ret u), hq => exact I1.after hq
  | .ok .next, hq => exact hq.elim
  | .ok .brk, hq => exact hq.elim
  | .ok .cont, hq => exact hq.elim
end
end MW
namespace MW
open PySem PySem.Spec PyProof.Rows L2
abbrev D := PyData
abbrev Sts := L2.St
abbrev Ev := List (Option D)
abbrev Fg := PySem.W.Frag
def keyD : L2.Key → D
  | .inl i => .int i
  | .inr x => .str x
/-- a tuple at a, of which it is known that it has no names of its own -/
def SqM (K : Fg) (H : Hp) (a : Addr) (xs : List V) : Prop :=
  (∃ o : Obj, o.dict = none ∧ H a = some (.frz o (.tup xs))) ∨
  ∃ (o : Obj) (its : Array Value) (n : Nat), o.dict = none ∧ K.lookup a = some o ∧ (o.cls = .type "tuple" ∧ o.data = .seq its n) ∧ its.size ≤ sizeLine ∧ Vals xs its.toList
theorem SqM.sq {K : Fg} {H : Hp} {a : Addr} {xs : List V} : SqM K H a xs → SqT K H a xs
  | .inl ⟨o, _, h⟩ => .inl (.inr ⟨o, h⟩)
  | .inr ⟨o, its, n, _, h1, ⟨h2, h3⟩, h4, h5⟩ => .inr ⟨o, its, n, h1, h2, h3, h4, h5⟩
mutual
/-- a value stands for data, over what is frozen -/
inductive Rp (K : Fg) (F : Hp) : V → D → Prop
  | non : Rp K F .non .none
  | bl (b : Bool) : Rp K F (.bl b) (.bool b)
  | int (i : Int) : Rp K F (.int i) (.int i)
  | str (x : Str) : Rp K F (.str x) (.str x)
  | lst {a : Addr} {xs : List V} {ds : List D} : Rd F a (.lst xs) → RpL K F xs ds → Rp K F (.ref a) (.list ds)
  | tup {a : Addr} {xs : List V} {ds : List D} : SqM K F a xs → RpL K F xs ds → Rp K F (.ref a) (.tuple ds)
  | dct {a : Addr} {o : Obj} {kvs : List (L2.Key × V)} {ps : List (D × D)} : F a = some (.frz o (.dK kvs)) → RpK K F kvs ps → Rp K F (.ref a) (.dict ps)
inductive RpL (K : Fg) (F : Hp) : List V → List D → Prop
  | nil : RpL K F [] []
  | cons {v : V} {vs : List V} {d : D} {ds : List D} : Rp K F v d → RpL K F vs ds → RpL K F (v :: vs) (d :: ds)
inductive RpK (K : Fg) (F : Hp) : List (L2.Key × V) → List (D × D) → Prop
  | nil : RpK K F [] []
  | cons {k : L2.Key} {v : V} {kvs : List (L2.Key × V)} {d : D} {ps : List (D × D)} : Rp K F v d → RpK K F kvs ps → RpK K F ((k, v) :: kvs) ((keyD k, d) :: ps)
end
theorem sqM_same {K : Fg} {H H' : Hp} {a : Addr} {xs : List V} (e : Same H H') : SqM K H a xs → SqM K H' a xs
  | .inl ⟨o, d, h⟩ => .inl ⟨o, d, e _ _ h⟩
  | .inr h => .inr h
theorem sqT_same {K : Fg} {H H' : Hp} {a : Addr} {xs : List V} (e : Same H H') (h : SqT K H a xs) : SqT K H' a xs := by
  rcases h with (h | ⟨o, h⟩) | h
  · exact .inl (.inl (e _ _ h))
  · exact .inl (.inr ⟨o, e _ _ h⟩)
  · exact .inr h
theorem rd_same {H H' : Hp} {a : Addr} {o : HO} (e : Same H H') (h : Rd H a o) : Rd H' a o := by
  rcases h with h | ⟨u, h⟩
  · exact .inl (e _ _ h)
  · exact .inr ⟨u, e _ _ h⟩
mutual
theorem Rp.up {K : Fg} {F F' : Hp} (e : Same F F') : ∀ {v : V} {d : D}, Rp K F v d → Rp K F' v d
  | _, _, .non => .non
  | _, _, .bl b => .bl b
  | _, _, .int i => .int i
  | _, _, .str x => .str x
  | _, _, .lst h r => .lst (rd_same e h) (RpL.up e r)
  | _, _, .tup h r => .tup (sqM_same e h) (RpL.up e r)
  | _, _, .dct h r => .dct (e _ _ h) (RpK.up e r)
theorem RpL.up {K : Fg} {F F' : Hp} (e : Same F F') : ∀ {vs : List V} {ds : List D}, RpL K F vs ds → RpL K F' vs ds
  | _, _, .nil => .nil
  | _, _, .cons h r => .cons (Rp.up e h) (RpL.up e r)
theorem RpK.up {K : Fg} {F F' : Hp} (e : Same F F') : ∀ {vs : List (L2.Key × V)} {ds : List (D × D)}, RpK K F vs ds → RpK K F' vs ds
  | _, _, .nil => .nil
  | _, _, .cons h r => .cons (Rp.up e h) (RpK.up e r)
end
section
variable {K : Fg} {F : Hp}
theorem RpL.len : ∀ {xs : List V} {ds : List D}, RpL K F xs ds → xs.length = ds.length
  | _, _, .nil => rfl
  | _, _, .cons _ r => by rw [List.length_cons, List.length_cons, r.len]
theorem RpL.get : ∀ {xs : List V} {ds : List D} {i : Nat} {d : D}, RpL K F xs ds → ds[i]? = some d → ∃ v, xs[i]? = some v ∧ Rp K F v d
  | _, _, _, _, .nil, h => by simp at h
  | _, _, 0, _, .cons a _, h => by
    simp at h
    subst h
    exact ⟨_, rfl, a⟩
  | _, _, i + 1, _, .cons _ r, h => by
    obtain ⟨v, e, q⟩ := r.get (i := i) (by simpa using h)
    exact ⟨v, by simpa using e, q⟩
theorem RpL.gets : ∀ {xs : List V} {ds : List D} {i : Nat} {v : V}, RpL K F xs ds → xs[i]? = some v → ∃ d, ds[i]? = some d ∧ Rp K F v d
  | _, _, _, _, .nil, h => by simp at h
  | _, _, 0, _, .cons a _, h => by
    simp at h
    subst h
    exact ⟨_, rfl, a⟩
  | _, _, i + 1, _, .cons _ r, h => by
    obtain ⟨v, e, q⟩ := r.gets (i := i) (by simpa using h)
    exact ⟨v, by simpa using e, q⟩
theorem RpL.app : ∀ {xs ys : List V} {ds es : List D}, RpL K F xs ds → RpL K F ys es → RpL K F (xs ++ ys) (ds ++ es)
  | _, _, _, _, .nil, h => h
  | _, _, _, _, .cons a r, h => .cons a (r.app h)
theorem RpL.one {x : V} {d : D} (h : Rp K F x d) : RpL K F [x] [d] := .cons h .nil
theorem RpL.set : ∀ {xs : List V} {ds : List D} (i : Nat) {x : V} {d : D}, Rp K F x d → RpL K F xs ds → RpL K F (xs.set i x) (ds.set i d)
  | _, _, _, _, _, _, .nil => .nil
  | _, _, 0, _, _, h, .cons _ r => .cons h r
  | _, _, i + 1, _, _, h, .cons a r => .cons a (r.set i h)
theorem RpL.take : ∀ {xs : List V} {ds : List D} (n : Nat), RpL K F xs ds → RpL K F (xs.take n) (ds.take n)
  | _, _, 0, _ => .nil
  | _, _, _ + 1, .nil => .nil
  | _, _, n + 1, .cons a r => .cons a (r.take n)
theorem RpL.drop : ∀ {xs : List V} {ds : List D} (n : Nat), RpL K F xs ds → RpL K F (xs.drop n) (ds.drop n)
  | _, _, 0, r => r
  | _, _, _ + 1, .nil => .nil
  | _, _, n + 1, .cons _ r => r.drop n
theorem RpL.erase : ∀ {xs : List V} {ds : List D} (n : Nat), RpL K F xs ds → RpL K F (xs.eraseIdx n) (ds.eraseIdx n)
  | _, _, _, .nil => .nil
  | _, _, 0, .cons a r => r
  | _, _, n + 1, .cons a r => .cons a (r.erase n)
theorem RpL.rev : ∀ {xs : List V} {ds : List D}, RpL K F xs ds → RpL K F xs.reverse ds.reverse
  | _, _, .nil => .nil
  | _, _, .cons a r => by
    rw [List.reverse_cons, List.reverse_cons]
    exact r.rev.app (.one a)
end
inductive Out (α : Type) where
  | ok (a : α) (ρ : Ev)
  | err (c : Str) (ρ : Ev)
  | bad
def Out.bind {α β : Type} (o : Out α) (f : α → Ev → Out β) : Out β := match o with
  | .ok a ρ => f a ρ
  | .err c ρ => .err c ρ
  | .bad => .bad
def Sat {α : Type} (o : Out α) (k : α → Ev → Prop) (e : Str → Ev → Prop) : Prop := match o with
  | .ok a ρ => k a ρ
  | .err c ρ => e c ρ
  | .bad => False
theorem Sat.bind {α β : Type} {o : Out α} {f : α → Ev → Out β} {k : β → Ev → Prop} {e : Str → Ev → Prop} (h : Sat (o.bind f) k e) : Sat o (fun a ρ => Sat (f a ρ) k e) e := by
  cases o with
  | ok a ρ => exact h
  | err c ρ => exact h
  | bad => exact h
theorem Sat.mono {α : Type} {o : Out α} {k k' : α → Ev → Prop} {e e' : Str → Ev → Prop} (h : Sat o k e) (hk : ∀ a ρ, k a ρ → k' a ρ) (he : ∀ c ρ, e c ρ → e' c ρ) : Sat o k' e' := by
  cases o with
  | ok a ρ => exact hk a ρ h
  | err c ρ => exact he c ρ h
  | bad => exact h
def Out.of {α : Type} (x : Option α) (ρ : Ev) : Out α := match x with
  | some a => .ok a ρ
  | none => .bad
/-- the slots' kinds: 0 shared, 1 a list of one's own, 2 one's own list of such lists, 3 another name of an inner list (al: of which slot's) -/
structure Sg where
  ks : List Nat
  np : Nat
  as : List (Option Nat) := []
  T : List NdefX.NTab := []
abbrev knd (S : Sg) (i : Nat) : Nat := S.ks.getD i 0
abbrev own (S : Sg) (i : Nat) : Bool := knd S i == 1 || knd S i == 2 || knd S i == 5 || knd S i == 6
abbrev deep (S : Sg) (i : Nat) : Bool := knd S i == 2
abbrev ali (S : Sg) (i : Nat) : Option Nat := S.as.getD i none
theorem own_of0 {S : Sg} {i : Nat} (k : knd S i = 0) : own S i = false := by unfold own; rw [k]; rfl
theorem own_of1 {S : Sg} {i : Nat} (k : knd S i = 1) : own S i = true := by unfold own; rw [k]; rfl
theorem own_of2 {S : Sg} {i : Nat} (k : knd S i = 2) : own S i = true := by unfold own; rw [k]; rfl
theorem own_cases {S : Sg} {i : Nat} (k : own S i = true) : knd S i = 1 ∨ knd S i = 2 ∨ knd S i = 5 ∨ knd S i = 6 := by
  simp only [own, Bool.or_eq_true, beq_iff_eq] at k
  omega
theorem own_of3 {S : Sg} {i : Nat} (k : knd S i = 3) : own S i = false := by unfold own; rw [k]; rfl
theorem deep_of1 {S : Sg} {i : Nat} (k : knd S i = 1) : deep S i = false := by unfold deep; rw [k]; rfl
theorem deep_of2 {S : Sg} {i : Nat} (k : knd S i = 2) : deep S i = true := by unfold deep; rw [k]; rfl
theorem deep_knd {S : Sg} {i : Nat} (k : deep S i = true) : knd S i = 2 := by simpa [deep] using k
/-- neither a table of code objects nor a code object -/
def Soft (o : HO) : Prop := (∀ ps, o ≠ .tbl ps) ∧ ∀ c q, o ≠ LamX.CodeO c q
theorem soft_lst {xs : List V} : Soft (.lst xs) := ⟨nofun, nofun⟩
theorem soft_dK {kvs : List (L2.Key × V)} : Soft (.dK kvs) := ⟨nofun, nofun⟩
theorem soft_frz {o : Obj} {x : HO} : Soft (.frz o x) := ⟨nofun, nofun⟩
theorem tabs_keep {T : List NdefX.NTab} {H H' : Hp} (h : NdefX.TabsN T H) (k : ∀ b o, H b = some o → ¬ Soft o → H' b = some o) : NdefX.TabsN T H' := fun p hp => by
  obtain ⟨ps, e1, e2, e3⟩ := h p hp
  refine ⟨ps, k _ _ e1 fun z => z.1 ps rfl, e2, fun pos cv e => ?_⟩
  obtain ⟨c, e4, e5⟩ := e3 pos cv e
  exact ⟨c, e4, k _ _ e5 fun z => z.2 _ _ rfl⟩
theorem tabs_upd {T : List NdefX.NTab} {H : Hp} {p : Addr} {o : HO} (h : NdefX.TabsN T H) (k : ∀ o0, H p = some o0 → Soft o0) : NdefX.TabsN T (upd H p o) := tabs_keep h fun b o0 e n => by
  have : b ≠ p := fun z => n (k o0 (by rw [← z]; exact e))
  rw [upd_ne this]; exact e
theorem tabs_at {T : List NdefX.NTab} {H : Hp} (h : NdefX.TabsN T H) {p : NdefX.NTab} (hp : p ∈ T) : ∃ ps, H p.1 = some (.tbl ps) := let ⟨ps, e, _⟩ := h p hp; ⟨ps, e⟩
theorem tabs_ne {T : List NdefX.NTab} {H : Hp} (h : NdefX.TabsN T H) {p : NdefX.NTab} (hp : p ∈ T) {b : Addr} {o : HO} (e : H b = some o) (so : Soft o) : p.1 ≠ b := fun z => by
  obtain ⟨ps, e2⟩ := tabs_at h hp
  rw [z, e] at e2
  exact so.1 ps (Option.some.inj e2)
structure Base where
  O : Addr → Prop
  M : Addr → Prop
  F : Hp
  H : Hp
  σ : Sts
  T : List NdefX.NTab
structure Ext (B : Base) (F H : Hp) : Prop where
  fs : Same B.F F
  hs : ∀ b o, B.H b = some o → ¬ B.O b → H b = some o
  st : ∀ b, H b = none → B.H b = none
  fr : ∀ b o, F b = some o → B.F b = some o ∨ B.H b = none ∨ B.M b
  tb : NdefX.TabsN B.T H
  to : ∀ p ∈ B.T, B.O p.1
  tf : ∀ p ∈ B.T, F p.1 = none
/-- a list that is one's own -/
def OwL (K : Fg) (F H : Hp) (a : Addr) (d : D) : Prop := ∃ xs ds, d = .list ds ∧ F a = none ∧ H a = some (.lst xs) ∧ RpL K F xs ds
/-- a dict that is one's own -/
def OwD (K : Fg) (F H : Hp) (a : Addr) (d : D) : Prop := ∃ kvs ps, d = .dict ps ∧ F a = none ∧ H a = some (.dK kvs) ∧ RpK K F kvs ps
/-- what a dict holds whose keys are tuples of ints -/
inductive RpT (K : Fg) (F : Hp) : List (List Int × V) → List (List Int × D) → Prop
  | nil : RpT K F [] []
  | cons {k : List Int} {v : V} {kvs : List (List Int × V)} {d : D} {ps : List (List Int × D)} : Rp K F v d → RpT K F kvs ps → RpT K F ((k, v) :: kvs) ((k, d) :: ps)
theorem RpT.up {K : Fg} {F F' : Hp} (e : Same F F') : ∀ {kvs : List (List Int × V)} {ps : List (List Int × D)}, RpT K F kvs ps → RpT K F' kvs ps
  | _, _, .nil => .nil
  | _, _, .cons h r => .cons (h.up e) (r.up e)
def encV (kvs : List (List Int × V)) : List (List L2.Key × V) := kvs.map fun p => (p.1.map Sum.inl, p.2)
def encT (ps : List (List Int × D)) : List (D × D) := ps.map fun p => (.tuple (p.1.map .int), p.2)
/-- an object of other kinds, by the data that it stands for -/
inductive RpO (K : Fg) (F : Hp) : HO → D → Prop
  | dT {kvs : List (List Int × V)} {ps : List (List Int × D)} : RpT K F kvs ps → RpO K F (.dT (encV kvs)) (.dict (encT ps))
theorem RpO.up {K : Fg} {F F' : Hp} (e : Same F F') : ∀ {o : HO} {d : D}, RpO K F o d → RpO K F' o d
  | _, _, .dT h => .dT (h.up e)
def OwG (K : Fg) (F H : Hp) (a : Addr) (d : D) : Prop := ∃ o, H a = some o ∧ F a = none ∧ Soft o ∧ RpO K F o d
theorem OwG.up {K : Fg} {F F' H H' : Hp} {a : Addr} {d : D} (h : OwG K F H a d) (e : Same F F') (hF : F' a = none) (hH : ∀ o, H a = some o → H' a = some o) : OwG K F' H' a d := by
  obtain ⟨o, e1, e2, e3, e4⟩ := h
  exact ⟨o, hH _ e1, hF, e3, e4.up e⟩
inductive OwLs (K : Fg) (F H : Hp) : List Addr → List D → Prop
  | nil : OwLs K F H [] []
  | cons {b : Addr} {d : D} {bs : List Addr} {ds : List D} : OwL K F H b d → OwLs K F H bs ds → OwLs K F H (b :: bs) (d :: ds)
/-- .. or a list of such lists, at bs -/
def OwX (K : Fg) (F H : Hp) (k : Nat) (a : Addr) (bs : List Addr) (d : D) : Prop := (a :: bs).Nodup ∧ match k with
  | 2 => ∃ ds, d = .list ds ∧ F a = none ∧ H a = some (.lst (bs.map V.ref)) ∧ OwLs K F H bs ds
  | 5 => bs = [] ∧ OwD K F H a d
  | 6 => bs = [] ∧ OwG K F H a d
  | _ => bs = [] ∧ OwL K F H a d
def Inn (H : Hp) (a b : Addr) : Prop := ∃ xs, H a = some (.lst xs) ∧ V.ref b ∈ xs
/-- slot i holds what stands at b -/
def Held (S : Sg) (σ : Sts) (H : Hp) (ρ : Ev) (i : Nat) (b : Addr) : Prop := own S i = true ∧ (∃ d, ρ[i]? = some (some d)) ∧ ∃ a, σ[i]? = some (some (.ref a)) ∧ (b = a ∨ (deep S i = true ∧ Inn H a b))
abbrev Dom (S : Sg) (B : Base) (i : Nat) (b : Addr) : Prop := (B.O b ∧ (S.np ≤ i → B.M b)) ∨ B.H b = none
structure SInv (K : Fg) (S : Sg) (B : Base) (σ : Sts) (F H : Hp) (ρ : Ev) : Prop where
  len : ρ.length = σ.length
  same : Same F H
  ext : Ext B F H
  sh : ∀ (i : Nat) d, ρ[i]? = some (some d) → knd S i = 0 → ∃ v, σ[i]? = some (some v) ∧ Rp K F v d
  ow : ∀ (i : Nat) d, ρ[i]? = some (some d) → own S i = true → ∃ a bs, σ[i]? = some (some (.ref a)) ∧ OwX K F H (knd S i) a bs d ∧ ∀ b, b ∈ a :: bs → Dom S B i b
  nd : ∀ i j b, Held S σ H ρ i b → Held S σ H ρ j b → i = j
  al : ∀ (i : Nat) d, ρ[i]? = some (some d) → knd S i = 3 → ∃ (j : Nat) (k : Nat) (a b : Addr) (xs : List V) (d' : D), ali S i = some j ∧ deep S j = true ∧ d = .int (k : Nat) ∧ ρ[j]? = some (some d') ∧ σ[j]? = some (some (.ref a)) ∧ H a = some (.lst xs) ∧ xs[k]? = some (.ref b) ∧ σ[i]? = some (some (.ref b))
  pin : ∀ (i : Nat), i < S.np → own S i = true → σ[i]? = B.σ[i]?
  ts : B.T = S.T
theorem same_upd {H : Hp} {p : Addr} {o : HO} (h : H p = none) : Same H (upd H p o) := fun b x e => by
  rw [upd_ne (ne_of_none e h)]
  exact e
theorem same_upd2 {F H : Hp} {p : Addr} {o : HO} (e : Same F H) : Same (upd F p o) (upd H p o) := fun b x q => by
  by_cases hb : b = p
  · subst hb
    rw [upd_same] at q ⊢
    exact q
  · rw [upd_ne hb] at q ⊢
    exact e _ _ q
theorem same_upd_out {F H : Hp} {p : Addr} {o : HO} (e : Same F H) (h : F p = none) : Same F (upd H p o) := fun b x q => by
  rw [upd_ne (ne_of_none q h)]
  exact e _ _ q
section
variable {K : Fg} {S : Sg} {B : Base} {σ : Sts} {F H F' H' : Hp} {ρ : Ev}
theorem OwL.isSome {a : Addr} {d : D} (h : OwL K F H a d) : H a ≠ none := fun z => by
  obtain ⟨xs, ds, _, _, e, _⟩ := h
  rw [z] at e; cases e
theorem OwL.up {a : Addr} {d : D} (h : OwL K F H a d) (e : Same F F') (hF : F' a = none) (hH : ∀ o, H a = some o → H' a = some o) : OwL K F' H' a d := by
  obtain ⟨xs, ds, e1, e2, e3, e4⟩ := h
  exact ⟨xs, ds, e1, hF, hH _ e3, e4.up e⟩
theorem OwD.up {a : Addr} {d : D} (h : OwD K F H a d) (e : Same F F') (hF : F' a = none) (hH : ∀ o, H a = some o → H' a = some o) : OwD K F' H' a d := by
  obtain ⟨xs, ds, e1, e2, e3, e4⟩ := h
  exact ⟨xs, ds, e1, hF, hH _ e3, e4.up e⟩
theorem OwLs.len : ∀ {bs : List Addr} {ds : List D}, OwLs K F H bs ds → bs.length = ds.length
  | _, _, .nil => rfl
  | _, _, .cons _ r => by rw [List.length_cons, List.length_cons, r.len]
theorem OwLs.up (e : Same F F') : ∀ {bs : List Addr} {ds : List D}, OwLs K F H bs ds → (∀ b, b ∈ bs → F' b = none ∧ ∀ o, H b = some o → H' b = some o) → OwLs K F' H' bs ds
  | _, _, .nil, _ => .nil
  | _, _, .cons h r, k => .cons (h.up e (k _ List.mem_cons_self).1 (k _ List.mem_cons_self).2) (r.up e fun b hb => k b (List.mem_cons_of_mem _ hb))
theorem OwLs.get : ∀ {bs : List Addr} {ds : List D} {k : Nat} {d : D}, OwLs K F H bs ds → ds[k]? = some d → ∃ b, bs[k]? = some b ∧ OwL K F H b d
  | _, _, _, _, .nil, e => by simp at e
  | _, _, 0, _, .cons h _, e => by
    simp at e
    subst e
    exact ⟨_, rfl, h⟩
  | _, _, k + 1, _, .cons _ r, e => by
    obtain ⟨b, e1, w⟩ := r.get (k := k) (by simpa using e)
    exact ⟨b, by simpa using e1, w⟩
theorem OwLs.gets : ∀ {bs : List Addr} {ds : List D} {k : Nat} {b : Addr}, OwLs K F H bs ds → bs[k]? = some b → ∃ d, ds[k]? = some d ∧ OwL K F H b d
  | _, _, _, _, .nil, e => by simp at e
  | _, _, 0, _, .cons h _, e => by
    simp at e
    subst e
    exact ⟨_, rfl, h⟩
  | _, _, k + 1, _, .cons _ r, e => by
    obtain ⟨b, e1, w⟩ := r.gets (k := k) (by simpa using e)
    exact ⟨b, by simpa using e1, w⟩
theorem OwX.at {dp : Nat} {a : Addr} {bs : List Addr} {d : D} (h : OwX K F H dp a bs d) : ∀ b, b ∈ a :: bs → F b = none ∧ H b ≠ none := fun b hb => by
  obtain ⟨_, h⟩ := h
  split at h
  rotate_left
  · obtain ⟨rfl, xs, ds, _, e, e', _⟩ := h
    have : b = a := by simpa using hb
    subst this
    exact ⟨e, by rw [e']; simp⟩
  · obtain ⟨rfl, o, e', e, _⟩ := h
    have : b = a := by simpa using hb
    subst this
    exact ⟨e, by rw [e']; simp⟩
  · obtain ⟨rfl, xs, ds, _, e, e', _⟩ := h
    have : b = a := by simpa using hb
    subst this
    exact ⟨e, by rw [e']; simp⟩
  · obtain ⟨ds, _, e, e', r⟩ := h
    rcases List.mem_cons.mp hb with z | z
    · subst z
      exact ⟨e, by rw [e']; simp⟩
    · obtain ⟨k, hk⟩ := List.mem_iff_getElem?.mp z
      obtain ⟨d', _, xs, ds', _, f, f', _⟩ := r.gets hk
      exact ⟨f, by rw [f']; simp⟩
theorem OwX.up {dp : Nat} {a : Addr} {bs : List Addr} {d : D} (h : OwX K F H dp a bs d) (e : Same F F') (k : ∀ b, b ∈ a :: bs → F' b = none ∧ ∀ o, H b = some o → H' b = some o) : OwX K F' H' dp a bs d := by
  refine ⟨h.1, ?_⟩
  have h2 := h.2
  split at h2
  rotate_left
  · obtain ⟨rfl, w⟩ := h2
    exact ⟨rfl, w.up e (k a List.mem_cons_self).1 (k a List.mem_cons_self).2⟩
  · obtain ⟨rfl, w⟩ := h2
    exact ⟨rfl, w.up e (k a List.mem_cons_self).1 (k a List.mem_cons_self).2⟩
  · rename_i n1 n2
    obtain ⟨rfl, w⟩ := h2
    exact ⟨rfl, w.up e (k a List.mem_cons_self).1 (k a List.mem_cons_self).2⟩
  · obtain ⟨ds, e1, _, e3, r⟩ := h2
    exact ⟨ds, e1, (k a List.mem_cons_self).1, (k a List.mem_cons_self).2 _ e3, r.up e fun b hb => k b (List.mem_cons_of_mem _ hb)⟩
/-- what a slot holds is what stands in its footprint -/
theorem OwX.held {i : Nat} {a : Addr} {bs : List Addr} {d : D} (w : OwX K F H (knd S i) a bs d) (k : own S i = true) (e : ρ[i]? = some (some d)) (ea : σ[i]? = some (some (.ref a))) (b : Addr) : Held S σ H ρ i b ↔ b ∈ a :: bs := by
  constructor
  · rintro ⟨_, _, a', e1, h⟩
    rw [ea] at e1
    cases e1
    rcases h with rfl | ⟨dp, xs, e2, m⟩
    · exact List.mem_cons_self
    · have w2 := w.2
      rw [deep_knd dp] at w2
      obtain ⟨ds, _, _, e3, _⟩ := w2
      rw [e2] at e3
      cases e3
      obtain ⟨b', hb', z⟩ := List.mem_map.mp m
      cases z
      exact List.mem_cons_of_mem _ hb'
  · intro hb
    refine ⟨k, ⟨d, e⟩, a, ea, ?_⟩
    rcases List.mem_cons.mp hb with z | z
    · exact .inl z
    · right
      have w2 := w.2
      rcases own_cases k with dp | dp | dp | dp
      · rw [dp] at w2
        obtain ⟨rfl, _⟩ := w2
        cases z
      · rw [dp] at w2
        obtain ⟨ds, _, _, e3, _⟩ := w2
        exact ⟨deep_of2 dp, _, e3, List.mem_map.mpr ⟨b, z, rfl⟩⟩
      · rw [dp] at w2
        obtain ⟨rfl, _⟩ := w2
        cases z
      · rw [dp] at w2
        obtain ⟨rfl, _⟩ := w2
        cases z
theorem SInv.bnone (I : SInv K S B σ F H ρ) {p : Addr} (h : H p = none) : B.H p = none := I.ext.st p h
theorem SInv.heldAt (I : SInv K S B σ F H ρ) {i : Nat} {b : Addr} (h : Held S σ H ρ i b) : F b = none ∧ H b ≠ none ∧ Dom S B i b := by
  obtain ⟨k, ⟨d, e⟩, a, ea, _⟩ := id h
  obtain ⟨a', bs, e1, w, o⟩ := I.ow i d e k
  have hb := (w.held (S := S) k e e1 b).mp h
  exact ⟨(w.at b hb).1, (w.at b hb).2, o b hb⟩
theorem OwX.soft {dp : Nat} {a : Addr} {bs : List Addr} {d : D} (h : OwX K F H dp a bs d) : ∀ b, b ∈ a :: bs → ∀ o, H b = some o → Soft o := fun b hb o ho => by
  obtain ⟨_, h⟩ := h
  split at h
  rotate_left
  · obtain ⟨rfl, xs, ds, _, e, e', _⟩ := h
    have : b = a := by simpa using hb
    subst this
    rw [e'] at ho; cases ho; exact soft_dK
  · obtain ⟨rfl, o', e', e, so, _⟩ := h
    have : b = a := by simpa using hb
    subst this
    rw [e'] at ho; cases ho; exact so
  · obtain ⟨rfl, xs, ds, _, e, e', _⟩ := h
    have : b = a := by simpa using hb
    subst this
    rw [e'] at ho; cases ho; exact soft_lst
  · obtain ⟨ds, _, e, e', r⟩ := h
    rcases List.mem_cons.mp hb with z | z
    · subst z
      rw [e'] at ho; cases ho; exact soft_lst
    · obtain ⟨k, hk⟩ := List.mem_iff_getElem?.mp z
      obtain ⟨d', _, xs, ds', _, f, f', _⟩ := r.gets hk
      rw [f'] at ho; cases ho; exact soft_lst
theorem SInv.heldSoft (I : SInv K S B σ F H ρ) {i : Nat} {b : Addr} (h : Held S σ H ρ i b) : ∀ o, H b = some o → Soft o := by
  obtain ⟨k, ⟨d, e⟩, a, ea, _⟩ := id h
  obtain ⟨a', bs, e1, w, o⟩ := I.ow i d e k
  exact w.soft b ((w.held (S := S) k e e1 b).mp h)
theorem SInv.tab (I : SInv K S B σ F H ρ) : NdefX.TabsN B.T H := I.ext.tb
theorem SInv.heldSome (I : SInv K S B σ F H ρ) {i : Nat} {b : Addr} (h : Held S σ H ρ i b) : H b ≠ none := (I.heldAt h).2.1
theorem SInv.heldNe (I : SInv K S B σ F H ρ) {p : Addr} (h : H p = none) : ∀ i a, Held S σ H ρ i a → a ≠ p := fun i a q z => by
  subst z
  exact I.heldSome q h
/-- the heap of what is held stays: so does what is held -/
theorem held_same {σ : Sts} {H H' : Hp} {ρ : Ev} {i : Nat} {b : Addr} (k : ∀ a, σ[i]? = some (some (.ref a)) → H' a = H a) (h : Held S σ H' ρ i b) : Held S σ H ρ i b := by
  obtain ⟨h1, h2, a, e, h3⟩ := h
  refine ⟨h1, h2, a, e, ?_⟩
  rcases h3 with z | ⟨dp, xs, e1, m⟩
  · exact .inl z
  · exact .inr ⟨dp, xs, by rw [← k a e]; exact e1, m⟩
theorem SInv.topHeld (I : SInv K S B σ F H ρ) {i : Nat} (k : own S i = true) (s : ∃ d, ρ[i]? = some (some d)) {a : Addr} (e : σ[i]? = some (some (.ref a))) : Held S σ H ρ i a := ⟨k, s, a, e, .inl rfl⟩
/-- both heaps change away from what is held -/
theorem SInv.move (I : SInv K S B σ F H ρ) (s : Same F' H') (x : Ext B F' H') (sF : Same F F') (kF : ∀ i b, Held S σ H ρ i b → F' b = none) (kH : ∀ i b, Held S σ H ρ i b → H' b = H b) : SInv K S B σ F' H' ρ := by
  have held : ∀ {i b}, Held S σ H' ρ i b → Held S σ H ρ i b := fun {i b} h => held_same (fun a e => kH i a (I.topHeld h.1 h.2.1 e)) h
  refine ⟨I.len, s, x, fun i d e k => ?_, fun i d e k => ?_, fun i j b h1 h2 => I.nd i j b (held h1) (held h2), fun i d e k => ?_, I.pin, I.ts⟩
  · obtain ⟨v, e1, r⟩ := I.sh i d e k
    exact ⟨v, e1, r.up sF⟩
  · obtain ⟨a, bs, e1, w, o⟩ := I.ow i d e k
    refine ⟨a, bs, e1, w.up sF fun b hb => ?_, o⟩
    have hh := (w.held (S := S) k e e1 b).mpr hb
    exact ⟨kF i b hh, fun o q => by rw [kH i b hh]; exact q⟩
  · obtain ⟨j, kk, a, b, xs, d', e1, e2, e3, e4, e5, e6, e7, e8⟩ := I.al i d e k
    have hh := I.topHeld (own_of2 (deep_knd e2)) ⟨d', e4⟩ e5
    exact ⟨j, kk, a, b, xs, d', e1, e2, e3, e4, e5, by rw [kH j a hh]; exact e6, e7, e8⟩
/-- a new frozen object -/
theorem SInv.newF (I : SInv K S B σ F H ρ) {p : Addr} {o : HO} (h : H p = none) : SInv K S B σ (upd F p o) (upd H p o) ρ := by
  have hF : F p = none := Same.free I.same h
  have sF : Same F (upd F p o) := same_upd hF
  refine I.move (same_upd2 I.same) ⟨I.ext.fs.trans sF, fun b o' e n => ?_, fun b e => ?_, fun b o' e => ?_, I.ext.tb.ext (same_upd h), I.ext.to, fun q hq => let ⟨ps, e⟩ := tabs_at I.ext.tb hq; by rw [upd_ne fun z => by rw [z, h] at e; cases e]; exact I.ext.tf q hq⟩ sF (fun i b hh => ?_) fun i b hh => ?_
  · exact same_upd h _ _ (I.ext.hs b o' e n)
  · by_cases hb : b = p
    · subst hb; rw [upd_same] at e; cases e
    · rw [upd_ne hb] at e; exact I.ext.st b e
  · by_cases hb : b = p
    · subst hb; exact .inr (.inl (I.bnone h))
    · rw [upd_ne hb] at e; exact I.ext.fr b o' e
  · rw [upd_ne (I.heldNe h i b hh)]; exact (I.heldAt hh).1
  · rw [upd_ne (I.heldNe h i b hh)]
/-- a new object that is held by nobody yet -/
theorem SInv.newH (I : SInv K S B σ F H ρ) {p : Addr} {o : HO} (h : H p = none) : SInv K S B σ F (upd H p o) ρ := by
  have hF : F p = none := Same.free I.same h
  refine I.move (same_upd_out I.same hF) ⟨I.ext.fs, fun b o' e n => ?_, fun b e => ?_, I.ext.fr, I.ext.tb.ext (same_upd h), I.ext.to, I.ext.tf⟩ (Same.refl _) (fun i b hh => (I.heldAt hh).1) fun i b hh => ?_
  · exact same_upd h _ _ (I.ext.hs b o' e n)
  · by_cases hb : b = p
    · subst hb; rw [upd_same] at e; cases e
    · rw [upd_ne hb] at e; exact I.ext.st b e
  · rw [upd_ne (I.heldNe h i b hh)]
/-- an object that nobody holds becomes frozen -/
theorem SInv.freeze (I : SInv K S B σ F H ρ) {p : Addr} {o : HO} (hF : F p = none) (h : H p = some o) (hB : B.H p = none ∨ B.M p) (hn : ∀ i a, Held S σ H ρ i a → a ≠ p) (so : Soft o) : SInv K S B σ (upd F p o) H ρ := by
  have sF : Same F (upd F p o) := same_upd hF
  refine I.move (fun b x e => ?_) ⟨I.ext.fs.trans sF, I.ext.hs, I.ext.st, fun b o' e => ?_, I.ext.tb, I.ext.to, fun q hq => by rw [upd_ne (tabs_ne I.ext.tb hq h so)]; exact I.ext.tf q hq⟩ sF (fun i b hh => ?_) fun i b hh => rfl
  · by_cases hb : b = p
    · subst hb; rw [upd_same] at e; rw [h]; exact e
    · rw [upd_ne hb] at e; exact I.same _ _ e
  · by_cases hb : b = p
    · subst hb; exact .inr hB
    · rw [upd_ne hb] at e; exact I.ext.fr b o' e
  · rw [upd_ne (hn i b hh)]; exact (I.heldAt hh).1
/-- an object that nobody holds, made since the base, is changed -/
theorem SInv.setFree (I : SInv K S B σ F H ρ) {p : Addr} {o : HO} (hF : F p = none) (hB : B.H p = none) (hn : ∀ i a, Held S σ H ρ i a → a ≠ p) (so : ∀ o0, H p = some o0 → Soft o0) : SInv K S B σ F (upd H p o) ρ := by
  refine I.move (same_upd_out I.same hF) ⟨I.ext.fs, fun b o' e n => ?_, fun b e => ?_, I.ext.fr, tabs_upd I.ext.tb so, I.ext.to, I.ext.tf⟩ (Same.refl _) (fun i b hh => (I.heldAt hh).1) fun i b hh => ?_
  · have hb : b ≠ p := fun z => by subst z; rw [hB] at e; cases e
    rw [upd_ne hb]
    exact I.ext.hs b o' e n
  · by_cases hb : b = p
    · subst hb; exact hB
    · rw [upd_ne hb] at e; exact I.ext.st b e
  · rw [upd_ne (hn i b hh)]
/-- what one holds is changed in place, the slot's data with it -/
theorem SInv.chg (I : SInv K S B σ F H ρ) {i : Nat} {p a : Addr} {bs : List Addr} {d d' : D} {o : HO} (e : ρ[i]? = some (some d)) (k : own S i = true) (ea : σ[i]? = some (some (.ref a))) (hp : Held S σ H ρ i p)
    (ha : deep S i = true → p ≠ a) (w' : OwX K F (upd H p o) (knd S i) a bs d') (hb : ∀ b, b ∈ a :: bs → Held S σ H ρ i b) : SInv K S B σ F (upd H p o) (ρ.set i (some d')) := by
  have hil : i < ρ.length := (List.getElem?_eq_some_iff.mp e).1
  obtain ⟨hF, hH, hD⟩ := I.heldAt hp
  have set_ : ∀ (j : Nat), (∃ x, (ρ.set i (some d'))[j]? = some (some x)) → ∃ x, ρ[j]? = some (some x) := fun j ⟨x, h⟩ => by
    by_cases hj : j = i
    · subst hj; exact ⟨d, e⟩
    · rw [List.getElem?_set_ne (Ne.symm hj)] at h; exact ⟨x, h⟩
  have held : ∀ {j b}, Held S σ (upd H p o) (ρ.set i (some d')) j b → Held S σ H ρ j b := fun {j b} ⟨h1, h2, c, ec, h3⟩ => by
    have hc : Held S σ H ρ j c := I.topHeld h1 (set_ j h2) ec
    refine ⟨h1, set_ j h2, c, ec, ?_⟩
    rcases h3 with z | ⟨dp, xs, e1, m⟩
    · exact .inl z
    · refine .inr ⟨dp, xs, ?_, m⟩
      have hcp : c ≠ p := fun z => by
        subst z
        have hj := I.nd j i c hc hp
        subst hj
        rw [ea] at ec
        cases ec
        exact ha dp rfl
      rw [upd_ne hcp] at e1
      exact e1
  refine ⟨by rw [List.length_set]; exact I.len, same_upd_out I.same hF, ⟨I.ext.fs, fun b o' e' n => ?_, fun b e' => ?_, I.ext.fr, tabs_upd I.ext.tb (I.heldSoft hp), I.ext.to, I.ext.tf⟩, fun j x e' k' => ?_, fun j x e' k' => ?_, fun x y b h1 h2 => I.nd x y b (held h1) (held h2), fun j x e' k' => ?_, I.pin, I.ts⟩
  · have hb : b ≠ p := fun z => by
      subst z
      rcases hD with q | q
      · exact n q.1
      · rw [q] at e'; cases e'
    rw [upd_ne hb]
    exact I.ext.hs b o' e' n
  · by_cases hb : b = p
    · subst hb; rw [upd_same] at e'; cases e'
    · rw [upd_ne hb] at e'; exact I.ext.st b e'
  · have hj : j ≠ i := fun z => by subst z; rw [own_of0 k'] at k; cases k
    rw [List.getElem?_set_ne (Ne.symm hj)] at e'
    exact I.sh j x e' k'
  · by_cases hj : j = i
    · subst hj
      rw [List.getElem?_set_self hil] at e'
      cases e'
      exact ⟨a, bs, ea, w', fun b h => (I.heldAt (hb b h)).2.2⟩
    · rw [List.getElem?_set_ne (Ne.symm hj)] at e'
      obtain ⟨c, cs, f1, f2, f3⟩ := I.ow j x e' k'
      refine ⟨c, cs, f1, f2.up (Same.refl _) fun b h => ?_, f3⟩
      have hh := (f2.held (S := S) k' e' f1 b).mpr h
      have hbp : b ≠ p := fun z => by subst z; exact hj (I.nd j i b hh hp)
      exact ⟨(I.heldAt hh).1, fun o q => by rw [upd_ne hbp]; exact q⟩
  · have hj : j ≠ i := fun z => by subst z; rw [own_of3 k'] at k; cases k
    rw [List.getElem?_set_ne (Ne.symm hj)] at e'
    obtain ⟨l, kk, c, b, xs, x', e1, e2, e3, e4, e5, e6, e7, e8⟩ := I.al j x e' k'
    have hcp : c ≠ p := fun z => by
      subst z
      have hl := I.nd l i c (I.topHeld (own_of2 (deep_knd e2)) ⟨x', e4⟩ e5) hp
      subst hl
      rw [ea] at e5
      cases e5
      exact ha e2 rfl
    by_cases hl : l = i
    · subst hl
      exact ⟨l, kk, c, b, xs, d', e1, e2, e3, List.getElem?_set_self hil, e5, by rw [upd_ne hcp]; exact e6, e7, e8⟩
    · exact ⟨l, kk, c, b, xs, x', e1, e2, e3, by rw [List.getElem?_set_ne (Ne.symm hl)]; exact e4, e5, by rw [upd_ne hcp]; exact e6, e7, e8⟩
/-- one's own list is changed -/
theorem SInv.mut (I : SInv K S B σ F H ρ) {i : Nat} {a : Addr} {d : D} {xs : List V} {ds : List D} (e : ρ[i]? = some (some d)) (k : knd S i = 1) (ea : σ[i]? = some (some (.ref a))) (r : RpL K F xs ds) :
    SInv K S B σ F (upd H a (.lst xs)) (ρ.set i (some (.list ds))) := by
  have hp := I.topHeld (own_of1 k) ⟨d, e⟩ ea
  refine I.chg (bs := []) e (own_of1 k) ea hp (fun z => by rw [deep_of1 k] at z; cases z) ⟨by simp, ?_⟩ fun b h => ?_
  · rw [k]
    exact ⟨rfl, xs, ds, rfl, (I.heldAt hp).1, upd_same, r⟩
  · have : b = a := by simpa using h
    subst this
    exact hp
/-- a slot gets a frozen value -/
theorem SInv.setSh (I : SInv K S B σ F H ρ) {i : Nat} {v : V} {d : D} (k : knd S i = 0) (r : Rp K F v d) : SInv K S B (σ.set i (some v)) F H (ρ.set i (some d)) := by
  have ne : ∀ {j}, own S j = true → j ≠ i := fun {j} h z => by subst z; rw [own_of0 k] at h; cases h
  have held : ∀ {j b}, Held S (σ.set i (some v)) H (ρ.set i (some d)) j b → Held S σ H ρ j b := fun {j b} ⟨h1, ⟨d', h2⟩, a, h3, h4⟩ => by
    rw [List.getElem?_set_ne (Ne.symm (ne h1))] at h2 h3
    exact ⟨h1, ⟨d', h2⟩, a, h3, h4⟩
  refine ⟨by rw [List.length_set, List.length_set]; exact I.len, I.same, I.ext, fun j d' e' k' => ?_, fun j d' e' k' => ?_, fun x y b h1 h2 => I.nd x y b (held h1) (held h2), fun j x e' k' => ?_, fun j hj kj => ?_, I.ts⟩
  · by_cases hj : j = i
    · subst hj
      have hl : j < ρ.length := by
        have := (List.getElem?_eq_some_iff.mp e').1
        rwa [List.length_set] at this
      rw [List.getElem?_set_self hl] at e'
      cases e'
      exact ⟨v, by rw [List.getElem?_set_self (by rw [← I.len]; exact hl)], r⟩
    · rw [List.getElem?_set_ne (Ne.symm hj)] at e' ⊢
      exact I.sh j d' e' k'
  · rw [List.getElem?_set_ne (Ne.symm (ne k'))] at e' ⊢
    exact I.ow j d' e' k'
  · have hj : j ≠ i := fun z => by subst z; rw [k'] at k; cases k
    rw [List.getElem?_set_ne (Ne.symm hj)] at e' ⊢
    obtain ⟨l, kk, c, b, xs, x', e1, e2, e3, e4, e5, e6, e7, e8⟩ := I.al j x e' k'
    have hl : l ≠ i := ne (own_of2 (deep_knd e2))
    exact ⟨l, kk, c, b, xs, x', e1, e2, e3, by rw [List.getElem?_set_ne (Ne.symm hl)]; exact e4, by rw [List.getElem?_set_ne (Ne.symm hl)]; exact e5, e6, e7, e8⟩
  · rw [List.getElem?_set_ne (Ne.symm (ne kj))]
    exact I.pin j hj kj
/-- no other name of what slot i holds is about -/
def NoAl (S : Sg) (ρ : Ev) (i : Nat) : Prop := ∀ (x : Nat) d, knd S x = 3 → ali S x = some i → ρ[x]? ≠ some (some d)
/-- a slot gets lists of its own -/
theorem SInv.setOw (I : SInv K S B σ F H ρ) {i : Nat} {a : Addr} {bs : List Addr} {d : D} (k : own S i = true) (hp : S.np ≤ i) (w : OwX K F H (knd S i) a bs d) (hB : ∀ b, b ∈ a :: bs → B.H b = none) (hn : ∀ j b, Held S σ H ρ j b → b ∉ a :: bs) (hA : NoAl S ρ i) :
    SInv K S B (σ.set i (some (.ref a))) F H (ρ.set i (some d)) := by
  have held : ∀ {j b}, j ≠ i → Held S (σ.set i (some (.ref a))) H (ρ.set i (some d)) j b → Held S σ H ρ j b := fun {j b} hj ⟨h1, ⟨d', h2⟩, a, h3, h4⟩ => by
    rw [List.getElem?_set_ne (Ne.symm hj)] at h2 h3
    exact ⟨h1, ⟨d', h2⟩, a, h3, h4⟩
  have hat : ∀ {b}, Held S (σ.set i (some (.ref a))) H (ρ.set i (some d)) i b → b ∈ a :: bs := fun {b} h => by
    have hl : i < σ.length := by
      obtain ⟨_, _, _, h3, _⟩ := h
      have := (List.getElem?_eq_some_iff.mp h3).1
      rwa [List.length_set] at this
    exact (w.held (S := S) k (by rw [List.getElem?_set_self (by rw [I.len]; exact hl)]) (by rw [List.getElem?_set_self hl]) b).mp h
  refine ⟨by rw [List.length_set, List.length_set]; exact I.len, I.same, I.ext, fun j d' e' k' => ?_, fun j d' e' k' => ?_, fun x y b h1 h2 => ?_, fun j x e' k' => ?_, fun j hj kj => ?_, I.ts⟩
  · have hj : j ≠ i := fun z => by subst z; rw [own_of0 k'] at k; cases k
    rw [List.getElem?_set_ne (Ne.symm hj)] at e' ⊢
    exact I.sh j d' e' k'
  · by_cases hj : j = i
    · subst hj
      have hl : j < ρ.length := by
        have := (List.getElem?_eq_some_iff.mp e').1
        rwa [List.length_set] at this
      rw [List.getElem?_set_self hl] at e'
      cases e'
      exact ⟨a, bs, by rw [List.getElem?_set_self (by rw [← I.len]; exact hl)], w, fun b hb => .inr (hB b hb)⟩
    · rw [List.getElem?_set_ne (Ne.symm hj)] at e' ⊢
      exact I.ow j d' e' k'
  · by_cases hx : x = i
    · subst hx
      by_cases hy : y = x
      · exact hy.symm
      · exact absurd (hat h1) (hn y b (held hy h2))
    · by_cases hy : y = i
      · subst hy
        exact absurd (hat h2) (hn x b (held hx h1))
      · exact I.nd x y b (held hx h1) (held hy h2)
  · have hj : j ≠ i := fun z => by subst z; rw [own_of3 k'] at k; cases k
    rw [List.getElem?_set_ne (Ne.symm hj)] at e' ⊢
    obtain ⟨l, kk, c, b, xs, x', e1, e2, e3, e4, e5, e6, e7, e8⟩ := I.al j x e' k'
    have hl : l ≠ i := fun z => by subst z; exact hA j x k' e1 e'
    exact ⟨l, kk, c, b, xs, x', e1, e2, e3, by rw [List.getElem?_set_ne (Ne.symm hl)]; exact e4, by rw [List.getElem?_set_ne (Ne.symm hl)]; exact e5, e6, e7, e8⟩
  · have hji : j ≠ i := by omega
    rw [List.getElem?_set_ne (Ne.symm hji)]
    exact I.pin j hj kj
/-- the values of slots forgotten: what is known of fewer slots -/
theorem SInv.weak (I : SInv K S B σ F H ρ) {ρ' : Ev} (hl : ρ'.length = ρ.length) (h : ∀ (i : Nat) (d : D), ρ'[i]? = some (some d) → ρ[i]? = some (some d))
    (ha : ∀ (x j : Nat) d d', knd S x = 3 → ρ'[x]? = some (some d) → ali S x = some j → ρ[j]? = some (some d') → ρ'[j]? = some (some d')) : SInv K S B σ F H ρ' :=
  ⟨hl.trans I.len, I.same, I.ext, fun i d e k => I.sh i d (h i d e) k, fun i d e k => I.ow i d (h i d e) k, fun i j b ⟨h1, ⟨d, h2⟩, h3⟩ ⟨g1, ⟨d', g2⟩, g3⟩ => I.nd i j b ⟨h1, ⟨d, h i d h2⟩, h3⟩ ⟨g1, ⟨d', h j d' g2⟩, g3⟩, fun i d e k => by
    obtain ⟨l, kk, c, b, xs, x', e1, e2, e3, e4, e5⟩ := I.al i d (h i d e) k
    exact ⟨l, kk, c, b, xs, x', e1, e2, e3, ha i l d x' k e e1 e4, e5⟩, I.pin, I.ts⟩
end
end MW
namespace MW
open PySem PySem.Spec PyProof.Rows L2
/-- seen as data: frozen, or a list of one's own whose items are frozen -/
def RpS (K : Fg) (F H : Hp) (v : V) (d : D) : Prop := Rp K F v d ∨ ∃ a xs ds, v = .ref a ∧ d = .list ds ∧ H a = some (.lst xs) ∧ RpL K F xs ds
inductive RpSs (K : Fg) (F H : Hp) : List V → List D → Prop
  | nil : RpSs K F H [] []
  | cons {v : V} {d : D} {vs : List V} {ds : List D} : RpS K F H v d → RpSs K F H vs ds → RpSs K F H (v :: vs) (d :: ds)
theorem RpL.seen {K : Fg} {F H : Hp} : ∀ {vs : List V} {ds : List D}, RpL K F vs ds → RpSs K F H vs ds
  | _, _, .nil => .nil
  | _, _, .cons h r => .cons (.inl h) r.seen
theorem RpS.lst {K : Fg} {F H : Hp} {v : V} {ds : List D} (s : Same F H) (h : RpS K F H v (.list ds)) : ∃ a xs, v = .ref a ∧ Rd H a (.lst xs) ∧ RpL K F xs ds := by
  rcases h with h | ⟨a, xs, ds', e, e1, e2, r⟩
  · cases h with
    | lst a r => exact ⟨_, _, rfl, rd_same s a, r⟩
  · cases e1
    exact ⟨a, xs, e, .inl e2, r⟩
theorem RpS.tup {K : Fg} {F H : Hp} {v : V} {ds : List D} (s : Same F H) (h : RpS K F H v (.tuple ds)) : ∃ a xs, v = .ref a ∧ SqT K H a xs ∧ RpL K F xs ds := by
  rcases h with h | ⟨a, xs, ds', e, e1, e2, r⟩
  · cases h with
    | tup a r => exact ⟨_, _, rfl, sqT_same s a.sq, r⟩
  · cases e1
theorem RpS.int {K : Fg} {F H : Hp} {v : V} {i : Int} (h : RpS K F H v (.int i)) : v = .int i := by
  rcases h with h | ⟨a, xs, ds', e, e1, e2, r⟩
  · cases h; rfl
  · cases e1
theorem RpS.bl {K : Fg} {F H : Hp} {v : V} {b : Bool} (h : RpS K F H v (.bool b)) : v = .bl b := by
  rcases h with h | ⟨a, xs, ds', e, e1, e2, r⟩
  · cases h; rfl
  · cases e1
theorem RpS.str {K : Fg} {F H : Hp} {v : V} {b : Str} (h : RpS K F H v (.str b)) : v = .str b := by
  rcases h with h | ⟨a, xs, ds', e, e1, e2, r⟩
  · cases h; rfl
  · cases e1
theorem RpS.non {K : Fg} {F H : Hp} {v : V} (h : RpS K F H v .none) : v = .non := by
  rcases h with h | ⟨a, xs, ds', e, e1, e2, r⟩
  · cases h; rfl
  · cases e1
theorem RpS.full {K : Fg} {F H : Hp} {v : V} {d : D} (s : Same F H) (h : RpS K F H v d) : Rp K H v d := by
  rcases h with h | ⟨a, xs, ds', rfl, rfl, e2, r⟩
  · exact h.up s
  · exact .lst (.inl e2) (r.up s)
abbrev EKo (K : Fg) (S : Sg) (B : Base) (σ : Sts) (F : Hp) (Q : VK) : D → Ev → Prop := fun d ρ' => ∀ F' H' v, SInv K S B σ F' H' ρ' → Same F F' → Rp K F' v d → Q v H'
abbrev XKo (X : Cx) (W : WX) (S : Sg) (B : Base) (σ : Sts) (F : Hp) : Str → Ev → Prop := fun c ρ' => ∀ F' H' C, SInv X.K S B σ F' H' ρ' → Same F F' → X.mg c = some (.ref C) → W (.ref C) none σ H'
abbrev BKo (K : Fg) (S : Sg) (B : Base) (σ : Sts) (F : Hp) (Q : Bool → Hp → Prop) : Bool → Ev → Prop := fun b ρ' => ∀ F' H', SInv K S B σ F' H' ρ' → Same F F' → Q b H'
abbrev VsKo (K : Fg) (S : Sg) (B : Base) (σ : Sts) (F : Hp) (Q : List V → Hp → Prop) : List D → Ev → Prop := fun ds ρ' => ∀ F' H' vs, SInv K S B σ F' H' ρ' → Same F F' → RpL K F' vs ds → Q vs H'
abbrev LKo (K : Fg) (S : Sg) (B : Base) (σ : Sts) (F : Hp) (Q : VK) : List D → Ev → Prop := fun ds ρ' => ∀ F' H' p xs, SInv K S B σ F' H' ρ' → Same F F' → F' p = none → H' p = some (.lst xs) → RpL K F' xs ds → B.H p = none → (∀ i a, Held S σ H' ρ' i a → a ≠ p) → Q (.ref p) H'
/-- an expression means m -/
structure ME (X : Cx) (W : WX) (S : Sg) (e : Expr) (m : Ev → Out D) : Prop where
  ex : ∃ t : TE, PE X e t ∧ ∀ B F H σ ρ Q, SInv X.K S B σ F H ρ → Sat (m ρ) (EKo X.K S B σ F Q) (XKo X W S B σ F) → t σ H Q
/-- .. a new list -/
structure ML (X : Cx) (W : WX) (S : Sg) (e : Expr) (m : Ev → Out (List D)) : Prop where
  ex : ∃ t : TE, PE X e t ∧ ∀ B F H σ ρ Q, SInv X.K S B σ F H ρ → Sat (m ρ) (LKo X.K S B σ F Q) (XKo X W S B σ F) → t σ H Q
structure MT (X : Cx) (W : WX) (S : Sg) (e : Expr) (m : Ev → Out Bool) : Prop where
  ex : ∃ t : TT, PT X e t ∧ ∀ B F H σ ρ Q, SInv X.K S B σ F H ρ → Sat (m ρ) (BKo X.K S B σ F Q) (XKo X W S B σ F) → t σ H Q
structure MTw (X : Cx) (W : WX) (S : Sg) (e : Expr) (m : Ev → Out Bool) : Prop where
  ex : ∃ t : TT, PW X e t ∧ ∀ B F H σ ρ Q, SInv X.K S B σ F H ρ → Sat (m ρ) (BKo X.K S B σ F Q) (XKo X W S B σ F) → t σ H Q
structure MA (X : Cx) (W : WX) (S : Sg) (es : List Expr) (m : Ev → Out (List D)) : Prop where
  ex : ∃ t : TA, PA X es t ∧ ∀ B F H σ ρ Q, SInv X.K S B σ F H ρ → Sat (m ρ) (VsKo X.K S B σ F Q) (XKo X W S B σ F) → t σ H Q
  len : ∀ ρ ds ρ', m ρ = .ok ds ρ' → ds.length = es.length
section
variable {K : Fg} {S : Sg} {B : Base} {σ : Sts} {F H : Hp} {ρ : Ev}
theorem EKo.up {Q : VK} {F1 : Hp} {d : D} (s : Same F F1) (h : EKo K S B σ F Q d ρ) : EKo K S B σ F1 Q d ρ := fun F' H' v I s' r => h F' H' v I (s.trans s') r
/-- the value is frozen as it stands -/
theorem EKo.now {Q : VK} {d : D} {v : V} (h : EKo K S B σ F Q d ρ) (I : SInv K S B σ F H ρ) (r : Rp K F v d) : Q v H := h F H v I (Same.refl _) r
/-- a new tuple -/
theorem EKo.tup {Q : VK} {ds : List D} {xs : List V} {p : Addr} (h : EKo K S B σ F Q (.tuple ds) ρ) (I : SInv K S B σ F H ρ) (r : RpL K F xs ds) {o : Obj} (ho : o.dict = none) (hp : H p = none) : Q (.ref p) (upd H p (.frz o (.tup xs))) := by
  have hF : F p = none := Same.free I.same hp
  exact h _ _ _ (I.newF hp) (same_upd hF) (.tup (.inl ⟨o, ho, upd_same⟩) (r.up (same_upd hF)))
theorem EKo.lst {Q : VK} {ds : List D} {xs : List V} {p : Addr} (h : EKo K S B σ F Q (.list ds) ρ) (I : SInv K S B σ F H ρ) (r : RpL K F xs ds) (hp : H p = none) : Q (.ref p) (upd H p (.lst xs)) := by
  have hF : F p = none := Same.free I.same hp
  exact h _ _ _ (I.newF hp) (same_upd hF) (.lst (.inl upd_same) (r.up (same_upd hF)))
theorem LKo.mk {Q : VK} {ds : List D} {xs : List V} {p : Addr} (h : LKo K S B σ F Q ds ρ) (I : SInv K S B σ F H ρ) (r : RpL K F xs ds) (hp : H p = none) : Q (.ref p) (upd H p (.lst xs)) :=
  h _ _ _ xs (I.newH hp) (Same.refl _) (Same.free I.same hp) upd_same r (I.bnone hp) fun i a q => I.heldNe hp i a (held_same (fun c e => by rw [upd_ne (I.heldNe hp i c (I.topHeld q.1 q.2.1 e))]) q)
theorem LKo.ofE {Q : VK} {ds : List D} (h : EKo K S B σ F Q (.list ds) ρ) : LKo K S B σ F Q ds ρ := fun F' H' p xs I s hF hH r hB hn =>
  h _ _ _ (I.freeze hF hH (.inl hB) hn soft_lst) (s.trans (same_upd hF)) (.lst (.inl upd_same) (r.up (same_upd hF)))
theorem XKo.up {X : Cx} {W : WX} {F1 : Hp} {c : Str} (s : Same F F1) (h : XKo X W S B σ F c ρ) : XKo X W S B σ F1 c ρ := fun F' H' C I s' g => h F' H' C I (s.trans s') g
end
/-- a mirror of two, in a row -/
def mBin (g : D → D → Option D) (ma mb : Ev → Out D) : Ev → Out D := fun ρ => (ma ρ).bind fun d ρ1 => (mb ρ1).bind fun e ρ2 => Out.of (g d e) ρ2
def mUn (g : D → Option D) (ma : Ev → Out D) : Ev → Out D := fun ρ => (ma ρ).bind fun d ρ1 => Out.of (g d) ρ1
def rd (ρ : Ev) (i : Nat) : Option D := ρ.getD i none
def mVar (i : Nat) : Ev → Out D := fun ρ => Out.of (rd ρ i) ρ
def mC (d : D) : Ev → Out D := fun ρ => .ok d ρ
theorem rd_some {ρ : Ev} {i : Nat} {d : D} (h : rd ρ i = some d) : ρ[i]? = some (some d) := by
  unfold rd at h
  rw [List.getD_eq_getElem?_getD] at h
  cases e : ρ[i]? with
  | none => rw [e] at h; cases h
  | some x => rw [e] at h; exact congrArg some h
/-- an operation on values is g on data -/
def OpD (X : Cx) (r : R2) (g : D → D → Option D) : Prop := ∀ S B F H σ ρ Q x y d e z, SInv X.K S B σ F H ρ → RpS X.K F H x d → RpS X.K F H y e → g d e = some z → EKo X.K S B σ F Q z ρ → r x y H Q
def OpD1 (X : Cx) (r : V → Hp → VK → Prop) (g : D → Option D) : Prop := ∀ S B F H σ ρ Q x d z, SInv X.K S B σ F H ρ → RpS X.K F H x d → g d = some z → EKo X.K S B σ F Q z ρ → r x H Q
def CallD (X : Cx) (r : List V → Hp → VK → Prop) (g : List D → Option D) : Prop := ∀ S B F H σ ρ Q xs ds z, SInv X.K S B σ F H ρ → RpSs X.K F H xs ds → g ds = some z → EKo X.K S B σ F Q z ρ → r xs H Q
def CallL (X : Cx) (r : List V → Hp → VK → Prop) (g : List D → Option (List D)) : Prop := ∀ S B F H σ ρ Q xs ds z, SInv X.K S B σ F H ρ → RpSs X.K F H xs ds → g ds = some z → LKo X.K S B σ F Q z ρ → r xs H Q
/-- what is handed back is frozen for good -/
def tFrz (t : TE) : TE := fun σ H Q => t σ H fun v H' => ∃ d u, v = .ref d ∧ H' d = some u ∧ L2.Mut (some u) ∧ ∀ od, Q v (upd H' d (.frz od u))
theorem pe_frz {X : Cx} {e : Expr} {t : TE} (h : PE X e t) : PE X e (tFrz t) := by
  refine ⟨fun pins s σ H Q I q => ?_⟩
  refine thn (h.run pins s σ H _ I q) fun u s1 ⟨v, H1, I1, r1, d, x, ev, hd, mu, k⟩ => ?_
  obtain ⟨od, I2⟩ := I1.lock hd mu
  exact ⟨v, _, I2, r1, k od⟩
theorem sat_of {α : Type} {x : Option α} {ρ : Ev} {k : α → Ev → Prop} {e : Str → Ev → Prop} (h : Sat (Out.of x ρ) k e) : ∃ a, x = some a ∧ k a ρ := by
  cases x with
  | none => exact h.elim
  | some a => exact ⟨a, rfl, h⟩
section
variable {X : Cx} {W : WX} {S : Sg} {a b c : Expr} {es : List Expr} {pos : Pos} {ma mb mc : Ev → Out D}
theorem me_int {i : Int} {j pos} : ME X W S (.Constant (.int i) j pos) (mC (.int i)) := ⟨_, pe_int, fun B F H σ ρ Q I h => h.now I (.int i)⟩
theorem me_bl {b : Bool} {j pos} : ME X W S (.Constant (.bool b) j pos) (mC (.bool b)) := ⟨_, pe_bl, fun B F H σ ρ Q I h => h.now I (.bl b)⟩
theorem me_non {j pos} : ME X W S (.Constant .none j pos) (mC .none) := ⟨_, pe_non, fun B F H σ ρ Q I h => h.now I .non⟩
theorem me_str {x : Str} {j pos} : ME X W S (.Constant (.str x) j pos) (mC (.str x)) := ⟨_, pe_str, fun B F H σ ρ Q I h => h.now I (.str x)⟩
/-- a slot that holds a frozen value -/
theorem me_var (i : Nat) {x : Str} {pos : Pos} (k : knd S i = 0 := by rfl) (hN : X.N[i]? = some x := by rfl) (hv : Vis X.env.scope x := by first | exact Or.inl rfl | exact Or.inr (Or.inl rfl) | exact Or.inr (Or.inr rfl)) (hd : (x == ("__debug__" : Str)) = false := by decide)
    (hcd : (x == ("__classdict__" : Str)) = false := by decide) : ME X W S (.Name x pos) (mVar i) := ⟨_, pe_var hN hv hd hcd, fun B F H σ ρ Q I h => by
  obtain ⟨d, e, h⟩ := sat_of h
  obtain ⟨v, e1, r⟩ := I.sh i d (rd_some e) k
  exact ⟨v, e1, h.now I r⟩⟩
theorem me_glob {x : Str} {v : V} {d : D} {u : Value} {pos : Pos} (hg : Gl X x) (hm : X.mg x = some u) (r : RelV v u) (rp : ∀ F, Rp X.K F v d) (hd : (x == ("__debug__" : Str)) = false := by decide) : ME X W S (.Name x pos) (mC d) :=
  ⟨_, pe_glob hg hm r hd, fun B F H σ ρ Q I h => h.now I (rp F)⟩
theorem ME.bin {t : TE → TE → TE} {r : R2} {g : D → D → Option D} (hd : OpD X r g) (ha : ME X W S a ma) (hb : ME X W S b mb) {e : Expr} (mk : ∀ ta tb, PE X a ta → PE X b tb → PE X e (tOp r ta tb)) : ME X W S e (mBin g ma mb) := by
  obtain ⟨ta, pa, qa⟩ := ha.ex
  obtain ⟨tb, pb, qb⟩ := hb.ex
  refine ⟨tOp r ta tb, mk ta tb pa pb, fun B F H σ ρ Q I h => ?_⟩
  refine qa B F H σ ρ _ I (h.bind.mono (fun d ρ1 h1 F1 H1 x I1 s1 r1 => ?_) fun _ _ z => z)
  refine qb B F1 H1 σ ρ1 _ I1 (h1.bind.mono (fun e ρ2 h2 F2 H2 y I2 s2 r2 => ?_) fun _ _ z => XKo.up s1 z)
  obtain ⟨z, hz, h3⟩ := sat_of h2
  exact hd S B F2 H2 σ ρ2 Q x y d e z I2 (.inl (r1.up s2)) (.inl r2) hz (EKo.up (s1.trans s2) h3)
theorem me_op {op : Operator} {r : R2} {g : D → D → Option D} (ho : OpR X (binaryOp op) r) (hd : OpD X r g) (ha : ME X W S a ma) (hb : ME X W S b mb) : ME X W S (.BinOp a op b pos) (mBin g ma mb) :=
  ME.bin (t := fun ta tb => tOp r ta tb) hd ha hb fun _ _ pa pb => pe_op ho pa pb
theorem me_cmp {op : CmpOp} {r : R2} {g : D → D → Option D} (ho : OpR X (compareOp op) r) (hd : OpD X r g) (ha : ME X W S a ma) (hb : ME X W S b mb) (hm : behindInMarks op b = false) : ME X W S (.Compare a [op] [b] pos) (mBin g ma mb) :=
  ME.bin (t := fun ta tb => tOp r ta tb) hd ha hb fun _ _ pa pb => pe_cmpR ho pa pb hm
theorem me_ix {r : R2} {g : D → D → Option D} (hr : IxR X r) (hd : OpD X r g) (ha : ME X W S a ma) (hb : ME X W S b mb) (hs : PlainIx b) : ME X W S (.Subscript a b pos) (mBin g ma mb) :=
  ME.bin (t := fun ta tb => tOp r ta tb) hd ha hb fun _ _ pa pb => pe_ix hr pa pb hs
theorem me_un {op : UnaryOp} {r : V → Hp → VK → Prop} {g : D → Option D} (ho : UnR X (unaryOp op) r) (hd : OpD1 X r g) (ha : ME X W S a ma) : ME X W S (.UnaryOp op a pos) (mUn g ma) := by
  obtain ⟨ta, pa, qa⟩ := ha.ex
  refine ⟨_, pe_un ho pa, fun B F H σ ρ Q I h => ?_⟩
  refine qa B F H σ ρ _ I (h.bind.mono (fun d ρ1 h1 F1 H1 x I1 s1 r1 => ?_) fun _ _ z => z)
  obtain ⟨z, hz, h3⟩ := sat_of h1
  exact hd S B F1 H1 σ ρ1 Q x d z I1 (.inl r1) hz (EKo.up s1 h3)
/-- a test gives a bool without a change -/
def OpB (X : Cx) (r : R2) (g : D → D → Option Bool) : Prop := ∀ S B F H σ ρ x y d e b (Q : VK), SInv X.K S B σ F H ρ → RpS X.K F H x d → RpS X.K F H y e → g d e = some b → Q (.bl b) H → r x y H Q
theorem OpB.opD {r : R2} {g : D → D → Option Bool} (h : OpB X r g) : OpD X r (fun d e => (g d e).map .bool) := fun S B F H σ ρ Q x y d e z I r1 r2 hz k => by
  have hz : (g d e).map PyData.bool = some z := hz
  cases q : g d e with
  | none => rw [q] at hz; cases hz
  | some b =>
    rw [q] at hz
    cases hz
    exact h S B F H σ ρ x y d e b Q I r1 r2 q (k.now I (.bl b))
/-- tests -/
def mTest (g : D → D → Option Bool) (ma mb : Ev → Out D) : Ev → Out Bool := fun ρ => (ma ρ).bind fun d ρ1 => (mb ρ1).bind fun e ρ2 => Out.of (g d e) ρ2
theorem mt_cmp {op : CmpOp} {r : R2} {g : D → D → Option Bool} (ho : OpR X (compareOp op) r) (hd : OpB X r g) (ha : ME X W S a ma) (hb : ME X W S b mb) (hm : behindInMarks op b = false) : MT X W S (.Compare a [op] [b] pos) (mTest g ma mb) := by
  obtain ⟨ta, pa, qa⟩ := ha.ex
  obtain ⟨tb, pb, qb⟩ := hb.ex
  refine ⟨_, pt_cmpR ho pa pb hm, fun B F H σ ρ Q I h => ?_⟩
  refine qa B F H σ ρ _ I (h.bind.mono (fun d ρ1 h1 F1 H1 x I1 s1 r1 => ?_) fun _ _ z => z)
  refine qb B F1 H1 σ ρ1 _ I1 (h1.bind.mono (fun e ρ2 h2 F2 H2 y I2 s2 r2 => ?_) fun _ _ z => XKo.up s1 z)
  obtain ⟨z, hz, h3⟩ := sat_of h2
  exact hd S B F2 H2 σ ρ2 x y d e z _ I2 (.inl (r1.up s2)) (.inl r2) hz ⟨z, rfl, h3 F2 H2 I2 (s1.trans s2)⟩
def mChainT (g g' : D → D → Option Bool) (ma mb mc : Ev → Out D) : Ev → Out Bool := fun ρ => (ma ρ).bind fun d ρ1 => (mb ρ1).bind fun e ρ2 => (Out.of (g d e) ρ2).bind fun b ρ2 =>
  if b = true then (mc ρ2).bind fun f ρ3 => Out.of (g' e f) ρ3 else .ok false ρ2
theorem chain_sat {r r' : R2} {g g' : D → D → Option Bool} (hd : OpB X r g) (hd' : OpB X r' g') {ta tb tc : TE}
    (qa : ∀ B F H σ ρ Q, SInv X.K S B σ F H ρ → Sat (ma ρ) (EKo X.K S B σ F Q) (XKo X W S B σ F) → ta σ H Q) (qb : ∀ B F H σ ρ Q, SInv X.K S B σ F H ρ → Sat (mb ρ) (EKo X.K S B σ F Q) (XKo X W S B σ F) → tb σ H Q)
    (qc : ∀ B F H σ ρ Q, SInv X.K S B σ F H ρ → Sat (mc ρ) (EKo X.K S B σ F Q) (XKo X W S B σ F) → tc σ H Q) {B : Base} {F H : Hp} {σ : Sts} {ρ : Ev} {Q : VK} (I : SInv X.K S B σ F H ρ)
    (h : Sat (mChainT g g' ma mb mc ρ) (BKo X.K S B σ F fun b H' => Q (.bl b) H') (XKo X W S B σ F)) : tChain r r' ta tb tc σ H Q := by
  refine qa B F H σ ρ _ I (h.bind.mono (fun d ρ1 h1 F1 H1 x I1 s1 r1 => ?_) fun _ _ z => z)
  refine qb B F1 H1 σ ρ1 _ I1 (h1.bind.mono (fun e ρ2 h2 F2 H2 y I2 s2 r2 => ?_) fun _ _ z => XKo.up s1 z)
  obtain ⟨k, hk, h3⟩ := sat_of h2.bind
  refine hd S B F2 H2 σ ρ2 x y d e k _ I2 (.inl (r1.up s2)) (.inl r2) hk ⟨k, rfl, ?_⟩
  cases k with
  | false => exact iteF (h3 F2 H2 I2 (s1.trans s2))
  | true =>
    refine iteT (qc B F2 H2 σ ρ2 _ I2 (Sat.mono (Sat.bind h3) (fun f ρ3 h4 F3 H3 z I3 s3 r3 => ?_) fun _ _ z => XKo.up (s1.trans s2) z))
    obtain ⟨k', hk', h5⟩ := sat_of h4
    exact hd' S B F3 H3 σ ρ3 y z e f k' _ I3 (.inl (r2.up s3)) (.inl r3) hk' (h5 F3 H3 I3 ((s1.trans s2).trans s3))
theorem mt_chain {op op' : CmpOp} {r r' : R2} {g g' : D → D → Option Bool} (ho : OpR X (compareOp op) r) (ho' : OpR X (compareOp op') r') (hd : OpB X r g) (hd' : OpB X r' g') (ha : ME X W S a ma) (hb : ME X W S b mb) (hc : ME X W S c mc)
    (hm : lastMarks [op, op'] [b, c] = false := by with_unfolding_all rfl) : MT X W S (.Compare a [op, op'] [b, c] pos) (mChainT g g' ma mb mc) := by
  obtain ⟨ta, pa, qa⟩ := ha.ex
  obtain ⟨tb, pb, qb⟩ := hb.ex
  obtain ⟨tc, pc, qc⟩ := hc.ex
  refine ⟨_, pt_chain ho ho' pa pb pc hm, fun B F H σ ρ Q I h => ?_⟩
  exact chain_sat hd hd' qa qb qc I (h.mono (fun b ρ' k F' H' I' s => ⟨b, rfl, k F' H' I' s⟩) fun _ _ z => z)
def mOfB (mb : Ev → Out Bool) : Ev → Out D := fun ρ => (mb ρ).bind fun b ρ1 => .ok (.bool b) ρ1
theorem me_chain {op op' : CmpOp} {r r' : R2} {g g' : D → D → Option Bool} (ho : OpR X (compareOp op) r) (ho' : OpR X (compareOp op') r') (hd : OpB X r g) (hd' : OpB X r' g') (ha : ME X W S a ma) (hb : ME X W S b mb) (hc : ME X W S c mc)
    (hm : lastMarks [op, op'] [b, c] = false := by with_unfolding_all rfl) : ME X W S (.Compare a [op, op'] [b, c] pos) (mOfB (mChainT g g' ma mb mc)) := by
  obtain ⟨ta, pa, qa⟩ := ha.ex
  obtain ⟨tb, pb, qb⟩ := hb.ex
  obtain ⟨tc, pc, qc⟩ := hc.ex
  refine ⟨_, pe_chain ho ho' pa pb pc hm, fun B F H σ ρ Q I h => ?_⟩
  exact chain_sat hd hd' qa qb qc I (h.bind.mono (fun b ρ' k F' H' I' s => k F' H' _ I' s (.bl b)) fun _ _ z => z)
def truth : D → Option Bool
  | .none => some false
  | .bool b => some b
  | .int i => some (i != 0)
  | .str y => if y.length ≤ 16777216 then some ((y.length : Int) != 0) else none
  | .list ds => some !ds.isEmpty
  | .tuple ds => some !ds.isEmpty
  | .dict _ => none
theorem isEmpty_len {α β : Type} {xs : List α} {ys : List β} (h : xs.length = ys.length) : xs.isEmpty = ys.isEmpty := by
  cases xs <;> cases ys <;> first | rfl | (simp at h)
theorem RpK.len {K : Fg} {F : Hp} : ∀ {xs : List (L2.Key × V)} {ds : List (D × D)}, RpK K F xs ds → xs.length = ds.length
  | _, _, .nil => rfl
  | _, _, .cons _ r => by rw [List.length_cons, List.length_cons, r.len]
theorem tru_rp {K : Fg} {F H : Hp} {v : V} {d : D} {k : Bool} (s : Same F H) (r : Rp K F v d) (h : truth d = some k) : TruV K v H k := by
  cases r with
  | non => cases h; rfl
  | bl b => cases h; rfl
  | int i => cases h; rfl
  | str x =>
    have h : (if x.length ≤ 16777216 then some ((x.length : Int) != 0) else none) = some k := h
    by_cases hx : x.length ≤ 16777216
    · rw [if_pos hx] at h
      cases h
      exact ⟨by rw [sizeLine_eq]; exact hx, rfl⟩
    · rw [if_neg hx] at h
      cases h
  | lst a r =>
    cases h
    exact .inl ⟨_, .inl (rd_same s a), by rw [isEmpty_len r.len]⟩
  | tup a r =>
    cases h
    exact .inr (.inl ⟨_, sqT_same s a.sq, by rw [isEmpty_len r.len]⟩)
  | dct a r => cases h
def mTru (ma : Ev → Out D) : Ev → Out Bool := fun ρ => (ma ρ).bind fun d ρ1 => Out.of (truth d) ρ1
theorem mt_val (ha : ME X W S a ma) (he : ∀ whole, isTrue a X.env whole = (do let v ← whole; standAt a.pos; holding [v] (truthy v)) := by intro _; rfl) : MT X W S a (mTru ma) := by
  obtain ⟨ta, pa, qa⟩ := ha.ex
  refine ⟨_, pt_truth pa he, fun B F H σ ρ Q I h => ?_⟩
  refine qa B F H σ ρ _ I (h.bind.mono (fun d ρ1 h1 F1 H1 x I1 s1 r1 => ?_) fun _ _ z => z)
  obtain ⟨k, hk, h3⟩ := sat_of h1
  exact ⟨k, tru_rp I1.same r1 hk, h3 F1 H1 I1 s1⟩
def mNotB (m : Ev → Out Bool) : Ev → Out Bool := fun ρ => (m ρ).bind fun b ρ1 => .ok (!b) ρ1
theorem mt_not {m : Ev → Out Bool} (ha : MT X W S a m) : MT X W S (.UnaryOp .Not a pos) (mNotB m) := by
  obtain ⟨t, p, q⟩ := ha.ex
  refine ⟨_, pt_not p, fun B F H σ ρ Q I h => ?_⟩
  exact q B F H σ ρ _ I (h.bind.mono (fun b ρ1 h1 F1 H1 I1 s1 => h1 F1 H1 I1 s1) fun _ _ z => z)
def mAndB (m n : Ev → Out Bool) : Ev → Out Bool := fun ρ => (m ρ).bind fun b ρ1 => if b = true then n ρ1 else .ok false ρ1
def mOrB (m n : Ev → Out Bool) : Ev → Out Bool := fun ρ => (m ρ).bind fun b ρ1 => if b = true then .ok true ρ1 else n ρ1
theorem mtw_one {op : BoolOp} {m : Ev → Out Bool} (ha : MT X W S a m) : MTw X W S (.BoolOp op [a] pos) m := by
  obtain ⟨t, p, q⟩ := ha.ex
  cases op with
  | And => exact ⟨_, pw_and1 p, q⟩
  | Or => exact ⟨_, pw_or1 p, q⟩
theorem mtw_and {m n : Ev → Out Bool} {rest : List Expr} (ha : MT X W S a m) (hb : MTw X W S (.BoolOp .And (b :: rest) pos) n) : MTw X W S (.BoolOp .And (a :: b :: rest) pos) (mAndB m n) := by
  obtain ⟨t, p, q⟩ := ha.ex
  obtain ⟨t', p', q'⟩ := hb.ex
  refine ⟨_, pw_and p p', fun B F H σ ρ Q I h => ?_⟩
  refine q B F H σ ρ _ I (h.bind.mono (fun b ρ1 h1 F1 H1 I1 s1 => ?_) fun _ _ z => z)
  cases b with
  | true => exact iteT (q' B F1 H1 σ ρ1 _ I1 (Sat.mono h1 (fun b ρ2 h2 F2 H2 I2 s2 => h2 F2 H2 I2 (s1.trans s2)) fun _ _ z => XKo.up s1 z))
  | false => exact iteF (h1 F1 H1 I1 s1)
theorem mtw_or {m n : Ev → Out Bool} {rest : List Expr} (ha : MT X W S a m) (hb : MTw X W S (.BoolOp .Or (b :: rest) pos) n) : MTw X W S (.BoolOp .Or (a :: b :: rest) pos) (mOrB m n) := by
  obtain ⟨t, p, q⟩ := ha.ex
  obtain ⟨t', p', q'⟩ := hb.ex
  refine ⟨_, pw_or p p', fun B F H σ ρ Q I h => ?_⟩
  refine q B F H σ ρ _ I (h.bind.mono (fun b ρ1 h1 F1 H1 I1 s1 => ?_) fun _ _ z => z)
  cases b with
  | true => exact iteT (h1 F1 H1 I1 s1)
  | false => exact iteF (q' B F1 H1 σ ρ1 _ I1 (Sat.mono h1 (fun b ρ2 h2 F2 H2 I2 s2 => h2 F2 H2 I2 (s1.trans s2)) fun _ _ z => XKo.up s1 z))
theorem MTw.mt {m : Ev → Out Bool} (h : MTw X W S a m) : MT X W S a m := by
  obtain ⟨t, p, q⟩ := h.ex
  exact ⟨_, p.pt, q⟩
def mAndV (ma mb : Ev → Out D) : Ev → Out D := fun ρ => (ma ρ).bind fun d ρ1 => (Out.of (truth d) ρ1).bind fun b ρ1 => if b = true then mb ρ1 else .ok d ρ1
def mOrV (ma mb : Ev → Out D) : Ev → Out D := fun ρ => (ma ρ).bind fun d ρ1 => (Out.of (truth d) ρ1).bind fun b ρ1 => if b = true then .ok d ρ1 else mb ρ1
def mNotV (ma : Ev → Out D) : Ev → Out D := mOfB (mNotB (mTru ma))
theorem me_one {op : BoolOp} (ha : ME X W S a ma) : ME X W S (.BoolOp op [a] pos) ma := by
  obtain ⟨t, p, q⟩ := ha.ex
  exact ⟨_, pe_one p, q⟩
theorem me_and {rest : List Expr} (ha : ME X W S a ma) (hb : ME X W S (.BoolOp .And (b :: rest) pos) mb) : ME X W S (.BoolOp .And (a :: b :: rest) pos) (mAndV ma mb) := by
  obtain ⟨t, p, q⟩ := ha.ex
  obtain ⟨t', p', q'⟩ := hb.ex
  refine ⟨_, pe_andT p p', fun B F H σ ρ Q I h => ?_⟩
  refine q B F H σ ρ _ I (h.bind.mono (fun d ρ1 h1 F1 H1 x I1 s1 r1 => ?_) fun _ _ z => z)
  obtain ⟨k, hk, h3⟩ := sat_of h1.bind
  refine ⟨k, tru_rp I1.same r1 hk, ?_⟩
  cases k with
  | true => exact iteT (q' B F1 H1 σ ρ1 _ I1 (Sat.mono h3 (fun d ρ2 h2 => EKo.up s1 h2) fun _ _ z => XKo.up s1 z))
  | false => exact iteF (h3 F1 H1 x I1 s1 r1)
theorem me_or {rest : List Expr} (ha : ME X W S a ma) (hb : ME X W S (.BoolOp .Or (b :: rest) pos) mb) : ME X W S (.BoolOp .Or (a :: b :: rest) pos) (mOrV ma mb) := by
  obtain ⟨t, p, q⟩ := ha.ex
  obtain ⟨t', p', q'⟩ := hb.ex
  refine ⟨_, pe_orT p p', fun B F H σ ρ Q I h => ?_⟩
  refine q B F H σ ρ _ I (h.bind.mono (fun d ρ1 h1 F1 H1 x I1 s1 r1 => ?_) fun _ _ z => z)
  obtain ⟨k, hk, h3⟩ := sat_of h1.bind
  refine ⟨k, tru_rp I1.same r1 hk, ?_⟩
  cases k with
  | true => exact iteT (h3 F1 H1 x I1 s1 r1)
  | false => exact iteF (q' B F1 H1 σ ρ1 _ I1 (Sat.mono h3 (fun d ρ2 h2 => EKo.up s1 h2) fun _ _ z => XKo.up s1 z))
theorem me_not (ha : ME X W S a ma) : ME X W S (.UnaryOp .Not a pos) (mNotV ma) := by
  obtain ⟨t, p, q⟩ := ha.ex
  refine ⟨_, pe_notT p, fun B F H σ ρ Q I h => ?_⟩
  refine q B F H σ ρ _ I (h.bind.bind.bind.mono (fun d ρ1 h1 F1 H1 x I1 s1 r1 => ?_) fun _ _ z => z)
  obtain ⟨k, hk, h3⟩ := sat_of h1
  exact ⟨k, tru_rp I1.same r1 hk, h3 F1 H1 _ I1 s1 (.bl _)⟩
def mIf (mc : Ev → Out Bool) (ma mb : Ev → Out D) : Ev → Out D := fun ρ => (mc ρ).bind fun b ρ1 => if b = true then ma ρ1 else mb ρ1
theorem me_ifExp {mt : Ev → Out Bool} (hc : MT X W S c mt) (ha : ME X W S a ma) (hb : ME X W S b mb) : ME X W S (.IfExp c a b pos) (mIf mt ma mb) := by
  obtain ⟨t, p, q⟩ := hc.ex
  obtain ⟨t1, p1, q1⟩ := ha.ex
  obtain ⟨t2, p2, q2⟩ := hb.ex
  refine ⟨_, pe_ifExp p p1 p2, fun B F H σ ρ Q I h => ?_⟩
  refine q B F H σ ρ _ I (h.bind.mono (fun b ρ1 h1 F1 H1 I1 s1 => ?_) fun _ _ z => z)
  cases b with
  | true => exact iteT (q1 B F1 H1 σ ρ1 _ I1 (Sat.mono h1 (fun d ρ2 h2 => EKo.up s1 h2) fun _ _ z => XKo.up s1 z))
  | false => exact iteF (q2 B F1 H1 σ ρ1 _ I1 (Sat.mono h1 (fun d ρ2 h2 => EKo.up s1 h2) fun _ _ z => XKo.up s1 z))
def mNil : Ev → Out (List D) := fun ρ => .ok [] ρ
def mCons (ma : Ev → Out D) (mr : Ev → Out (List D)) : Ev → Out (List D) := fun ρ => (ma ρ).bind fun d ρ1 => (mr ρ1).bind fun ds ρ2 => .ok (d :: ds) ρ2
theorem ma_nil : MA X W S [] mNil := ⟨⟨_, pa_nil, fun B F H σ ρ Q I h => h F H [] I (Same.refl _) .nil⟩, fun ρ ds ρ' h => by cases h; rfl⟩
theorem ma_cons {mr : Ev → Out (List D)} (ha : ME X W S a ma) (hr : MA X W S es mr) (hs : starEach (a :: es) X.env = (false, eval a X.env) :: starEach es X.env := by rfl) : MA X W S (a :: es) (mCons ma mr) := by
  obtain ⟨t, p, q⟩ := ha.ex
  obtain ⟨t', p', q'⟩ := hr.ex
  refine ⟨⟨_, pa_cons p p' hs, fun B F H σ ρ Q I h => ?_⟩, fun ρ ds ρ' h => ?_⟩
  · refine q B F H σ ρ _ I (h.bind.mono (fun d ρ1 h1 F1 H1 x I1 s1 r1 => ?_) fun _ _ z => z)
    refine q' B F1 H1 σ ρ1 _ I1 (h1.bind.mono (fun ds ρ2 h2 F2 H2 xs I2 s2 r2 => ?_) fun _ _ z => XKo.up s1 z)
    exact h2 F2 H2 (x :: xs) I2 (s1.trans s2) (.cons (r1.up s2) r2)
  · unfold mCons at h
    cases e1 : ma ρ with
    | ok d ρ1 =>
      rw [e1] at h
      have h' : (mr ρ1).bind (fun ds ρ2 => Out.ok (d :: ds) ρ2) = .ok ds ρ' := h
      cases e2 : mr ρ1 with
      | ok ds2 ρ2 =>
        rw [e2] at h'
        cases h'
        rw [List.length_cons, List.length_cons, hr.len ρ1 ds2 _ e2]
      | err c ρ2 => rw [e2] at h'; cases h'
      | bad => rw [e2] at h'; cases h'
    | err c ρ1 => rw [e1] at h; cases h
    | bad => rw [e1] at h; cases h
theorem small_len {n : Nat} (h : Nat.ble n 1000 = true) : n ≤ sizeLine := by
  rw [sizeLine_eq]
  have := Nat.le_of_ble_eq_true h
  omega
/-- what m hands back is told by len too -/
theorem Sat.tell {α : Type} {o : Out α} {k : α → Ev → Prop} {e : Str → Ev → Prop} (h : Sat o k e) : Sat o (fun a ρ => k a ρ ∧ o = .ok a ρ) e := by
  cases o with
  | ok a ρ => exact ⟨h, rfl⟩
  | err c ρ => exact h
  | bad => exact h
def mTup (ms : Ev → Out (List D)) : Ev → Out D := fun ρ => (ms ρ).bind fun ds ρ1 => .ok (.tuple ds) ρ1
def mLst (ms : Ev → Out (List D)) : Ev → Out D := fun ρ => (ms ρ).bind fun ds ρ1 => .ok (.list ds) ρ1
theorem mkT {pins : List (Addr × Obj)} {s : Shared} {σ : Sts} {H : Hp} {xs : List V} {its : List Value} {n : Nat} {Q : VK} (I : Inv X pins σ H s) (r : Vals xs its) (hz : xs.length ≤ sizeLine)
    (q : ∀ (p : Addr) (o : Obj), o.dict = none → H p = none → Q (.ref p) (upd H p (.frz o (.tup xs)))) : EP X pins σ Q (.ref s.heap.objs.size) { s with heap := s.heap.push { cls := .type "tuple", data := .seq its.toArray n } } := by
  have hn : H s.heap.objs.size = none := I.hok.fresh (Nat.le_refl _)
  exact ⟨.ref s.heap.objs.size, _, I.laid (t' := s.toks) (o := .frz { cls := .type "tuple", data := .seq its.toArray n } (.tup xs)) (fun b u e => Heap.get?_push_of_some _ e) (Nat.le_refl _)
    ⟨Heap.get?_push_size _ rfl, hz, its, r, _, Heap.get?_push_size _ rfl, rfl, _, rfl⟩, rfl, q _ _ rfl hn⟩
def tTupM (t : TA) : TE := fun σ H Q => t σ H fun xs H1 => xs.length ≤ sizeLine ∧ ∀ (p : Addr) (o : Obj), o.dict = none → H1 p = none → Q (.ref p) (upd H1 p (.frz o (.tup xs)))
theorem pe_tupM {t : TA} {x1} (h : PA X es t) : PE X (.Tuple es x1 pos) (tTupM t) := by
  refine ⟨fun pins s σ H Q I hq => wpAny_Tuple_spliced (thn (h.run pos pins s σ H _ I hq) fun us s1 ⟨xs, H1, I1, r, z, q⟩ => ⟨?_, mkT I1 r z q⟩)⟩
  rw [← r.length]; exact z
theorem me_tup {ms : Ev → Out (List D)} {x1} (h : MA X W S es ms) (hl : Nat.ble es.length 1000 = true := by rfl) : ME X W S (.Tuple es x1 pos) (mTup ms) := by
  obtain ⟨t, p, q⟩ := h.ex
  refine ⟨_, pe_tupM p, fun B F H σ ρ Q I hh => ?_⟩
  refine q B F H σ ρ _ I (hh.bind.tell.mono (fun ds ρ1 ⟨h1, e1⟩ F1 H1 xs I1 s1 r1 => ⟨?_, fun p o ho hp => ?_⟩) fun _ _ z => z)
  · rw [r1.len, h.len _ _ _ e1]; exact small_len hl
  · exact (EKo.up s1 h1).tup I1 r1 ho hp
theorem ml_lst {ms : Ev → Out (List D)} (h : MA X W S es ms) (hl : Nat.ble es.length 1000 = true := by rfl) : ML X W S (.List es pos) ms := by
  obtain ⟨t, p, q⟩ := h.ex
  refine ⟨_, pe_lst p, fun B F H σ ρ Q I hh => ?_⟩
  refine q B F H σ ρ _ I (hh.tell.mono (fun ds ρ1 ⟨h1, e1⟩ F1 H1 xs I1 s1 r1 => ⟨?_, fun p hp => ?_⟩) fun _ _ z => z)
  · rw [r1.len, h.len _ _ _ e1]; exact small_len hl
  · exact LKo.mk (fun F' H' p' xs' I' s' => h1 F' H' p' xs' I' (s1.trans s')) I1 r1 hp
theorem ML.me {ms : Ev → Out (List D)} (h : ML X W S a ms) : ME X W S a (mLst ms) := by
  obtain ⟨t, p, q⟩ := h.ex
  exact ⟨_, p, fun B F H σ ρ Q I hh => q B F H σ ρ _ I (hh.bind.mono (fun ds ρ1 h1 => LKo.ofE h1) fun _ _ z => z)⟩
def mCall (g : List D → Option D) (ms : Ev → Out (List D)) : Ev → Out D := fun ρ => (ms ρ).bind fun ds ρ1 => Out.of (g ds) ρ1
def mCallL (g : List D → Option (List D)) (ms : Ev → Out (List D)) : Ev → Out (List D) := fun ρ => (ms ρ).bind fun ds ρ1 => Out.of (g ds) ρ1
theorem me_callV {r : List V → Hp → VK → Prop} {g : List D → Option D} {ms : Ev → Out (List D)} {e : Expr} (hd : CallD X r g) (ha : MA X W S es ms) (mk : ∀ t, PA X es t → PE X e (tCB r t)) : ME X W S e (mCall g ms) := by
  obtain ⟨t, p, q⟩ := ha.ex
  refine ⟨_, mk _ p, fun B F H σ ρ Q I hh => ?_⟩
  refine q B F H σ ρ _ I (hh.bind.mono (fun ds ρ1 h1 F1 H1 xs I1 s1 r1 => ?_) fun _ _ z => z)
  obtain ⟨z, hz, h3⟩ := sat_of h1
  exact hd S B F1 H1 σ ρ1 Q xs ds z I1 r1.seen hz (EKo.up s1 h3)
theorem ml_callV {r : List V → Hp → VK → Prop} {g : List D → Option (List D)} {ms : Ev → Out (List D)} {e : Expr} (hd : CallL X r g) (ha : MA X W S es ms) (mk : ∀ t, PA X es t → PE X e (tCB r t)) : ML X W S e (mCallL g ms) := by
  obtain ⟨t, p, q⟩ := ha.ex
  refine ⟨_, mk _ p, fun B F H σ ρ Q I hh => ?_⟩
  refine q B F H σ ρ _ I (hh.bind.mono (fun ds ρ1 h1 F1 H1 xs I1 s1 r1 => ?_) fun _ _ z => z)
  obtain ⟨z, hz, h3⟩ := sat_of h1
  exact hd S B F1 H1 σ ρ1 Q xs ds z I1 r1.seen hz (fun F' H' p' xs' I' s' => h3 F' H' p' xs' I' (s1.trans s'))
end
end MW
namespace MW
open PySem PySem.Spec PyProof.Rows L2
def tME (K : Fg) (mg : Str → Option Value) (W : WX) (S : Sg) (m : Ev → Out D) : TE := fun σ H Q => ∃ B F ρ, SInv K S B σ F H ρ ∧ Sat (m ρ) (EKo K S B σ F Q) (fun c ρ' => ∀ F' H' C, SInv K S B σ F' H' ρ' → Same F F' → mg c = some (.ref C) → W (.ref C) none σ H')
def tMT (K : Fg) (mg : Str → Option Value) (W : WX) (S : Sg) (m : Ev → Out Bool) : TT := fun σ H Q => ∃ B F ρ, SInv K S B σ F H ρ ∧ Sat (m ρ) (BKo K S B σ F Q) (fun c ρ' => ∀ F' H' C, SInv K S B σ F' H' ρ' → Same F F' → mg c = some (.ref C) → W (.ref C) none σ H')
section
variable {X : Cx} {W : WX} {S : Sg}
theorem ME.run {e : Expr} {m : Ev → Out D} (h : ME X W S e m) : PE X e (tME X.K X.mg W S m) := by
  obtain ⟨t, p, q⟩ := h.ex
  exact ⟨fun pins s σ H Q I ⟨B, F, ρ, J, z⟩ => p.run pins s σ H Q I (q B F H σ ρ Q J z)⟩
theorem MT.run {e : Expr} {m : Ev → Out Bool} (h : MT X W S e m) : PT X e (tMT X.K X.mg W S m) := by
  obtain ⟨t, p, q⟩ := h.ex
  exact ⟨fun pins s σ H Q I ⟨B, F, ρ, J, z⟩ => p.run pins s σ H Q I (q B F H σ ρ Q J z)⟩
end
def reb (T : List NdefX.NTab) (S : Sg) (σ : Sts) (F H : Hp) (ρ : Ev) : Base := ⟨fun a => (∃ i, Held S σ H ρ i a) ∨ ∃ p ∈ T, p.1 = a, fun a => ∃ i, S.np ≤ i ∧ Held S σ H ρ i a, F, H, σ, T⟩
section
variable {K : Fg} {S : Sg} {B : Base} {σ : Sts} {F H : Hp} {ρ : Ev}
theorem SInv.into (I : SInv K S B σ F H ρ) : SInv K S (reb B.T S σ F H ρ) σ F H ρ :=
  ⟨I.len, I.same, ⟨Same.refl _, fun _ _ e _ => e, fun _ e => e, fun _ _ e => .inl e, I.ext.tb, fun p hp => .inr ⟨p, hp, rfl⟩, I.ext.tf⟩, I.sh, fun i d e k => let ⟨a, bs, e1, w, _⟩ := I.ow i d e k; ⟨a, bs, e1, w, fun b hb => .inl ⟨.inl ⟨i, (w.held (S := S) k e e1 b).mpr hb⟩, fun z => ⟨i, z, (w.held (S := S) k e e1 b).mpr hb⟩⟩⟩, I.nd, I.al, fun _ _ _ => rfl, I.ts⟩
theorem SInv.out (I : SInv K S B σ F H ρ) {i : Nat} {a : Addr} (h : Held S σ H ρ i a) : (B.O a ∧ (S.np ≤ i → B.M a)) ∨ B.H a = none := (I.heldAt h).2.2
theorem SInv.back (I : SInv K S B σ F H ρ) {σ' : Sts} {F' H' : Hp} {ρ' : Ev} (J : SInv K S (reb B.T S σ F H ρ) σ' F' H' ρ') : SInv K S B σ' F' H' ρ' := by
  refine ⟨J.len, J.same, ⟨I.ext.fs.trans J.ext.fs, fun b o e n => ?_, fun b e => I.ext.st b (J.ext.st b e), fun b o e => ?_, J.ext.tb, I.ext.to, J.ext.tf⟩, J.sh, fun i d e k => ?_, J.nd, J.al, fun i hi hk => (J.pin i hi hk).trans (I.pin i hi hk), I.ts⟩
  · refine J.ext.hs b o (I.ext.hs b o e n) fun z => ?_
    rcases z with ⟨i, z⟩ | ⟨p, hp, z⟩
    · rcases I.out z with q | q
      · exact n q.1
      · rw [q] at e; cases e
    · exact n (z ▸ I.ext.to p hp)
  · rcases J.ext.fr b o e with q | q | ⟨i, hi, z⟩
    · exact I.ext.fr b o q
    · exact .inr (.inl (I.ext.st b q))
    · rcases I.out z with q | q
      · exact .inr (.inr (q.2 hi))
      · exact .inr (.inl q)
  · obtain ⟨a, bs, e1, w, q⟩ := J.ow i d e k
    refine ⟨a, bs, e1, w, fun b hb => ?_⟩
    rcases q b hb with ⟨⟨j, z⟩ | ⟨p, hp, z⟩, q⟩ | q
    rotate_left
    · obtain ⟨o, ho⟩ := Option.ne_none_iff_exists'.mp (w.at b hb).2
      exact absurd z (tabs_ne J.ext.tb hp ho (w.soft b hb o ho))
    rotate_left
    · rcases I.out z with q' | q'
      · refine .inl ⟨q'.1, fun hi => ?_⟩
        obtain ⟨j', hj', z'⟩ := q hi
        have e := I.nd j' j b z' z
        subst e
        exact q'.2 hj'
      · exact .inr q'
    · exact .inr (I.ext.st b q)
theorem reb_no {Dn : Addr} {o : HO} (I : NdefX.TabsN B.T H) (hn : ∀ j a, Held S σ H ρ j a → a ≠ Dn) (e : H Dn = some o) (so : Soft o) : ¬ (reb B.T S σ F H ρ).O Dn := fun z => by
  rcases z with ⟨j, z⟩ | ⟨p, hp, z⟩
  · exact hn j Dn z rfl
  · exact tabs_ne I hp e so z
end
inductive Fl where
  | nx | bk | ct
  | rt (d : D)
def FlOk (K : Fg) (F' : Hp) (D : Ends) (σ' : Sts) (H' : Hp) : Fl → Prop
  | .nx => D.nx σ' H'
  | .bk => D.bk σ' H'
  | .ct => D.ct σ' H'
  | .rt d => ∀ v, Rp K F' v d → D.rt v H'
abbrev FKo (K : Fg) (S : Sg) (B : Base) (F : Hp) (D : Ends) : Fl → Ev → Prop := fun fl ρ' => ∀ F' H' σ', SInv K S B σ' F' H' ρ' → Same F F' → FlOk K F' D σ' H' fl
abbrev XSo (X : Cx) (W : WX) (S : Sg) (B : Base) (F : Hp) : Str → Ev → Prop := fun c ρ' => ∀ F' H' σ' C, SInv X.K S B σ' F' H' ρ' → Same F F' → X.mg c = some (.ref C) → W (.ref C) none σ' H'
structure MS (X : Cx) (W : WX) (S : Sg) (st : Stmt) (m : Ev → Out Fl) : Prop where
  ex : ∃ t : TS, PS X st t ∧ ∀ B F H σ ρ D, SInv X.K S B σ F H ρ → Sat (m ρ) (FKo X.K S B F D) (XSo X W S B F) → t D σ H
structure MSs (X : Cx) (W : WX) (S : Sg) (sts : List Stmt) (m : Ev → Out Fl) : Prop where
  ex : ∃ t : TS, PSs X sts t ∧ ∀ B F H σ ρ D, SInv X.K S B σ F H ρ → Sat (m ρ) (FKo X.K S B F D) (XSo X W S B F) → t D σ H
section
variable {K : Fg} {S : Sg} {B : Base} {σ : Sts} {F F1 H : Hp} {ρ : Ev}
theorem FKo.up {D : Ends} {fl : Fl} (s : Same F F1) (h : FKo K S B F D fl ρ) : FKo K S B F1 D fl ρ := fun F' H' σ' I s' => h F' H' σ' I (s.trans s')
theorem XSo.up {X : Cx} {W : WX} {c : Str} (s : Same F F1) (h : XSo X W S B F c ρ) : XSo X W S B F1 c ρ := fun F' H' σ' C I s' => h F' H' σ' C I (s.trans s')
theorem XSo.ex {X : Cx} {W : WX} {c : Str} (h : XSo X W S B F c ρ) : XKo X W S B σ F c ρ := fun F' H' C I s => h F' H' σ C I s
end
section
variable {X : Cx} {W : WX} {S : Sg} {e a : Expr} {pos : Pos}
def mNext : Ev → Out Fl := fun ρ => .ok .nx ρ
def mSeq (m n : Ev → Out Fl) : Ev → Out Fl := fun ρ => (m ρ).bind fun fl ρ1 => match fl with
  | .nx => n ρ1
  | .bk => .ok .bk ρ1
  | .ct => .ok .ct ρ1
  | .rt d => .ok (.rt d) ρ1
theorem mss_nil : MSs X W S [] mNext := ⟨_, pss_nil, fun B F H σ ρ D I h => h F H σ I (Same.refl _)⟩
theorem mss_cons {st : Stmt} {rest : List Stmt} {m n : Ev → Out Fl} (h1 : MS X W S st m) (h2 : MSs X W S rest n) : MSs X W S (st :: rest) (mSeq m n) := by
  obtain ⟨t, p, q⟩ := h1.ex
  obtain ⟨u, p', q'⟩ := h2.ex
  refine ⟨_, pss_cons p p', fun B F H σ ρ D I h => ?_⟩
  refine q B F H σ ρ _ I (h.bind.mono (fun fl ρ1 h1 F1 H1 σ1 I1 s1 => ?_) fun _ _ z => z)
  cases fl with
  | nx => exact q' B F1 H1 σ1 ρ1 D I1 (Sat.mono h1 (fun fl ρ2 h2 => FKo.up s1 h2) fun _ _ z => XSo.up s1 z)
  | bk => exact h1 F1 H1 σ1 I1 s1
  | ct => exact h1 F1 H1 σ1 I1 s1
  | rt d => exact h1 F1 H1 σ1 I1 s1
theorem mss_one {st : Stmt} {m : Ev → Out Fl} (h1 : MS X W S st m) : MSs X W S [st] m := by
  obtain ⟨t, p, q⟩ := h1.ex
  exact ⟨_, pss_one p, q⟩
def mRet (m : Ev → Out D) : Ev → Out Fl := fun ρ => (m ρ).bind fun d ρ1 => .ok (.rt d) ρ1
theorem ms_ret {m : Ev → Out D} (he : ME X W S e m) : MS X W S (.Return (some e) pos) (mRet m) := by
  obtain ⟨t, p, q⟩ := he.ex
  refine ⟨_, ps_ret p, fun B F H σ ρ D I h => ?_⟩
  exact q B F H σ ρ _ I (h.bind.mono (fun d ρ1 h1 F1 H1 v I1 s1 r1 => h1 F1 H1 σ I1 s1 v r1) fun _ _ z => XSo.ex z)
def mIfS (c : Ev → Out Bool) (m n : Ev → Out Fl) : Ev → Out Fl := fun ρ => (c ρ).bind fun b ρ1 => if b = true then m ρ1 else n ρ1
theorem ms_if {c : Expr} {as bs : List Stmt} {mc : Ev → Out Bool} {m n : Ev → Out Fl} (hc : MT X W S c mc) (ha : MSs X W S as m) (hb : MSs X W S bs n) : MS X W S (.If c as bs pos) (mIfS mc m n) := by
  obtain ⟨t, p, q⟩ := hc.ex
  obtain ⟨t1, p1, q1⟩ := ha.ex
  obtain ⟨t2, p2, q2⟩ := hb.ex
  refine ⟨_, ps_if p p1 p2, fun B F H σ ρ D I h => ?_⟩
  refine q B F H σ ρ _ I (h.bind.mono (fun b ρ1 h1 F1 H1 I1 s1 => ?_) fun _ _ z => XSo.ex z)
  cases b with
  | true => exact iteT (q1 B F1 H1 σ ρ1 _ I1 (Sat.mono h1 (fun d ρ2 h2 => FKo.up s1 h2) fun _ _ z => XSo.up s1 z))
  | false => exact iteF (q2 B F1 H1 σ ρ1 _ I1 (Sat.mono h1 (fun d ρ2 h2 => FKo.up s1 h2) fun _ _ z => XSo.up s1 z))
def mDrop (m : Ev → Out D) : Ev → Out Fl := fun ρ => (m ρ).bind fun _ ρ1 => .ok .nx ρ1
theorem ms_expr {m : Ev → Out D} (he : ME X W S e m) (hs : swapsWith e none pos.line X.env = pure false := by rfl) : MS X W S (.Expr e pos) (mDrop m) := by
  obtain ⟨t, p, q⟩ := he.ex
  refine ⟨_, ps_expr p hs, fun B F H σ ρ D I h => ?_⟩
  exact q B F H σ ρ _ I (h.bind.mono (fun d ρ1 h1 F1 H1 v I1 s1 r1 => h1 F1 H1 σ I1 s1) fun _ _ z => XSo.ex z)
/-- name = value -/
def mSet (i : Nat) (m : Ev → Out D) : Ev → Out Fl := fun ρ => (m ρ).bind fun d ρ1 => .ok .nx (ρ1.set i (some d))
theorem ms_set (i : Nat) {x : Str} {m : Ev → Out D} {pos' : Pos} (k : knd S i = 0) (hN : X.N.Nodup) (hi : X.N[i]? = some x) (hx : Loc X.env.scope x) (he : ME X W S e m) (hs : swapsWith e (some (.Name x pos')) pos.line X.env = pure false := by rfl)
    (hf : X.fn x = true ∨ X.env.scope.names.lookup x = some .local := by first | exact .inl rfl | exact .inr rfl | assumption) : MS X W S (.Assign [.Name x pos'] e pos) (mSet i m) := by
  obtain ⟨t, p, q⟩ := he.ex
  refine ⟨_, ps_set hN hi hx p hs hf, fun B F H σ ρ D I h => ?_⟩
  exact q B F H σ ρ _ I (h.bind.mono (fun d ρ1 h1 F1 H1 v I1 s1 r1 => h1 F1 H1 _ (I1.setSh k r1) s1) fun _ _ z => XSo.ex z)
/-- name = a new list, from now on one's own -/
def mSetL (i : Nat) (m : Ev → Out (List D)) : Ev → Out Fl := fun ρ => (m ρ).bind fun ds ρ1 => .ok .nx (ρ1.set i (some (.list ds)))
theorem noAl1 {K : Fg} {B : Base} {σ : Sts} {F H : Hp} {ρ : Ev} {i : Nat} (I : SInv K S B σ F H ρ) (k : knd S i = 1) : NoAl S ρ i := fun x d kx e1 e => by
  obtain ⟨j, _, _, _, _, _, e2, e3, _⟩ := I.al x d e kx
  rw [e1] at e2
  cases e2
  rw [deep_of1 k] at e3
  cases e3
theorem setL_sat {i : Nat} {m : Ev → Out (List D)} {t : TE} (k : knd S i = 1) (hp : Nat.ble S.np i = true)
    (q : ∀ B F H σ ρ Q, SInv X.K S B σ F H ρ → Sat (m ρ) (LKo X.K S B σ F Q) (XKo X W S B σ F) → t σ H Q) : ∀ B F H σ ρ D, SInv X.K S B σ F H ρ → Sat (mSetL i m ρ) (FKo X.K S B F D) (XSo X W S B F) → tAsg t (gName i) D σ H := fun B F H σ ρ D I h =>
  q B F H σ ρ _ I (h.bind.mono (fun ds ρ1 h1 F1 H1 p xs I1 s1 hF hH r hB hn => h1 F1 H1 _ (I1.setOw (bs := []) (own_of1 k) (Nat.le_of_ble_eq_true hp) ⟨by simp, by rw [k]; exact ⟨rfl, xs, ds, rfl, hF, hH, r⟩⟩ (fun b hb => by
    have : b = p := by simpa using hb
    subst this; exact hB) (fun j b hh z => by
    have : b = p := by simpa using z
    exact hn j b hh this) (noAl1 I1 k)) s1) fun _ _ z => XSo.ex z)
theorem ms_setL (i : Nat) {x : Str} {m : Ev → Out (List D)} {pos' : Pos} (k : knd S i = 1) (hp : Nat.ble S.np i = true) (hN : X.N.Nodup) (hi : X.N[i]? = some x) (hx : Loc X.env.scope x) (he : ML X W S e m) (hs : swapsWith e (some (.Name x pos')) pos.line X.env = pure false := by rfl)
    (hf : X.fn x = true ∨ X.env.scope.names.lookup x = some .local := by first | exact .inl rfl | exact .inr rfl | assumption) : MS X W S (.Assign [.Name x pos'] e pos) (mSetL i m) := by
  obtain ⟨t, p, q⟩ := he.ex
  exact ⟨_, ps_set hN hi hx p hs hf, setL_sat k hp q⟩
/-- a list of one's own, asked by a two-place operation whose right side is reckoned first -/
def mOwnBin (g : D → D → Option D) (i : Nat) (mb : Ev → Out D) : Ev → Out D := fun ρ => (Out.of (rd ρ i) ρ).bind fun _ ρ => (mb ρ).bind fun e ρ2 => (Out.of (rd ρ2 i) ρ2).bind fun d ρ2 => Out.of (g d e) ρ2
theorem own_lst {K : Fg} {B : Base} {σ : Sts} {F H : Hp} {ρ : Ev} {i : Nat} {d : D} (I : SInv K S B σ F H ρ) (k : knd S i = 1) (e : rd ρ i = some d) : ∃ a, σ[i]? = some (some (.ref a)) ∧ OwL K F H a d := by
  obtain ⟨a, bs, e1, w, _⟩ := I.ow i d (rd_some e) (own_of1 k)
  have w2 := w.2
  rw [k] at w2
  exact ⟨a, e1, w2.2⟩
theorem own_at {K : Fg} {B : Base} {σ : Sts} {F H : Hp} {ρ : Ev} {i : Nat} {d : D} (I : SInv K S B σ F H ρ) (k : knd S i = 1) (e : rd ρ i = some d) : ∃ a, σ[i]? = some (some (.ref a)) ∧ RpS K F H (.ref a) d := by
  obtain ⟨a, e1, xs, ds, e2, _, e4, r⟩ := own_lst I k e
  exact ⟨a, e1, .inr ⟨a, xs, ds, rfl, e2, e4, r⟩⟩
theorem own_bin {i : Nat} {r : R2} {g : D → D → Option D} {mb : Ev → Out D} {b : Expr} {x : Str} {p : Pos} (hd : OpD X r g) (k : knd S i = 1) (hb : ME X W S b mb) {e : Expr} (mk : ∀ tb, PE X b tb → PE X e (tOp r (tVar i) tb)) : ME X W S e (mOwnBin g i mb) := by
  obtain ⟨tb, pb, qb⟩ := hb.ex
  refine ⟨_, mk _ pb, fun B F H σ ρ Q I h => ?_⟩
  obtain ⟨d0, e0, h⟩ := sat_of h.bind
  obtain ⟨a, ea, _⟩ := own_at I k e0
  refine ⟨_, ea, ?_⟩
  refine qb B F H σ ρ _ I ((Sat.bind h).mono (fun e ρ2 h2 F2 H2 y I2 s2 r2 => ?_) fun _ _ z => z)
  obtain ⟨d, e1, h3⟩ := sat_of h2.bind
  obtain ⟨z, hz, h4⟩ := sat_of h3
  obtain ⟨a', ea', ra⟩ := own_at I2 k e1
  rw [ea] at ea'
  cases ea'
  exact hd S B F2 H2 σ ρ2 Q (.ref a) y d e z I2 ra (.inl r2) hz (EKo.up s2 h4)
theorem me_ixO (i : Nat) {x : Str} {p : Pos} {b : Expr} {mb : Ev → Out D} {r : R2} {g : D → D → Option D} (hr : IxR X r) (hd : OpD X r g) (k : knd S i = 1) (hb : ME X W S b mb) (hs : PlainIx b) (hv : PE X (.Name x p) (tVar i)) :
    ME X W S (.Subscript (.Name x p) b pos) (mOwnBin g i mb) :=
  own_bin (x := x) (p := p) hd k hb fun _ pb => pe_ix hr hv pb hs
def mTestOwn (g : D → D → Option Bool) (ma : Ev → Out D) (i : Nat) : Ev → Out Bool := fun ρ => (ma ρ).bind fun d ρ1 => (Out.of (rd ρ1 i) ρ1).bind fun e ρ1 => Out.of (g d e) ρ1
theorem mt_cmpO (i : Nat) {x : Str} {p : Pos} {op : CmpOp} {r : R2} {g : D → D → Option Bool} {ma : Ev → Out D} (ho : OpR X (compareOp op) r) (hd : OpB X r g) (k : knd S i = 1) (ha : ME X W S a ma) (hm : behindInMarks op (.Name x p) = false) (hv : PE X (.Name x p) (tVar i)) :
    MT X W S (.Compare a [op] [.Name x p] pos) (mTestOwn g ma i) := by
  obtain ⟨ta, pa, qa⟩ := ha.ex
  refine ⟨_, pt_cmpR ho pa hv hm, fun B F H σ ρ Q I h => ?_⟩
  refine qa B F H σ ρ _ I ((Sat.bind h).mono (fun d ρ1 h2 F1 H1 x I1 s1 r1 => ?_) fun _ _ z => z)
  obtain ⟨e, e1, h3⟩ := sat_of h2.bind
  obtain ⟨z, hz, h4⟩ := sat_of h3
  obtain ⟨b, eb, rb⟩ := own_at I1 k e1
  exact ⟨_, eb, hd S B F1 H1 σ ρ1 x (.ref b) d e z _ I1 (.inl r1) rb hz ⟨z, rfl, h4 F1 H1 I1 s1⟩⟩
/-- f(one's own list) -/
def mCallO (g : List D → Option D) (i : Nat) : Ev → Out D := fun ρ => (Out.of (rd ρ i) ρ).bind fun d ρ => Out.of (g [d]) ρ
theorem me_callO (i : Nat) {x : Str} {p : Pos} {r : List V → Hp → VK → Prop} {g : List D → Option D} {e : Expr} (hd : CallD X r g) (k : knd S i = 1) (mk : ∀ t, PA X [.Name x p] t → PE X e (tCB r t)) (hv : PE X (.Name x p) (tVar i)) : ME X W S e (mCallO g i) := by
  refine ⟨_, mk _ (pa_cons hv pa_nil), fun B F H σ ρ Q I h => ?_⟩
  obtain ⟨d, e1, h3⟩ := sat_of h.bind
  obtain ⟨z, hz, h4⟩ := sat_of h3
  obtain ⟨b, eb, rb⟩ := own_at I k e1
  exact ⟨_, eb, hd S B F H σ ρ Q [.ref b] [d] z I (.cons rb .nil) hz h4⟩
def mCallOL (g : List D → Option (List D)) (i : Nat) : Ev → Out (List D) := fun ρ => (Out.of (rd ρ i) ρ).bind fun d ρ => Out.of (g [d]) ρ
/-- one's own list as a value, for good: the slot is given up -/
def mMove (i : Nat) : Ev → Out D := fun ρ => (Out.of (rd ρ i) ρ).bind fun d ρ => .ok d (ρ.set i none)
theorem SInv.drop {K : Fg} {B : Base} {σ : Sts} {F H : Hp} {ρ : Ev} (I : SInv K S B σ F H ρ) (i : Nat) (hA : NoAl S ρ i) : SInv K S B σ F H (ρ.set i none) := by
  have at_ : ∀ (j : Nat) (d : D), (ρ.set i none)[j]? = some (some d) → j ≠ i ∧ ρ[j]? = some (some d) := fun j d e => by
    by_cases hj : j = i
    · subst hj
      by_cases hl : j < ρ.length
      · rw [List.getElem?_set_self hl] at e; cases e
      · rw [List.getElem?_eq_none (by rw [List.length_set]; omega)] at e; cases e
    · rw [List.getElem?_set_ne (Ne.symm hj)] at e; exact ⟨hj, e⟩
  refine I.weak (by rw [List.length_set]) (fun j d e => (at_ j d e).2) fun x j d d' k e e1 e2 => ?_
  have hj : j ≠ i := fun z => by subst z; exact hA x d k e1 (at_ x d e).2
  rw [List.getElem?_set_ne (Ne.symm hj)]; exact e2
theorem dropped {K : Fg} {B : Base} {σ : Sts} {F H : Hp} {ρ : Ev} (I : SInv K S B σ F H ρ) {i j : Nat} {b : Addr} (h : Held S σ H (ρ.set i none) j b) : j ≠ i ∧ Held S σ H ρ j b := by
  obtain ⟨g1, ⟨d, e⟩, g3⟩ := h
  have hj : j ≠ i := fun z => by
    subst z
    have hl := (List.getElem?_eq_some_iff.mp e).1
    rw [List.length_set] at hl
    rw [List.getElem?_set_self hl] at e
    cases e
  rw [List.getElem?_set_ne (Ne.symm hj)] at e
  exact ⟨hj, g1, ⟨d, e⟩, g3⟩
theorem me_move (i : Nat) {x : Str} {p : Pos} (k : knd S i = 1) (hp : Nat.ble S.np i = true) (hv : PE X (.Name x p) (tVar i)) : ME X W S (.Name x p) (mMove i) := by
  refine ⟨_, hv, fun B F H σ ρ Q I h => ?_⟩
  obtain ⟨d, e1, h3⟩ := sat_of h.bind
  obtain ⟨a, ea, xs, ds, e2, hF, hH, r⟩ := own_lst I k e1
  have I' := I.drop i (noAl1 I k)
  have hh := I.topHeld (own_of1 k) ⟨d, rd_some e1⟩ ea
  have hn : ∀ j b, Held S σ H (ρ.set i none) j b → b ≠ a := fun j b h z => by
    subst z
    obtain ⟨hj, h⟩ := dropped I h
    exact hj (I.nd j i b h hh)
  refine ⟨.ref a, ea, ?_⟩
  subst e2
  refine h3 _ _ _ (I'.freeze hF hH ?_ hn soft_lst) (same_upd hF) (.lst (.inl upd_same) (r.up (same_upd hF)))
  rcases (I.heldAt hh).2.2 with o | o
  · exact .inr (o.2 (Nat.le_of_ble_eq_true hp))
  · exact .inl o
end
end MW
namespace MW
open PySem PySem.Spec PyProof.Rows L2
structure MG (X : Cx) (S : Sg) (tg : Expr) (t : TG) (vs : List Nat) (g : Ev → D → Option Ev) : Prop where
  pg : PG X tg t
  ok : ∀ B F H σ ρ v d ρ1 (Q : Sts → Hp → Prop), SInv X.K S B σ F H ρ → Rp X.K F v d → g ρ d = some ρ1 → (∀ σ', SInv X.K S B σ' F H ρ1 → wipe σ' vs = wipe σ vs → Q σ' H) → t v σ H Q
theorem wipe_set {σ : Sts} {x : Option V} : ∀ {vs : List Nat} {i : Nat}, i ∈ vs → wipe (σ.set i x) vs = wipe σ vs
  | [], i, h => by cases h
  | v :: vs, i, h => by
    have hw : ∀ (τ : Sts), wipe τ (v :: vs) = (wipe τ vs).set v none := fun _ => rfl
    rw [hw, hw]
    by_cases hi : i ∈ vs
    · rw [wipe_set hi]
    · have e : i = v := by
        rcases List.mem_cons.mp h with e | e
        · exact e
        · exact absurd e hi
      subst e
      have step : ∀ {us : List Nat}, i ∉ us → wipe (σ.set i x) us = (wipe σ us).set i x := by
        intro us
        induction us with
        | nil => intro _; rfl
        | cons u us ih =>
          intro hu
          have h1 : u ≠ i := fun z => hu (by rw [z]; exact List.mem_cons_self)
          show (wipe (σ.set i x) us).set u none = ((wipe σ us).set u none).set i x
          rw [ih fun z => hu (List.mem_cons_of_mem _ z), List.set_comm _ _ h1.symm]
      rw [step hi, List.set_set]
def gN (i : Nat) : Ev → D → Option Ev := fun ρ d => some (ρ.set i (some d))
section
variable {X : Cx} {W : WX} {S : Sg} {pos : Pos}
theorem mg_name (i : Nat) {x : Str} (k : knd S i = 0) (hN : X.N.Nodup) (hi : X.N[i]? = some x) (hx : Loc X.env.scope x) (hf : X.fn x = true ∨ X.env.scope.names.lookup x = some .local := by first | exact .inl rfl | exact .inr rfl | assumption) :
    MG X S (.Name x pos) (gName i) [i] (gN i) :=
  ⟨pg_name hN hi hx hf, fun B F H σ ρ v d ρ1 Q I r e h => by
    cases e
    exact h _ (I.setSh k r) (wipe_set (List.mem_singleton.mpr rfl))⟩
/-- a, b = a pair -/
def gN2 (i j : Nat) : Ev → D → Option Ev := fun ρ d => match d with
  | .tuple [a, b] => some ((ρ.set i (some a)).set j (some b))
  | _ => none
theorem mg_two (i j : Nat) {x y : Str} {p1 p2 : Pos} {kk : Nat} (k : knd S i = 0) (k' : knd S j = 0) (hc : X.calm = true) (h1 : PG X (.Name x p1) (gName i)) (h2 : PG X (.Name y p2) (gName j))
    (hs : (assignEach [Expr.Name x p1, Expr.Name y p2] X.env).map (·.2) = assign (.Name x p1) X.env :: (assignEach [Expr.Name y p2] X.env).map (·.2) := by rfl) (hs2 : (assignEach [Expr.Name y p2] X.env).map (·.2) = assign (.Name y p2) X.env :: (assignEach [] X.env).map (·.2) := by rfl)
    (hn : (assignEach [Expr.Name x p1, Expr.Name y p2] X.env).length = 2 := by rfl) (hst : (assignEach [Expr.Name x p1, Expr.Name y p2] X.env).findIdx? (·.1) = none := by rfl) :
    MG X S (.Tuple [.Name x p1, .Name y p2] kk pos) (gTup X.K 2 (gCons (gName i) (gCons (gName j) gNil))) [i, j] (gN2 i j) :=
  ⟨pg_tup hc (pgs_cons h1 (pgs_cons h2 pgs_nil hs2) hs) hn hst, fun B F H σ ρ v d ρ1 Q I r e h => by
    unfold gN2 at e
    split at e
    · rename_i a b
      cases e
      cases r with
      | tup hq hr =>
        cases hr with
        | cons r1 hr =>
          cases hr with
          | cons r2 hr =>
            cases hr
            refine ⟨_, _, rfl, sqT_same I.same hq.sq, rfl, _, _, rfl, _, _, rfl, rfl, h _ ((I.setSh k r1).setSh k' r2) ?_⟩
            rw [wipe_set (by simp), wipe_set (by simp)]
    · cases e⟩
structure WalkD (K : Fg) (F : Hp) (J : It) (items : List D) : Prop where
  goes : ∀ i H, i < items.length → Same F H → J.go i H
  stops : ∀ H, Same F H → J.stop items.length H
  yields : ∀ i H x H' d, items[i]? = some d → Same F H → J.yld i H x H' → (H' = H ∧ Rp K F x d) ∨ (∃ (T : Addr) (o : Obj) (xs : List V) (ds : List D), x = .ref T ∧ H T = none ∧ o.dict = none ∧ H' = upd H T (.frz o (.tup xs)) ∧ RpL K F xs ds ∧ d = .tuple ds)
abbrev IKo (K : Fg) (S : Sg) (B : Base) (σ : Sts) (F : Hp) (R : It → Hp → Prop) : List D → Ev → Prop := fun items ρ1 => ∀ F1 H1 J, SInv K S B σ F1 H1 ρ1 → Same F F1 → WalkD K F1 J items → items.length ≤ 16777216 → R J H1
structure MI (X : Cx) (W : WX) (S : Sg) (tg iter : Expr) (m : Ev → Out (List D)) : Prop where
  ex : ∃ w : TI, PI X tg iter w ∧ ∀ B F H σ ρ R, SInv X.K S B σ F H ρ → Sat (m ρ) (IKo X.K S B σ F R) (XKo X W S B σ F) → w σ H R
theorem pe_len {e : Expr} {t : TE} (h : PE X e t) : PE X e (fun σ H Q => t σ H fun v H' => (∀ a xs, v = .ref a → (SqL X.K H' a xs ∨ SqT X.K H' a xs) → xs.length ≤ sizeLine) → Q v H') := by
  refine ⟨fun pins s σ H Q I hq => ?_⟩
  refine thn (h.run pins s σ H _ I hq) fun u s1 ⟨v, H1, I1, r, q⟩ => ⟨v, H1, I1, r, q fun a xs e z => ?_⟩
  rcases z with z | z
  · obtain ⟨_, _, _, hz⟩ := I1.list z; exact hz
  · obtain ⟨_, _, _, hz⟩ := I1.tuple z; exact hz
def seqD : D → Option (List D)
  | .list ds => some ds
  | .tuple ds => some ds
  | _ => none
def mSeqD (m : Ev → Out D) : Ev → Out (List D) := fun ρ => (m ρ).bind fun d ρ1 => Out.of (seqD d) ρ1
theorem walkD_list {K : Fg} {F : Hp} {a : Addr} {xs : List V} {ds : List D} (h : Rd F a (.lst xs)) (r : RpL K F xs ds) : WalkD K F (Itl K a) ds :=
  ⟨fun i H hi s => by
      rw [← r.len] at hi
      exact ⟨xs, xs[i], .inl (rd_same s h), by simp [hi]⟩,
    fun H s => ⟨xs, .inl (rd_same s h), by rw [r.len]; exact Nat.le_refl _⟩,
    fun i H x H' d e s y => by
      obtain ⟨v, e1, q⟩ := r.get e
      have := (y.2 xs (.inl (rd_same s h))).symm.trans e1
      cases this
      exact .inl ⟨y.1, q⟩⟩
theorem walkD_tup {K : Fg} {F : Hp} {a : Addr} {xs : List V} {ds : List D} (h : SqT K F a xs) (r : RpL K F xs ds) : WalkD K F (Itt K a) ds :=
  ⟨fun i H hi s => by
      rw [← r.len] at hi
      exact ⟨xs, xs[i], sqT_same s h, by simp [hi]⟩,
    fun H s => ⟨xs, sqT_same s h, by rw [r.len]; exact Nat.le_refl _⟩,
    fun i H x H' d e s y => by
      obtain ⟨v, e1, q⟩ := r.get e
      have := (y.2 xs (sqT_same s h)).symm.trans e1
      cases this
      exact .inl ⟨y.1, q⟩⟩
theorem mi_seq {tg e : Expr} {m : Ev → Out D} (he : ME X W S e m) : MI X W S tg e (mSeqD m) := by
  obtain ⟨t, p, q⟩ := he.ex
  have p' := pe_len p
  refine ⟨fun σ H R => iList X.K (fun σ H Q => t σ H fun v H' => (∀ a xs, v = .ref a → (SqL X.K H' a xs ∨ SqT X.K H' a xs) → xs.length ≤ sizeLine) → Q v H') σ H R ∨ iTup X.K (fun σ H Q => t σ H fun v H' => (∀ a xs, v = .ref a → (SqL X.K H' a xs ∨ SqT X.K H' a xs) → xs.length ≤ sizeLine) → Q v H') σ H R,
    ⟨fun pins s σ H R I h => ?_⟩, fun B F H σ ρ R I h => ?_⟩
  · rcases h with h | h
    · exact (pi_list (tg := tg) p').run pins s σ H R I h
    · exact (pi_tup (tg := tg) p').run pins s σ H R I h
  · have hb := h.bind
    cases e1 : m ρ with
    | bad => rw [e1] at hb; exact hb.elim
    | err c ρ' =>
      rw [e1] at hb
      exact .inl (q B F H σ ρ _ I (by rw [e1]; exact hb))
    | ok d ρ1 =>
      rw [e1] at hb
      obtain ⟨items, hi, k⟩ := sat_of (show Sat (Out.of (seqD d) ρ1) _ _ from hb)
      have hl := sizeLine_eq
      cases d with
      | list ds =>
        cases hi
        refine .inl (q B F H σ ρ _ I ?_)
        rw [e1]
        intro F1 H1 v I1 s1 r1 bd
        cases r1 with
        | lst hq hr =>
          have hz := bd _ _ rfl (.inl (.inl (rd_same I1.same hq)))
          exact ⟨_, rfl, ⟨_, .inl (rd_same I1.same hq)⟩, k F1 H1 _ I1 s1 (walkD_list hq hr) (by rw [← hr.len]; omega)⟩
      | tuple ds =>
        cases hi
        refine .inr (q B F H σ ρ _ I ?_)
        rw [e1]
        intro F1 H1 v I1 s1 r1 bd
        cases r1 with
        | tup hq hr =>
          have hq := hq.sq
          have hz := bd _ _ rfl (.inr (sqT_same I1.same hq))
          exact ⟨_, rfl, ⟨_, sqT_same I1.same hq⟩, k F1 H1 _ I1 s1 (walkD_tup hq hr) (by rw [← hr.len]; omega)⟩
      | none => cases hi
      | bool b => cases hi
      | int i => cases hi
      | str x => cases hi
      | dict ps => cases hi
def rangeD (lo : Int) (n : Nat) : List D := (List.range n).map fun i => .int (lo + (i : Nat))
theorem walkD_range {K : Fg} {F : Hp} {lo : Int} {n : Nat} : WalkD K F (Itr lo n) (rangeD lo n) := by
  have hl : (rangeD lo n).length = n := by simp [rangeD]
  refine ⟨fun i H hi s => ?_, fun H s => ?_, fun i H x H' d e s y => ?_⟩
  · rw [hl] at hi; exact hi
  · rw [hl]; exact Nat.le_refl _
  · obtain ⟨rfl, rfl⟩ := y
    have hi : i < n := by
      have := (List.getElem?_eq_some_iff.mp e).1
      rwa [hl] at this
    unfold rangeD at e
    rw [List.getElem?_map, List.getElem?_range hi] at e
    cases e
    exact .inl ⟨rfl, .int _⟩
def mRange1 (ms : Ev → Out (List D)) : Ev → Out (List D) := fun ρ => (ms ρ).bind fun ds ρ1 => match ds with
  | [.int j] => if -16777216 ≤ j ∧ j ≤ 16777216 then .ok (rangeD 0 j.toNat) ρ1 else .bad
  | _ => .bad
theorem mi_range1 {tg a : Expr} {p : Pos} {ms : Ev → Out (List D)} (hg : Gl X "range") (hm : X.mg "range" = none) (ha : MA X W S [a] ms) (hs : starEach [a] X.env = [(false, eval a X.env)] := by rfl) : MI X W S tg (.Call (.Name "range" p) [a] [] pos) (mRange1 ms) := by
  obtain ⟨t, pp, q⟩ := ha.ex
  refine ⟨_, pi_range1 hg hm pp hs, fun B F H σ ρ R I h => ?_⟩
  refine q B F H σ ρ _ I (h.bind.mono (fun ds ρ1 h1 F1 H1 vs I1 s1 r1 => ?_) fun _ _ z => z)
  split at h1
  · rename_i j
    by_cases hj : -16777216 ≤ j ∧ j ≤ 16777216
    · rw [if_pos hj] at h1
      cases r1 with
      | cons r rr =>
        cases rr
        cases r
        refine ⟨j, rfl, by omega, by omega, h1 F1 H1 _ I1 s1 walkD_range ?_⟩
        simp [rangeD]
        omega
    · rw [if_neg hj] at h1; exact h1.elim
  · exact h1.elim
def forM (g : Ev → D → Option Ev) (mb : Ev → Out Fl) : List D → Ev → Out Fl
  | [], ρ => .ok .nx ρ
  | d :: ds, ρ => (Out.of (g ρ d) ρ).bind fun ρ1 _ => (mb ρ1).bind fun fl ρ2 => match fl with
    | .nx => forM g mb ds ρ2
    | .ct => forM g mb ds ρ2
    | .bk => .ok .nx ρ2
    | .rt d => .ok (.rt d) ρ2
def mFor (mi : Ev → Out (List D)) (g : Ev → D → Option Ev) (mb : Ev → Out Fl) : Ev → Out Fl := fun ρ => (mi ρ).bind fun items ρ1 => forM g mb items ρ1
theorem ms_for {tg iter : Expr} {body : List Stmt} {mi : Ev → Out (List D)} {t : TG} {vs : List Nat} {g : Ev → D → Option Ev} {mb : Ev → Out Fl} (hp : PassesOwn (model X.prog X.w) X.A X.env X.xe) (hc : X.calm = true) (hi : MI X W S tg iter mi) (hg : MG X S tg t vs g) (hb : MSs X W S body mb)
    (hs : ∀ x, foldedSetIterable iter X.env x = pure x := by intro _; rfl) : MS X W S (.For tg iter body [] pos) (mFor mi g mb) := by
  obtain ⟨w, pw, qw⟩ := hi.ex
  obtain ⟨u, pu, qu⟩ := hb.ex
  refine ⟨_, ps_for hp hc pw hg.pg pu hs, fun B F H σ ρ D I h => ?_⟩
  refine qw B F H σ ρ _ I (h.bind.mono (fun items ρ1 h1 F1 H1 J I1 s1 wd hl => ?_) fun _ _ z => XSo.ex z)
  refine ⟨fun i m σ H => m = items.length - i ∧ i ≤ items.length ∧ ∃ F2 ρ2, SInv X.K S B σ F2 H ρ2 ∧ Same F1 F2 ∧ Sat (forM g mb (items.drop i) ρ2) (FKo X.K S B F2 D) (XSo X W S B F2),
    ⟨_, rfl, Nat.zero_le _, F1, ρ1, I1, Same.refl _, Sat.mono h1 (fun fl ρ2 h2 => FKo.up s1 h2) fun _ _ z => XSo.up s1 z⟩, ?_⟩
  rintro i m σ2 H2 ⟨rfl, hi, F2, ρ2, I2, s2, h2⟩
  by_cases hlt : i < items.length
  · refine .inr ⟨wd.goes i H2 hlt (s2.trans I2.same), fun σ' H' => (i + 1 ≤ items.length ∧ ∃ F3 ρ3, SInv X.K S B σ' F3 H' ρ3 ∧ Same F1 F3 ∧ Sat (forM g mb (items.drop (i + 1)) ρ3) (FKo X.K S B F3 D) (XSo X W S B F3)), fun σ' H' hN => ⟨items.length - (i + 1), by omega, rfl, hN.1, hN.2⟩, fun x H' y => ?_⟩
    have hd : items.drop i = items[i] :: items.drop (i + 1) := List.drop_eq_getElem_cons hlt
    rw [hd] at h2
    obtain ⟨ρ3, hg3, h3⟩ := sat_of (Sat.bind (show Sat ((Out.of (g ρ2 items[i]) ρ2).bind _) _ _ from h2))
    have go : ∀ F4 H4, SInv X.K S B σ2 F4 H4 ρ2 → Same F2 F4 → Rp X.K F4 x items[i] → t x σ2 H4 fun σ5 H5 => u { D with nx := fun σ' H' => (i + 1 ≤ items.length ∧ ∃ F3 ρ3, SInv X.K S B σ' F3 H' ρ3 ∧ Same F1 F3 ∧ Sat (forM g mb (items.drop (i + 1)) ρ3) (FKo X.K S B F3 D) (XSo X W S B F3)), ct := fun σ' H' => (i + 1 ≤ items.length ∧ ∃ F3 ρ3, SInv X.K S B σ' F3 H' ρ3 ∧ Same F1 F3 ∧ Sat (forM g mb (items.drop (i + 1)) ρ3) (FKo X.K S B F3 D) (XSo X W S B F3)), bk := D.nx } σ5 H5 := fun F4 H4 I4 s4 r4 => by
      refine hg.ok B F4 H4 σ2 ρ2 x items[i] ρ3 _ I4 r4 hg3 fun σ5 I5 _ => ?_
      refine qu B F4 H4 σ5 ρ3 _ I5 ((Sat.bind h3).mono (fun fl ρ6 h6 F6 H6 σ6 I6 s6 => ?_) fun _ _ z => XSo.up s4 z)
      cases fl with
      | nx => exact ⟨hlt, F6, ρ6, I6, (s2.trans s4).trans s6, Sat.mono h6 (fun fl ρ2 h2 => FKo.up (s4.trans s6) h2) fun _ _ z => XSo.up (s4.trans s6) z⟩
      | ct => exact ⟨hlt, F6, ρ6, I6, (s2.trans s4).trans s6, Sat.mono h6 (fun fl ρ2 h2 => FKo.up (s4.trans s6) h2) fun _ _ z => XSo.up (s4.trans s6) z⟩
      | bk => exact h6 F6 H6 σ6 I6 (s4.trans s6)
      | rt d => exact h6 F6 H6 σ6 I6 (s4.trans s6)
    rcases wd.yields i H2 x H' items[i] (by simp [hlt]) (s2.trans I2.same) y with ⟨rfl, r⟩ | ⟨T, o, xs, ds, rfl, hT, ho, rfl, r, e⟩
    · exact go F2 H' I2 (Same.refl _) (r.up s2)
    · have hF : F2 T = none := Same.free I2.same hT
      have sF := same_upd (o := .frz o (.tup xs)) hF
      refine go (upd F2 T (.frz o (.tup xs))) _ (I2.newF hT) sF ?_
      rw [e]
      exact .tup (.inl ⟨o, ho, upd_same⟩) ((r.up s2).up sF)
  · have e : i = items.length := by omega
    subst e
    rw [List.drop_length] at h2
    exact .inl ⟨wd.stops H2 (s2.trans I2.same), h2 F2 H2 σ2 I2 (Same.refl _)⟩
end
end MW
namespace MW
open PySem PySem.Spec PyProof.Rows L2
def wipeE (ρ : Ev) : List Nat → Ev
  | [] => ρ
  | v :: vs => (wipeE ρ vs).set v none
def restE (ρ0 ρ : Ev) : List Nat → Ev
  | [] => ρ
  | v :: vs => (restE ρ0 ρ vs).set v (ρ0.getD v none)
def noE {α : Type} (o : Out α) : Out α := match o with
  | .err _ _ => .bad
  | o => o
theorem noE_sat {α : Type} {o : Out α} {k : α → Ev → Prop} {e : Str → Ev → Prop} (h : Sat (noE o) k e) (e' : Str → Ev → Prop) : Sat o k e' := by
  cases o with
  | ok a ρ => exact h
  | err c ρ => exact h.elim
  | bad => exact h.elim
theorem noE_bind {α β : Type} {o : Out α} {k : α → Ev → Prop} {f : α → Ev → Out β} {k' : β → Ev → Prop} {e' : Str → Ev → Prop} (h : Sat o k (fun _ _ => False)) (hf : ∀ a ρ, k a ρ → Sat (f a ρ) k' e') : Sat ((noE o).bind f) k' e' := by
  cases o with
  | ok a ρ => exact hf a ρ h
  | err c ρ => exact h.elim
  | bad => exact h.elim
def compM (g : Ev → D → Option Ev) (mt : Ev → Out Bool) (me : Ev → Out D) (vs : List Nat) : List D → Ev → Out (List D)
  | [], ρ => .ok [] ρ
  | d :: ds, ρ => (Out.of (g ρ d) ρ).bind fun ρ1 _ => (mt ρ1).bind fun b ρ2 =>
    if b = true then (me ρ2).bind fun y ρ3 => (compM g mt me vs ds (wipeE ρ3 vs)).bind fun ys ρ4 => .ok (y :: ys) ρ4
    else compM g mt me vs ds (wipeE ρ2 vs)
def mLc (mi : Ev → Out (List D)) (g : Ev → D → Option Ev) (mt : Ev → Out Bool) (me : Ev → Out D) (vs : List Nat) : Ev → Out (List D) := fun ρ => (mi ρ).bind fun items ρ1 =>
  (noE (compM g mt me vs items (wipeE ρ1 vs))).bind fun ys ρ2 => .ok ys (restE ρ1 ρ2 vs)
theorem wipeE_len {ρ : Ev} : ∀ vs : List Nat, (wipeE ρ vs).length = ρ.length
  | [] => rfl
  | v :: vs => by unfold wipeE; rw [List.length_set, wipeE_len vs]
theorem wipeE_at {ρ : Ev} {i : Nat} {d : D} : ∀ {vs : List Nat}, (wipeE ρ vs)[i]? = some (some d) → ρ[i]? = some (some d) ∧ i ∉ vs
  | [], h => ⟨h, by simp⟩
  | v :: vs, h => by
    unfold wipeE at h
    by_cases hi : v = i
    · subst hi
      by_cases hv : v < (wipeE ρ vs).length
      · rw [List.getElem?_set_self hv] at h; cases h
      · rw [List.getElem?_eq_none (by simpa using hv)] at h; cases h
    · rw [List.getElem?_set_ne hi] at h
      obtain ⟨h1, h2⟩ := wipeE_at h
      exact ⟨h1, by simp only [List.mem_cons, not_or]; exact ⟨fun e => hi e.symm, h2⟩⟩
theorem wipe_out {σ : Sts} {i : Nat} : ∀ {vs : List Nat}, i ∉ vs → (wipe σ vs)[i]? = σ[i]?
  | [], _ => rfl
  | v :: vs, h => by
    have h1 : v ≠ i := fun e => h (by rw [e]; exact List.mem_cons_self)
    show ((wipe σ vs).set v none)[i]? = _
    rw [List.getElem?_set_ne h1]
    exact wipe_out fun z => h (List.mem_cons_of_mem _ z)
theorem restE_len {ρ0 ρ : Ev} : ∀ vs : List Nat, (restE ρ0 ρ vs).length = ρ.length
  | [] => rfl
  | v :: vs => by unfold restE; rw [List.length_set, restE_len vs]
theorem restE_out {ρ0 ρ : Ev} {i : Nat} : ∀ {vs : List Nat}, i ∉ vs → (restE ρ0 ρ vs)[i]? = ρ[i]?
  | [], _ => rfl
  | v :: vs, h => by
    have h1 : v ≠ i := fun e => h (by rw [e]; exact List.mem_cons_self)
    show ((restE ρ0 ρ vs).set v _)[i]? = _
    rw [List.getElem?_set_ne h1]
    exact restE_out fun z => h (List.mem_cons_of_mem _ z)
theorem restE_in {ρ0 ρ : Ev} {i : Nat} {d : D} : ∀ {vs : List Nat}, i ∈ vs → (restE ρ0 ρ vs)[i]? = some (some d) → ρ0[i]? = some (some d)
  | [], h, _ => by cases h
  | v :: vs, h, e => by
    have e : ((restE ρ0 ρ vs).set v (ρ0.getD v none))[i]? = some (some d) := e
    by_cases hi : v = i
    · subst hi
      have hl := (List.getElem?_eq_some_iff.mp e).1
      rw [List.length_set] at hl
      rw [List.getElem?_set_self hl] at e
      exact rd_some (Option.some.inj e)
    · rw [List.getElem?_set_ne hi] at e
      refine restE_in ?_ e
      rcases List.mem_cons.mp h with z | z
      · exact absurd z.symm hi
      · exact z
section
variable {K : Fg} {S : Sg} {B : Base} {σ : Sts} {F H : Hp} {ρ : Ev}
theorem SInv.wipe (I : SInv K S B σ F H ρ) (vs : List Nat) (hv : ∀ i ∈ vs, knd S i = 0) : SInv K S B (wipe σ vs) F H (wipeE ρ vs) := by
  have ho : ∀ i, knd S i ≠ 0 → i ∉ vs := fun i k z => k (hv i z)
  have hk : ∀ {i}, own S i = true → knd S i ≠ 0 := fun {i} k z => by rw [own_of0 z] at k; cases k
  have at2 : ∀ (i : Nat) x, i ∉ vs → ρ[i]? = some x → (wipeE ρ vs)[i]? = some x := fun i x hi e => by
    have : ∀ us : List Nat, i ∉ us → (wipeE ρ us)[i]? = ρ[i]? := by
      intro us
      induction us with
      | nil => intro _; rfl
      | cons u us ih =>
        intro h
        show ((wipeE ρ us).set u none)[i]? = _
        rw [List.getElem?_set_ne (fun z => h (by rw [z]; exact List.mem_cons_self))]
        exact ih fun z => h (List.mem_cons_of_mem _ z)
    rw [this vs hi]; exact e
  have held : ∀ {i b}, Held S (L2.wipe σ vs) H (wipeE ρ vs) i b → Held S σ H ρ i b := fun {i b} ⟨k, ⟨d, e⟩, a, e1, h⟩ => ⟨k, ⟨d, (wipeE_at e).1⟩, a, by rw [wipe_out (ho i (hk k))] at e1; exact e1, h⟩
  refine ⟨by rw [wipeE_len, wipe_length]; exact I.len, I.same, I.ext, fun i d e k => ?_, fun i d e k => ?_, fun i j b h1 h2 => I.nd i j b (held h1) (held h2), fun i d e k => ?_, fun i hi k => ?_, I.ts⟩
  · obtain ⟨e1, hn⟩ := wipeE_at e
    obtain ⟨v, e2, r⟩ := I.sh i d e1 k
    exact ⟨v, by rw [wipe_out hn]; exact e2, r⟩
  · obtain ⟨e1, hn⟩ := wipeE_at e
    obtain ⟨a, bs, e2, w⟩ := I.ow i d e1 k
    exact ⟨a, bs, by rw [wipe_out hn]; exact e2, w⟩
  · obtain ⟨e1, hn⟩ := wipeE_at e
    obtain ⟨l, kk, c, b, xs, x', f1, f2, f3, f4, f5, f6, f7, f8⟩ := I.al i d e1 k
    have hl := ho l (hk (own_of2 (deep_knd f2)))
    exact ⟨l, kk, c, b, xs, x', f1, f2, f3, at2 l _ hl f4, by rw [wipe_out hl]; exact f5, f6, f7, by rw [wipe_out hn]; exact f8⟩
  · rw [wipe_out (ho i (hk k))]; exact I.pin i hi k
/-- the block is left: its own names have their old values -/
theorem SInv.rest (I : SInv K S B σ F H ρ) {vs : List Nat} (hv : ∀ i ∈ vs, knd S i = 0) {F' H' : Hp} {ρ' : Ev} {σ' : Sts} (hw : L2.wipe σ' vs = L2.wipe σ vs) (hl : σ'.length = σ.length) (s : Same F F') (J : SInv K S B σ' F' H' ρ') : SInv K S B σ F' H' (restE ρ ρ' vs) := by
  have ho : ∀ i, knd S i ≠ 0 → i ∉ vs := fun i k z => k (hv i z)
  have hk : ∀ {i}, own S i = true → knd S i ≠ 0 := fun {i} k z => by rw [own_of0 z] at k; cases k
  have at_ : ∀ i, i ∉ vs → σ'[i]? = σ[i]? := fun i h => by
    have := congrArg (fun l : Sts => l[i]?) hw
    simp only [wipe_out h] at this
    exact this
  have held : ∀ {i b}, Held S σ H' (restE ρ ρ' vs) i b → Held S σ' H' ρ' i b := fun {i b} ⟨k, ⟨d, e⟩, a, e1, h⟩ => ⟨k, ⟨d, by rw [restE_out (ho i (hk k))] at e; exact e⟩, a, by rw [at_ i (ho i (hk k))]; exact e1, h⟩
  refine ⟨by rw [restE_len, J.len]; exact hl, J.same, J.ext, fun i d e k => ?_, fun i d e k => ?_, fun i j b h1 h2 => J.nd i j b (held h1) (held h2), fun i d e k => ?_, fun i hi k => ?_, J.ts⟩
  · by_cases hi : i ∈ vs
    · obtain ⟨v, e2, r⟩ := I.sh i d (restE_in hi e) k
      exact ⟨v, e2, r.up s⟩
    · rw [restE_out hi] at e
      obtain ⟨v, e2, r⟩ := J.sh i d e k
      exact ⟨v, by rw [← at_ i hi]; exact e2, r⟩
  · rw [restE_out (ho i (hk k))] at e
    obtain ⟨a, bs, e2, w⟩ := J.ow i d e k
    exact ⟨a, bs, by rw [← at_ i (ho i (hk k))]; exact e2, w⟩
  · have hi : i ∉ vs := ho i (by rw [k]; decide)
    rw [restE_out hi] at e
    obtain ⟨l, kk, c, b, xs, x', f1, f2, f3, f4, f5, f6, f7, f8⟩ := J.al i d e k
    have hl' := ho l (hk (own_of2 (deep_knd f2)))
    exact ⟨l, kk, c, b, xs, x', f1, f2, f3, by rw [restE_out hl']; exact f4, by rw [← at_ l hl']; exact f5, f6, f7, by rw [← at_ i hi]; exact f8⟩
  · rw [← at_ i (ho i (hk k))]; exact J.pin i hi k
end
structure MTs (X : Cx) (W : WX) (S : Sg) (ifs : List Expr) (m : Ev → Out Bool) : Prop where
  run : PTs X ifs (tMT X.K X.mg W S m)
abbrev W0 : WX := fun _ _ _ _ => False
def mYes : Ev → Out Bool := fun ρ => .ok true ρ
section
variable {X : Cx} {W : WX} {S : Sg} {pos : Pos}
theorem mts_nil : MTs X W S [] mYes := ⟨⟨fun pins s σ H Q I ⟨B, F, ρ, J, z⟩ => pts_nil.run pins s σ H Q I (z F H J (Same.refl _))⟩⟩
theorem mts_one {c : Expr} {m : Ev → Out Bool} (h : MT X W S c m) : MTs X W S [c] m := ⟨pts_one h.run⟩
/-- what a comprehension's reading asks, by the mirrors -/
theorem lc_sat {K : Fg} {mg : Str → Option Value} {vs : List Nat} {g : Ev → D → Option Ev} {t : TG} {mt : Ev → Out Bool} {me : Ev → Out D} {items : List D} {J : It} {B : Base} {σ : Sts} {F H : Hp} {ρ : Ev} {Q : VK} {e : Str → Ev → Prop} {Dn : Addr}
    (hv : ∀ i ∈ vs, knd S i = 0) (hg : ∀ B F H σ ρ v d ρ1 (Q : Sts → Hp → Prop), SInv K S B σ F H ρ → Rp K F v d → g ρ d = some ρ1 → (∀ σ', SInv K S B σ' F H ρ1 → wipe σ' vs = wipe σ vs → Q σ' H) → t v σ H Q)
    (I : SInv K S B σ F H ρ) (wd : WalkD K F J items) (hl : items.length ≤ 16777216) (hD : H Dn = none)
    (h : Sat ((noE (compM g mt me vs items (wipeE ρ vs))).bind fun ys ρ2 => Out.ok ys (restE ρ ρ2 vs)) (LKo K S B σ F Q) e) :
    ∃ W' : Nat → Nat → Hp → Prop, (∃ m, W' 0 m (upd H Dn (.lst []))) ∧ ∀ i m H, W' i m H →
      (J.stop i H ∧ Q (.ref Dn) H) ∨ (J.go i H ∧ ∃ Nx : Hp → Prop, (∀ H', Nx H' → ∃ m', m' < m ∧ W' (i + 1) m' H') ∧ ∀ x H', J.yld i H x H' → t x (wipe σ vs) H' fun σ2 H2 => wipe σ2 vs = wipe σ vs ∧ tMT K mg W0 S mt σ2 H2 fun b H3 =>
        if b = true then tME K mg W0 S me σ2 H3 fun y H4 => ∃ acc, H4 Dn = some (.lst acc) ∧ acc.length < sizeLine ∧ Nx (upd H4 Dn (.lst (acc ++ [y]))) else Nx H3) := by
  have hsz := sizeLine_eq
  have hww : ∀ {σ' : Sts}, wipe σ' vs = wipe (wipe σ vs) vs → wipe σ' vs = wipe σ vs := fun {σ'} h => by
    rw [h]
    refine List.ext_getElem? fun i => ?_
    by_cases hi : i ∈ vs
    · have nn : ∀ (τ : Sts), τ.length = σ.length → ∀ (us : List Nat), i ∈ us → (wipe τ us)[i]? = if i < σ.length then some none else none := by
        intro τ hτ us
        induction us with
        | nil => intro z; cases z
        | cons u us ih =>
          intro z
          show ((wipe τ us).set u none)[i]? = _
          by_cases hu : u = i
          · subst hu
            by_cases hlt : u < σ.length
            · rw [List.getElem?_set_self (by rw [wipe_length, hτ]; exact hlt), if_pos hlt]
            · rw [List.getElem?_eq_none (by rw [List.length_set, wipe_length, hτ]; omega), if_neg hlt]
          · rw [List.getElem?_set_ne hu]
            refine ih ?_
            rcases List.mem_cons.mp z with z | z
            · exact absurd z.symm hu
            · exact z
      rw [nn _ (wipe_length σ vs) vs hi, nn _ rfl vs hi]
    · rw [wipe_out hi]
  -- what is to hold ahead of turn i
  let P : Nat → Hp → Prop := fun i H2 => i ≤ items.length ∧ ∃ F2 ρ2 acc ys, SInv K S B (wipe σ vs) F2 H2 ρ2 ∧ Same F F2 ∧ F2 Dn = none ∧ H2 Dn = some (.lst acc) ∧ RpL K F2 acc ys ∧ acc.length ≤ i ∧ (∀ j a, Held S (wipe σ vs) H2 ρ2 j a → a ≠ Dn) ∧
    Sat ((noE (compM g mt me vs (items.drop i) ρ2)).bind fun zs ρ3 => Out.ok (ys ++ zs) (restE ρ ρ3 vs)) (LKo K S B σ F2 Q) e
  refine ⟨fun i m H2 => m = items.length - i ∧ P i H2, ⟨_, rfl, Nat.zero_le _, F, wipeE ρ vs, [], [], ?_, Same.refl _, Same.free I.same hD, upd_same, .nil, Nat.le_refl _, ?_, ?_⟩, ?_⟩
  · exact (I.newH hD).wipe vs hv
  · exact fun j a hh => (I.wipe vs hv).heldNe hD j a (held_same (fun c ec => by rw [upd_ne ((I.wipe vs hv).heldNe hD j c ((I.wipe vs hv).topHeld hh.1 hh.2.1 ec))]) hh)
  · simpa using h
  rintro i m H2 ⟨rfl, hi, F2, ρ2, acc, ys, I2, s2, nD, hDn, ra, la, hn, h2⟩
  by_cases hlt : i < items.length
  · refine .inr ⟨wd.goes i H2 hlt (s2.trans I2.same), fun H' => P (i + 1) H', fun H' hP => ⟨items.length - (i + 1), by omega, rfl, hP⟩, fun x H' y => ?_⟩
    have hd : items.drop i = items[i] :: items.drop (i + 1) := List.drop_eq_getElem_cons hlt
    rw [hd] at h2
    -- a turn, over the base as it stands
    have go : ∀ F4 H4, SInv K S B (wipe σ vs) F4 H4 ρ2 → Same F2 F4 → F4 Dn = none → H4 Dn = some (.lst acc) → (∀ j a, Held S (wipe σ vs) H4 ρ2 j a → a ≠ Dn) → Rp K F4 x items[i] → t x (wipe σ vs) H4 fun σ5 H5 => wipe σ5 vs = wipe σ vs ∧ tMT K mg W0 S mt σ5 H5 fun b H3 =>
        if b = true then tME K mg W0 S me σ5 H3 fun y H4 => ∃ acc, H4 Dn = some (.lst acc) ∧ acc.length < sizeLine ∧ P (i + 1) (upd H4 Dn (.lst (acc ++ [y]))) else P (i + 1) H3 := fun F4 H4 I4 s4 n4 d4 hn4 r4 => by
      have h3 := noE_sat (Sat.bind h2) (fun _ _ => False)
      obtain ⟨ρ5, hg5, h5⟩ := sat_of (Sat.bind (show Sat ((Out.of (g ρ2 items[i]) ρ2).bind _) _ _ from h3))
      have I4r := I4.into
      refine hg _ F4 H4 _ ρ2 x items[i] ρ5 _ I4r r4 hg5 fun σ5 I5 w5 => ⟨hww w5, _, F4, ρ5, I5, (Sat.bind h5).mono (fun b ρ6 h6 F6 H6 I6 s6 => ?_) fun _ _ z => z.elim⟩
      have keep : ∀ {F7 H7 ρ7}, SInv K S (reb B.T S (wipe σ vs) F4 H4 ρ2) σ5 F7 H7 ρ7 → H7 Dn = some (.lst acc) ∧ F7 Dn = none := fun {F7 H7 ρ7} I7 => by
        have nO : ¬ (reb B.T S (wipe σ vs) F4 H4 ρ2).O Dn := reb_no I4.ext.tb hn4 d4 soft_lst
        refine ⟨I7.ext.hs Dn _ d4 nO, ?_⟩
        cases q : F7 Dn with
        | none => rfl
        | some o =>
          rcases I7.ext.fr Dn o q with z | z | ⟨j, _, z⟩
          · have z : F4 Dn = some o := z
            rw [n4] at z; cases z
          · have z : H4 Dn = none := z
            rw [d4] at z; cases z
          · exact absurd rfl (hn4 j Dn z)
      have hl5 : σ5.length = (wipe σ vs).length := by
        have := congrArg List.length w5
        rwa [wipe_length, wipe_length] at this
      have held7 : ∀ {F7 H7 ρ7}, SInv K S (reb B.T S (wipe σ vs) F4 H4 ρ2) σ5 F7 H7 ρ7 → ∀ j a, Held S (wipe σ vs) H7 (wipeE ρ7 vs) j a → a ≠ Dn := fun {F7 H7 ρ7} I7 j a ⟨k, ⟨d, e1⟩, c, e2, h⟩ z => by
        subst z
        have hj : j ∉ vs := fun z => by rw [own_of0 (hv j z)] at k; cases k
        obtain ⟨e3, _⟩ := wipeE_at e1
        have e4 : σ5[j]? = (wipe σ vs)[j]? := by
          have := congrArg (fun l : Sts => l[j]?) w5
          simpa only [wipe_out hj] using this
        obtain ⟨_, _, o⟩ := I7.heldAt (i := j) (b := a) ⟨k, ⟨d, e3⟩, c, by rw [e4]; exact e2, h⟩
        rcases o with ⟨z, _⟩ | o
        · exact reb_no I4.ext.tb hn4 d4 soft_lst z
        · have o : H4 a = none := o
          rw [d4] at o; cases o
      have wiped : ∀ {F7 H7 ρ7}, SInv K S (reb B.T S (wipe σ vs) F4 H4 ρ2) σ5 F7 H7 ρ7 → SInv K S B (wipe σ vs) F7 H7 (wipeE ρ7 vs) := fun {F7 H7 ρ7} I7 => by
        have := (I4.back I7).wipe vs hv
        rwa [hww w5] at this
      -- the mirror's rest
      cases b with
      | false =>
        refine iteF ⟨hlt, F6, wipeE ρ6 vs, acc, ys, wiped I6, (s2.trans s4).trans s6, (keep I6).2, (keep I6).1, ra.up (s4.trans s6), by omega, held7 I6, ?_⟩
        exact noE_bind h6 fun zs ρ7 h7 F' H' p xs I' s' => h7 F' H' p xs I' ((s4.trans s6).trans s')
      | true =>
        refine iteT ⟨_, F6, ρ6, I6, (Sat.bind h6).mono (fun y ρ7 h7 F7 H7 v I7 s7 r7 => ?_) fun _ _ z => z.elim⟩
        have hB : B.H Dn = none := I.bnone hD
        refine ⟨acc, (keep I7).1, by omega, hlt, F7, wipeE ρ7 vs, acc ++ [v], ys ++ [y], (wiped I7).setFree (keep I7).2 hB (held7 I7) (fun o0 e => by rw [(keep I7).1] at e; cases e; exact soft_lst), ((s2.trans s4).trans s6).trans s7, (keep I7).2, upd_same, (ra.up ((s4.trans s6).trans s7)).app (.one r7), ?_, fun j a hh => held7 I7 j a (held_same (fun c ec => by rw [upd_ne (held7 I7 j c ((wiped I7).topHeld hh.1 hh.2.1 ec))]) hh), ?_⟩
        · rw [List.length_append]; simp; omega
        · refine noE_bind (Sat.bind h7) fun zs ρ8 h8 F' H' p xs I' s' => ?_
          rw [List.append_assoc]
          exact h8 F' H' p xs I' (((s4.trans s6).trans s7).trans s')
    rcases wd.yields i H2 x H' items[i] (by simp [hlt]) (s2.trans I2.same) y with ⟨rfl, r⟩ | ⟨T, o, xs, ds, rfl, hT, ho, rfl, r, e⟩
    · exact go F2 H' I2 (Same.refl _) nD hDn hn (r.up s2)
    · have hF : F2 T = none := Same.free I2.same hT
      have sF := same_upd (o := .frz o (.tup xs)) hF
      have hne : Dn ≠ T := ne_of_none hDn hT
      refine go (upd F2 T (.frz o (.tup xs))) _ (I2.newF hT) sF (by rw [upd_ne hne]; exact nD) (by rw [upd_ne hne]; exact hDn) (fun j a hh => hn j a (held_same (fun c ec => by rw [upd_ne (I2.heldNe hT j c (I2.topHeld hh.1 hh.2.1 ec))]) hh)) ?_
      rw [e]
      exact .tup (.inl ⟨o, ho, upd_same⟩) ((r.up s2).up sF)
  · have e : i = items.length := by omega
    subst e
    rw [List.drop_length] at h2
    have h3 : LKo K S B σ F2 Q (ys ++ []) (restE ρ ρ2 vs) := h2
    rw [List.append_nil] at h3
    refine .inl ⟨wd.stops H2 (s2.trans I2.same), h3 F2 H2 Dn acc (I.rest hv (hww rfl) (wipe_length σ vs) s2 I2) (Same.refl _) nD hDn ra (I.bnone hD) fun j a ⟨k, ⟨d, e1⟩, c, e2, h⟩ => ?_⟩
    have hj : j ∉ vs := fun z => by rw [own_of0 (hv j z)] at k; cases k
    rw [restE_out hj] at e1
    exact hn j a ⟨k, ⟨d, e1⟩, c, by rw [wipe_out hj]; exact e2, h⟩
/-- [elt for target in iter if ..] -/
theorem lc_all {tg : Expr} {scope : Scope} {oS : List (Str × Nat)} {mi : Ev → Out (List D)} {g : Ev → D → Option Ev} {t : TG} {mt : Ev → Out Bool} {me : Ev → Out D} {wi : TI} (hv : (oS.map (·.2)).all (fun i => knd S i == 0) = true)
    (hg : ∀ (s : Shared) (H : Hp) (C : Addr) (cl : List (Str × Addr)) (fp : List Addr), MG (X.blk s H scope (compEnvC scope cl C X.env) fp) S tg t (oS.map (·.2)) g)
    (qw : ∀ B F H σ ρ R, SInv X.K S B σ F H ρ → Sat (mi ρ) (IKo X.K S B σ F R) (XKo X W S B σ F) → wi σ H R) {B : Base} {F H : Hp} {σ : Sts} {ρ : Ev} {Q : VK} (s0 : Shared) (I : SInv X.K S B σ F H ρ)
    (h : Sat (mLc mi g mt me (oS.map (·.2)) ρ) (LKo X.K S B σ F Q) (XKo X W S B σ F)) : tLc wi t (tMT X.K X.mg W0 S mt) (tME X.K X.mg W0 S me) (oS.map (·.2)) σ H Q := by
  have hv' : ∀ i ∈ oS.map (·.2), knd S i = 0 := fun i hi => by
    have := List.all_eq_true.mp hv i hi
    simpa using this
  refine qw B F H σ ρ _ I ((Sat.bind h).mono (fun items ρ1 h1 F1 H1 J I1 s1 wd hl => fun Dn hD => ?_) fun _ _ z => z)
  refine lc_sat (e := fun _ _ => False) hv' (fun B F H σ ρ v d ρ1 Q I r e k => (hg s0 H 0 [] []).ok B F H σ ρ v d ρ1 Q I r e k) I1 wd hl hD ?_
  cases e1 : noE (compM g mt me (oS.map (·.2)) items (wipeE ρ1 (oS.map (·.2)))) with
  | ok ys ρ2 =>
    rw [e1] at h1
    exact fun F' H' p xs I' s' => h1 F' H' p xs I' (s1.trans s')
  | err c ρ2 =>
    exfalso
    revert e1
    cases compM g mt me (oS.map (·.2)) items (wipeE ρ1 (oS.map (·.2))) <;> intro e1 <;> cases e1
  | bad => rw [e1] at h1; exact h1.elim
theorem ml_lc {elt tg iter : Expr} {ifs : List Expr} {scope : Scope} {oS : List (Str × Nat)} {mi : Ev → Out (List D)} {g : Ev → D → Option Ev} {t : TG} {mt : Ev → Out Bool} {me : Ev → Out D} (hc : X.calm = true) (hN : X.N.Nodup) (hi : MI X W S tg iter mi) (ok : blkC X.N X.env.scope scope oS = true) (hv : (oS.map (·.2)).all (fun i => knd S i == 0) = true)
    (hg : ∀ (s : Shared) (H : Hp) (C : Addr) (cl : List (Str × Addr)) (fp : List Addr), MG (X.blk s H scope (compEnvC scope cl C X.env) fp) S tg t (oS.map (·.2)) g)
    (ht : ∀ (s : Shared) (H : Hp) (C : Addr) (cl : List (Str × Addr)) (fp : List Addr), MTs (X.blk s H scope (compEnvC scope cl C X.env) fp) W0 S ifs mt)
    (he : ∀ (s : Shared) (H : Hp) (C : Addr) (cl : List (Str × Addr)) (fp : List Addr), ME (X.blk s H scope (compEnvC scope cl C X.env) fp) W0 S elt me) (s0 : Shared := X.s_0) (hs : ∀ x, foldedSetIterable iter X.env x = pure x := by intro _; rfl) :
    ML X W S (.ListComp elt [⟨tg, iter, ifs, 0⟩] scope pos) (mLc mi g mt me (oS.map (·.2))) := by
  obtain ⟨w, pw, qw⟩ := hi.ex
  exact ⟨_, pe_lc hc hN pw (blkOk_by ok) (fun s H C cl fp => (hg s H C cl fp).pg) (fun s H C cl fp => (ht s H C cl fp).run) (fun s H C cl fp => (he s H C cl fp).run) hs, fun B F H σ ρ Q I h => lc_all hv hg qw s0 I h⟩
theorem ms_setLc (i : Nat) {y : Str} {py : Pos} {spos : Pos} {elt tg iter : Expr} {ifs : List Expr} {scope : Scope} {oS : List (Str × Nat)} {mi : Ev → Out (List D)} {g : Ev → D → Option Ev} {t : TG} {mt : Ev → Out Bool} {me : Ev → Out D} (k : knd S i = 0) (hc : X.calm = true) (hN : X.N.Nodup) (hy : X.N[i]? = some y) (hyl : X.env.scope.names.lookup y = some .local)
    (hsw : swapsWith (.ListComp elt [⟨tg, iter, ifs, 0⟩] scope pos) (some (.Name y py)) spos.line X.env = pure true) (hi : MI X W S tg iter mi) (ok : blkC X.N X.env.scope scope oS = true) (hv : (oS.map (·.2)).all (fun i => knd S i == 0) = true)
    (hg : ∀ (s : Shared) (H : Hp) (C : Addr) (cl : List (Str × Addr)) (fp : List Addr), MG (X.blk s H scope (compEnvC scope cl C X.env) fp) S tg t (oS.map (·.2)) g)
    (ht : ∀ (s : Shared) (H : Hp) (C : Addr) (cl : List (Str × Addr)) (fp : List Addr), MTs (X.blk s H scope (compEnvC scope cl C X.env) fp) W0 S ifs mt)
    (he : ∀ (s : Shared) (H : Hp) (C : Addr) (cl : List (Str × Addr)) (fp : List Addr), ME (X.blk s H scope (compEnvC scope cl C X.env) fp) W0 S elt me) (s0 : Shared := X.s_0) (hs : ∀ x, foldedSetIterable iter X.env x = pure x := by intro _; rfl) :
    MS X W S (.Assign [.Name y py] (.ListComp elt [⟨tg, iter, ifs, 0⟩] scope pos) spos) (mSet i (mLst (mLc mi g mt me (oS.map (·.2))))) := by
  obtain ⟨w, pw, qw⟩ := hi.ex
  refine ⟨_, ps_setLc (te := tME X.K X.mg W0 S me) (tt := tMT X.K X.mg W0 S mt) hc hN hy hyl hsw pw (blkOk_by ok) (fun s H C cl fp => (hg s H C cl fp).pg) (fun s H C cl fp => (ht s H C cl fp).run) (fun s H C cl fp => (he s H C cl fp).run) hs, fun B F H σ ρ D I h => ?_⟩
  refine lc_all hv hg qw s0 I ((Sat.bind (Sat.bind h)).mono (fun ds ρ1 h1 => ?_) fun _ _ z => XSo.ex z)
  exact LKo.ofE fun F' H' v I' s' r' => h1 F' H' _ (I'.setSh k r') s'
end
end MW
namespace MW
open PySem PySem.Spec PyProof.Rows L2
variable {gq : Bool}
/-- f: the items and what is given, to what is handed back and the new items -/
def mUpd (i : Nat) (f : List D → List D → Option (D × List D)) (ms : Ev → Out (List D)) : Ev → Out D := fun ρ => (Out.of (rd ρ i) ρ).bind fun _ ρ => (ms ρ).bind fun as ρ1 => match rd ρ1 i with
  | some (.list ds) => match f ds as with
    | some (d, ds') => .ok d (ρ1.set i (some (.list ds')))
    | none => .bad
  | _ => .bad
def MtU (X : Cx) (r : V → List V → Hp → VK → Prop) (f : List D → List D → Option (D × List D)) : Prop := ∀ F H l xs ds vs as d ds' (Q : VK), Same F H → H l = some (.lst xs) → RpL X.K F xs ds → RpL X.K F vs as → f ds as = some (d, ds') → (∀ v ys, Rp X.K F v d → RpL X.K F ys ds' → Q v (upd H l (.lst ys))) → r (.ref l) vs H Q
section
variable {X : Cx} {W : WX} {S : Sg} {pos : Pos}
theorem me_upd (i : Nat) {x : Str} {p apos : Pos} {name : Str} {id : String} {r : V → List V → Hp → VK → Prop} {f : List D → List D → Option (D × List D)} {ms : Ev → Out (List D)} {e0 : Expr} {es : List Expr} {e : Expr} (k : knd S i = 1) (hv : PE X (.Name x p) (tVar i)) (hm : MtU X r f) (ha : MA X W S (e0 :: es) ms)
    (mk : ∀ t, PA X (e0 :: es) t → PE X e (tBM X.K "list" r (tVar i) t)) : ME X W S e (mUpd i f ms) := by
  obtain ⟨t, pt, q⟩ := ha.ex
  refine ⟨_, mk _ pt, fun B F H σ ρ Q I h => ?_⟩
  obtain ⟨d0, e1, h⟩ := sat_of h.bind
  obtain ⟨a, ea, xs0, ds0, _, hF0, hH0, _⟩ := own_lst I k e1
  refine ⟨_, ea, .inl ⟨rfl, xs0, .inl (.inl hH0)⟩, ?_⟩
  refine q B F H σ ρ _ I ((Sat.bind h).mono (fun as ρ1 h1 F1 H1 vs I1 s1 r1 => ?_) fun _ _ z => z)
  split at h1
  · rename_i ds e2
    split at h1
    · rename_i d ds' e3
      obtain ⟨a', ea', xs, ds'', e4, hF, hH, rr⟩ := own_lst I1 k e2
      rw [ea] at ea'
      cases ea'
      cases e4
      exact hm F1 H1 a xs ds vs as d ds' Q I1.same hH rr r1 e3 fun v ys rv ry => h1 F1 _ v (I1.mut (rd_some e2) k ea ry) s1 rv
    · exact h1.elim
  · exact h1.elim
/-- append -/
def fApp : List D → List D → Option (D × List D) := fun ds as => match as with
  | [d] => if ds.length < 16777216 then some (.none, ds ++ [d]) else none
  | _ => none
theorem mtu_append : MtU X rAppend fApp := fun F H l xs ds vs as d ds' Q s hH r rv e k => by
  have hsz := sizeLine_eq
  unfold fApp at e
  split at e
  · rename_i z
    split at e
    · rename_i hl
      cases e
      cases rv with
      | cons r1 rr =>
        cases rr
        exact ⟨l, xs, _, rfl, rfl, hH, by rw [r.len]; omega, k .non _ .non (r.app (.one r1))⟩
    · cases e
  · cases e
theorem me_append (i : Nat) {x : Str} {p apos : Pos} {ms : Ev → Out (List D)} {e0 : Expr} (k : knd S i = 1) (hv : PE X (.Name x p) (tVar i)) (ha : MA X W S [e0] ms)
    (mk : ∀ t, PA X [e0] t → PE X (.Call (.Attribute (.Name x p) "append" apos) [e0] [] pos) (tBM X.K "list" rAppend (tVar i) t)) : ME X W S (.Call (.Attribute (.Name x p) "append" apos) [e0] [] pos) (mUpd i fApp ms) := me_upd (apos := apos) (name := "append") (id := "list.append") i k hv mtu_append ha mk
/-- xs[k] = e, xs one's own -/
def mStore (i : Nat) (me mk : Ev → Out D) : Ev → Out Fl := fun ρ => (me ρ).bind fun d ρ1 => (Out.of (rd ρ1 i) ρ1).bind fun _ ρ1 => (mk ρ1).bind fun e ρ2 => match rd ρ2 i, e with
  | some (.list ds), .int j => match ixN ds.length j with
    | some n => .ok .nx (ρ2.set i (some (.list (ds.set n d))))
    | none => .bad
  | _, _ => .bad
theorem ms_store (i : Nat) {x : Str} {p tpos : Pos} {e ie : Expr} {me mk : Ev → Out D} (k : knd S i = 1) (hv : PE X (.Name x p) (tVar i)) (he : ME X W S e me) (hi : ME X W S ie mk)
    (ha : ∀ v, assign (.Subscript (.Name x p) ie tpos) X.env v = (do
      let ov ← holding [v] (eval (.Name x p) X.env)
      let iv ← holding [v, ov] (eval ie X.env)
      standAt tpos
      holding [v, ov, iv] (setItem ov iv v)
      release [v, ov, iv] []) := by intro _; rfl) (hs : swapsWithSole [.Subscript (.Name x p) ie tpos] e pos.line X.env = pure false := by rfl) (hw : swappedStores [.Subscript (.Name x p) ie tpos] e X.env = pure none := by rfl)
    (h1 : (assignEach [.Subscript (.Name x p) ie tpos] X.env).map (·.2) = [assign (.Subscript (.Name x p) ie tpos) X.env] := by rfl) : MS X W S (.Assign [.Subscript (.Name x p) ie tpos] e pos) (mStore i me mk) := by
  obtain ⟨t, pt, q⟩ := he.ex
  obtain ⟨u, pu, qu⟩ := hi.ex
  refine ⟨_, ps_asg pt (pg_sub hv pu set_list ha) hs hw h1, fun B F H σ ρ D I h => ?_⟩
  refine q B F H σ ρ _ I ((Sat.bind h).mono (fun d ρ1 h1 F1 H1 v I1 s1 r1 => ?_) fun _ _ z => XSo.ex z)
  obtain ⟨d0, e1, h2⟩ := sat_of (Sat.bind h1)
  obtain ⟨a, ea, _⟩ := own_at I1 k e1
  refine ⟨_, ea, ?_⟩
  refine qu B F1 H1 σ ρ1 _ I1 ((Sat.bind h2).mono (fun e ρ2 h3 F2 H2 y I2 s2 r2 => ?_) fun _ _ z => XKo.up s1 (XSo.ex z))
  split at h3
  · rename_i ds j e2
    split at h3
    · rename_i n en
      obtain ⟨a', ea', xs, ds'', e4, hF, hH, rr⟩ := own_lst I2 k e2
      rw [ea] at ea'
      cases ea'
      cases e4
      cases r2
      refine ⟨a, xs, j, n, rfl, rfl, hH, by rw [rr.len]; exact en, h3 F2 _ σ (I2.mut (rd_some e2) k ea (rr.set n (r1.up s2))) (s1.trans s2)⟩
    · exact h3.elim
  · exact h3.elim
def outs (S : Sg) (ρ : Ev) : Ev := (List.range S.np).map fun i => if own S i then ρ.getD i none else none
structure Back (K : Fg) (S : Sg) (B : Base) (vs : List V) (F' H' : Hp) (os : Ev) : Prop where
  len : os.length = S.np
  ext : Ext B F' H'
  same : Same F' H'
  ow : ∀ i a, own S i = true → vs[i]? = some (.ref a) → ∃ d, os[i]? = some (some d) ∧ OwL K F' H' a d
/-- of a def's slots the parameters alone: which of them are lists that are lent -/
def sgOf (os : List Bool) : Sg := ⟨os.map fun b => if b = true then 1 else 0, os.length, [], []⟩
theorem sgOf_knd {os : List Bool} {i : Nat} : knd (sgOf os) i = if os.getD i false = true then 1 else 0 := by
  unfold knd sgOf
  simp only [List.getD_eq_getElem?_getD, List.getElem?_map]
  cases os[i]? with
  | none => rfl
  | some b => cases b <;> rfl
theorem sgOf_own {os : List Bool} {i : Nat} : own (sgOf os) i = os.getD i false := by
  unfold own
  rw [sgOf_knd]
  cases os.getD i false <;> rfl
theorem sgOf_deep {os : List Bool} {i : Nat} : deep (sgOf os) i = false := by
  unfold deep
  rw [sgOf_knd]
  cases os.getD i false <;> rfl
theorem sgOf_ne3 {os : List Bool} {i : Nat} : knd (sgOf os) i ≠ 3 := by
  rw [sgOf_knd]
  cases os.getD i false <;> decide
/-- a def's promise, by its mirror m: the arguments' data to the result's, and what has become of the lists handed in -/
def spM (K : Fg) (mg : Str → Option Value) (os : List Bool) (m : List D → Out D) : Sp := fun vs H Q E => ∃ B F ds, vs.length = os.length ∧ SInv K (sgOf os) B (vs.map some) F H (ds.map some) ∧
  Sat (m ds) (fun d zs => ∀ F' H' v, Back K (sgOf os) B vs F' H' zs → Same F F' → Rp K F' v d → Q v H') (fun c zs => ∀ F' H' C, Back K (sgOf os) B vs F' H' zs → Same F F' → mg c = some (.ref C) → E (.ref C) none H')
def chk (S : Sg) (os : Ev) : Bool := (List.range S.np).all fun i => !own S i || (os.getD i none).isSome
def mDef (S : Sg) (n : Nat) (mb : Ev → Out Fl) : List D → Out D := fun ds => match mb (ds.map some ++ List.replicate (n - ds.length) none) with
  | .ok .nx ρ => if chk S (outs S ρ) = true then .ok .none (outs S ρ) else .bad
  | .ok (.rt d) ρ => if chk S (outs S ρ) = true then .ok d (outs S ρ) else .bad
  | .ok .bk ρ => .bad
  | .ok .ct ρ => .bad
  | .err c ρ => if chk S (outs S ρ) = true then .err c (outs S ρ) else .bad
  | .bad => .bad
theorem nil_ts {K : Fg} {S : Sg} {os : List Bool} {B : Base} {F H : Hp} {σ : Sts} {ρ : Ev} (I : SInv K (sgOf os) B σ F H ρ) (h : S.T = []) : B.T = S.T := I.ts.trans h.symm
theorem start_sinv {K : Fg} {S : Sg} {os : List Bool} {B : Base} {F H : Hp} {vs : List V} {ds : List D} {N : List Str} (hs : os.length = S.np) (hk : (List.range S.np).all (fun i => knd S i == if os.getD i false = true then 1 else 0) = true) (hl : vs.length = S.np) (hT : B.T = S.T) (I : SInv K (sgOf os) B (vs.map some) F H (ds.map some)) :
    SInv K S B (L2.start N vs) F H (ds.map some ++ List.replicate (N.length - ds.length) none) := by
  have hd : ds.length = vs.length := by have := I.len; simpa using this
  have kn : ∀ i, i < S.np → knd S i = knd (sgOf os) i := fun i hi => by
    have := List.all_eq_true.mp hk i (List.mem_range.mpr hi)
    rw [sgOf_knd]
    exact eq_of_beq this
  have at1 : ∀ (i : Nat) (d : D), (ds.map some ++ List.replicate (N.length - ds.length) none)[i]? = some (some d) → (ds.map some)[i]? = some (some d) := fun i d e => by
    rcases Nat.lt_or_ge i (ds.map some).length with h | h
    · rw [List.getElem?_append_left h] at e; exact e
    · rw [List.getElem?_append_right h, List.getElem?_replicate] at e
      split at e <;> cases e
  have lt_ : ∀ (i : Nat) (d : D), (ds.map some)[i]? = some (some d) → i < S.np := fun i d e => by
    have := (List.getElem?_eq_some_iff.mp e).1
    rw [List.length_map] at this
    omega
  have at2 : ∀ (i : Nat) (v : V), (vs.map some)[i]? = some (some v) → (L2.start N vs)[i]? = some (some v) := fun i v e => by
    unfold L2.start
    rw [List.getElem?_append_left (List.getElem?_eq_some_iff.mp e).1]
    exact e
  have at3 : ∀ (i : Nat) (a : Addr) (d : D), (ds.map some)[i]? = some (some d) → (L2.start N vs)[i]? = some (some (.ref a)) → (vs.map some)[i]? = some (some (.ref a)) := fun i a d e h => by
    have hi : i < (vs.map some).length := by
      have := (List.getElem?_eq_some_iff.mp e).1
      simpa [hd] using this
    unfold L2.start at h
    rw [List.getElem?_append_left hi] at h
    exact h
  have ownE : ∀ i, i < S.np → own S i = own (sgOf os) i ∧ deep S i = deep (sgOf os) i := fun i hi => by
    unfold own deep
    rw [kn i hi]
    exact ⟨rfl, rfl⟩
  have held : ∀ {i b}, Held S (L2.start N vs) H (ds.map some ++ List.replicate (N.length - ds.length) none) i b → Held (sgOf os) (vs.map some) H (ds.map some) i b := fun {i b} ⟨k, ⟨d, e⟩, a, e1, h⟩ => by
    have hi := lt_ i d (at1 i d e)
    exact ⟨by rw [← (ownE i hi).1]; exact k, ⟨d, at1 i d e⟩, a, at3 i a d (at1 i d e) e1, by rw [← (ownE i hi).2]; exact h⟩
  refine ⟨by unfold L2.start; simp [hd], I.same, I.ext, fun i d e k => ?_, fun i d e k => ?_, fun i j b h1 h2 => I.nd i j b (held h1) (held h2), fun i d e k => ?_, fun i hi k => ?_, hT⟩
  · have hi := lt_ i d (at1 i d e)
    obtain ⟨v, e1, r⟩ := I.sh i d (at1 i d e) (by rw [← kn i hi]; exact k)
    exact ⟨v, at2 i v e1, r⟩
  · have hi := lt_ i d (at1 i d e)
    obtain ⟨a, bs, e1, w, o⟩ := I.ow i d (at1 i d e) (by rw [← (ownE i hi).1]; exact k)
    refine ⟨a, bs, at2 i _ e1, by rw [kn i hi]; exact w, fun b hb => ?_⟩
    rcases o b hb with q | q
    · exact .inl ⟨q.1, fun z => absurd hi (by omega)⟩
    · exact .inr q
  · have hi := lt_ i d (at1 i d e)
    rw [kn i hi] at k
    exact absurd k sgOf_ne3
  · rw [← I.pin i (by show i < os.length; omega) (by rw [← (ownE i hi).1]; exact k)]
    unfold L2.start
    rw [List.getElem?_append_left (by simp; omega)]
theorem outs_at {S : Sg} {ρ : Ev} {i : Nat} (hi : i < S.np) (k : own S i = true) : (outs S ρ)[i]? = some (ρ.getD i none) := by
  unfold outs
  rw [List.getElem?_map, List.getElem?_range hi]
  show some (if own S i = true then ρ.getD i none else none) = _
  rw [if_pos k]
end
section
variable {P : Program} {w : World} {K : PySem.W.Frag} {mg : Str → Option Value} {base : Heap}
theorem def_sat {X : Cx} {S : Sg} {os : List Bool} {N : List Str} {mb : Ev → Out Fl} {t : TS} {E : XK} {Q : VK} {vs : List V} {ds : List D} {B : Base} {F H : Hp} (hos : os.length = S.np) (hks : (List.range S.np).all (fun i => knd S i == if os.getD i false = true then 1 else 0) = true) (hl : vs.length = os.length) (hT : B.T = S.T)
    (q : ∀ B F H σ ρ D, SInv X.K S B σ F H ρ → Sat (mb ρ) (FKo X.K S B F D) (XSo X (fun c d _ H => E c d H) S B F) → t D σ H) (I : SInv X.K (sgOf os) B (vs.map some) F H (ds.map some))
    (hs : Sat (mDef S N.length mb ds) (fun d zs => ∀ F' H' v, Back X.K (sgOf os) B vs F' H' zs → Same F F' → Rp X.K F' v d → Q v H') (fun c zs => ∀ F' H' C, Back X.K (sgOf os) B vs F' H' zs → Same F F' → X.mg c = some (.ref C) → E (.ref C) none H')) : t { nx := fun _ H' => Q .non H', rt := Q } (L2.start N vs) H := by
  refine q B F H _ _ _ (start_sinv (N := N) hos hks (by omega) hT I) ?_
  have kn : ∀ i, i < S.np → knd S i = knd (sgOf os) i := fun i hi => by
    have := List.all_eq_true.mp hks i (List.mem_range.mpr hi)
    rw [sgOf_knd]
    exact eq_of_beq this
  have back : ∀ {F' H' : Hp} {σ' : Sts} {ρ' : Ev}, SInv X.K S B σ' F' H' ρ' → chk S (outs S ρ') = true → Back X.K (sgOf os) B vs F' H' (outs S ρ') := fun {F' H' σ' ρ'} J ha => by
    refine ⟨by show (outs S ρ').length = os.length; simp [outs, hos], J.ext, J.same, fun i a k e => ?_⟩
    have hi : i < S.np := by
      have := (List.getElem?_eq_some_iff.mp e).1
      omega
    have k1 : knd S i = 1 := by
      rw [kn i hi, sgOf_knd]
      rw [sgOf_own] at k
      rw [k]; rfl
    have h1 := List.all_eq_true.mp ha i (List.mem_range.mpr hi)
    rw [own_of1 k1] at h1
    have h2 : ((outs S ρ').getD i none).isSome = true := by simpa using h1
    have ho := outs_at (ρ := ρ') hi (own_of1 k1)
    rw [List.getD_eq_getElem?_getD, ho] at h2
    obtain ⟨d, hd⟩ := Option.isSome_iff_exists.mp (show (ρ'.getD i none).isSome = true from h2)
    obtain ⟨a', e1, ow⟩ := own_lst J k1 hd
    have hp := J.pin i hi (own_of1 k1)
    have hp0 := I.pin i (by show i < os.length; omega) k
    have : σ'[i]? = some (some (.ref a)) := by
      rw [hp, ← hp0, List.getElem?_map, e]
      rfl
    rw [this] at e1
    cases e1
    exact ⟨d, by rw [ho, hd], ow⟩
  cases e1 : mb (ds.map some ++ List.replicate (N.length - ds.length) none) with
  | bad =>
    have e2 : mDef S N.length mb ds = .bad := by unfold mDef; rw [e1]
    rw [e2] at hs
    exact hs.elim
  | err c ρ' =>
    have e2 : mDef S N.length mb ds = if chk S (outs S ρ') = true then .err c (outs S ρ') else .bad := by unfold mDef; rw [e1]
    rw [e2] at hs
    by_cases ha : chk S (outs S ρ') = true
    · rw [if_pos ha] at hs
      exact fun F' H' σ' C J s' hC => hs F' H' C (back J ha) s' hC
    · rw [if_neg ha] at hs
      exact hs.elim
  | ok fl ρ' =>
    cases fl with
    | bk =>
      have e2 : mDef S N.length mb ds = .bad := by unfold mDef; rw [e1]
      rw [e2] at hs
      exact hs.elim
    | ct =>
      have e2 : mDef S N.length mb ds = .bad := by unfold mDef; rw [e1]
      rw [e2] at hs
      exact hs.elim
    | nx =>
      have e2 : mDef S N.length mb ds = if chk S (outs S ρ') = true then .ok .none (outs S ρ') else .bad := by unfold mDef; rw [e1]
      rw [e2] at hs
      by_cases ha : chk S (outs S ρ') = true
      · rw [if_pos ha] at hs
        exact fun F' H' σ' J s' => hs F' H' .non (back J ha) s' .non
      · rw [if_neg ha] at hs
        exact hs.elim
    | rt d =>
      have e2 : mDef S N.length mb ds = if chk S (outs S ρ') = true then .ok d (outs S ρ') else .bad := by unfold mDef; rw [e1]
      rw [e2] at hs
      by_cases ha : chk S (outs S ρ') = true
      · rw [if_pos ha] at hs
        exact fun F' H' σ' J s' v rv => hs F' H' v (back J ha) s' rv
      · rw [if_neg ha] at hs
        exact hs.elim
theorem def_ok {x qual : Str} {st : Stmt} {f : Addr} {fd : FuncData} {N ps : List Str} {k : Nat} (S : Sg) (os : List Bool) {mb : Ev → Out Fl} (Fn : L2.Fun K x qual st f fd) (Sc : FnScope N ps (defScope st)) (hnp : ps.length = S.np) (hos : os.length = S.np) (hks : (List.range S.np).all (fun i => knd S i == if os.getD i false = true then 1 else 0) = true)
    (hbody : ∀ (cdv : Value) (A : Around) (outer : List Env) (s : Shared) (H : Hp) (E : XK), RoomQ gq k (A.deeper (envOfC qual (defScope st) s.heap.objs.size f cdv)) →
      MSs (cxOf (L2.CX P w) P w K mg base N qual (defScope st) f cdv A outer s H E) (fun c d _ H => E c d H) S (defBody st) mb) (hTn : S.T = [] := by rfl) :
    FnQ gq P w K mg base (k + 1) f fd ps (spM K mg os (mDef S N.length mb)) := by
  refine FnQ.of Fn Sc (fun vs H Q E h => ?_) (fun cdv A outer s H vs Q E hr h => ?_)
  · obtain ⟨_, _, _, hl, _⟩ := h
    rw [hl, hnp, hos]
  · obtain ⟨B, F, ds, hl, I, hs⟩ := h
    obtain ⟨t, p, q⟩ := (hbody cdv A outer s H E hr).ex
    exact ⟨t, p, def_sat hos hks hl (nil_ts I hTn) q I hs⟩
end
/-- an argument list: values, and lists of one's own that are lent -/
inductive ArgL (K : Fg) (σ : Sts) (F : Hp) : List (Option Nat) → List V → List D → Prop
  | nil : ArgL K σ F [] [] []
  | val {v : V} {d : D} {ks : List (Option Nat)} {vs : List V} {ds : List D} : Rp K F v d → ArgL K σ F ks vs ds → ArgL K σ F (none :: ks) (v :: vs) (d :: ds)
  | lent {i : Nat} {v : V} {d : D} {ks : List (Option Nat)} {vs : List V} {ds : List D} : σ[i]? = some (some v) → ArgL K σ F ks vs ds → ArgL K σ F (some i :: ks) (v :: vs) (d :: ds)
theorem ArgL.up {K : Fg} {σ : Sts} {F F' : Hp} (s : Same F F') : ∀ {ks : List (Option Nat)} {vs : List V} {ds : List D}, ArgL K σ F ks vs ds → ArgL K σ F' ks vs ds
  | _, _, _, .nil => .nil
  | _, _, _, .val r h => .val (r.up s) (h.up s)
  | _, _, _, .lent e h => .lent e (h.up s)
structure MAc (X : Cx) (W : WX) (S : Sg) (es : List Expr) (ks : List (Option Nat)) (m : Ev → Out (List D)) : Prop where
  ex : ∃ t : TA, PA X es t ∧ ∀ B F H σ ρ Q, SInv X.K S B σ F H ρ → Sat (m ρ) (fun ds ρ' => ∀ F' H' vs, SInv X.K S B σ F' H' ρ' → Same F F' → ArgL X.K σ F' ks vs ds → Q vs H') (XKo X W S B σ F) → t σ H Q
section
variable {X : Cx} {W : WX} {S : Sg} {pos : Pos} {a : Expr} {es : List Expr} {ks : List (Option Nat)} {ma : Ev → Out D} {mr : Ev → Out (List D)}
theorem mac_nil : MAc X W S [] [] mNil := ⟨_, pa_nil, fun B F H σ ρ Q I h => h F H [] I (Same.refl _) .nil⟩
theorem mac_cons (ha : ME X W S a ma) (hr : MAc X W S es ks mr) (hs : starEach (a :: es) X.env = (false, eval a X.env) :: starEach es X.env := by rfl) : MAc X W S (a :: es) (none :: ks) (mCons ma mr) := by
  obtain ⟨t, p, q⟩ := ha.ex
  obtain ⟨t', p', q'⟩ := hr.ex
  refine ⟨_, pa_cons p p' hs, fun B F H σ ρ Q I h => ?_⟩
  refine q B F H σ ρ _ I (h.bind.mono (fun d ρ1 h1 F1 H1 x I1 s1 r1 => ?_) fun _ _ z => z)
  refine q' B F1 H1 σ ρ1 _ I1 (h1.bind.mono (fun ds ρ2 h2 F2 H2 xs I2 s2 r2 => ?_) fun _ _ z => XKo.up s1 z)
  exact h2 F2 H2 (x :: xs) I2 (s1.trans s2) (.val (r1.up s2) r2)
def mLend (i : Nat) (mr : Ev → Out (List D)) : Ev → Out (List D) := fun ρ => (Out.of (rd ρ i) ρ).bind fun _ ρ => (mr ρ).bind fun ds ρ2 => .ok (.none :: ds) ρ2
theorem mac_lend (i : Nat) {x : Str} {p : Pos} (k : knd S i = 1) (hv : PE X (.Name x p) (tVar i)) (hr : MAc X W S es ks mr) (hs : starEach (.Name x p :: es) X.env = (false, eval (.Name x p) X.env) :: starEach es X.env := by rfl) : MAc X W S (.Name x p :: es) (some i :: ks) (mLend i mr) := by
  obtain ⟨t', p', q'⟩ := hr.ex
  refine ⟨_, pa_cons hv p' hs, fun B F H σ ρ Q I h => ?_⟩
  obtain ⟨d0, e1, h⟩ := sat_of h.bind
  obtain ⟨b, eb, _⟩ := own_at I k e1
  refine ⟨_, eb, ?_⟩
  refine q' B F H σ ρ _ I ((Sat.bind h).mono (fun ds ρ2 h2 F2 H2 xs I2 s2 r2 => ?_) fun _ _ z => z)
  exact h2 F2 H2 _ I2 s2 (.lent eb r2)
end
def resolve (ρ : Ev) : List (Option Nat) → List D → Option (List D)
  | none :: ks, d :: ds => (resolve ρ ks ds).map (d :: ·)
  | some i :: ks, _ :: ds => (rd ρ i).bind fun x => (resolve ρ ks ds).map (x :: ·)
  | _, _ => some []
def wback : List (Option Nat) → Ev → Ev → Ev
  | none :: ks, _ :: os, ρ => wback ks os ρ
  | some i :: ks, o :: os, ρ => wback ks os (ρ.set i o)
  | _, _, ρ => ρ
def mCallD (f : List D → Out D) (ks : List (Option Nat)) (ms : Ev → Out (List D)) : Ev → Out D := fun ρ => (ms ρ).bind fun ds ρ1 => (Out.of (resolve ρ1 ks ds) ρ1).bind fun as ρ1 => match f as with
  | .ok d os => .ok d (wback ks os ρ1)
  | .err c os => .err c (wback ks os ρ1)
  | .bad => .bad
theorem wback_len : ∀ {ks : List (Option Nat)} {os ρ : Ev}, (wback ks os ρ).length = ρ.length
  | [], _, _ => by unfold wback; rfl
  | none :: ks, [], _ => by unfold wback; rfl
  | some i :: ks, [], _ => by unfold wback; rfl
  | none :: ks, _ :: os, ρ => by unfold wback; exact wback_len
  | some i :: ks, o :: os, ρ => by unfold wback; rw [wback_len, List.length_set]
theorem wback_out : ∀ {ks : List (Option Nat)} {os ρ : Ev} {i : Nat}, some i ∉ ks → (wback ks os ρ)[i]? = ρ[i]?
  | [], _, _, _, _ => by unfold wback; rfl
  | none :: ks, [], _, _, _ => by unfold wback; rfl
  | some j :: ks, [], _, _, _ => by unfold wback; rfl
  | none :: ks, _ :: os, ρ, i, h => by unfold wback; exact wback_out fun z => h (List.mem_cons_of_mem _ z)
  | some j :: ks, o :: os, ρ, i, h => by
    unfold wback
    rw [wback_out fun z => h (List.mem_cons_of_mem _ z), List.getElem?_set_ne]
    exact fun z => h (by rw [z]; exact List.mem_cons_self)
theorem wback_in : ∀ {ks : List (Option Nat)} {os ρ : Ev} {i j : Nat} {o : Option D}, (ks.filterMap id).Nodup → ks[j]? = some (some i) → os[j]? = some o → i < ρ.length → (wback ks os ρ)[i]? = some o
  | [], _, _, _, _, _, _, h, _, _ => by simp at h
  | none :: ks, [], _, _, _, _, _, _, h, _ => by simp at h
  | some _ :: ks, [], _, _, _, _, _, _, h, _ => by simp at h
  | none :: ks, _ :: os, ρ, i, 0, o, nd, h, _, _ => by simp at h
  | none :: ks, _ :: os, ρ, i, j + 1, o, nd, h, h2, hl => by
    unfold wback
    exact wback_in (by simpa using nd) (by simpa using h) (by simpa using h2) hl
  | some i' :: ks, o' :: os, ρ, i, 0, o, nd, h, h2, hl => by
    simp at h h2
    subst h h2
    unfold wback
    have nd' : (i' :: ks.filterMap id).Nodup := by simpa using nd
    rw [wback_out, List.getElem?_set_self hl]
    intro z
    exact (List.nodup_cons.mp nd').1 (List.mem_filterMap.mpr ⟨_, z, rfl⟩)
  | some i' :: ks, o' :: os, ρ, i, j + 1, o, nd, h, h2, hl => by
    unfold wback
    have nd' : (i' :: ks.filterMap id).Nodup := by simpa using nd
    exact wback_in (List.nodup_cons.mp nd').2 (by simpa using h) (by simpa using h2) (by rw [List.length_set]; exact hl)
theorem ks_inj : ∀ {ks : List (Option Nat)} {i j j' : Nat}, (ks.filterMap id).Nodup → ks[j]? = some (some i) → ks[j']? = some (some i) → j = j'
  | [], _, _, _, _, h, _ => by simp at h
  | none :: ks, i, 0, _, nd, h, _ => by simp at h
  | none :: ks, i, _ + 1, 0, nd, _, h => by simp at h
  | none :: ks, i, j + 1, j' + 1, nd, h, h' => by
    have := ks_inj (ks := ks) (i := i) (j := j) (j' := j') (by simpa using nd) (by simpa using h) (by simpa using h')
    omega
  | some a :: ks, i, 0, 0, nd, _, _ => rfl
  | some a :: ks, i, 0, j' + 1, nd, h, h' => by
    have nd' : (a :: ks.filterMap id).Nodup := by simpa using nd
    simp at h
    subst h
    exact absurd (List.mem_filterMap.mpr ⟨some a, List.mem_of_getElem? (by simpa using h'), rfl⟩ : a ∈ ks.filterMap id) (List.nodup_cons.mp nd').1
  | some a :: ks, i, j + 1, 0, nd, h, h' => by
    have nd' : (a :: ks.filterMap id).Nodup := by simpa using nd
    simp at h'
    subst h'
    exact absurd (List.mem_filterMap.mpr ⟨some a, List.mem_of_getElem? (by simpa using h), rfl⟩ : a ∈ ks.filterMap id) (List.nodup_cons.mp nd').1
  | some a :: ks, i, j + 1, j' + 1, nd, h, h' => by
    have nd' : (a :: ks.filterMap id).Nodup := by simpa using nd
    have := ks_inj (ks := ks) (i := i) (j := j) (j' := j') (List.nodup_cons.mp nd').2 (by simpa using h) (by simpa using h')
    omega
section
variable {K : Fg} {S : Sg} {B : Base} {σ : Sts} {F H : Hp} {ρ : Ev}
/-- what is known of the arguments at the call -/
theorem argL_get : ∀ {ks : List (Option Nat)} {vs : List V} {ds as : List D}, ArgL K σ F ks vs ds → resolve ρ ks ds = some as → vs.length = ks.length ∧ as.length = ks.length ∧
    ∀ (j : Nat) (d : D), as[j]? = some d → (ks[j]? = some none ∧ ∃ v, vs[j]? = some v ∧ Rp K F v d) ∨ (∃ i v, ks[j]? = some (some i) ∧ vs[j]? = some v ∧ σ[i]? = some (some v) ∧ rd ρ i = some d)
  | _, _, _, _, .nil, h => by
    cases h
    exact ⟨rfl, rfl, fun j d e => by simp at e⟩
  | _, _, _, _, .val (ks := ks) (ds := ds) r h, e => by
    unfold resolve at e
    obtain ⟨as', e1, rfl⟩ := Option.map_eq_some_iff.mp e
    obtain ⟨l1, l2, at_⟩ := argL_get h e1
    refine ⟨by simp [l1], by simp [l2], fun j d e2 => ?_⟩
    cases j with
    | zero =>
      simp at e2
      subst e2
      exact .inl ⟨rfl, _, rfl, r⟩
    | succ j => simpa using at_ j d (by simpa using e2)
  | _, _, _, _, .lent (i := i) (v := v) (ks := ks) (ds := ds) hv h, e => by
    unfold resolve at e
    obtain ⟨x, e0, e⟩ := Option.bind_eq_some_iff.mp e
    obtain ⟨as', e1, rfl⟩ := Option.map_eq_some_iff.mp e
    obtain ⟨l1, l2, at_⟩ := argL_get h e1
    refine ⟨by simp [l1], by simp [l2], fun j d e2 => ?_⟩
    cases j with
    | zero =>
      simp at e2
      subst e2
      exact .inr ⟨i, v, rfl, rfl, hv, e0⟩
    | succ j => simpa using at_ j d (by simpa using e2)
def callB (os : List Bool) (vs : List V) (as : List D) (F H : Hp) : Base := ⟨fun a => ∃ j, Held (sgOf os) (vs.map some) H (as.map some) j a, fun _ => False, F, H, vs.map some, []⟩
variable {os : List Bool}
theorem own_ks {ks : List (Option Nat)} {j : Nat} (hk : os = ks.map Option.isSome) : own (sgOf os) j = true ↔ ∃ i, ks[j]? = some (some i) := by
  rw [sgOf_own, hk, List.getD_eq_getElem?_getD, List.getElem?_map]
  cases e : ks[j]? with
  | none => simp
  | some o => cases o <;> simp
theorem heldP {vs : List V} {as : List D} {j : Nat} {a : Addr} (h : Held (sgOf os) (vs.map some) H (as.map some) j a) : own (sgOf os) j = true ∧ (∃ d, as[j]? = some d) ∧ vs[j]? = some (.ref a) := by
  obtain ⟨k, ⟨d, e⟩, c, e1, h⟩ := h
  have hc : a = c := by
    rcases h with z | ⟨z, _⟩
    · exact z
    · rw [sgOf_deep] at z; cases z
  subst hc
  rw [List.getElem?_map] at e e1
  obtain ⟨d', e, e'⟩ := Option.map_eq_some_iff.mp e
  obtain ⟨v', e1, e1'⟩ := Option.map_eq_some_iff.mp e1
  cases e1'
  exact ⟨k, ⟨d', e⟩, e1⟩
theorem call_start {ks : List (Option Nat)} {vs : List V} {ds as : List D} (I : SInv K S B σ F H ρ) (hA : ArgL K σ F ks vs ds) (hr : resolve ρ ks ds = some as) (hk : os = ks.map Option.isSome) (ho : ks.all (fun k => k.all (fun i => knd S i == 1)) = true) (nd : (ks.filterMap id).Nodup) :
    vs.length = os.length ∧ SInv K (sgOf os) (callB os vs as F H) (vs.map some) F H (as.map some) := by
  obtain ⟨l1, l2, at_⟩ := argL_get hA hr
  have own_of : ∀ {j i : Nat}, ks[j]? = some (some i) → knd S i = 1 := fun {j i} e => by
    have := List.all_eq_true.mp ho _ (List.mem_of_getElem? e)
    simpa using this
  have pick : ∀ {j : Nat} {a : Addr}, Held (sgOf os) (vs.map some) H (as.map some) j a → ∃ i, ks[j]? = some (some i) ∧ Held S σ H ρ i a := fun {j a} h => by
    obtain ⟨k, ⟨d, e⟩, e1⟩ := heldP h
    rcases at_ j d e with ⟨ek, _⟩ | ⟨i, v, ek, ev, es, er⟩
    · obtain ⟨i, ei⟩ := (own_ks (j := j) hk).mp k
      rw [ek] at ei; cases ei
    · rw [ev] at e1
      cases e1
      exact ⟨i, ek, I.topHeld (own_of1 (own_of ek)) ⟨d, rd_some er⟩ es⟩
  have hl : os.length = ks.length := by rw [hk, List.length_map]
  refine ⟨by omega, by simp [l1, l2], I.same, ⟨Same.refl _, fun _ _ e _ => e, fun _ e => e, fun _ _ e => .inl e, (nofun : ∀ p ∈ ([] : List NdefX.NTab), _), (nofun : ∀ p ∈ ([] : List NdefX.NTab), _), (nofun : ∀ p ∈ ([] : List NdefX.NTab), _)⟩, fun j d e k => ?_, fun j d e k => ?_, fun j j' a h1 h2 => ?_, fun j d e k => absurd k sgOf_ne3, fun _ _ _ => rfl, rfl⟩
  · rw [List.getElem?_map] at e
    obtain ⟨d', e, e'⟩ := Option.map_eq_some_iff.mp e
    cases e'
    rcases at_ j d e with ⟨_, v, ev, r⟩ | ⟨i, v, ek, _⟩
    · exact ⟨v, by rw [List.getElem?_map, ev]; rfl, r⟩
    · have := (own_ks (j := j) hk).mpr ⟨i, ek⟩
      rw [own_of0 k] at this; cases this
  · have e0 := e
    rw [List.getElem?_map] at e
    obtain ⟨d', e, e'⟩ := Option.map_eq_some_iff.mp e
    cases e'
    rcases at_ j d e with ⟨ek, _⟩ | ⟨i, v, ek, ev, es, er⟩
    · obtain ⟨i, ei⟩ := (own_ks (j := j) hk).mp k
      rw [ek] at ei; cases ei
    · obtain ⟨a, e1, w⟩ := own_lst I (own_of ek) er
      rw [es] at e1
      cases e1
      have e2 : (vs.map some)[j]? = some (some (V.ref a)) := by rw [List.getElem?_map, ev]; rfl
      refine ⟨a, [], e2, ⟨by simp, by rw [sgOf_knd, if_pos (by rw [← sgOf_own]; exact k)]; exact ⟨rfl, w⟩⟩, fun b hb => ?_⟩
      have : b = a := by simpa using hb
      subst this
      exact .inl ⟨⟨j, k, ⟨d, e0⟩, b, e2, .inl rfl⟩, fun hz => absurd (List.getElem?_eq_some_iff.mp ev).1 (by have : (sgOf os).np = os.length := rfl; omega)⟩
  · obtain ⟨i, ei, hi⟩ := pick h1
    obtain ⟨i', ei', hi'⟩ := pick h2
    have := I.nd i i' a hi hi'
    subst this
    exact ks_inj nd ei ei'
theorem call_back2 {ks : List (Option Nat)} {vs : List V} {ds as : List D} {F' H' : Hp} {zs : Ev} (I : SInv K S B σ F H ρ) (hA : ArgL K σ F ks vs ds) (hr : resolve ρ ks ds = some as) (hk : os = ks.map Option.isSome) (ho : ks.all (fun k => k.all (fun i => knd S i == 1)) = true) (nd : (ks.filterMap id).Nodup)
    (b : Back K (sgOf os) (callB os vs as F H) vs F' H' zs) : SInv K S B σ F' H' (wback ks zs ρ) ∧ ∀ i c, Held S σ H' (wback ks zs ρ) i c → Held S σ H ρ i c := by
  obtain ⟨l1, l2, at_⟩ := argL_get hA hr
  have own_of : ∀ {j i : Nat}, ks[j]? = some (some i) → knd S i = 1 := fun {j i} e => by
    have := List.all_eq_true.mp ho _ (List.mem_of_getElem? e)
    simpa using this
  -- a lent list stands at its slot
  have lent : ∀ {j i : Nat}, ks[j]? = some (some i) → ∃ a d, σ[i]? = some (some (.ref a)) ∧ Held S σ H ρ i a ∧ vs[j]? = some (.ref a) ∧ as[j]? = some d ∧ ρ[i]? = some (some d) := fun {j i} e => by
    have hj : j < as.length := by rw [l2]; exact (List.getElem?_eq_some_iff.mp e).1
    obtain ⟨d, ed⟩ : ∃ d, as[j]? = some d := ⟨as[j], by simp [hj]⟩
    rcases at_ j d ed with ⟨ek, _⟩ | ⟨i', v, ek, ev, es, er⟩
    · rw [e] at ek; cases ek
    · rw [e] at ek
      cases ek
      obtain ⟨a, e1, w⟩ := own_lst I (own_of e) er
      rw [es] at e1
      cases e1
      exact ⟨a, d, es, I.topHeld (own_of1 (own_of e)) ⟨d, rd_some er⟩ es, ev, ed, rd_some er⟩
  have isO : ∀ {a : Addr}, (callB os vs as F H).O a → ∃ j i, ks[j]? = some (some i) ∧ Held S σ H ρ i a := fun {a} ⟨j, h⟩ => by
    obtain ⟨k, _, e1⟩ := heldP h
    obtain ⟨i, ei⟩ := (own_ks (j := j) hk).mp k
    obtain ⟨a', d, _, h, ev, _⟩ := lent ei
    rw [ev] at e1
    cases e1
    exact ⟨j, i, ei, h⟩
  have hs' : ∀ b o, H b = some o → ¬ (callB os vs as F H).O b → H' b = some o := b.ext.hs
  -- what is not lent stays
  have stay : ∀ {i c}, some i ∉ ks → Held S σ H ρ i c → H' c = H c ∧ F' c = none := fun {i c} hi h => by
    obtain ⟨hF, hH, _⟩ := I.heldAt h
    have nO : ¬ (callB os vs as F H).O c := fun z => by
      obtain ⟨j, i', hj, h'⟩ := isO z
      have := I.nd i i' c h h'
      subst this
      exact hi (List.mem_iff_getElem?.mpr ⟨j, hj⟩)
    obtain ⟨o, eo⟩ := Option.ne_none_iff_exists'.mp hH
    refine ⟨by rw [eo]; exact hs' c o eo nO, ?_⟩
    cases z : F' c with
    | none => rfl
    | some o =>
      rcases b.ext.fr c o z with y | y | y
      · have y : F c = some o := y
        rw [hF] at y; cases y
      · have y : H c = none := y
        exact absurd y hH
      · exact y.elim
  have set_ : ∀ (i : Nat), (∃ d, (wback ks zs ρ)[i]? = some (some d)) → ∃ d, ρ[i]? = some (some d) := fun i ⟨d, e⟩ => by
    by_cases hi : some i ∈ ks
    · obtain ⟨j, hj⟩ := List.mem_iff_getElem?.mp hi
      obtain ⟨_, d, _, _, _, _, er⟩ := lent hj
      exact ⟨d, er⟩
    · rw [wback_out hi] at e; exact ⟨d, e⟩
  have slot : ∀ {i : Nat} {c : Addr}, Held S σ H' (wback ks zs ρ) i c → Held S σ H ρ i c := fun {i c} ⟨k, hd, a, e1, h⟩ => by
    refine ⟨k, set_ i hd, a, e1, ?_⟩
    rcases h with h | ⟨dp, xs, e2, m⟩
    · exact .inl h
    · by_cases hi : some i ∈ ks
      · obtain ⟨j, hj⟩ := List.mem_iff_getElem?.mp hi
        rw [deep_of1 (own_of hj)] at dp; cases dp
      · exact .inr ⟨dp, xs, by rw [← (stay hi (I.topHeld k (set_ i hd) e1)).1]; exact e2, m⟩
  refine ⟨?_, fun i c h => slot h⟩
  refine ⟨by rw [wback_len]; exact I.len, b.same, ⟨I.ext.fs.trans b.ext.fs, fun c o e n => ?_, fun c e => I.ext.st c (b.ext.st c e), fun c o e => ?_, tabs_keep I.ext.tb fun c o e n => hs' c o e fun z => (let ⟨_, _, _, h⟩ := isO z; n (I.heldSoft h o e)), I.ext.to, fun q hq => ?_⟩, fun i d e k => ?_, fun i d e k => ?_, fun i j a h1 h2 => I.nd i j a (slot h1) (slot h2), fun i d e k => ?_, I.pin, I.ts⟩
  · refine hs' c o (I.ext.hs c o e n) fun z => ?_
    obtain ⟨j, i, _, h⟩ := isO z
    rcases I.out h with q | q
    · exact n q.1
    · rw [q] at e; cases e
  · rcases b.ext.fr c o e with q | q | q
    · exact I.ext.fr c o q
    · exact .inr (.inl (I.ext.st c q))
    · exact q.elim
  · obtain ⟨ps, ep⟩ := tabs_at I.ext.tb hq
    cases z : F' q.1 with
    | none => rfl
    | some o =>
      rcases b.ext.fr _ o z with y | y | y
      · have y : F q.1 = some o := y
        rw [I.ext.tf q hq] at y; cases y
      · have y : H q.1 = none := y
        rw [ep] at y; cases y
      · exact y.elim
  · have hi : some i ∉ ks := fun z => by
      obtain ⟨j, hj⟩ := List.mem_iff_getElem?.mp z
      rw [own_of hj] at k; cases k
    rw [wback_out hi] at e
    obtain ⟨v, e1, r⟩ := I.sh i d e k
    exact ⟨v, e1, r.up b.ext.fs⟩
  · by_cases hi : some i ∈ ks
    · obtain ⟨j, hj⟩ := List.mem_iff_getElem?.mp hi
      obtain ⟨a, d0, es, h, ev, _, er⟩ := lent hj
      obtain ⟨d', eo, w⟩ := b.ow j a ((own_ks hk).mpr ⟨i, hj⟩) ev
      have hil : i < ρ.length := (List.getElem?_eq_some_iff.mp er).1
      rw [wback_in nd hj eo hil] at e
      cases e
      refine ⟨a, [], es, ⟨by simp, by rw [own_of hj]; exact ⟨rfl, w⟩⟩, fun c hc => ?_⟩
      have : c = a := by simpa using hc
      subst this
      exact I.out h
    · rw [wback_out hi] at e
      obtain ⟨a, bs, e1, w, q⟩ := I.ow i d e k
      exact ⟨a, bs, e1, w.up b.ext.fs fun c hc => by
        have hh := (w.held (S := S) k e e1 c).mpr hc
        obtain ⟨s1, s2⟩ := stay hi hh
        exact ⟨s2, fun o z => by rw [s1]; exact z⟩, q⟩
  · have hi : some i ∉ ks := fun z => by
      obtain ⟨j, hj⟩ := List.mem_iff_getElem?.mp z
      rw [own_of hj] at k; cases k
    rw [wback_out hi] at e
    obtain ⟨l, kk, c, c', xs, x', f1, f2, f3, f4, f5, f6, f7, f8⟩ := I.al i d e k
    have hl : some l ∉ ks := fun z => by
      obtain ⟨j, hj⟩ := List.mem_iff_getElem?.mp z
      rw [deep_of1 (own_of hj)] at f2; cases f2
    exact ⟨l, kk, c, c', xs, x', f1, f2, f3, by rw [wback_out hl]; exact f4, f5, by rw [(stay hl (I.topHeld (own_of2 (deep_knd f2)) ⟨x', f4⟩ f5)).1]; exact f6, f7, f8⟩
theorem call_back {ks : List (Option Nat)} {vs : List V} {ds as : List D} {F' H' : Hp} {zs : Ev} (I : SInv K S B σ F H ρ) (hA : ArgL K σ F ks vs ds) (hr : resolve ρ ks ds = some as) (hk : os = ks.map Option.isSome) (ho : ks.all (fun k => k.all (fun i => knd S i == 1)) = true) (nd : (ks.filterMap id).Nodup)
    (b : Back K (sgOf os) (callB os vs as F H) vs F' H' zs) : SInv K S B σ F' H' (wback ks zs ρ) := (call_back2 I hA hr hk ho nd b).1
end
section
variable {X : Cx} {W : WX} {S : Sg} {os : List Bool} {pos p : Pos} {e : Expr} {es : List Expr} {ks : List (Option Nat)} {ms : Ev → Out (List D)} {k : Nat} {f : Addr} {fd : FuncData} {ps : List Str} {x : Str} {m : List D → Out D}
theorem me_call (Fn : FnQ gq X.prog X.w X.K X.mg X.base k f fd ps (spM X.K X.mg os m)) (hr : RoomQ gq k X.A) (hg : Gl X x) (hm : X.mg x = some (.ref f)) (hk : PySem.W.keepIn X.K (.ref f) = true) (hb : Binds X.K fd ps []) (tk : Takes X W)
    (ha : MAc X W S (e :: es) ks ms) (h1 : os = ks.map Option.isSome) (h3 : ks.all (fun k => k.all (fun i => knd S i == 1)) = true) (h4 : (ks.filterMap id).Nodup) (hdb : (x == ("__debug__" : Str)) = false := by decide) (he : starEach (e :: es) X.env = (false, eval e X.env) :: starEach es X.env := by rfl) (hpl : (backTo pos (starEach es X.env)).any (·.1) = false := by rfl) :
    ME X W S (.Call (.Name x p) (e :: es) [] pos) (mCallD m ks ms) := by
  obtain ⟨t, pt, q⟩ := ha.ex
  refine ⟨_, pe_callG Fn hr hg hm hk hb (fun σ => passAt tk σ) pt hdb he hpl, fun B F H σ ρ Q I h => ?_⟩
  refine q B F H σ ρ _ I ((Sat.bind h).mono (fun ds ρ1 h1' F1 H1 vs I1 s1 r1 => ?_) fun _ _ z => z)
  obtain ⟨as, e1, h5⟩ := sat_of (Sat.bind h1')
  obtain ⟨hl, J⟩ := call_start I1 r1 e1 h1 h3 h4
  refine ⟨_, F1, as, hl, J, ?_⟩
  cases e2 : m as with
  | bad => rw [e2] at h5; exact h5.elim
  | ok d os =>
    rw [e2] at h5
    exact fun F' H' v b s' r => h5 F' H' v (call_back I1 r1 e1 h1 h3 h4 b) (s1.trans s') r
  | err c os =>
    rw [e2] at h5
    exact fun F' H' C b s' hC => h5 F' H' C (call_back I1 r1 e1 h1 h3 h4 b) (s1.trans s') hC
end
end MW
namespace MW
open PySem PySem.Spec PyProof.Rows L2
mutual
/-- no list anywhere -/
def noList : D → Bool
  | .list _ => false
  | .tuple ds => noLists ds
  | .dict ps => noListK ps
  | _ => true
def noLists : List D → Bool
  | [] => true
  | d :: ds => noList d && noLists ds
def noListK : List (D × D) → Bool
  | [] => true
  | (_, d) :: ps => noList d && noListK ps
end
section
variable {X : Cx} {pins : List (Addr × Obj)} {σ : Sts} {H : Hp} {s : Shared}
mutual
theorem Rp.reads (I : Inv X pins σ H s) : ∀ {v : V} {d : D} {u : Value}, Rp X.K H v d → RelV v u → ∃ as, Reads s.heap u d as ∧ (noList d = true → sysModules ∉ as)
  | _, _, _, .non, r => by
    cases r
    exact ⟨[], .none, fun _ => List.not_mem_nil⟩
  | _, _, _, .bl b, r => by
    cases r
    exact ⟨[], .bool b, fun _ => List.not_mem_nil⟩
  | _, _, _, .int i, r => by
    obtain ⟨t, rfl⟩ := r
    exact ⟨[], .int i t, fun _ => List.not_mem_nil⟩
  | _, _, _, .str x, r => by
    obtain ⟨t, rfl⟩ := r
    exact ⟨[], .str x t, fun _ => List.not_mem_nil⟩
  | _, _, _, .lst h rr, r => by
    cases r
    obtain ⟨its, rv, ⟨o, n, g, c, _, dt⟩, _⟩ := I.list (.inl h)
    obtain ⟨as, q, _⟩ := RpL.reads I rr rv
    exact ⟨_, .list g c dt q, fun z => by simp [noList] at z⟩
  | _, _, _, .tup h rr, r => by
    cases r
    obtain ⟨its, rv, ⟨o, g, c, n, dt⟩, _⟩ := I.tuple h.sq
    obtain ⟨as, q, k⟩ := RpL.reads I rr rv
    exact ⟨_, .tuple g c dt q, fun z => k (by simpa [noList] using z)⟩
  | _, _, _, .dct h rr, r => by
    cases r
    obtain ⟨_, hs, vs, kv, o, es, ep, g, c, dt, _, ps, _⟩ := dk_rd I.hok (.inr ⟨_, h⟩)
    obtain ⟨as, bs, q1, q2, ha, k⟩ := RpK.reads I rr kv ps
    refine ⟨_, .dict g c.1 dt q1 q2, fun z => ?_⟩
    have hb := k (by simpa [noList] using z)
    simp only [List.cons_append, List.mem_cons, List.mem_append, not_or]
    exact ⟨fun e => by rw [← e] at hs; simp at hs, by rw [ha]; exact List.not_mem_nil, hb⟩
theorem RpL.reads (I : Inv X pins σ H s) : ∀ {vs : List V} {ds : List D} {us : List Value}, RpL X.K H vs ds → Vals vs us → ∃ as, ReadsAll s.heap us ds as ∧ (noLists ds = true → sysModules ∉ as)
  | _, _, _, .nil, r => by
    cases r
    exact ⟨[], .nil, fun _ => List.not_mem_nil⟩
  | _, _, _, .cons h rr, r => by
    cases r with
    | cons r1 r2 =>
      obtain ⟨as, q1, k1⟩ := Rp.reads I h r1
      obtain ⟨bs, q2, k2⟩ := RpL.reads I rr r2
      refine ⟨_, .cons q1 q2, fun z => ?_⟩
      simp only [noLists, Bool.and_eq_true] at z
      simp only [List.mem_append, not_or]
      exact ⟨k1 z.1, k2 z.2⟩
theorem RpK.reads (I : Inv X pins σ H s) : ∀ {kvs : List (L2.Key × V)} {ps : List (D × D)} {vs : List (L2.Key × Value)} {es : List DictEntry}, RpK X.K H kvs ps → KV kvs vs → Pairs (mixKind X.prog X.w) es vs →
    ∃ as bs, ReadsAll s.heap (es.map (·.key)) (ps.map (·.1)) as ∧ ReadsAll s.heap (es.map (·.val)) (ps.map (·.2)) bs ∧ as = [] ∧ (noListK ps = true → sysModules ∉ bs)
  | _, _, _, _, .nil, kv, p => by
    cases kv
    cases p
    exact ⟨[], [], .nil, .nil, rfl, fun _ => List.not_mem_nil⟩
  | _, _, _, _, .cons h rr, kv, p => by
    cases kv with
    | cons r1 r2 =>
      cases p with
      | cons p1 p2 p3 =>
        obtain ⟨e1, r1⟩ := r1
        obtain ⟨as, bs, q1, q2, ha, k⟩ := RpK.reads I rr r2 p3
        obtain ⟨cs, q3, k3⟩ := Rp.reads I h (p2 ▸ r1)
        rename_i k0 v0 _ _ _ kv0 _ en _
        have key : Reads s.heap en.key (keyD k0) [] := by
          have e1 : k0 = kv0.1 := e1
          rw [← e1] at p1
          rcases keyIs_shape p1 with ⟨i, t, z1, z2⟩ | ⟨x, t, z1, z2⟩
          · rw [z1, z2]; exact .int i t
          · rw [z1, z2]; exact .str x t
        refine ⟨_, _, .cons key q1, .cons q3 q2, by rw [ha]; rfl, fun z => ?_⟩
        simp only [noListK, Bool.and_eq_true] at z
        simp only [List.mem_append, not_or]
        exact ⟨k3 z.1, k z.2⟩
end
end
def plainB (d : D) : Bool := d.plain && decide (d.depth ≤ 64)
end MW
namespace MW
open PySem PySem.Spec PyProof.Rows L2
mutual
theorem Rp.dp {K : Fg} {H : Hp} : ∀ {v : V} {d : D}, Rp K H v d → d.canLay0 = true → Dp K H v d
  | _, _, .non, _ => .non
  | _, _, .bl b, _ => .bl b
  | _, _, .int i, _ => .int i
  | _, _, .str x, _ => .str x
  | _, _, .lst h r, c => .lst (.inl h) (RpL.dp r (by simpa [PyData.canLay0] using c))
  | _, _, .tup h r, c => .tup h.sq (RpL.dp r (by simpa [PyData.canLay0] using c))
  | _, _, .dct h r, c => by simp [PyData.canLay0] at c
theorem RpL.dp {K : Fg} {H : Hp} : ∀ {vs : List V} {ds : List D}, RpL K H vs ds → PyData.canLayAll0 ds = true → DpAll K H vs ds
  | _, _, .nil, _ => .nil
  | _, _, .cons h r, c => by
    simp only [PyData.canLayAll0, Bool.and_eq_true] at c
    exact .cons (Rp.dp h c.1) (RpL.dp r c.2)
end
section
variable {X : Cx}
def rCatR : R2 := fun x y H Q => ∃ l b xs zs, x = .ref l ∧ y = .ref b ∧ Rd H l (.lst xs) ∧ Rd H b (.lst zs) ∧ xs.length + zs.length ≤ sizeLine ∧ ∀ p, H p = none → Q (.ref p) (upd H p (.lst (xs ++ zs)))
theorem op_catR : OpR X (binaryOp .Add) rCatR := by
  intro pins s σ H x y v u Q I rx ry h
  obtain ⟨l, b, xs, zs, rfl, rfl, hH, hB, hz, q⟩ := h
  cases rx
  cases ry
  obtain ⟨z, its, n, r, e⟩ := hH.ok I.hok
  obtain ⟨z2, its2, n2, r2, e2⟩ := hB.ok I.hok
  have hl := r.length
  have hl2 := r2.length
  refine PySem.P.add_list e e2 ?_ (by rw [List.size_toArray, List.size_toArray]; omega)
  have ea : its.toArray ++ its2.toArray = (its ++ its2).toArray := by simp
  rw [ea]
  exact ⟨.ref _, _, I.lnew (t' := s.toks) (r.append r2) (by rw [List.length_append]; omega), rfl, q _ I.fresh⟩
def rRepR : R2 := fun x y H Q => ∃ l k xs, x = .ref l ∧ y = .int k ∧ Rd H l (.lst xs) ∧ -(2 ^ 63) ≤ k ∧ k < 2 ^ 63 ∧ xs.length * k.toNat ≤ sizeLine ∧
  ∀ p, H p = none → Q (.ref p) (upd H p (.lst (List.replicate k.toNat xs).flatten))
theorem op_repR : OpR X (binaryOp .Mult) rRepR := by
  intro pins s σ H x y v u Q I rx ry h
  obtain ⟨l, k, xs, rfl, rfl, hH, h1, h2, hz, q⟩ := h
  cases rx
  obtain ⟨t, rfl⟩ := ry
  obtain ⟨z, its, n, r, e⟩ := hH.ok I.hok
  have hl := r.length
  have hlen : its.toArray.size * k.toNat ≤ sizeLine := by rw [List.size_toArray, ← hl]; exact hz
  have hcap : ¬ its.toArray.size * k.toNat > (2 ^ 63 - 1) / 8 := by
    have : (sizeLine : Nat) ≤ (2 ^ 63 - 1) / 8 := by decide
    omega
  have hfit : ¬ (!Builtin.List.listFitsIndex k) = true := by
    rw [fitsIndex_both h1 h2]
    exact Bool.false_ne_true
  have hlong : ¬ Builtin.List.listTooLong (its.toArray.size * k.toNat) = true := by
    rw [notLongL hlen]
    exact Bool.false_ne_true
  have hnew : List.foldl (fun x1 x2 => x1 ++ x2) #[] (List.replicate (if its.toArray.isEmpty = true then 0 else k.toNat) its.toArray) = (List.replicate k.toNat its).flatten.toArray := by
    have f0 : ∀ m : Nat, List.foldl (fun x1 x2 => x1 ++ x2) #[] (List.replicate m its.toArray) = (List.replicate m its).flatten.toArray := fun m => by
      have := foldl_rep its m []
      rw [List.nil_append] at this
      exact this
    rw [f0]
    cases its with
    | nil => simp
    | cons a r' => rw [if_neg (by simp)]
  refine wpAny_binaryOp_repeat_ref (T := "list") (U := "int") (by decide) ⟨_, e, rfl⟩ (fun s' => typeIs_int s' k t) noFill_list_mul F.fills_int_mul F.slot_int_rmul repeat_list F.slot_int_index.lookup
    (call_meets F.slot_int_rmul (typeIs_int s k t) F.entry_int_rmul (F.args_int_rmul_2 _ _) (int___rmul___int_list k t l its.toArray n)
      ⟨e, rfl, ⟨_, e, rfl⟩, call_meets F.slot_list_mul ⟨_, e, rfl⟩ F.entry_list_mul (F.args_list_mul_2 _ _) (AutoListH.list___mul___list_int_3 l its.toArray n k t hfit hcap hlong) ⟨e, ?_⟩⟩)
  rw [hnew]
  exact ⟨.ref _, _, I.lnew (t' := s.toks) (r.rep k.toNat) (by rw [PyProof.Rows.lm_len_rep_flat, Nat.mul_comm]; exact hz), rfl, q _ I.fresh⟩
end
def gAdd : D → D → Option D
  | .int i, .int j => some (.int (i + j))
  | .list xs, .list ys => if xs.length + ys.length ≤ 16777216 then some (.list (xs ++ ys)) else none
  | .tuple xs, .tuple ys => if xs.length + ys.length ≤ 16777216 then some (.tuple (xs ++ ys)) else none
  | .str x, .str y => if x.length + y.length ≤ 16777216 then some (.str (x ++ y)) else none
  | _, _ => none
def gSub : D → D → Option D
  | .int i, .int j => some (.int (i - j))
  | _, _ => none
def gMul : D → D → Option D
  | .int i, .int j => if (-18446744073709551616 < i ∧ i < 18446744073709551616) ∨ (-18446744073709551616 < j ∧ j < 18446744073709551616) then some (.int (i * j)) else none
  | .list xs, .int k => if k ≤ 100000 ∧ -100000 ≤ k ∧ xs.length ≤ 100 then some (.list (List.replicate k.toNat xs).flatten) else none
  | _, _ => none
def gMod : D → D → Option D
  | .int i, .int j => if 0 < j then some (.int (i % j)) else none
  | _, _ => none
def gDiv : D → D → Option D
  | .int i, .int j => if 0 < j ∧ j < 1073741824 then some (.int (i / j)) else none
  | _, _ => none
def gPow : D → D → Option D
  | .int i, .int j => if 0 ≤ j ∧ j ≤ 1000000 ∧ i.natAbs < 18446744073709551616 then some (.int (i ^ j.toNat)) else none
  | _, _ => none
def gNeg : D → Option D
  | .int i => some (.int (-i))
  | _ => none
theorem RpL.rep {K : Fg} {F : Hp} {xs : List V} {ds : List D} (r : RpL K F xs ds) : ∀ n : Nat, RpL K F (List.replicate n xs).flatten (List.replicate n ds).flatten
  | 0 => .nil
  | n + 1 => by
    rw [List.replicate_succ, List.replicate_succ, List.flatten_cons, List.flatten_cons]
    exact r.app (r.rep n)
section
variable {X : Cx} {W : WX} {S : Sg} {a b : Expr} {pos : Pos} {ma mb : Ev → Out D}
def rCatM (K : Fg) : R2 := fun x y H Q => ∃ a b xs ys, x = .ref a ∧ y = .ref b ∧ SqT K H a xs ∧ SqT K H b ys ∧ xs.length + ys.length ≤ sizeLine ∧
  (xs = [] → Q (.ref b) H) ∧ (xs ≠ [] → ys = [] → Q (.ref a) H) ∧ (xs ≠ [] → ys ≠ [] → ∀ (p : Addr) (o : Obj), o.dict = none → H p = none → Q (.ref p) (upd H p (.frz o (.tup (xs ++ ys)))))
theorem op_catM : OpR X (binaryOp .Add) (rCatM X.K) := by
  intro pins s σ H x y v u Q I rx ry ⟨a, b, xs, ys, ex, ey, ha, hb, hz, q0, q1, q2⟩
  by_cases hx : xs = []
  · exact op_catA pins s σ H x y v u Q I rx ry ⟨a, b, xs, ys, ex, ey, ha, hb, hz, q0, q1, fun z => absurd hx z⟩
  by_cases hy : ys = []
  · exact op_catA pins s σ H x y v u Q I rx ry ⟨a, b, xs, ys, ex, ey, ha, hb, hz, q0, q1, fun _ z => absurd hy z⟩
  subst ex ey
  cases rx
  cases ry
  obtain ⟨us, r1, p1, _⟩ := I.tuple ha
  obtain ⟨ws, r2, p2, _⟩ := I.tuple hb
  exact HT.cat_tup p1 p2 (fun z => hx (r1.nil_iff.mp z)) (fun z => absurd (r2.nil_iff.mp z) hy) (fun _ => mkT I (r1.append r2) (by rw [List.length_append]; exact hz) (q2 hx hy)) (by rw [← r1.length, ← r2.length]; exact hz)
theorem opd_add : OpD X (fun x y H Q => rI0 (fun i j => .int (i + j)) x y H Q ∨ rCatR x y H Q ∨ rCatM X.K x y H Q ∨ ∃ i j, x = .str i ∧ y = .str j ∧ i.length + j.length ≤ sizeLine ∧ Q (.str (i ++ j)) H) gAdd := by
  intro S B F H σ ρ Q x y d e z I rx ry hz k
  have hsz := sizeLine_eq
  unfold gAdd at hz
  split at hz
  · cases hz
    exact .inl ⟨_, _, rx.int, ry.int, k.now I (.int _)⟩
  · split at hz
    · cases hz
      obtain ⟨p, xs, rfl, h1, r1⟩ := rx.lst I.same
      obtain ⟨q, ys, rfl, h2, r2⟩ := ry.lst I.same
      exact .inr (.inl ⟨p, q, xs, ys, rfl, rfl, h1, h2, by rw [r1.len, r2.len]; omega, fun p hp => k.lst I (r1.app r2) hp⟩)
    · cases hz
  · split at hz
    · cases hz
      obtain ⟨p, xs, rfl, h1, r1⟩ := rx.tup I.same
      obtain ⟨q, ys, rfl, h2, r2⟩ := ry.tup I.same
      rename_i xs' ys' hl
      have l1 := r1.len
      have l2 := r2.len
      refine .inr (.inr (.inl ⟨p, q, xs, ys, rfl, rfl, h1, h2, by omega, fun e => ?_, fun e e' => ?_, fun _ _ p o ho hp => k.tup I (r1.app r2) ho hp⟩))
      · subst e
        cases r1
        refine k.now I ?_
        rcases ry with ry | ⟨_, _, _, _, e2, _⟩
        · exact ry
        · cases e2
      · subst e'
        cases r2
        refine k.now I ?_
        rw [List.append_nil]
        rcases rx with rx | ⟨_, _, _, _, e2, _⟩
        · exact rx
        · cases e2
    · cases hz
  · split at hz
    · cases hz
      exact .inr (.inr (.inr ⟨_, _, rx.str, ry.str, by omega, k.now I (.str _)⟩))
    · cases hz
  · cases hz
theorem me_add (ha : ME X W S a ma) (hb : ME X W S b mb) : ME X W S (.BinOp a .Add b pos) (mBin gAdd ma mb) := me_op (op_add.or (op_catR.or (op_catM.or op_add_str))) opd_add ha hb
theorem opd_sub : OpD X (rI0 fun i j => .int (i - j)) gSub := by
  intro S B F H σ ρ Q x y d e z I rx ry hz k
  unfold gSub at hz
  split at hz
  · cases hz
    exact ⟨_, _, rx.int, ry.int, k.now I (.int _)⟩
  · cases hz
theorem me_sub (ha : ME X W S a ma) (hb : ME X W S b mb) : ME X W S (.BinOp a .Sub b pos) (mBin gSub ma mb) := me_op op_sub opd_sub ha hb
theorem opd_mul : OpD X (fun x y H Q => rI CMul (fun i j => .int (i * j)) x y H Q ∨ rRepR x y H Q ) gMul := by
  intro S B F H σ ρ Q x y d e z I rx ry hz k
  have hsz := sizeLine_eq
  unfold gMul at hz
  split at hz
  · split at hz
    · cases hz
      refine .inl ⟨_, _, rx.int, ry.int, ?_, k.now I (.int _)⟩
      unfold CMul
      omega
    · cases hz
  · split at hz
    · cases hz
      rename_i xs' j hj
      obtain ⟨p, xs, rfl, h1, r1⟩ := rx.lst I.same
      refine .inr ⟨p, _, xs, rfl, ry.int, h1, by omega, by omega, ?_, fun p hp => k.lst I (r1.rep _) hp⟩
      have l1 := r1.len
      have h100 : xs.length ≤ 100 := by omega
      have hk : j.toNat ≤ 100000 := by omega
      calc xs.length * j.toNat ≤ 100 * 100000 := Nat.mul_le_mul h100 hk
        _ ≤ sizeLine := by rw [hsz]; decide
    · cases hz
  · cases hz
theorem me_mul (ha : ME X W S a ma) (hb : ME X W S b mb) : ME X W S (.BinOp a .Mult b pos) (mBin gMul ma mb) := me_op (op_mul.or op_repR) opd_mul ha hb
theorem opd_mod : OpD X (rI (fun _ j => 0 < j) fun i j => .int (i % j)) gMod := by
  intro S B F H σ ρ Q x y d e z I rx ry hz k
  unfold gMod at hz
  split at hz
  · split at hz
    · cases hz
      rename_i h
      exact ⟨_, _, rx.int, ry.int, h, k.now I (.int _)⟩
    · cases hz
  · cases hz
theorem me_mod (ha : ME X W S a ma) (hb : ME X W S b mb) : ME X W S (.BinOp a .Mod b pos) (mBin gMod ma mb) := me_op op_mod opd_mod ha hb
theorem opd_div : OpD X (rI CDiv fun i j => .int (i / j)) gDiv := by
  intro S B F H σ ρ Q x y d e z I rx ry hz k
  unfold gDiv at hz
  split at hz
  · split at hz
    · cases hz
      rename_i h
      exact ⟨_, _, rx.int, ry.int, h, k.now I (.int _)⟩
    · cases hz
  · cases hz
theorem me_div (ha : ME X W S a ma) (hb : ME X W S b mb) : ME X W S (.BinOp a .FloorDiv b pos) (mBin gDiv ma mb) := me_op op_fdiv opd_div ha hb
theorem opd_pow : OpD X (rI CPow fun i j => .int (i ^ j.toNat)) gPow := by
  intro S B F H σ ρ Q x y d e z I rx ry hz k
  unfold gPow at hz
  split at hz
  · split at hz
    · cases hz
      rename_i h
      exact ⟨_, _, rx.int, ry.int, ⟨h.1, h.2.1, by have := h.2.2; omega⟩, k.now I (.int _)⟩
    · cases hz
  · cases hz
theorem me_pow (ha : ME X W S a ma) (hb : ME X W S b mb) : ME X W S (.BinOp a .Pow b pos) (mBin gPow ma mb) := me_op op_pow opd_pow ha hb
theorem opd_neg : OpD1 X (rU fun i => .int (-i)) gNeg := by
  intro S B F H σ ρ Q x d z I rx hz k
  unfold gNeg at hz
  split at hz
  · cases hz
    exact ⟨_, rx.int, k.now I (.int _)⟩
  · cases hz
theorem me_neg (ha : ME X W S a ma) : ME X W S (.UnaryOp .USub a pos) (mUn gNeg ma) := me_un un_neg opd_neg ha
/-- texts with signs of any kind -/
def sEq : D → D → Option Bool
  | .str a, .str b => some (decide (a = b))
  | _, _ => none
/-- data without dicts, texts among it -/
def pEq (d e : D) : Option Bool := if plainB d = true ∧ plainB e = true then some (PyData.eqv d e) else none
def bEq (d e : D) : Option Bool := if SeqAt.shaped d = true ∧ SeqAt.shaped e = true then some (PyData.eqv d e) else (sEq d e).or (pEq d e)
def bNe (d e : D) : Option Bool := if SeqAt.shaped d = true ∧ SeqAt.shaped e = true then some (!PyData.eqv d e) else ((sEq d e).or (pEq d e)).map not
def bLt : D → D → Option Bool
  | .int i, .int j => some (decide (i < j))
  | _, _ => none
def bLe : D → D → Option Bool
  | .int i, .int j => some (decide (i ≤ j))
  | _, _ => none
def bGt : D → D → Option Bool
  | .int i, .int j => some (decide (j < i))
  | _, _ => none
def bGe : D → D → Option Bool
  | .int i, .int j => some (decide (j ≤ i))
  | _, _ => none
def bIs : D → D → Option Bool
  | .none, .none => some true
  | _, .none => some false
  | .bool a, .bool b => some (decide (a = b))
  | _, _ => none
def flatD : D → Bool
  | .none => true
  | .bool _ => true
  | .int _ => true
  | .str _ => true
  | _ => false
def vOf : D → V
  | .bool b => .bl b
  | .int i => .int i
  | .str x => .str x
  | _ => .non
theorem rp_flat {K : Fg} {F : Hp} {v : V} {d : D} (r : Rp K F v d) (h : flatD d = true) : v = vOf d ∧ flatV v = true := by
  cases r <;> first | exact ⟨rfl, rfl⟩ | cases h
def eqF (d e : D) : Bool := eqV (vOf d) (vOf e)
theorem rpL_flat {K : Fg} {F : Hp} : ∀ {xs : List V} {ds : List D}, RpL K F xs ds → ds.all flatD = true → xs = ds.map vOf ∧ xs.all flatV = true
  | _, _, .nil, _ => ⟨rfl, rfl⟩
  | _, _, .cons r rr, h => by
    rw [List.all_cons, Bool.and_eq_true] at h
    obtain ⟨e1, f1⟩ := rp_flat r h.1
    obtain ⟨e2, f2⟩ := rpL_flat rr h.2
    exact ⟨by rw [e1, e2]; rfl, by rw [List.all_cons, f1, f2]; rfl⟩
def bIn : D → D → Option Bool := fun d e => match e with
  | .list ds => if SeqAt.shaped d = true ∧ SeqAt.shaped (.list ds) = true then some (ds.any fun z => PyData.eqv z d) else none
  | .tuple ds => if flatD d = true ∧ ds.all flatD = true then some (ds.any fun y => eqF y d) else none
  | _ => none
def bNotIn (d e : D) : Option Bool := (bIn d e).map not
abbrev gB (g : D → D → Option Bool) : D → D → Option D := fun d e => (g d e).map PyData.bool
theorem shaped_lay {d : D} (h : SeqAt.shaped d = true) : d.canLay0 = true := by
  unfold SeqAt.shaped at h
  simp only [Bool.and_eq_true] at h
  exact h.1
def rEqP (K : Fg) : R2 := fun x y H Q => ∃ d e, Rp K H x d ∧ Rp K H y e ∧ plainB d = true ∧ plainB e = true ∧ Q (.bl (PyData.eqv d e)) H
def rNeP (K : Fg) : R2 := fun x y H Q => ∃ d e, Rp K H x d ∧ Rp K H y e ∧ plainB d = true ∧ plainB e = true ∧ Q (.bl (!PyData.eqv d e)) H
theorem plain_room {d e : D} {A : Around} (h : plainB d = true) (hu : A.units + 64 < cLine) : A.units + min d.depth e.depth < cLine := by
  unfold plainB at h
  simp only [Bool.and_eq_true, decide_eq_true_eq] at h
  omega
theorem plain_of {d : D} (h : plainB d = true) : d.plain = true := by
  unfold plainB at h
  simp only [Bool.and_eq_true] at h
  exact h.1
theorem op_eqP (hu : X.A.units + 64 < cLine) : OpR X (compareOp .Eq) (rEqP X.K) := by
  intro pins s σ H x y v u Q I rx ry h
  obtain ⟨d, e, hd, he, sd, se, q⟩ := h
  obtain ⟨as, r1, _⟩ := Rp.reads I hd rx
  obtain ⟨bs, r2, _⟩ := Rp.reads I he ry
  exact SeqAt.eq_plain r1 r2 (plain_of sd) (plain_of se) (plain_room sd hu) ⟨.bl _, H, I, rfl, q⟩
theorem op_neP (hu : X.A.units + 64 < cLine) : OpR X (compareOp .NotEq) (rNeP X.K) := by
  intro pins s σ H x y v u Q I rx ry h
  obtain ⟨d, e, hd, he, sd, se, q⟩ := h
  obtain ⟨as, r1, _⟩ := Rp.reads I hd rx
  obtain ⟨bs, r2, _⟩ := Rp.reads I he ry
  exact SeqAt.ne_plain r1 r2 (plain_of sd) (plain_of se) (plain_room sd hu) ⟨.bl _, H, I, rfl, q⟩
abbrev rEqM (K : Fg) : R2 := fun x y H Q => (rEqD K x y H Q ∨ rEq x y H Q) ∨ rEqP K x y H Q
abbrev rNeM (K : Fg) : R2 := fun x y H Q => (rNeD K x y H Q ∨ rNe x y H Q) ∨ rNeP K x y H Q
theorem op_eqM (hu : X.A.units + 64 < cLine) : OpR X (compareOp .Eq) (rEqM X.K) := ((op_eqD hu).or op_eq).or (op_eqP hu)
theorem op_neM (hu : X.A.units + 64 < cLine) : OpR X (compareOp .NotEq) (rNeM X.K) := ((op_neD hu).or op_ne).or (op_neP hu)
theorem opb_eq : OpB X (rEqM X.K) bEq := by
  intro S B F H σ ρ x y d e z Q I rx ry hz k
  unfold bEq at hz
  split at hz
  · cases hz
    rename_i h
    exact .inl (.inl ⟨d, e, (rx.full I.same).dp (shaped_lay h.1), (ry.full I.same).dp (shaped_lay h.2), h.1, h.2, k⟩)
  · rcases Option.or_eq_some_iff.mp hz with hz | ⟨_, hz⟩
    · unfold sEq at hz
      split at hz
      · cases hz
        rw [rx.str, ry.str]
        refine .inl (.inr ⟨rfl, ?_⟩)
        rename_i a b _
        rw [show decide (V.str a = V.str b) = decide (a = b) by simp]
        exact k
      · cases hz
    · unfold pEq at hz
      split at hz
      · cases hz
        rename_i h
        exact .inr ⟨d, e, rx.full I.same, ry.full I.same, h.1, h.2, k⟩
      · cases hz
theorem opb_ne : OpB X (rNeM X.K) bNe := by
  intro S B F H σ ρ x y d e z Q I rx ry hz k
  unfold bNe at hz
  split at hz
  · cases hz
    rename_i h
    exact .inl (.inl ⟨d, e, (rx.full I.same).dp (shaped_lay h.1), (ry.full I.same).dp (shaped_lay h.2), h.1, h.2, k⟩)
  · obtain ⟨z0, hy, rfl⟩ := Option.map_eq_some_iff.mp hz
    clear hz
    rcases Option.or_eq_some_iff.mp hy with hz | ⟨_, hz⟩
    · unfold sEq at hz
      split at hz
      · cases hz
        rw [rx.str, ry.str]
        refine .inl (.inr ⟨rfl, ?_⟩)
        rename_i a b _
        first
          | (rw [show decide (V.str a = V.str b) = decide (a = b) by simp]; exact k)
          | (rw [show decide (V.str a ≠ V.str b) = !decide (a = b) by simp]; exact k)
      · cases hz
    · unfold pEq at hz
      split at hz
      · cases hz
        rename_i h
        exact .inr ⟨d, e, rx.full I.same, ry.full I.same, h.1, h.2, k⟩
      · cases hz
theorem opb_lt : OpB X (rI0 fun i j => .bl (decide (i < j))) bLt := by
  intro S B F H σ ρ x y d e z Q I rx ry hz k
  unfold bLt at hz
  split at hz
  · cases hz; exact ⟨_, _, rx.int, ry.int, k⟩
  · cases hz
theorem opb_le : OpB X (rI0 fun i j => .bl (decide (i ≤ j))) bLe := by
  intro S B F H σ ρ x y d e z Q I rx ry hz k
  unfold bLe at hz
  split at hz
  · cases hz; exact ⟨_, _, rx.int, ry.int, k⟩
  · cases hz
theorem opb_gt : OpB X (rI0 fun i j => .bl (decide (j < i))) bGt := by
  intro S B F H σ ρ x y d e z Q I rx ry hz k
  unfold bGt at hz
  split at hz
  · cases hz; exact ⟨_, _, rx.int, ry.int, k⟩
  · cases hz
theorem op_le : OpR X (compareOp .LtE) (rI0 fun i j => .bl (decide (i ≤ j))) := opB0 fun _ _ _ _ _ _ _ q => le_int q
theorem op_gt : OpR X (compareOp .Gt) (rI0 fun i j => .bl (decide (j < i))) := opB0 fun _ _ _ _ _ _ _ q => gt_int q
theorem rp_non {K : Fg} {F : Hp} {v : V} {d : D} (r : Rp K F v d) : decide (v = .non) = match d with | .none => true | _ => false := by
  cases r <;> first | rfl | simp
theorem opb_is : OpB X (fun x y H Q => (y = .non ∧ Q (.bl (decide (x = .non))) H) ∨ ∃ a b, x = .bl a ∧ y = .bl b ∧ Q (.bl (decide (a = b))) H) bIs := by
  intro S B F H σ ρ x y d e z Q I rx ry hz k
  unfold bIs at hz
  split at hz
  · cases hz
    refine .inl ⟨ry.non, ?_⟩
    rw [rp_non (rx.full I.same)]
    exact k
  · cases hz
    refine .inl ⟨ry.non, ?_⟩
    rename_i hn
    rw [rp_non (rx.full I.same)]
    split
    · exact absurd rfl hn
    · exact k
  · cases hz
    exact .inr ⟨_, _, rx.bl, ry.bl, k⟩
  · cases hz
theorem in_flat {K : Fg} {S : Sg} {B : Base} {F H : Hp} {σ : Sts} {ρ : Ev} {x y : V} {d : D} {ds : List D} {Q : VK} (neg : Bool) (I : SInv K S B σ F H ρ) (rx : RpS K F H x d) (ry : RpS K F H y (.tuple ds)) (h : flatD d = true ∧ ds.all flatD = true) (k : Q (.bl (if neg = true then !ds.any (fun y => eqF y d) else ds.any fun y => eqF y d)) H) : rIn K neg x y H Q := by
  obtain ⟨a, xs, rfl, h1, h2⟩ := ry.tup I.same
  have rx' : Rp K F x d := by
    rcases rx with r | ⟨a, xs, es, e1, e2, _⟩
    · exact r
    · subst e2; exact absurd h.1 (by simp [flatD])
  obtain ⟨e1, f1⟩ := rp_flat rx' h.1
  obtain ⟨e2, f2⟩ := rpL_flat h2 h.2
  refine ⟨a, xs, rfl, .inr h1, f1, f2, ?_⟩
  have : inV x xs = ds.any fun y => eqF y d := by
    rw [e1, e2]
    unfold inV
    rw [List.any_map]
    rfl
  rw [this]
  exact k
theorem op_notInM (hu : X.A.units + 65 < cLine) : OpR X (compareOp .NotIn) (fun x y H Q => rNotInD X.K x y H Q ∨ rIn X.K true x y H Q) := (op_notInD hu).or op_notIn_seq
theorem opb_notIn : OpB X (fun x y H Q => rNotInD X.K x y H Q ∨ rIn X.K true x y H Q) bNotIn := by
  intro S B F H σ ρ x y d e z Q I rx ry hz k
  obtain ⟨z', hz', rfl⟩ := Option.map_eq_some_iff.mp hz
  unfold bIn at hz'
  split at hz'
  · split at hz'
    · cases hz'
      rename_i h
      exact .inl ⟨d, _, (rx.full I.same).dp (shaped_lay h.1), (ry.full I.same).dp (shaped_lay h.2), h.1, h.2, k⟩
    · cases hz'
  · split at hz'
    · cases hz'
      rename_i h
      exact .inr (in_flat true I rx ry h k)
    · cases hz'
  · cases hz'
end
end MW
namespace MW
open PySem PySem.Spec PyProof.Rows L2
section
variable {K : Fg} {S : Sg} {B : Base} {σ : Sts} {F H F' H' : Hp} {ρ : Ev}
theorem OwLs.app {bs cs : List Addr} {ds es : List D} (h : OwLs K F H bs ds) (h' : OwLs K F H cs es) : OwLs K F H (bs ++ cs) (ds ++ es) := by
  induction bs generalizing ds with
  | nil => cases h; exact h'
  | cons b bs ih => cases h with | cons h r => exact .cons h (ih r)
theorem OwLs.set {bs : List Addr} {ds : List D} {n : Nat} {b : Addr} {xs : List V} {es : List D} (h : OwLs K F H bs ds) (nd : bs.Nodup) (eb : bs[n]? = some b) (r : RpL K F xs es) : OwLs K F (upd H b (.lst xs)) bs (ds.set n (.list es)) := by
  induction bs generalizing ds n with
  | nil => cases h; exact .nil
  | cons c cs ih =>
    cases h with
    | cons w h =>
      obtain ⟨nc, nd'⟩ := List.nodup_cons.mp nd
      cases n with
      | zero =>
        simp at eb
        subst eb
        refine .cons ?_ (h.up (Same.refl _) fun c' hc => ?_)
        · obtain ⟨_, _, _, f, _, _⟩ := w
          exact ⟨xs, es, rfl, f, upd_same, r⟩
        · have hne : c' ≠ c := fun z => nc (z ▸ hc)
          obtain ⟨k, hk⟩ := List.mem_iff_getElem?.mp hc
          obtain ⟨_, _, _, _, _, f, _, _⟩ := h.gets hk
          exact ⟨f, fun o q => by rw [upd_ne hne]; exact q⟩
      | succ n =>
        have eb' : cs[n]? = some b := by simpa using eb
        have hb : b ∈ cs := List.mem_of_getElem? eb'
        have hne : c ≠ b := fun z => nc (z ▸ hb)
        refine .cons (w.up (Same.refl _) ?_ fun o q => by rw [upd_ne hne]; exact q) (ih h nd' eb')
        obtain ⟨_, _, _, f, _, _⟩ := w
        exact f
end
def tML (K : Fg) (mg : Str → Option Value) (W : WX) (S : Sg) (m : Ev → Out (List D)) : TE := fun σ H Q => ∃ B F ρ, SInv K S B σ F H ρ ∧ Sat (m ρ) (LKo K S B σ F Q) (fun c ρ' => ∀ F' H' C, SInv K S B σ F' H' ρ' → Same F F' → mg c = some (.ref C) → W (.ref C) none σ H')
theorem ML.run {X : Cx} {W : WX} {S : Sg} {e : Expr} {m : Ev → Out (List D)} (h : ML X W S e m) : PE X e (tML X.K X.mg W S m) := by
  obtain ⟨t, p, q⟩ := h.ex
  exact ⟨fun pins s σ H Q I ⟨B, F, ρ, J, z⟩ => p.run pins s σ H Q I (q B F H σ ρ Q J z)⟩
end MW
namespace MW
open PySem PySem.Spec PyProof.Rows L2
section
variable {X : Cx} {W : WX} {S : Sg} {pos : Pos}
def gIx : D → D → Option D
  | .list ds, .int i => atI ds i
  | .tuple ds, .int i => atI ds i
  | _, _ => none
theorem atI_rp {K : Fg} {F : Hp} {xs : List V} {ds : List D} {i : Int} {d : D} (r : RpL K F xs ds) (e : atI ds i = some d) : ∃ v, atI xs i = some v ∧ Rp K F v d := by
  unfold atI at e ⊢
  rw [r.len]
  obtain ⟨j, e1, e2⟩ := Option.bind_eq_some_iff.mp e
  obtain ⟨v, e3, q⟩ := r.get e2
  exact ⟨v, by rw [e1]; exact e3, q⟩
end
end MW
namespace MW
open PySem PySem.Spec PyProof.Rows L2
section
variable {X : Cx} {W : WX} {S : Sg} {a b c : Expr} {pos : Pos} {ma mb mc : Ev → Out D}
theorem opd_ix : OpD X (rIx X.K) gIx := by
  intro S B F H σ ρ Q x y d e z I rx ry hz k
  unfold gIx at hz
  split at hz
  · obtain ⟨p, xs, rfl, h1, r1⟩ := rx.lst I.same
    obtain ⟨v, e1, rv⟩ := atI_rp r1 hz
    exact .inl ⟨p, xs, _, v, rfl, ry.int, .inl h1, e1, k.now I rv⟩
  · obtain ⟨p, xs, rfl, h1, r1⟩ := rx.tup I.same
    obtain ⟨v, e1, rv⟩ := atI_rp r1 hz
    exact .inr (.inl ⟨p, xs, _, v, rfl, ry.int, h1, e1, k.now I rv⟩)
  · cases hz
theorem me_at (ha : ME X W S a ma) (hb : ME X W S b mb) (hs : PlainIx b) : ME X W S (.Subscript a b pos) (mBin gIx ma mb) := me_ix ix_seq opd_ix ha hb hs
theorem me_atO (i : Nat) {x : Str} {p : Pos} (k : knd S i = 1) (hb : ME X W S b mb) (hs : PlainIx b) (hv : PE X (.Name x p) (tVar i)) : ME X W S (.Subscript (.Name x p) b pos) (mOwnBin gIx i mb) := me_ixO i ix_seq opd_ix k hb hs hv
theorem me_eq (hu : X.A.units + 64 < cLine) (ha : ME X W S a ma) (hb : ME X W S b mb) : ME X W S (.Compare a [.Eq] [b] pos) (mBin (gB bEq) ma mb) := me_cmp (op_eqM hu) opb_eq.opD ha hb (nomark _)
theorem me_is (ha : ME X W S a ma) (hb : ME X W S b mb) : ME X W S (.Compare a [.Is] [b] pos) (mBin (gB bIs) ma mb) := me_cmp (op_isN.or op_isBl) opb_is.opD ha hb (nomark _)
theorem mt_eq (hu : X.A.units + 64 < cLine) (ha : ME X W S a ma) (hb : ME X W S b mb) : MT X W S (.Compare a [.Eq] [b] pos) (mTest bEq ma mb) := mt_cmp (op_eqM hu) opb_eq ha hb (nomark _)
theorem mt_ne (hu : X.A.units + 64 < cLine) (ha : ME X W S a ma) (hb : ME X W S b mb) : MT X W S (.Compare a [.NotEq] [b] pos) (mTest bNe ma mb) := mt_cmp (op_neM hu) opb_ne ha hb (nomark _)
theorem mt_lt (ha : ME X W S a ma) (hb : ME X W S b mb) : MT X W S (.Compare a [.Lt] [b] pos) (mTest bLt ma mb) := mt_cmp op_lt opb_lt ha hb (nomark _)
theorem mt_gt (ha : ME X W S a ma) (hb : ME X W S b mb) : MT X W S (.Compare a [.Gt] [b] pos) (mTest bGt ma mb) := mt_cmp op_gt opb_gt ha hb (nomark _)
theorem mt_is (ha : ME X W S a ma) (hb : ME X W S b mb) : MT X W S (.Compare a [.Is] [b] pos) (mTest bIs ma mb) := mt_cmp (op_isN.or op_isBl) opb_is ha hb (nomark _)
theorem mt_leLe (ha : ME X W S a ma) (hb : ME X W S b mb) (hc : ME X W S c mc) (hm : lastMarks [.LtE, .LtE] [b, c] = false := by with_unfolding_all rfl) : MT X W S (.Compare a [.LtE, .LtE] [b, c] pos) (mChainT bLe bLe ma mb mc) := mt_chain op_le op_le opb_le opb_le ha hb hc hm
theorem me_leLt (ha : ME X W S a ma) (hb : ME X W S b mb) (hc : ME X W S c mc) (hm : lastMarks [.LtE, .Lt] [b, c] = false := by with_unfolding_all rfl) : ME X W S (.Compare a [.LtE, .Lt] [b, c] pos) (mOfB (mChainT bLe bLt ma mb mc)) := me_chain op_le op_lt opb_le opb_lt ha hb hc hm
end
def gLen : List D → Option D
  | [.list ds] => some (.int ds.length)
  | [.tuple ds] => some (.int ds.length)
  | [.str x] => if x.length ≤ 16777216 then some (.int x.length) else none
  | _ => none
def intD : D → Option Int
  | .int i => some i
  | _ => none
def intsD (ds : List D) : Option (List Int) := ds.mapM intD
def boolD : D → Option Bool
  | .bool b => some b
  | _ => none
def boolsD (ds : List D) : Option (List Bool) := ds.mapM boolD
theorem intsD_eq : ∀ {ds : List D} {ns : List Int}, intsD ds = some ns → ds = ns.map .int
  | [], ns, h => by
    simp [intsD] at h
    subst h; rfl
  | d :: ds, ns, h => by
    simp only [intsD, List.mapM_cons, Option.bind_eq_bind, Option.bind_eq_some_iff] at h
    obtain ⟨i, hi, ms, hm, e⟩ := h
    cases e
    cases d <;> cases hi
    rw [List.map_cons, ← intsD_eq (show intsD ds = some ms from hm)]
theorem boolsD_eq : ∀ {ds : List D} {ns : List Bool}, boolsD ds = some ns → ds = ns.map .bool
  | [], ns, h => by
    simp [boolsD] at h
    subst h; rfl
  | d :: ds, ns, h => by
    simp only [boolsD, List.mapM_cons, Option.bind_eq_bind, Option.bind_eq_some_iff] at h
    obtain ⟨i, hi, ms, hm, e⟩ := h
    cases e
    cases d <;> cases hi
    rw [List.map_cons, ← boolsD_eq (show boolsD ds = some ms from hm)]
theorem rpL_ints {K : Fg} {F : Hp} : ∀ {xs : List V} {ns : List Int}, RpL K F xs (ns.map .int) → xs = ns.map V.int
  | _, [], h => by cases h; rfl
  | _, n :: ns, h => by
    cases h with
    | cons a r => cases a; rw [rpL_ints r]; rfl
theorem rpL_bools {K : Fg} {F : Hp} : ∀ {xs : List V} {ns : List Bool}, RpL K F xs (ns.map .bool) → xs = ns.map V.bl
  | _, [], h => by cases h; rfl
  | _, n :: ns, h => by
    cases h with
    | cons a r => cases a; rw [rpL_bools r]; rfl
def maxI : List Int → Int
  | [] => 0
  | x :: xs => xs.foldl (fun m y => if m < y then y else m) x
theorem foldl_max : ∀ (xs : List Int) (m : Int), (xs.foldl (fun m y => if m < y then y else m) m = m ∨ xs.foldl (fun m y => if m < y then y else m) m ∈ xs) ∧ m ≤ xs.foldl (fun m y => if m < y then y else m) m ∧ ∀ y ∈ xs, y ≤ xs.foldl (fun m y => if m < y then y else m) m
  | [], m => ⟨.inl rfl, Int.le_refl _, fun _ h => by cases h⟩
  | x :: xs, m => by
    have ih := foldl_max xs (if m < x then x else m)
    rw [List.foldl_cons]
    obtain ⟨h1, h2, h3⟩ := ih
    refine ⟨?_, ?_, fun y hy => ?_⟩
    · rcases h1 with h | h
      · rw [h]
        split
        · exact .inr List.mem_cons_self
        · exact .inl rfl
      · exact .inr (List.mem_cons_of_mem _ h)
    · refine Int.le_trans ?_ h2
      split <;> omega
    · rcases List.mem_cons.mp hy with z | z
      · subst z
        refine Int.le_trans ?_ h2
        split <;> omega
      · exact h3 y z
theorem maxI_mem {xs : List Int} (h : xs ≠ []) : maxI xs ∈ xs := by
  cases xs with
  | nil => exact absurd rfl h
  | cons x xs =>
    rcases (foldl_max xs x).1 with z | z
    · show xs.foldl _ x ∈ _
      rw [z]; exact List.mem_cons_self
    · exact List.mem_cons_of_mem _ z
theorem le_maxI {xs : List Int} {y : Int} (h : y ∈ xs) : y ≤ maxI xs := by
  cases xs with
  | nil => cases h
  | cons x xs =>
    rcases List.mem_cons.mp h with z | z
    · subst z; exact (foldl_max xs y).2.1
    · exact (foldl_max xs x).2.2 y z
theorem maxI_eq {xs : List Int} {m : Int} (h : m ∈ xs) (h' : ∀ y ∈ xs, y ≤ m) : m = maxI xs := by
  have h1 := le_maxI h
  have h2 := h' _ (maxI_mem (List.ne_nil_of_mem h))
  omega
def gMax : List D → Option D
  | [.int i, .int j] => some (.int (if j > i then j else i))
  | [.list ds] => (intsD ds).bind fun ns => if ns = [] then none else some (.int (maxI ns))
  | [.tuple ds] => (intsD ds).bind fun ns => if ns = [] then none else some (.int (maxI ns))
  | _ => none
def gAll : List D → Option D
  | [.list ds] => (boolsD ds).map fun ns => .bool (ns.all id)
  | _ => none
def gListOf : List D → Option (List D)
  | [.list ds] => some ds
  | [.tuple ds] => some ds
  | _ => none
def gTupleOf : List D → Option D
  | [.list ds] => some (.tuple ds)
  | [.tuple ds] => some (.tuple ds)
  | _ => none
section
variable {X : Cx}
theorem seen1 {K : Fg} {F H : Hp} {xs : List V} {d : D} (r : RpSs K F H xs [d]) : ∃ x, xs = [x] ∧ RpS K F H x d := by
  cases r with
  | cons r rr => cases rr; exact ⟨_, rfl, r⟩
theorem seen2 {K : Fg} {F H : Hp} {xs : List V} {d e : D} (r : RpSs K F H xs [d, e]) : ∃ x y, xs = [x, y] ∧ RpS K F H x d ∧ RpS K F H y e := by
  cases r with
  | cons r rr =>
    obtain ⟨y, rfl, r'⟩ := seen1 rr
    exact ⟨_, _, rfl, r, r'⟩
theorem cd_len : CallD X (fun xs H Q => (∃ p ys, xs = [.ref p] ∧ (SqL X.K H p ys ∨ SqT X.K H p ys) ∧ Q (.int ys.length) H) ∨ (∃ z, xs = [.str z] ∧ z.length ≤ sizeLine ∧ Q (.int z.length) H) ∨ ∃ a kvs, xs = [V.ref a] ∧ H a = some (.dK kvs) ∧ Q (.int kvs.length) H) gLen := by
  intro S B F H σ ρ Q xs ds z I r hz k
  have hsz := sizeLine_eq
  unfold gLen at hz
  split at hz
  · cases hz
    obtain ⟨x, rfl, rx⟩ := seen1 r
    obtain ⟨p, ys, rfl, h1, r1⟩ := rx.lst I.same
    refine .inl ⟨p, ys, rfl, .inl (.inl h1), ?_⟩
    rw [r1.len]; exact k.now I (.int _)
  · cases hz
    obtain ⟨x, rfl, rx⟩ := seen1 r
    obtain ⟨p, ys, rfl, h1, r1⟩ := rx.tup I.same
    refine .inl ⟨p, ys, rfl, .inr h1, ?_⟩
    rw [r1.len]; exact k.now I (.int _)
  · split at hz
    · cases hz
      obtain ⟨x, rfl, rx⟩ := seen1 r
      exact .inr (.inl ⟨_, by rw [rx.str], by omega, k.now I (.int _)⟩)
    · cases hz
  · cases hz
theorem max_tup {prog : Program} {w : World} {A : Around} {E : Value → Shared → Prop} {s : Shared} {l : Addr} {its : List Value} {ns : List Int} {Q : Value → Shared → Prop} (hh : A.handled = none) (hl : s.heap.IsTuple l its.toArray) (hi : IntsAre its ns) (hne : 0 < ns.length)
    (h : ∀ h' tk M t', (∀ b o, s.heap.get? b = some o → h'.get? b = some o) → M ∈ ns → (∀ a, a ∈ ns → a ≤ M) → Q (.int M t') { s with heap := h', toks := tk }) : wpAny (model prog w) A (call (.builtin "max") [.ref l]) Q E s := by
  obtain ⟨xs, e⟩ := hi.allInts.items
  have hn : numsOf (intItems xs).toList = ns := by rw [← e]; exact hi.numsOf
  rw [nums_intItems] at hn
  subst hn
  rw [e] at hl
  have hsz : 0 < xs.size := by simpa using hne
  have hlt : l < s.heap.objs.size := by obtain ⟨_, e, _⟩ := hl; exact Heap.lt_size e
  refine call_max_walk (wpAny_pyIter_tuple hl ?_)
  refine ⟨_, _, _, _, _, _, _, rfl, Walks.tuple (A := A.in1) hh s.heap.objs.size l (Nat.ne_of_lt hlt) (intItems xs), ⟨⟨_, Heap.get?_push_size _ rfl, rfl, rfl⟩, hl.at fun o e => Heap.get?_push_of_some _ e⟩, fun b hb => ?_, by simpa [intItems] using hsz, CmpOf.ints_gt (numAt xs) (fun _ _ => intItems_at), fun v h' tk hP hk => ?_⟩
  · show b < (s.heap.push _).objs.size
    rw [Heap.size_push]
    rcases List.mem_cons.mp hb with rfl | hb
    · exact Nat.lt_succ_self _
    · rcases List.mem_cons.mp hb with rfl | hb
      · exact Nat.lt_succ_of_lt hlt
      · cases hb
  · have hv : (intItems xs)[argBest (fun i j => decide (numAt xs i > numAt xs j)) (xs.size - 1)]? = some v := by simpa [intItems] using hP
    obtain ⟨t, rfl⟩ := intItems_at hv
    obtain ⟨h1, h2⟩ := argBest_gt (numAt xs) (xs.size - 1)
    refine h h' tk _ t (fun b o e => hk b o (fun hm => ?_) (Heap.get?_push_of_some _ e)) ?_ fun a ha => ?_
    · rcases List.mem_cons.mp hm with e1 | hm
      · exact absurd (e1 ▸ Heap.lt_size e) (Nat.lt_irrefl _)
      · cases hm
    · rw [numAt_eq]; exact PySem.getD_mem (by rw [List.length_map, Array.length_toList]; omega)
    · obtain ⟨j, hj, rfl⟩ := mem_getD ha
      rw [List.length_map, Array.length_toList] at hj
      rw [← numAt_eq]; exact h2 j (by omega)
def rMaxT (K : Fg) : List V → Hp → VK → Prop := fun vs H Q => ∃ (a : Addr) (ns : List Int), vs = [V.ref a] ∧ SqT K H a (ns.map V.int) ∧ 0 < ns.length ∧ ∀ m, m ∈ ns → (∀ y, y ∈ ns → y ≤ m) → Q (.int m) H
theorem cr_maxT (hc : X.calm = true) : CallR X (.builtin "max") (rMaxT X.K) := by
  intro pins s σ H vs us Q I r h
  obtain ⟨a, ns, rfl, hs, hne, q⟩ := h
  obtain ⟨its, rv, hl, _⟩ := I.tuple hs
  rw [Vals.ref1 r]
  exact max_tup (I.ok.hd hc) hl rv.ints hne fun h' tk m t' hk h1 h2 => ⟨.int _, H, I.kept hk, ⟨_, rfl⟩, q m h1 h2⟩
theorem cd_max : CallD X (fun xs H Q => (∃ i j, xs = [.int i, .int j] ∧ Q (.int (if j > i then j else i)) H) ∨ rMax X.K xs H Q ∨ rMaxT X.K xs H Q) gMax := by
  intro S B F H σ ρ Q xs ds z I r hz k
  unfold gMax at hz
  split at hz
  · cases hz
    obtain ⟨x, y, rfl, rx, ry⟩ := seen2 r
    exact .inl ⟨_, _, by rw [rx.int, ry.int], k.now I (.int _)⟩
  · obtain ⟨ns, e, hz⟩ := Option.bind_eq_some_iff.mp hz
    split at hz
    · cases hz
    · cases hz
      rename_i hne
      obtain ⟨x, rfl, rx⟩ := seen1 r
      obtain ⟨p, ys, rfl, h1, r1⟩ := rx.lst I.same
      rw [intsD_eq e] at r1
      rw [rpL_ints r1] at h1
      refine .inr (.inl ⟨p, ns, rfl, .inl h1, List.length_pos_iff.mpr hne, fun m hm h2 => ?_⟩)
      rw [maxI_eq hm h2]
      exact k.now I (.int _)
  · obtain ⟨ns, e, hz⟩ := Option.bind_eq_some_iff.mp hz
    split at hz
    · cases hz
    · cases hz
      rename_i hne
      obtain ⟨x, rfl, rx⟩ := seen1 r
      obtain ⟨p, ys, rfl, h1, r1⟩ := rx.tup I.same
      rw [intsD_eq e] at r1
      rw [rpL_ints r1] at h1
      refine .inr (.inr ⟨p, ns, rfl, h1, List.length_pos_iff.mpr hne, fun m hm h2 => ?_⟩)
      rw [maxI_eq hm h2]
      exact k.now I (.int _)
  · cases hz
theorem cd_all : CallD X (rAll X.K) gAll := by
  intro S B F H σ ρ Q xs ds z I r hz k
  unfold gAll at hz
  split at hz
  · obtain ⟨ns, e, rfl⟩ := Option.map_eq_some_iff.mp hz
    obtain ⟨x, rfl, rx⟩ := seen1 r
    obtain ⟨p, ys, rfl, h1, r1⟩ := rx.lst I.same
    rw [boolsD_eq e] at r1
    rw [rpL_bools r1] at h1
    exact ⟨p, ns, rfl, .inl h1, k.now I (.bl _)⟩
  · cases hz
theorem cl_list : CallL X (fun xs H Q => ∃ p ys, xs = [.ref p] ∧ (SqL X.K H p ys ∨ SqT X.K H p ys) ∧ ∀ l, H l = none → Q (.ref l) (upd H l (.lst ys))) gListOf := by
  intro S B F H σ ρ Q xs ds z I r hz k
  unfold gListOf at hz
  split at hz
  · cases hz
    obtain ⟨x, rfl, rx⟩ := seen1 r
    obtain ⟨p, ys, rfl, h1, r1⟩ := rx.lst I.same
    exact ⟨p, ys, rfl, .inl (.inl h1), fun l hl => LKo.mk k I r1 hl⟩
  · cases hz
    obtain ⟨x, rfl, rx⟩ := seen1 r
    obtain ⟨p, ys, rfl, h1, r1⟩ := rx.tup I.same
    exact ⟨p, ys, rfl, .inr h1, fun l hl => LKo.mk k I r1 hl⟩
  · cases hz
theorem call_tuple_ofM : CallR X (.type "tuple") (fun xs H Q => ∃ p ys, xs = [.ref p] ∧ ((SqL X.K H p ys ∧ ∀ (l : Addr) (o : Obj), o.dict = none → H l = none → Q (.ref l) (upd H l (.frz o (.tup ys)))) ∨ (SqT X.K H p ys ∧ Q (.ref p) H))) := by
  intro pins s σ H xs us Q I r ⟨p, ys, e, h⟩
  rcases h with ⟨hq, q⟩ | h
  · subst e
    obtain ⟨u, rfl, rx⟩ := vals1 r
    cases rx
    obtain ⟨its, rv, pl, hz⟩ := I.list hq
    have hl := rv.length
    exact call_tuple_list pl.isList (fun h' kp => mkT (s := { s with heap := h' }) (I.kept (t' := s.toks) kp) rv hz q) (by rw [List.size_toArray]; omega)
  · exact call_tuple_of pins s σ H xs us Q I r ⟨p, ys, e, .inr h⟩
theorem cd_tuple : CallD X (fun xs H Q => ∃ p ys, xs = [.ref p] ∧ ((SqL X.K H p ys ∧ ∀ (l : Addr) (o : Obj), o.dict = none → H l = none → Q (.ref l) (upd H l (.frz o (.tup ys)))) ∨ (SqT X.K H p ys ∧ Q (.ref p) H))) gTupleOf := by
  intro S B F H σ ρ Q xs ds z I r hz k
  unfold gTupleOf at hz
  split at hz
  · cases hz
    obtain ⟨x, rfl, rx⟩ := seen1 r
    obtain ⟨p, ys, rfl, h1, r1⟩ := rx.lst I.same
    exact ⟨p, ys, rfl, .inl ⟨.inl h1, fun l o ho hl => k.tup I r1 ho hl⟩⟩
  · cases hz
    obtain ⟨x, rfl, rx⟩ := seen1 r
    obtain ⟨p, ys, rfl, h1, r1⟩ := rx.tup I.same
    refine ⟨p, ys, rfl, .inr ⟨h1, ?_⟩⟩
    rcases rx with rx | ⟨_, _, _, _, e, _⟩
    · exact k.now I rx
    · cases e
  · cases hz
variable {W : WX} {S : Sg} {a e : Expr} {es : List Expr} {p pos : Pos} {ms : Ev → Out (List D)}
theorem me_len (hg : Gl X "len") (hm : X.mg "len" = none) (ha : MA X W S [e] ms) (he : starEach [e] X.env = (false, eval e X.env) :: starEach [] X.env := by rfl) (hpl : (backTo pos (starEach [] X.env)).any (·.1) = false := by rfl) : ME X W S (.Call (.Name "len" p) [e] [] pos) (mCall gLen ms) :=
  me_callV cd_len ha fun t pt => pe_callB (call_len_seq.or (call_len_str.or call_lenD)) hg hm PySem.boot_len pt (by decide) (by decide) he hpl
theorem me_max (hc : X.calm = true) (hg : Gl X "max") (hm : X.mg "max" = none) (ha : MA X W S (e :: es) ms) (hv : bootBuiltins "max" = some (.builtin "max") := by decide +kernel) (he : starEach (e :: es) X.env = (false, eval e X.env) :: starEach es X.env := by rfl) (hpl : (backTo pos (starEach es X.env)).any (·.1) = false := by rfl) : ME X W S (.Call (.Name "max" p) (e :: es) [] pos) (mCall gMax ms) :=
  me_callV cd_max ha fun t pt => pe_callB ((call_max2 hc).or ((cr_max hc).or (cr_maxT hc))) hg hm hv pt (by decide) (by decide) he hpl
theorem me_all (hc : X.calm = true) (hg : Gl X "all") (hm : X.mg "all" = none) (ha : MA X W S [e] ms) (hv : bootBuiltins "all" = some (.builtin "all") := by decide +kernel) (he : starEach [e] X.env = (false, eval e X.env) :: starEach [] X.env := by rfl) (hpl : (backTo pos (starEach [] X.env)).any (·.1) = false := by rfl) : ME X W S (.Call (.Name "all" p) [e] [] pos) (mCall gAll ms) :=
  me_callV cd_all ha fun t pt => pe_callB (cr_all hc) hg hm hv pt (by decide) (by decide) he hpl
theorem ml_list (hg : Gl X "list") (hm : X.mg "list" = none) (ha : MA X W S [e] ms) (hv : bootBuiltins "list" = some (.type "list") := by decide +kernel) (he : starEach [e] X.env = (false, eval e X.env) :: starEach [] X.env := by rfl) (hpl : (backTo pos (starEach [] X.env)).any (·.1) = false := by rfl) : ML X W S (.Call (.Name "list" p) [e] [] pos) (mCallL gListOf ms) :=
  ml_callV cl_list ha fun t pt => pe_callTy call_list_of hg hm hv pt (by decide) (by decide) he hpl
theorem me_tuple (hg : Gl X "tuple") (hm : X.mg "tuple" = none) (ha : MA X W S [e] ms) (hv : bootBuiltins "tuple" = some (.type "tuple") := by decide +kernel) (he : starEach [e] X.env = (false, eval e X.env) :: starEach [] X.env := by rfl) (hpl : (backTo pos (starEach [] X.env)).any (·.1) = false := by rfl) : ME X W S (.Call (.Name "tuple" p) [e] [] pos) (mCall gTupleOf ms) :=
  me_callV cd_tuple ha fun t pt => pe_callTy call_tuple_ofM hg hm hv pt (by decide) (by decide) he hpl
theorem me_tupleO (i : Nat) {x : Str} {p' : Pos} (k : knd S i = 1) (hvar : PE X (.Name x p') (tVar i)) (hg : Gl X "tuple") (hm : X.mg "tuple" = none) (hv : bootBuiltins "tuple" = some (.type "tuple") := by decide +kernel) (he : starEach [.Name x p'] X.env = (false, eval (.Name x p') X.env) :: starEach [] X.env := by rfl) (hpl : (backTo pos (starEach [] X.env)).any (·.1) = false := by rfl) : ME X W S (.Call (.Name "tuple" p) [.Name x p'] [] pos) (mCallO gTupleOf i) :=
  me_callO i cd_tuple k (fun t pt => pe_callTy call_tuple_ofM hg hm hv pt (by decide) (by decide) he hpl) hvar
def tyD : D → String
  | .none => "NoneType"
  | .bool _ => "bool"
  | .int _ => "int"
  | .str _ => "str"
  | .list _ => "list"
  | .tuple _ => "tuple"
  | .dict _ => "dict"
def isD (T : String) (d : D) : Bool := tyD d == T || (tyD d == "bool" && T == "int")
theorem tyX_of {K : Fg} {F H : Hp} {v : V} {d : D} (s : Same F H) (r : Rp K F v d) : TyX K H v (.type (tyD d)) := by
  cases r with
  | non => exact .base .non
  | bl b => exact .base (.bl b)
  | int i => exact .base (.int i)
  | str x => exact .base (.str x)
  | lst h r =>
    rcases rd_same s h with h | ⟨o, h⟩
    · exact .base (.lst h)
    · exact .base (.frz h)
  | tup h r =>
    rcases sqT_same s h.sq with (h | ⟨o, h⟩) | ⟨o, _, _, h, c, _⟩
    · exact .base (.tup h)
    · exact .fTuple h
    · exact .kTuple h c
  | dct h r => exact .fDict (s _ _ h)
def mIsD (T : String) (ma : Ev → Out D) : Ev → Out D := fun ρ => (ma ρ).bind fun d ρ1 => .ok (.bool (isD T d)) ρ1
theorem me_isinst {T : String} {Tn : Str} {p2 : Pos} {ma : Ev → Out D} (hg : Gl X "isinstance") (hm : X.mg "isinstance" = none) (ha : ME X W S a ma) (hgT : Gl X Tn) (hmT : X.mg Tn = none) (hvT : bootBuiltins Tn = some (.type T)) (hkT : ∀ d : D, L2.kitB (tyD d) T = some (isD T d))
    (hv : bootBuiltins "isinstance" = some (.builtin "isinstance") := by decide +kernel) (hn : Tn ≠ "__name__" := by decide) (hdT : (Tn == ("__debug__" : Str)) = false := by decide)
    (hs : starEach [a, .Name Tn p2] X.env = (false, eval a X.env) :: starEach [.Name Tn p2] X.env := by rfl) (hs2 : starEach [.Name Tn p2] X.env = (false, eval (.Name Tn p2) X.env) :: starEach [] X.env := by rfl) (hpl : (backTo pos (starEach [.Name Tn p2] X.env)).any (·.1) = false := by rfl) : ME X W S (.Call (.Name "isinstance" p) [a, .Name Tn p2] [] pos) (mIsD T ma) := by
  obtain ⟨t, pt, q⟩ := ha.ex
  refine ⟨_, pe_callB call_isi hg hm hv (pa_cons pt (pa_cons (pe_bltn (v := .ty T) hgT hmT hvT rfl hn hdT) pa_nil hs2) hs) (by decide) (by decide) hs hpl, fun B F H σ ρ Q I h => ?_⟩
  refine q B F H σ ρ _ I ((Sat.bind h).mono (fun d ρ1 h1 F1 H1 v I1 s1 r1 => ?_) fun _ _ z => z)
  exact ⟨v, .ty T, _, _, _, rfl, .ty T, tyX_of I1.same r1, kit_ty (hkT d), h1 F1 H1 _ I1 s1 (.bl _)⟩
end
end MW
namespace MW
open PySem PySem.Calls PySem.W PySem.SeqAt PyProof.Rows
end MW
namespace MW
open PySem PySem.Spec PyProof.Rows L2
variable {gq : Bool}
section
variable {X : Cx}
variable {W : WX} {S : Sg} {a b e : Expr} {es : List Expr} {p pos : Pos} {ms : Ev → Out (List D)} {ma mb : Ev → Out D}
def mBinL (g : D → D → Option (List D)) (ma mb : Ev → Out D) : Ev → Out (List D) := fun ρ => (ma ρ).bind fun d ρ1 => (mb ρ1).bind fun e ρ2 => Out.of (g d e) ρ2
def lAdd : D → D → Option (List D)
  | .list xs, .list ys => if xs.length + ys.length ≤ 16777216 then some (xs ++ ys) else none
  | _, _ => none
/-- list(range(..)) -/
def mListRg (ma : Ev → Out D) : Ev → Out (List D) := fun ρ => (ma ρ).bind fun d ρ1 => match d with
  | .int j => if -16777216 ≤ j ∧ j ≤ 16777216 then .ok (rangeD 0 j.toNat) ρ1 else .bad
  | _ => .bad
theorem pmk_own0 {C : Addr} {bmB : List Value} {B newId initId : String} {x : Str} {p pos : Pos} (F : ExcBaseFacts B newId initId bmB) (q : PySem.W.excIn X.K C bmB newId = true) (gC : X.mg x = some (.ref C)) (kC : PySem.W.keepIn X.K (.ref C) = true) (r : Raises X (.ref C)) (hg : Gl X x)
    (hdb : (x == ("__debug__" : Str)) = false := by decide) : PMk X (.Call (.Name x p) [] [] pos) (fun _ H Q => Q (.ref C) none H) := by
  intro pins s σ H Q I h
  refine wpAny_Call_Name_kw (ld_glob I hg gC ?_ hdb)
  refine PySem.W.callWith_K0 I.kIn kC ?_
  show wpAny _ _ (call (.ref C) []) _ _ _
  obtain ⟨bm, N, nm, qn, bs, hdct, sn, sub, ab, col, dd, k0, k1, k2, k3, k5, mN, hC, hN, hni, T⟩ := exc_obj I.kIn q
  refine wpAny_call_exc_subT F T hC hN hni (fun h' e hm => ?_) (by show 0 ≤ sizeLine; omega)
  exact mk_of I hm r h (I.hok.gone hm.new)
theorem ms_raise {C : Addr} {bmB : List Value} {B newId initId : String} {x : Str} {p pos pos' : Pos} (hc : X.calm = true) (tk : Takes X W) (F : ExcBaseFacts B newId initId bmB) (q : PySem.W.excIn X.K C bmB newId = true) (gC : X.mg x = some (.ref C)) (kC : PySem.W.keepIn X.K (.ref C) = true) (r : Raises X (.ref C)) (hg : Gl X x)
    (hdb : (x == ("__debug__" : Str)) = false := by decide) : MS X W S (.Raise (some (.Call (.Name x p) [] [] pos)) none pos') (fun ρ => .err x ρ) :=
  ⟨_, ps_raise hc tk (pmk_own0 F q gC kC r hg hdb), fun B F H σ ρ D I h => h F H σ C I (Same.refl _) gC⟩
end
def spML (K : Fg) (mg : Str → Option Value) (os : List Bool) (m : List D → Out (List D)) : Sp := fun vs H Q E => ∃ B F ds, vs.length = os.length ∧ SInv K (sgOf os) B (vs.map some) F H (ds.map some) ∧
  Sat (m ds) (fun d zs => ∀ F' H' p xs, Back K (sgOf os) B vs F' H' zs → Same F F' → F' p = none → H' p = some (.lst xs) → RpL K F' xs d → B.H p = none → Q (.ref p) H') (fun c zs => ∀ F' H' C, Back K (sgOf os) B vs F' H' zs → Same F F' → mg c = some (.ref C) → E (.ref C) none H')
/-- .. by one return; the lent lists are not touched -/
def mDefL (n : Nat) (me : Ev → Out (List D)) : List D → Out (List D) := fun ds => match me (ds.map some ++ List.replicate (n - ds.length) none) with
  | .ok d ρ => .ok d (List.replicate ds.length none)
  | .err c ρ => .err c (List.replicate ds.length none)
  | .bad => .bad
section
variable {P : Program} {w : World} {K : PySem.W.Frag} {mg : Str → Option Value} {base : Heap}
theorem def_okL {x qual : Str} {st : Stmt} {f : Addr} {fd : FuncData} {N ps : List Str} {k : Nat} (S : Sg) (os : List Bool) {e : Expr} {rp : Pos} {me : Ev → Out (List D)} (Fn : L2.Fun K x qual st f fd) (Sc : FnScope N ps (defScope st)) (hb : defBody st = [.Return (some e) rp]) (hnp : ps.length = S.np) (hos : os.length = S.np) (hno : os.all (fun b => !b) = true)
    (hks : (List.range S.np).all (fun i => knd S i == if os.getD i false = true then 1 else 0) = true)
    (hbody : ∀ (cdv : Value) (A : Around) (outer : List Env) (s : Shared) (H : Hp) (E : XK), RoomQ gq k (A.deeper (envOfC qual (defScope st) s.heap.objs.size f cdv)) →
      ML (cxOf (L2.CX P w) P w K mg base N qual (defScope st) f cdv A outer s H E) (fun c d _ H => E c d H) S e me) (hTn : S.T = [] := by rfl) :
    FnQ gq P w K mg base (k + 1) f fd ps (spML K mg os (mDefL N.length me)) := by
  refine FnQ.of Fn Sc (fun vs H Q E h => ?_) (fun cdv A outer s H vs Q E hr h => ?_)
  · obtain ⟨_, _, _, hl, _⟩ := h
    rw [hl, hnp, hos]
  · obtain ⟨B, F, ds, hl, I, hs⟩ := h
    obtain ⟨t, p, q⟩ := (hbody cdv A outer s H E hr).ex
    rw [hb]
    refine ⟨_, pss_one (ps_ret p), q B F H _ _ _ (start_sinv (N := N) hos hks (by omega) (nil_ts I hTn) I) ?_⟩
    have hd : ds.length = os.length := by
      have := I.len
      simp at this
      omega
    have nown : ∀ i, own (sgOf os) i = false := fun i => by
      rw [sgOf_own, List.getD_eq_getElem?_getD]
      cases e : os[i]? with
      | none => rfl
      | some b =>
        have := List.all_eq_true.mp hno b (List.mem_of_getElem? e)
        cases b <;> first | rfl | cases this
    have back : ∀ {F' H' : Hp} {σ' : Sts} {ρ' : Ev}, SInv K S B σ' F' H' ρ' → Back K (sgOf os) B vs F' H' (List.replicate ds.length none) := fun {F' H' σ' ρ'} J =>
      ⟨by rw [List.length_replicate, hd]; rfl, J.ext, J.same, fun i a k => by rw [nown i] at k; cases k⟩
    unfold mDefL at hs
    cases e1 : me (ds.map some ++ List.replicate (N.length - ds.length) none) with
    | bad => rw [e1] at hs; exact hs.elim
    | err c ρ' =>
      rw [e1] at hs
      exact fun F' H' C J s' hC => hs F' H' C (back J) s' hC
    | ok d ρ' =>
      rw [e1] at hs
      exact fun F' H' p xs J s' pF pH pr pB _ => hs F' H' p xs (back J) s' pF pH pr pB
end
def mCallDL (f : List D → Out (List D)) (ks : List (Option Nat)) (ms : Ev → Out (List D)) : Ev → Out (List D) := fun ρ => (ms ρ).bind fun ds ρ1 => (Out.of (resolve ρ1 ks ds) ρ1).bind fun as ρ1 => match f as with
  | .ok d os => .ok d (wback ks os ρ1)
  | .err c os => .err c (wback ks os ρ1)
  | .bad => .bad
section
variable {X : Cx} {W : WX} {S : Sg} {os : List Bool} {pos p : Pos} {e : Expr} {es : List Expr} {ks : List (Option Nat)} {ms : Ev → Out (List D)} {k : Nat} {f : Addr} {fd : FuncData} {ps : List Str} {x : Str} {m : List D → Out (List D)}
theorem ml_call (Fn : FnQ gq X.prog X.w X.K X.mg X.base k f fd ps (spML X.K X.mg os m)) (hr : RoomQ gq k X.A) (hg : Gl X x) (hm : X.mg x = some (.ref f)) (hk : PySem.W.keepIn X.K (.ref f) = true) (hb : Binds X.K fd ps []) (tk : Takes X W)
    (ha : MAc X W S (e :: es) ks ms) (h1 : os = ks.map Option.isSome) (h3 : ks.all (fun k => k.all (fun i => knd S i == 1)) = true) (h4 : (ks.filterMap id).Nodup) (hdb : (x == ("__debug__" : Str)) = false := by decide) (he : starEach (e :: es) X.env = (false, eval e X.env) :: starEach es X.env := by rfl) (hpl : (backTo pos (starEach es X.env)).any (·.1) = false := by rfl) :
    ML X W S (.Call (.Name x p) (e :: es) [] pos) (mCallDL m ks ms) := by
  obtain ⟨t, pt, q⟩ := ha.ex
  refine ⟨_, pe_callG Fn hr hg hm hk hb (fun σ => passAt tk σ) pt hdb he hpl, fun B F H σ ρ Q I h => ?_⟩
  refine q B F H σ ρ _ I ((Sat.bind h).mono (fun ds ρ1 h1' F1 H1 vs I1 s1 r1 => ?_) fun _ _ z => z)
  obtain ⟨as, e1, h5⟩ := sat_of (Sat.bind h1')
  obtain ⟨hl, J⟩ := call_start I1 r1 e1 h1 h3 h4
  refine ⟨_, F1, as, hl, J, ?_⟩
  cases e2 : m as with
  | bad => rw [e2] at h5; exact h5.elim
  | ok d os =>
    rw [e2] at h5
    refine fun F' H' p xs b s' pF pH pr pB => h5 F' H' p xs (call_back I1 r1 e1 h1 h3 h4 b) (s1.trans s') pF pH pr (I1.ext.st p pB) fun i c hh z => ?_
    subst z
    exact I1.heldSome ((call_back2 I1 r1 e1 h1 h3 h4 b).2 i c hh) pB
  | err c os =>
    rw [e2] at h5
    exact fun F' H' C b s' hC => h5 F' H' C (call_back I1 r1 e1 h1 h3 h4 b) (s1.trans s') hC
end
end MW
namespace PySem
open AutoSeq1 (wpAny_loadPart')
set_option maxHeartbeats 1000000 in
theorem mw_enumerate_newT (l : Addr) (items : Array Value) (n : Nat) (dct : Option Addr) (sl : Array (Option Value)) :
    Meets (Builtin.«enumerate.__new__» ⟨[.type "enumerate", .ref l], []⟩) (fun _ R s => s.heap.get? l = some { cls := .type "tuple", dict := dct, data := .seq items n, slots := sl } ∧
      R (.ok (.ret (.ref (s.heap.push { cls := .type "tuple_iterator", data := .fields #[.ref l, .int 0 0] }).objs.size)))
        { s with heap := (s.heap.push { cls := .type "tuple_iterator", data := .fields #[.ref l, .int 0 0] }).push { cls := .type "enumerate", data := .fields #[.none, .bool false, .ref s.heap.objs.size, rawInt 0, .none, .none] } }) :=
  .of_wp fun prog w A R s h => by
    obtain ⟨hp, g, d, tk, os⟩ := s; obtain ⟨hl, h⟩ := h
    have hsub := sub_enumerate
    have hL : Heap.IsTuple (Shared.heap ⟨hp, g, d, tk, os⟩) l items := ⟨_, hl, rfl, n, rfl⟩
    wp_walk using wpAny_loadPart' hl
    refine wpAny_stack_any fun st => wpAny_pure ?_
    split
    · rename_i c _ _ _ _ _
      cases (c == Value.type "enumerate")
      · wp_walk using wpAny_loadPart' hl, wpAny_pyIter_tuple hL
        exact ⟨_, rfl, h⟩
      · wp_walk using wpAny_loadPart' hl, wpAny_pyIter_tuple hL
        exact ⟨_, rfl, h⟩
    · wp_walk using wpAny_loadPart' hl, wpAny_pyIter_tuple hL
      exact ⟨_, rfl, h⟩
theorem mw_call_enumerate_tup {prog : Program} {w : World} {A : Around} {E : Value → Shared → Prop} {s : Shared} {l : Addr} {items : Array Value} {Q : Value → Shared → Prop} (hL : s.heap.IsTuple l items)
    (h : ∀ h', IsEnum h' (s.heap.objs.size + 1) s.heap.objs.size 0 .none → h'.IsTupleIter s.heap.objs.size l 0 → h'.objs.size = s.heap.objs.size + 2 →
      (∀ b o, s.heap.get? b = some o → h'.get? b = some o) → Q (.ref (s.heap.objs.size + 1)) { s with heap := h' }) :
    wpAny (model prog w) A (call (.type "enumerate") [.ref l]) Q E s := by
  obtain ⟨⟨c, dct, dt, sl⟩, hl, hc, n, hd⟩ := hL
  replace hc : c = .type "tuple" := hc
  replace hd : dt = .seq items n := hd
  subst hc hd
  refine callType_new F.called_enumerate (by decide) (F.typeCall_enumerate_1 _) (F.newCall_enumerate_1 _) (fun obj => F.args_object_init_2 obj _) F.entry_enumerate_new
    (mw_enumerate_newT l items n dct sl) ⟨hl, ?_⟩
  have hz : (s.heap.push { cls := .type "tuple_iterator", data := .fields #[.ref l, .int 0 0] }).objs.size = s.heap.objs.size + 1 := Heap.size_push ..
  show _ ∧ _
  rw [hz]
  have he : IsEnum ((s.heap.push { cls := .type "tuple_iterator", data := .fields #[.ref l, .int 0 0] }).push
      { cls := .type "enumerate", data := .fields #[.none, .bool false, .ref s.heap.objs.size, rawInt 0, .none, .none] }) (s.heap.objs.size + 1) s.heap.objs.size 0 .none := by
    have := Heap.get?_push_size (s.heap.push { cls := .type "tuple_iterator", data := .fields #[.ref l, .int 0 0] })
      (o := { cls := .type "enumerate", data := .fields #[.none, .bool false, .ref s.heap.objs.size, rawInt 0, .none, .none] }) rfl
    rw [hz] at this; exact this
  refine ⟨⟨_, he, rfl⟩, h _ he ⟨_, Heap.get?_push_of_some _ (Heap.get?_push_size _ rfl), rfl, rfl⟩ (by rw [Heap.size_push, hz]) fun b o x => Heap.get?_push_of_some _ (Heap.get?_push_of_some _ x)⟩
end PySem
namespace MW
open PySem PySem.Spec PyProof.Rows L2
variable {gq : Bool}
theorem hu65 {k : Nat} {A : Around} (hr : RoomQ gq k A) : A.units + 65 < cLine := by have := hr.un; omega
theorem isD_int : ∀ d : D, L2.kitB (tyD d) "int" = some (isD "int" d) := by intro d; cases d <;> (simp only [isD, tyD]; decide +kernel)
theorem isD_bool : ∀ d : D, L2.kitB (tyD d) "bool" = some (isD "bool" d) := by intro d; cases d <;> (simp only [isD, tyD]; decide +kernel)
theorem isD_str : ∀ d : D, L2.kitB (tyD d) "str" = some (isD "str" d) := by intro d; cases d <;> (simp only [isD, tyD]; decide +kernel)
theorem isD_tuple : ∀ d : D, L2.kitB (tyD d) "tuple" = some (isD "tuple" d) := by intro d; cases d <;> (simp only [isD, tyD]; decide +kernel)
def IteT (K : PySem.W.Frag) (a : Addr) : It :=
  ⟨fun i H => ∃ (xs : List V) (x : V), SqT K H a xs ∧ xs[i]? = some x, fun i H v H' => ∃ (T : Addr) (o : Obj) (x : V), v = .ref T ∧ H T = none ∧ o.dict = none ∧ H' = upd H T (.frz o (.tup [.int (i : Nat), x])) ∧ ∀ xs, SqT K H a xs → xs[i]? = some x, fun i H => ∃ xs : List V, SqT K H a xs ∧ xs.length = i⟩
theorem turn_enumT {P : Program} {w : World} {K : PySem.W.Frag} {elts : List Expr} {kk : Nat} {tpos : Pos} (a e it : Addr) :
    Turn P w K (.Tuple elts kk tpos) (IteT K a) [e, it] e (fun i h => (∃ old, IsEnum h e it ((i : Nat) : Int) old) ∧ h.IsTupleIter it a i ∧ e ≠ it ∧ a ≠ e ∧ a ≠ it) where
  mem := by simp
  obj := fun i h st b hb => by
    obtain ⟨⟨old, he⟩, ⟨o, ho, hc, hd⟩, _⟩ := st
    have e' : b = e ∨ b = it := by simpa using hb
    rcases e' with z | z
    · rw [z]; exact ⟨_, he, fun v q => nomatch q⟩
    · rw [z]; exact ⟨o, ho, fun v q => by rw [hd] at q; cases q⟩
  keep := fun i h h' st k => let ⟨⟨old, he⟩, hi, hne, h1, h2⟩ := st; ⟨⟨old, k e (by simp) _ he⟩, hi.at fun o q => k it (by simp) o q, hne, h1, h2⟩
  item := by
    intro X hP hw hK hc i pins s σ H E I hf st hg
    subst hP hw hK
    obtain ⟨⟨old, he⟩, hit, hne, hae, hai⟩ := st
    obtain ⟨xs, x, hq, hx⟩ := hg
    obtain ⟨its, rv, p, hz⟩ := I.tuple hq
    obtain ⟨u, hu, ru⟩ := rv.get hx
    have hel : e < s.heap.objs.size := Heap.lt_size he
    have hil : it < s.heap.objs.size := by obtain ⟨_, q, _⟩ := hit; exact Heap.lt_size q
    have hlt : i < its.toArray.size := by
      have := (List.getElem?_eq_some_iff.mp hu).1
      simpa using this
    refine wpAny_pyNext_enum_itemD (Draws.tuple (A := X.A.in1) (I.ok.hd hc) it a hai its.toArray) he ⟨hit, p⟩ hlt hne (by simp [hne, hae.symm]) fun x' h' tk hx' ho hst' hT hsz hk => ?_
    have hx'' : x' = u := by
      have h2 : its[i]? = some x' := by simpa using hx'
      rw [hu] at h2; exact (Option.some.inj h2).symm
    subst hx''
    refine ⟨_, rfl, wpAny_letOwnedTupleGo_enum (s := { s with heap := h', toks := tk + 1 }) ho fun h'' he' sb => ?_⟩
    let ob : Obj := { cls := .type "tuple", data := .seq #[.int i tk, x'] }
    have hT2 : h''.get? s.heap.objs.size = some ob := (sb.2 _ (Nat.ne_of_gt hel)).trans hT
    have new : ObjOk X.prog X.w (upd H s.heap.objs.size (.frz ob (.tup [.int (i : Nat), x]))) h'' s.heap.objs.size (.frz ob (.tup [.int (i : Nat), x])) :=
      ⟨hT2, by show 2 ≤ sizeLine; decide, [.int i tk, x'], .cons ⟨_, rfl⟩ (.cons ru .nil), ⟨_, hT2, rfl, _, rfl⟩⟩
    have I1 : Inv X pins σ (upd H s.heap.objs.size (.frz ob (.tup [.int (i : Nat), x]))) { s with heap := h'', toks := tk + 1 } :=
      I.turnedNew (ch := [e, it]) (fun b ob hb q => (sb.2 b (fun z => hb (by simp [z]))).trans (hk b ob (fun z => hb (by simp [z])) (fun z => hb (by simp [z])) q)) hf (Nat.le_refl _) new
    refine ⟨.ref s.heap.objs.size, _, I1, rfl, ⟨_, ob, x, rfl, I.hok.fresh (Nat.le_refl _), rfl, rfl, fun ys hy => by rw [I.tuple_inj hy hq]; exact hx⟩, ⟨⟨x', ?_⟩, hst'.1.at fun o q => (sb.2 it (Ne.symm hne)).trans q, hne, hae, hai⟩, fun b hb => ?_⟩
    · have e1 : ((i + 1 : Nat) : Int) = (i : Int) + 1 := by omega
      rw [e1]; exact he'
    · have hb' : b < s.heap.objs.size := by
        have e' : b = e ∨ b = it := by simpa using hb
        rcases e' with z | z
        · rw [z]; exact hel
        · rw [z]; exact hil
      rw [upd_ne (Nat.ne_of_lt hb')]
      exact (hf b hb).1
  done := by
    intro X hP hw hK hc i pins s σ H E I hf st hg
    subst hP hw hK
    obtain ⟨⟨old, he⟩, hit, hne, hae, hai⟩ := st
    obtain ⟨xs, hq, hx⟩ := hg
    obtain ⟨its, rv, p, hz⟩ := I.tuple hq
    obtain ⟨f0, f1, f2, f3, f4, f5⟩ := hf it (by simp)
    have hl := rv.length
    have hi : i = its.toArray.size := by rw [List.size_toArray]; omega
    subst hi
    exact wpAny_pyNext_enum_endD (Draws.tuple (A := X.A.in1) (I.ok.hd hc) it a hai its.toArray) he ⟨hit, p⟩ fun h' eb => ⟨rfl, I.turned (t' := s.toks) (fun b o hb q => eb b o hb q) f0 f1 f3 f4 f5⟩
  self := fun A i s Q E st h => let ⟨⟨_, he⟩, _⟩ := st; wpAny_pyIter_enum he h
def iEnumT (K : PySem.W.Frag) (ta : TA) : TI := fun σ H R => ta σ H fun vs H1 => ∃ a xs, vs = [.ref a] ∧ SqT K H1 a xs ∧ R (IteT K a) H1
theorem pi_enumT {X : Cx} {e : Expr} {ta : TA} {p pos tpos : Pos} {elts : List Expr} {kk : Nat} (hg : Gl X "enumerate") (hm : X.mg "enumerate" = none) (ha : PA X [e] ta) (hs : starEach [e] X.env = [(false, eval e X.env)] := by rfl) :
    PI X (.Tuple elts kk tpos) (.Call (.Name "enumerate" p) [e] [] pos) (iEnumT X.K ta) := by
  refine ⟨fun pins s σ H R I h => ?_⟩
  refine Call_ (ld_blt I hg hm boot_enumerate (PyProof.Rows.callWith_type1 (thn (ha.run pos pins s σ H _ I h) fun us s1 ⟨vs, H1, I1, r1, q1⟩ => ?_) hs rfl))
  obtain ⟨a, xs, ex, hq, q⟩ := q1
  subst ex
  cases r1 with
  | cons r rr =>
    cases rr
    cases r
    obtain ⟨its, rv, p', hz⟩ := I1.tuple hq
    have hal : a < s1.heap.objs.size := by obtain ⟨_, z, _⟩ := p'; exact Heap.lt_size z
    refine mw_call_enumerate_tup p' fun h' he hit hsz hk => wpAny_pyIter_enum he ?_
    have I2 : Inv X pins σ H1 { s1 with heap := h' } := I1.kept (t' := s1.toks) hk
    refine ⟨s1.heap.objs.size + 1, [s1.heap.objs.size + 1, s1.heap.objs.size], _, _, H1, rfl, I2, turn_enumT a (s1.heap.objs.size + 1) s1.heap.objs.size, ⟨⟨.none, he⟩, hit, Nat.succ_ne_self _, Nat.ne_of_lt (Nat.lt_succ_of_lt hal), Nat.ne_of_lt hal⟩, fun b hb => ?_, q⟩
    have e' : b = s1.heap.objs.size + 1 ∨ b = s1.heap.objs.size := by simpa using hb
    have hle : s1.heap.objs.size ≤ b := by
      rcases e' with z | z
      · rw [z]; exact Nat.le_add_right _ _
      · rw [z]; exact Nat.le_refl _
    exact I1.fpOk hle (I1.hok.fresh hle)
def IteL (K : PySem.W.Frag) (a : Addr) : It :=
  ⟨fun i H => ∃ (xs : List V) (x : V), SqL K H a xs ∧ xs[i]? = some x, fun i H v H' => ∃ (T : Addr) (o : Obj) (x : V), v = .ref T ∧ H T = none ∧ o.dict = none ∧ H' = upd H T (.frz o (.tup [.int (i : Nat), x])) ∧ ∀ xs, SqL K H a xs → xs[i]? = some x, fun i H => ∃ xs : List V, SqL K H a xs ∧ xs.length = i⟩
theorem turn_enumL {P : Program} {w : World} {K : PySem.W.Frag} {elts : List Expr} {kk : Nat} {tpos : Pos} (a e it : Addr) :
    Turn P w K (.Tuple elts kk tpos) (IteL K a) [e, it] e (fun i h => (∃ old, IsEnum h e it ((i : Nat) : Int) old) ∧ h.IsListIter it a i ∧ e ≠ it ∧ a ≠ e ∧ a ≠ it) where
  mem := by simp
  obj := fun i h st b hb => by
    obtain ⟨⟨old, he⟩, ⟨o, ho, hc, hd⟩, _⟩ := st
    have e' : b = e ∨ b = it := by simpa using hb
    rcases e' with z | z
    · rw [z]; exact ⟨_, he, fun v q => nomatch q⟩
    · rw [z]; exact ⟨o, ho, fun v q => by rw [hd] at q; cases q⟩
  keep := fun i h h' st k => let ⟨⟨old, he⟩, hi, hne, h1, h2⟩ := st; ⟨⟨old, k e (by simp) _ he⟩, hi.at fun o q => k it (by simp) o q, hne, h1, h2⟩
  item := by
    intro X hP hw hK hc i pins s σ H E I hf st hg
    subst hP hw hK
    obtain ⟨⟨old, he⟩, hit, hne, hae, hai⟩ := st
    obtain ⟨xs, x, hq, hx⟩ := hg
    obtain ⟨its, rv, p, hz⟩ := I.list hq
    obtain ⟨u, hu, ru⟩ := rv.get hx
    have hel : e < s.heap.objs.size := Heap.lt_size he
    have hil : it < s.heap.objs.size := by obtain ⟨_, q, _⟩ := hit; exact Heap.lt_size q
    have hlt : i < its.toArray.size := by
      have := (List.getElem?_eq_some_iff.mp hu).1
      simpa using this
    refine wpAny_pyNext_enum_itemD (Draws.list (A := X.A.in1) (I.ok.hd hc) it a hai its.toArray) he ⟨hit, p.isList⟩ hlt hne (by simp [hne, hae.symm]) fun x' h' tk hx' ho hst' hT hsz hk => ?_
    have hx'' : x' = u := by
      have h2 : its[i]? = some x' := by simpa using hx'
      rw [hu] at h2; exact (Option.some.inj h2).symm
    subst hx''
    refine ⟨_, rfl, wpAny_letOwnedTupleGo_enum (s := { s with heap := h', toks := tk + 1 }) ho fun h'' he' sb => ?_⟩
    let ob : Obj := { cls := .type "tuple", data := .seq #[.int i tk, x'] }
    have hT2 : h''.get? s.heap.objs.size = some ob := (sb.2 _ (Nat.ne_of_gt hel)).trans hT
    have new : ObjOk X.prog X.w (upd H s.heap.objs.size (.frz ob (.tup [.int (i : Nat), x]))) h'' s.heap.objs.size (.frz ob (.tup [.int (i : Nat), x])) :=
      ⟨hT2, by show 2 ≤ sizeLine; decide, [.int i tk, x'], .cons ⟨_, rfl⟩ (.cons ru .nil), ⟨_, hT2, rfl, _, rfl⟩⟩
    have I1 : Inv X pins σ (upd H s.heap.objs.size (.frz ob (.tup [.int (i : Nat), x]))) { s with heap := h'', toks := tk + 1 } :=
      I.turnedNew (ch := [e, it]) (fun b ob hb q => (sb.2 b (fun z => hb (by simp [z]))).trans (hk b ob (fun z => hb (by simp [z])) (fun z => hb (by simp [z])) q)) hf (Nat.le_refl _) new
    refine ⟨.ref s.heap.objs.size, _, I1, rfl, ⟨_, ob, x, rfl, I.hok.fresh (Nat.le_refl _), rfl, rfl, fun ys hy => by rw [I.list_inj hy hq]; exact hx⟩, ⟨⟨x', ?_⟩, hst'.1.at fun o q => (sb.2 it (Ne.symm hne)).trans q, hne, hae, hai⟩, fun b hb => ?_⟩
    · have e1 : ((i + 1 : Nat) : Int) = (i : Int) + 1 := by omega
      rw [e1]; exact he'
    · have hb' : b < s.heap.objs.size := by
        have e' : b = e ∨ b = it := by simpa using hb
        rcases e' with z | z
        · rw [z]; exact hel
        · rw [z]; exact hil
      rw [upd_ne (Nat.ne_of_lt hb')]
      exact (hf b hb).1
  done := by
    intro X hP hw hK hc i pins s σ H E I hf st hg
    subst hP hw hK
    obtain ⟨⟨old, he⟩, hit, hne, hae, hai⟩ := st
    obtain ⟨xs, hq, hx⟩ := hg
    obtain ⟨its, rv, p, hz⟩ := I.list hq
    obtain ⟨f0, f1, f2, f3, f4, f5⟩ := hf it (by simp)
    have hl := rv.length
    have hi : i = its.toArray.size := by rw [List.size_toArray]; omega
    subst hi
    exact wpAny_pyNext_enum_endD (Draws.list (A := X.A.in1) (I.ok.hd hc) it a hai its.toArray) he ⟨hit, p.isList⟩ fun h' eb => ⟨rfl, I.turned (t' := s.toks) (fun b o hb q => eb b o hb q) f0 f1 f3 f4 f5⟩
  self := fun A i s Q E st h => let ⟨⟨_, he⟩, _⟩ := st; wpAny_pyIter_enum he h
def iEnumL (K : PySem.W.Frag) (ta : TA) : TI := fun σ H R => ta σ H fun vs H1 => ∃ a xs, vs = [.ref a] ∧ SqL K H1 a xs ∧ R (IteL K a) H1
theorem pi_enumL {X : Cx} {e : Expr} {ta : TA} {p pos tpos : Pos} {elts : List Expr} {kk : Nat} (hg : Gl X "enumerate") (hm : X.mg "enumerate" = none) (ha : PA X [e] ta) (hs : starEach [e] X.env = [(false, eval e X.env)] := by rfl) :
    PI X (.Tuple elts kk tpos) (.Call (.Name "enumerate" p) [e] [] pos) (iEnumL X.K ta) := by
  refine ⟨fun pins s σ H R I h => ?_⟩
  refine Call_ (ld_blt I hg hm boot_enumerate (PyProof.Rows.callWith_type1 (thn (ha.run pos pins s σ H _ I h) fun us s1 ⟨vs, H1, I1, r1, q1⟩ => ?_) hs rfl))
  obtain ⟨a, xs, ex, hq, q⟩ := q1
  subst ex
  cases r1 with
  | cons r rr =>
    cases rr
    cases r
    obtain ⟨its, rv, p', hz⟩ := I1.list hq
    have hal : a < s1.heap.objs.size := by obtain ⟨_, _, z, _⟩ := p'; exact Heap.lt_size z
    refine call_enumerate_list p'.isList fun h' he hit hsz hk => wpAny_pyIter_enum he ?_
    have I2 : Inv X pins σ H1 { s1 with heap := h' } := I1.kept (t' := s1.toks) hk
    refine ⟨s1.heap.objs.size + 1, [s1.heap.objs.size + 1, s1.heap.objs.size], _, _, H1, rfl, I2, turn_enumL a (s1.heap.objs.size + 1) s1.heap.objs.size, ⟨⟨.none, he⟩, hit, Nat.succ_ne_self _, Nat.ne_of_lt (Nat.lt_succ_of_lt hal), Nat.ne_of_lt hal⟩, fun b hb => ?_, q⟩
    have e' : b = s1.heap.objs.size + 1 ∨ b = s1.heap.objs.size := by simpa using hb
    have hle : s1.heap.objs.size ≤ b := by
      rcases e' with z | z
      · rw [z]; exact Nat.le_add_right _ _
      · rw [z]; exact Nat.le_refl _
    exact I1.fpOk hle (I1.hok.fresh hle)
def enumD (ds : List D) : List D := (List.range ds.length).zipWith (fun i d => .tuple [.int (i : Nat), d]) ds
theorem enumD_len (ds : List D) : (enumD ds).length = ds.length := by simp [enumD]
theorem enumD_get {ds : List D} {i : Nat} {d : D} (h : (enumD ds)[i]? = some d) : ∃ x, ds[i]? = some x ∧ d = .tuple [.int (i : Nat), x] := by
  unfold enumD at h
  rw [List.getElem?_zipWith] at h
  cases e : ds[i]? with
  | none => rw [e] at h; cases q : (List.range ds.length)[i]? <;> rw [q] at h <;> cases h
  | some x =>
    have hi : i < ds.length := (List.getElem?_eq_some_iff.mp e).1
    rw [e, List.getElem?_range hi] at h
    exact ⟨x, rfl, (Option.some.inj h).symm⟩
def mEnum (ms : Ev → Out (List D)) : Ev → Out (List D) := fun ρ => (ms ρ).bind fun ds ρ1 => match ds with
  | [.list xs] => .ok (enumD xs) ρ1
  | [.tuple xs] => .ok (enumD xs) ρ1
  | _ => .bad
theorem walkD_enum {K : Fg} {F : Hp} {a : Addr} {xs : List V} {ds : List D} (h : Rd F a (.lst xs)) (r : RpL K F xs ds) : WalkD K F (IteL K a) (enumD ds) := by
  refine ⟨fun i H hi s => ?_, fun H s => ⟨xs, .inl (rd_same s h), by rw [enumD_len, r.len]⟩, fun i H x H' d e s y => ?_⟩
  · rw [enumD_len, ← r.len] at hi
    exact ⟨xs, xs[i], .inl (rd_same s h), by simp [hi]⟩
  · obtain ⟨d', e1, rfl⟩ := enumD_get e
    obtain ⟨v, e2, q⟩ := r.get e1
    obtain ⟨T, o, x', rfl, hT, ho, rfl, hx⟩ := y
    have := (hx xs (.inl (rd_same s h))).symm.trans e2
    cases this
    exact .inr ⟨T, o, _, _, rfl, hT, ho, rfl, .cons (.int _) (.one q), rfl⟩
theorem walkD_enumT {K : Fg} {F : Hp} {a : Addr} {xs : List V} {ds : List D} (h : SqT K F a xs) (r : RpL K F xs ds) : WalkD K F (IteT K a) (enumD ds) := by
  refine ⟨fun i H hi s => ?_, fun H s => ⟨xs, sqT_same s h, by rw [enumD_len, r.len]⟩, fun i H x H' d e s y => ?_⟩
  · rw [enumD_len, ← r.len] at hi
    exact ⟨xs, xs[i], sqT_same s h, by simp [hi]⟩
  · obtain ⟨d', e1, rfl⟩ := enumD_get e
    obtain ⟨v, e2, q⟩ := r.get e1
    obtain ⟨T, o, x', rfl, hT, ho, rfl, hx⟩ := y
    have := (hx xs (sqT_same s h)).symm.trans e2
    cases this
    exact .inr ⟨T, o, _, _, rfl, hT, ho, rfl, .cons (.int _) (.one q), rfl⟩
theorem pa_len {X : Cx} {es : List Expr} {t : TA} (h : PA X es t) : PA X es (fun σ H Q => t σ H fun vs H' => (∀ a xs, (V.ref a) ∈ vs → (SqL X.K H' a xs ∨ SqT X.K H' a xs) → xs.length ≤ sizeLine) → Q vs H') := by
  refine ⟨fun pos pins s σ H Q I hq => ?_⟩
  refine thn (h.run pos pins s σ H _ I hq) fun u s1 ⟨v, H1, I1, r, q⟩ => ⟨v, H1, I1, r, q fun a xs e z => ?_⟩
  rcases z with z | z
  · obtain ⟨_, _, _, hz⟩ := I1.list z; exact hz
  · obtain ⟨_, _, _, hz⟩ := I1.tuple z; exact hz
def tLen (K : Fg) (t : TA) : TA := fun σ H Q => t σ H fun vs H' => (∀ a xs, (V.ref a) ∈ vs → (SqL K H' a xs ∨ SqT K H' a xs) → xs.length ≤ sizeLine) → Q vs H'
theorem mi_enum {X : Cx} {W : WX} {S : Sg} {e : Expr} {p pos tpos : Pos} {elts : List Expr} {kk : Nat} {ms : Ev → Out (List D)} (hg : Gl X "enumerate") (hm : X.mg "enumerate" = none) (ha : MA X W S [e] ms) (hs : starEach [e] X.env = [(false, eval e X.env)] := by rfl) : MI X W S (.Tuple elts kk tpos) (.Call (.Name "enumerate" p) [e] [] pos) (mEnum ms) := by
  obtain ⟨t, pt, q⟩ := ha.ex
  have pt' := pa_len pt
  have hl := sizeLine_eq
  refine ⟨fun σ H R => iEnumL X.K (tLen X.K t) σ H R ∨ iEnumT X.K (tLen X.K t) σ H R, ⟨fun pins s σ H R I h => ?_⟩, fun B F H σ ρ R I h => ?_⟩
  · rcases h with h | h
    · exact (pi_enumL hg hm pt' hs).run pins s σ H R I h
    · exact (pi_enumT hg hm pt' hs).run pins s σ H R I h
  · have hb := Sat.bind h
    cases e1 : ms ρ with
    | bad => rw [e1] at hb; exact hb.elim
    | err c ρ' =>
      rw [e1] at hb
      exact .inl (q B F H σ ρ _ I (by rw [e1]; exact hb))
    | ok ds ρ1 =>
      rw [e1] at hb
      have hb : Sat (match ds with
        | [.list xs] => Out.ok (enumD xs) ρ1
        | [.tuple xs] => Out.ok (enumD xs) ρ1
        | _ => Out.bad) (IKo X.K S B σ F R) (XKo X W S B σ F) := hb
      split at hb
      · refine .inl (q B F H σ ρ _ I ?_)
        rw [e1]
        intro F1 H1 vs I1 s1 r1 bd
        cases r1 with
        | cons r1 rr =>
          cases rr
          cases r1 with
          | lst hq hr =>
            have hz := bd _ _ (by simp) (.inl (.inl (rd_same I1.same hq)))
            exact ⟨_, _, rfl, .inl (rd_same I1.same hq), hb F1 H1 _ I1 s1 (walkD_enum hq hr) (by rw [enumD_len, ← hr.len]; omega)⟩
      · refine .inr (q B F H σ ρ _ I ?_)
        rw [e1]
        intro F1 H1 vs I1 s1 r1 bd
        cases r1 with
        | cons r1 rr =>
          cases rr
          cases r1 with
          | tup hq hr =>
            have hq := hq.sq
            have hz := bd _ _ (by simp) (.inr (sqT_same I1.same hq))
            exact ⟨_, _, rfl, sqT_same I1.same hq, hb F1 H1 _ I1 s1 (walkD_enumT hq hr) (by rw [enumD_len, ← hr.len]; omega)⟩
      · exact hb.elim
end MW
namespace MW
open PySem PySem.Spec PyProof.Rows L2
def dd : List Int → List Int
  | [] => []
  | n :: ns => if n ∈ dd ns then dd ns else n :: dd ns
theorem mem_dd {x : Int} : ∀ {ns : List Int}, x ∈ dd ns ↔ x ∈ ns
  | [] => Iff.rfl
  | n :: ns => by
    unfold dd
    split
    · rename_i h
      rw [mem_dd (ns := ns), List.mem_cons]
      exact ⟨.inr, fun z => z.elim (fun e => by rw [e]; exact mem_dd.mp h) id⟩
    · rw [List.mem_cons, List.mem_cons, mem_dd (ns := ns)]
theorem dd_nodup : ∀ ns : List Int, (dd ns).Nodup
  | [] => List.nodup_nil
  | n :: ns => by
    unfold dd
    split
    · exact dd_nodup ns
    · rename_i h
      exact List.nodup_cons.mpr ⟨h, dd_nodup ns⟩
theorem sub_len : ∀ {xs ys : List Int}, xs.Nodup → (∀ n ∈ xs, n ∈ ys) → xs.length ≤ ys.length
  | [], _, _, _ => Nat.zero_le _
  | x :: xs, ys, h, s => by
    have hx := s x List.mem_cons_self
    have h1 := sub_len (xs := xs) (ys := ys.erase x) (List.nodup_cons.mp h).2 fun n hn => (List.mem_erase_of_ne (fun e => (List.nodup_cons.mp h).1 (by rw [← e]; exact hn))).mpr (s n (List.mem_cons_of_mem _ hn))
    rw [List.length_erase_of_mem hx] at h1
    have := List.length_pos_of_mem hx
    rw [List.length_cons]
    omega
theorem nodup_len {xs ys : List Int} (h : xs.Nodup) (k : ys.Nodup) (e : ∀ n, n ∈ xs ↔ n ∈ ys) : xs.length = ys.length :=
  Nat.le_antisymm (sub_len h fun n hn => (e n).mp hn) (sub_len k fun n hn => (e n).mpr hn)
def intsOf : List D → Option (List Int)
  | [] => some []
  | .int n :: ds => (intsOf ds).map (n :: ·)
  | _ => none
theorem rpL_intsD {K : Fg} {F : Hp} : ∀ {ds : List D} {xs : List V} {ns : List Int}, RpL K F xs ds → intsOf ds = some ns → xs = ns.map V.int
  | [], _, _, .nil, e => by cases e; rfl
  | d :: ds, _, _, .cons r rr, e => by
    cases d with
    | int n =>
      obtain ⟨m, e1, rfl⟩ := Option.map_eq_some_iff.mp (show (intsOf ds).map (n :: ·) = _ from e)
      cases r
      rw [rpL_intsD rr e1]; rfl
    | _ => cases e
def gLenSet : D → Option D
  | .tuple ds => (intsOf ds).bind fun ns => if ns.length ≤ 4000 then some (.int ((dd ns).length : Nat)) else none
  | _ => none
section
variable {X : Cx} {W : WX} {S : Sg} {a : Expr} {ma : Ev → Out D}
def tLenSetT (K : Fg) (ta : TE) : TE := fun σ H Q => ta σ H fun x H1 => ∃ (l : Addr) (ns : List Int), x = V.ref l ∧ SqT K H1 l (ns.map V.int) ∧ ns.length ≤ 4000 ∧ Q (.int ((dd ns).length : Nat)) H1
theorem pe_lenSetT {ta : TE} {p p2 q pos : Pos} (hc : X.calm = true) (hg : Gl X "len") (hm : X.mg "len" = none) (hg2 : Gl X "set") (hm2 : X.mg "set" = none) (ha : PE X a ta)
    (na : starEach [a] X.env = (false, eval a X.env) :: starEach [] X.env := by rfl) : PE X (.Call (.Name "len" p) [.Call (.Name "set" p2) [a] [] q] [] pos) (tLenSetT X.K ta) := by
  refine ⟨fun pins s σ H Q I h => ?_⟩
  refine Call_ (ld_blt I hg hm PySem.boot_len ?_)
  refine PyProof.Rows.callWith_builtin1 (PyProof.Rows.args_cons ?_ rfl) rfl rfl
  refine Call_ (ld_blt I hg2 hm2 PyProof.Rows.boot_set ?_)
  refine PyProof.Rows.callWith_type1 (PyProof.Rows.args_cons (thn (ha.run pins s σ H _ I h) fun v s1 ⟨x, H1, I1, r1, q1⟩ => PyProof.Rows.args_nil ?_) na) na rfl
  obtain ⟨l, ns, rfl, hq, h1, q1⟩ := q1
  cases r1
  obtain ⟨its, r, pl, hz⟩ := I1.tuple hq
  refine call_set_tupI ns (I1.ok.hd hc) pl (by simpa using r.ints) (by unfold scanBound; omega) fun h' tk c hS hle hk => ?_
  refine PyProof.Rows.args_nil ?_
  obtain ⟨o, es, ep, t, ho, hex, hd, _, hnd, hk2, _, hf, hn, _⟩ := hS
  have I2 : Inv X pins σ H1 { s1 with heap := h', toks := tk } := I1.kept hk
  have e : es.size = (dd ns).length := by
    have := nodup_len hnd (dd_nodup ns) fun k => (hk2 k).symm.trans (by rw [mem_dd]; exact decide_eq_true_iff)
    simpa using this
  refine call_len_set ho hex hd hf (by rw [hn] <;> omega) ⟨.int ((dd ns).length : Nat), H1, I2.tok _, ⟨_, by rw [e]⟩, q1⟩
theorem me_lenSet {p p2 q pos : Pos} (hc : X.calm = true) (hg : Gl X "len") (hm : X.mg "len" = none) (hg2 : Gl X "set") (hm2 : X.mg "set" = none) (ha : ME X W S a ma)
    (na : starEach [a] X.env = (false, eval a X.env) :: starEach [] X.env := by rfl) : ME X W S (.Call (.Name "len" p) [.Call (.Name "set" p2) [a] [] q] [] pos) (mUn gLenSet ma) := by
  obtain ⟨t, pt, k⟩ := ha.ex
  refine ⟨_, pe_lenSetT hc hg hm hg2 hm2 pt na, fun B F H σ ρ Q I h => ?_⟩
  refine k B F H σ ρ _ I (h.bind.mono (fun d ρ1 h1 F1 H1 x I1 s1 r1 => ?_) fun _ _ z => z)
  obtain ⟨z, hz, h3⟩ := sat_of h1
  unfold gLenSet at hz
  split at hz
  · obtain ⟨ns, e1, e2⟩ := Option.bind_eq_some_iff.mp hz
    split at e2
    · rename_i hl
      cases e2
      cases r1 with
      | tup hq hr =>
        have e := rpL_intsD hr e1
        subst e
        exact ⟨_, ns, rfl, sqT_same I1.same hq.sq, hl, h3 F1 H1 _ I1 s1 (.int _)⟩
    · cases e2
  · cases hz
end
section
variable {X : Cx} {W : WX} {S : Sg} {pos : Pos}
theorem cnt_eqU {x : V} : ∀ {xs : List V} {us : List Value}, Vals xs us → xs.all flatV = true → us.countP (eqU x) = xs.countP fun y => eqV y x
  | _, _, .nil, _ => rfl
  | y :: xs, u :: us, .cons r t, f => by
    rw [List.all_cons, Bool.and_eq_true] at f
    rw [List.countP_cons, List.countP_cons, eqU_of r f.1, cnt_eqU t f.2]
theorem vals_all {xs : List V} {us : List Value} (r : Vals xs us) : xs.all flatV = true → ∀ u ∈ us, ∃ y, RelV y u ∧ flatV y = true := by
  induction r with
  | nil => intro _ u hu; cases hu
  | cons r t ih =>
    intro f u hu
    rw [List.all_cons, Bool.and_eq_true] at f
    rcases List.mem_cons.mp hu with z | z
    · rw [z]; exact ⟨_, r, f.1⟩
    · exact ih f.2 u z
def gCount (ds : List D) : List D → Option D := fun as => match as with
  | [k] => if flatD k = true ∧ ds.all flatD = true then some (.int (ds.countP fun y => eqF y k : Nat)) else none
  | _ => none
end
end MW
namespace MW
open PySem PySem.Spec PyProof.Rows L2
def whole {α : Type} (xs : List α) (lo hi : Option Int) : Prop := HT.sIx xs.length 0 lo = 0 ∧ HT.sIx xs.length xs.length hi = xs.length
def rSlM (K : Fg) : V → Option Int → Option Int → Hp → VK → Prop := fun x lo hi H Q => ∃ a xs, x = .ref a ∧ SqT K H a xs ∧ (whole xs lo hi → Q (.ref a) H) ∧
  (¬ whole xs lo hi → ∀ (p : Addr) (o : Obj), o.dict = none → H p = none → Q (.ref p) (upd H p (.frz o (.tup (cutV xs lo hi)))))
section
variable {X : Cx}
theorem sl_tupM : SlR X (rSlM X.K) := by
  intro pins s σ H x v vl vu lo hi sl Q I rx hs pl pu ⟨a, xs, ex, hx, q1, q2⟩
  by_cases hw : whole xs lo hi
  · exact sl_tupA pins s σ H x v vl vu lo hi sl Q I rx hs pl pu ⟨a, xs, ex, hx, q1, fun z => absurd hw z⟩
  subst ex
  cases rx
  obtain ⟨its, r, ht, hz⟩ := I.tuple hx
  have hn : its.toArray.size = xs.length := by rw [List.size_toArray, r.length]
  refine ⟨"tuple", _, PyProof.Rows.slot_tuple_getitem.lookup, ht.typeIs, HT.getItem_tuple_cut ht hs pl pu (by rw [hn]; exact hw) ?_ (by rw [hn]; exact hz)⟩
  rw [hn]
  exact mkT I ((r.drop _).take _) (Nat.le_trans (cutV_length xs lo hi) hz) (q2 hw)
end
def cutD (ds : List D) (lo hi : Option Int) : List D := (ds.drop (HT.sIx ds.length 0 lo)).take (HT.sIx ds.length ds.length hi - HT.sIx ds.length 0 lo)
theorem RpL.cut {K : Fg} {F : Hp} {xs : List V} {ds : List D} (r : RpL K F xs ds) (lo hi : Option Int) : RpL K F (cutV xs lo hi) (cutD ds lo hi) := by
  unfold cutV cutD
  rw [r.len]
  exact RpL.take _ (RpL.drop _ r)
theorem cutD_whole {ds : List D} {lo hi : Option Int} (h : whole ds lo hi) : cutD ds lo hi = ds := by
  unfold cutD
  rw [h.1, h.2, List.drop_zero, Nat.sub_zero, List.take_length]
abbrev OKo (K : Fg) (S : Sg) (B : Base) (σ : Sts) (F : Hp) (R : Option Int → Hp → Prop) : Option Int → Ev → Prop := fun o ρ1 => ∀ F1 H1, SInv K S B σ F1 H1 ρ1 → Same F F1 → R o H1
structure MO (X : Cx) (W : WX) (S : Sg) (oe : Option Expr) (m : Ev → Out (Option Int)) : Prop where
  ex : ∃ t : TO, PO X oe t ∧ ∀ B F H σ ρ R, SInv X.K S B σ F H ρ → Sat (m ρ) (OKo X.K S B σ F R) (XKo X W S B σ F) → t σ H R
def mNoP : Ev → Out (Option Int) := fun ρ => .ok none ρ
def mPart (ma : Ev → Out D) : Ev → Out (Option Int) := fun ρ => (ma ρ).bind fun d ρ1 => match d with
  | .int i => .ok (some i) ρ1
  | _ => .bad
def mSl (ma : Ev → Out D) (ml mh : Ev → Out (Option Int)) : Ev → Out D := fun ρ => (ma ρ).bind fun d ρ1 => (ml ρ1).bind fun lo ρ2 => (mh ρ2).bind fun hi ρ3 => match d with
  | .tuple ds => .ok (.tuple (cutD ds lo hi)) ρ3
  | .list ds => .ok (.list (cutD ds lo hi)) ρ3
  | _ => .bad
section
variable {X : Cx} {W : WX} {S : Sg} {a : Expr} {ma : Ev → Out D} {lo hi : Option Expr} {ml mh : Ev → Out (Option Int)} {pos p2 : Pos}
theorem mo_none : MO X W S none mNoP := ⟨_, po_none, fun B F H σ ρ R I h => h F H I (Same.refl _)⟩
theorem mo_some (h : ME X W S a ma) : MO X W S (some a) (mPart ma) := by
  obtain ⟨t, p, q⟩ := h.ex
  refine ⟨_, po_some p, fun B F H σ ρ R I hh => q B F H σ ρ _ I ((Sat.bind hh).mono (fun d ρ1 h1 F1 H1 x I1 s1 r1 => ?_) fun _ _ z => z)⟩
  have h1 : Sat (match d with
    | .int i => .ok (some i) ρ1
    | _ => .bad) (OKo X.K S B σ F R) (XKo X W S B σ F) := h1
  split at h1
  · cases r1; exact ⟨_, rfl, h1 F1 H1 I1 s1⟩
  · exact h1.elim
theorem me_sl (ha : ME X W S a ma) (hl : MO X W S lo ml) (hh : MO X W S hi mh) : ME X W S (.Subscript a (.Slice lo hi none p2) pos) (mSl ma ml mh) := by
  obtain ⟨t, p, q⟩ := ha.ex
  obtain ⟨tl, pl, ql⟩ := hl.ex
  obtain ⟨th, ph, qh⟩ := hh.ex
  refine ⟨_, pe_slice (sl_tupM.or sl_list) p pl ph, fun B F H σ ρ Q I h => ?_⟩
  refine q B F H σ ρ _ I ((Sat.bind h).mono (fun d ρ1 h1 F1 H1 x I1 s1 r1 => ?_) fun _ _ z => z)
  refine ql B F1 H1 σ ρ1 _ I1 ((Sat.bind h1).mono (fun l ρ2 h2 F2 H2 I2 s2 => ?_) fun _ _ z => XKo.up s1 z)
  refine qh B F2 H2 σ ρ2 _ I2 ((Sat.bind h2).mono (fun u ρ3 h3 F3 H3 I3 s3 => ?_) fun _ _ z => XKo.up (s1.trans s2) z)
  have h3 : Sat (match d with
    | .tuple ds => .ok (.tuple (cutD ds l u)) ρ3
    | .list ds => .ok (.list (cutD ds l u)) ρ3
    | _ => .bad) (EKo X.K S B σ F Q) (XKo X W S B σ F) := h3
  have s := s2.trans s3
  split at h3
  · rename_i ds _
    cases r1 with
    | tup hq hr =>
      have hr3 := hr.up s
      refine .inl ⟨_, _, rfl, sqT_same (s.trans I3.same) hq.sq, fun hw => ?_, fun hw p o ho hp => ?_⟩
      · have hw2 : whole ds l u := by unfold whole at hw ⊢; rw [hr.len] at hw; exact hw
        have := h3 F3 H3 _ I3 (s1.trans s) (Rp.tup (sqM_same s hq) (by rw [cutD_whole hw2]; exact hr3))
        exact this
      · exact (EKo.up (s1.trans s) h3).tup I3 (hr3.cut l u) ho hp
  · cases r1 with
    | lst hq hr => exact .inr ⟨_, _, rfl, .inl (rd_same (s.trans I3.same) hq), fun p hp => (EKo.up (s1.trans s) h3).lst I3 ((hr.up s).cut l u) hp⟩
  · exact h3.elim
end
end MW
namespace MW
open PySem PySem.Spec PyProof.Rows L2
section
variable {K : Fg} {S : Sg} {B : Base} {σ : Sts} {F H : Hp} {ρ : Ev} {vs : List Nat}
theorem SInv.forget (I : SInv K S B σ F H ρ) (hv : ∀ i ∈ vs, own S i = false) : SInv K S B σ F H (wipeE ρ vs) := by
  refine I.weak (wipeE_len vs) (fun i d e => (wipeE_at e).1) fun x j d d' kx ex ax ej => ?_
  have hx := (wipeE_at ex).1
  obtain ⟨j', _, _, _, _, _, f1, f2, _⟩ := I.al x d hx kx
  rw [ax] at f1
  cases f1
  have hj : j ∉ vs := fun z => by
    have := hv j z
    rw [own_of2 (deep_knd f2)] at this
    cases this
  have : ∀ us : List Nat, j ∉ us → (wipeE ρ us)[j]? = ρ[j]? := by
    intro us
    induction us with
    | nil => intro _; rfl
    | cons u us ih =>
      intro h
      show ((wipeE ρ us).set u none)[j]? = _
      rw [List.getElem?_set_ne (fun z => h (by rw [z]; exact List.mem_cons_self))]
      exact ih fun z => h (List.mem_cons_of_mem _ z)
  rw [this vs hj]
  exact ej
end
end MW
namespace MW
open PySem PySem.Spec PyProof.Rows L2
end MW
namespace MW
open PySem PySem.Spec PyProof.Rows L2
def tMI (K : Fg) (mg : Str → Option Value) (W : WX) (S : Sg) (mi : Ev → Out (List D)) : TI := fun σ H R => ∃ B F ρ, SInv K S B σ F H ρ ∧ Sat (mi ρ) (IKo K S B σ F R) (fun c ρ' => ∀ F' H' C, SInv K S B σ F' H' ρ' → Same F F' → mg c = some (.ref C) → W (.ref C) none σ H')
theorem MI.run {X : Cx} {W : WX} {S : Sg} {tg iter : Expr} {mi : Ev → Out (List D)} (h : MI X W S tg iter mi) : PI X tg iter (tMI X.K X.mg W S mi) := by
  obtain ⟨t, p, q⟩ := h.ex
  exact ⟨fun pins s σ H R I ⟨B, F, ρ, J, z⟩ => p.run pins s σ H R I (q B F H σ ρ R J z)⟩
theorem wipe_sub {σ : Sts} {vs us : List Nat} (h : ∀ i ∈ us, i ∈ vs) : wipe (wipe σ us) vs = wipe σ vs := by
  refine List.ext_getElem? fun i => ?_
  by_cases hi : i ∈ vs
  · have nn : ∀ (τ : Sts), τ.length = σ.length → ∀ (ws : List Nat), i ∈ ws → (wipe τ ws)[i]? = if i < σ.length then some none else none := by
      intro τ hτ ws
      induction ws with
      | nil => intro z; cases z
      | cons u ws ih =>
        intro z
        show ((wipe τ ws).set u none)[i]? = _
        by_cases hu : u = i
        · subst hu
          by_cases hlt : u < σ.length
          · rw [List.getElem?_set_self (by rw [wipe_length, hτ]; exact hlt), if_pos hlt]
          · rw [List.getElem?_eq_none (by rw [List.length_set, wipe_length, hτ]; omega), if_neg hlt]
        · rw [List.getElem?_set_ne hu]
          refine ih ?_
          rcases List.mem_cons.mp z with z | z
          · exact absurd z.symm hu
          · exact z
    rw [nn _ (wipe_length σ us) vs hi, nn _ rfl vs hi]
  · rw [wipe_out hi, wipe_out hi, wipe_out fun z => hi (h i z)]
theorem MG.more {X : Cx} {S : Sg} {tg : Expr} {t : TG} {vs us : List Nat} {g : Ev → D → Option Ev} (h : MG X S tg t us g) (hs : us.all (fun i => vs.contains i) = true := by rfl) : MG X S tg t vs g := by
  have hs' : ∀ i ∈ us, i ∈ vs := fun i hi => by
    have := List.all_eq_true.mp hs i hi
    simpa using this
  refine ⟨h.pg, fun B F H σ ρ v d ρ1 Q I r e k => h.ok B F H σ ρ v d ρ1 Q I r e fun σ' I' w => k σ' I' ?_⟩
  rw [← wipe_sub hs', w, wipe_sub hs']
end MW
namespace MW
open PySem PySem.Spec PyProof.Rows L2
def noLst (K : Fg) : Bool := K.all fun p => !(p.2.cls == Value.type "list")
theorem lookup_all {K : Fg} {f : Addr × Obj → Bool} (h : K.all f = true) : ∀ {a : Addr} {o : Obj}, K.lookup a = some o → f (a, o) = true := by
  induction K with
  | nil => intro a o e; cases e
  | cons p K ih =>
    obtain ⟨b, u⟩ := p
    intro a o e
    rw [List.all_cons, Bool.and_eq_true] at h
    rw [List.lookup_cons] at e
    split at e
    · rename_i q
      cases e
      rw [eq_of_beq q]; exact h.1
    · exact ih h.2 e
end MW
namespace MW
open PySem
def Ok {α : Type} (o : Out α) (P : α → Ev → Prop) : Prop := match o with
  | .ok a ρ => P a ρ
  | _ => False
theorem Ok.mono {α : Type} {o : Out α} {P Q : α → Ev → Prop} (h : Ok o P) (k : ∀ a ρ, P a ρ → Q a ρ) : Ok o Q := by
  cases o with
  | ok a ρ => exact k a ρ h
  | err c ρ => exact h
  | bad => exact h
theorem Ok.eq {α : Type} {o : Out α} {P : α → Ev → Prop} (h : Ok o P) : ∃ a ρ, o = .ok a ρ ∧ P a ρ := by
  cases o with
  | ok a ρ => exact ⟨a, ρ, rfl, h⟩
  | err c ρ => exact h.elim
  | bad => exact h.elim
theorem ok_bind {α β : Type} {o : Out α} {f : α → Ev → Out β} {P : β → Ev → Prop} (h : Ok o fun a ρ => Ok (f a ρ) P) : Ok (o.bind f) P := by
  cases o with
  | ok a ρ => exact h
  | err c ρ => exact h
  | bad => exact h
theorem ok_of {α : Type} {x : Option α} {a : α} {ρ : Ev} {P : α → Ev → Prop} (e : x = some a) (h : P a ρ) : Ok (Out.of x ρ) P := by subst e; exact h
theorem ok_noE {α : Type} {o : Out α} {P : α → Ev → Prop} (h : Ok o P) : Ok (noE o) P := by
  cases o with
  | ok a ρ => exact h
  | err c ρ => exact h
  | bad => exact h
section
variable {ρ : Ev} {P : D → Ev → Prop} {PL : List D → Ev → Prop} {PB : Bool → Ev → Prop} {PF : Fl → Ev → Prop} {d : D} {i : Nat} {m ma mb mc mk : Ev → Out D} {ms mr mi : Ev → Out (List D)} {mt nt : Ev → Out Bool} {ma' mb' : Ev → Out Fl} {g g2 : D → D → Option D} {b b2 : D → D → Option Bool}
/-- where a statement ends, and what is still to be done -/
def Then (n : Ev → Out Fl) (P : Fl → Ev → Prop) : Fl → Ev → Prop
  | .nx, ρ => Ok (n ρ) P
  | .bk, ρ => P .bk ρ
  | .ct, ρ => P .ct ρ
  | .rt d, ρ => P (.rt d) ρ
theorem ok_seq {m n : Ev → Out Fl} (h : Ok (m ρ) (Then n PF)) : Ok (mSeq m n ρ) PF := ok_bind (h.mono fun fl ρ1 k => by cases fl <;> exact k)
theorem then_nx {n : Ev → Out Fl} (h : Ok (n ρ) PF) : Then n PF .nx ρ := h
theorem then_rt {n : Ev → Out Fl} (h : PF (.rt d) ρ) : Then n PF (.rt d) ρ := h
theorem ok_next (h : PF .nx ρ) : Ok (mNext ρ) PF := h
theorem ok_ret (h : Ok (m ρ) fun d ρ1 => PF (.rt d) ρ1) : Ok (mRet m ρ) PF := ok_bind h
theorem ok_set (h : Ok (m ρ) fun d ρ1 => PF .nx (ρ1.set i (some d))) : Ok (mSet i m ρ) PF := ok_bind h
theorem ok_setL (h : Ok (ms ρ) fun ds ρ1 => PF .nx (ρ1.set i (some (.list ds)))) : Ok (mSetL i ms ρ) PF := ok_bind h
theorem ok_drop (h : Ok (m ρ) fun _ ρ1 => PF .nx ρ1) : Ok (mDrop m ρ) PF := ok_bind h
theorem ok_ifS {n1 n2 : Ev → Out Fl} (h : Ok (mt ρ) fun b ρ1 => if b = true then Ok (n1 ρ1) PF else Ok (n2 ρ1) PF) : Ok (mIfS mt n1 n2 ρ) PF := ok_bind (h.mono fun b ρ1 k => by cases b <;> exact k)
theorem ok_if (h : Ok (mt ρ) fun b ρ1 => if b = true then Ok (ma ρ1) P else Ok (mb ρ1) P) : Ok (mIf mt ma mb ρ) P := ok_bind (h.mono fun b ρ1 k => by cases b <;> exact k)
theorem ok_var (e : rd ρ i = some d) (h : P d ρ) : Ok (mVar i ρ) P := ok_of e h
theorem ok_c (h : P d ρ) : Ok (mC d ρ) P := h
theorem ok_bin (h : Ok (ma ρ) fun d ρ1 => Ok (mb ρ1) fun e ρ2 => ∃ z, g d e = some z ∧ P z ρ2) : Ok (mBin g ma mb ρ) P := ok_bind (h.mono fun d ρ1 k => ok_bind (k.mono fun e ρ2 ⟨z, e1, k2⟩ => ok_of e1 k2))
theorem ok_un {g : D → Option D} (h : Ok (ma ρ) fun d ρ1 => ∃ z, g d = some z ∧ P z ρ1) : Ok (mUn g ma ρ) P := ok_bind (h.mono fun d ρ1 ⟨z, e1, k2⟩ => ok_of e1 k2)
theorem ok_ownBin (e : rd ρ i = some d) (h : Ok (mb ρ) fun x ρ2 => ∃ y, rd ρ2 i = some y ∧ ∃ z, g y x = some z ∧ P z ρ2) : Ok (mOwnBin g i mb ρ) P := ok_bind (ok_of e (ok_bind (h.mono fun x ρ2 ⟨y, e1, z, e2, k⟩ => ok_bind (ok_of e1 (ok_of e2 k)))))
theorem ok_test (h : Ok (ma ρ) fun d ρ1 => Ok (mb ρ1) fun e ρ2 => ∃ z, b d e = some z ∧ PB z ρ2) : Ok (mTest b ma mb ρ) PB := ok_bind (h.mono fun d ρ1 k => ok_bind (k.mono fun e ρ2 ⟨z, e1, k2⟩ => ok_of e1 k2))
theorem ok_tru (h : Ok (ma ρ) fun d ρ1 => ∃ z, truth d = some z ∧ PB z ρ1) : Ok (mTru ma ρ) PB := ok_bind (h.mono fun d ρ1 ⟨z, e1, k2⟩ => ok_of e1 k2)
theorem ok_notB (h : Ok (mt ρ) fun b ρ1 => PB (!b) ρ1) : Ok (mNotB mt ρ) PB := ok_bind h
theorem ok_ofB (h : Ok (mt ρ) fun b ρ1 => P (.bool b) ρ1) : Ok (mOfB mt ρ) P := ok_bind h
theorem ok_andB (h : Ok (mt ρ) fun b ρ1 => if b = true then Ok (nt ρ1) PB else PB false ρ1) : Ok (mAndB mt nt ρ) PB := ok_bind (h.mono fun b ρ1 k => by cases b <;> exact k)
theorem ok_orB (h : Ok (mt ρ) fun b ρ1 => if b = true then PB true ρ1 else Ok (nt ρ1) PB) : Ok (mOrB mt nt ρ) PB := ok_bind (h.mono fun b ρ1 k => by cases b <;> exact k)
theorem ok_andV (h : Ok (ma ρ) fun d ρ1 => ∃ z, truth d = some z ∧ if z = true then Ok (mb ρ1) P else P d ρ1) : Ok (mAndV ma mb ρ) P := ok_bind (h.mono fun d ρ1 ⟨z, e, k⟩ => ok_bind (ok_of e (by cases z <;> exact k)))
theorem ok_orV (h : Ok (ma ρ) fun d ρ1 => ∃ z, truth d = some z ∧ if z = true then P d ρ1 else Ok (mb ρ1) P) : Ok (mOrV ma mb ρ) P := ok_bind (h.mono fun d ρ1 ⟨z, e, k⟩ => ok_bind (ok_of e (by cases z <;> exact k)))
theorem ok_chainT (h : Ok (ma ρ) fun d ρ1 => Ok (mb ρ1) fun e ρ2 => ∃ z, b d e = some z ∧ if z = true then Ok (mc ρ2) fun f ρ3 => ∃ y, b2 e f = some y ∧ PB y ρ3 else PB false ρ2) : Ok (mChainT b b2 ma mb mc ρ) PB := by
  refine ok_bind (h.mono fun d ρ1 k => ok_bind (k.mono fun e ρ2 ⟨z, e1, k2⟩ => ?_))
  refine ok_bind (ok_of e1 ?_)
  cases z with
  | true => exact ok_bind (Ok.mono k2 fun f ρ3 ⟨y, e2, k3⟩ => ok_of e2 k3)
  | false => exact k2
theorem ok_nil (h : PL [] ρ) : Ok (mNil ρ) PL := h
theorem ok_cons (h : Ok (ma ρ) fun d ρ1 => Ok (mr ρ1) fun ds ρ2 => PL (d :: ds) ρ2) : Ok (mCons ma mr ρ) PL := ok_bind (h.mono fun d ρ1 k => ok_bind k)
theorem ok_lend (e : rd ρ i = some d) (h : Ok (mr ρ) fun ds ρ2 => PL (.none :: ds) ρ2) : Ok (mLend i mr ρ) PL := ok_bind (ok_of e (ok_bind h))
theorem ok_tup (h : Ok (ms ρ) fun ds ρ1 => P (.tuple ds) ρ1) : Ok (mTup ms ρ) P := ok_bind h
theorem ok_lst (h : Ok (ms ρ) fun ds ρ1 => P (.list ds) ρ1) : Ok (mLst ms ρ) P := ok_bind h
theorem ok_call {g : List D → Option D} (h : Ok (ms ρ) fun ds ρ1 => ∃ z, g ds = some z ∧ P z ρ1) : Ok (mCall g ms ρ) P := ok_bind (h.mono fun d ρ1 ⟨z, e1, k2⟩ => ok_of e1 k2)
theorem ok_callL {g : List D → Option (List D)} (h : Ok (ms ρ) fun ds ρ1 => ∃ z, g ds = some z ∧ PL z ρ1) : Ok (mCallL g ms ρ) PL := ok_bind (h.mono fun d ρ1 ⟨z, e1, k2⟩ => ok_of e1 k2)
theorem ok_callO {g : List D → Option D} {z : D} (e : rd ρ i = some d) (e2 : g [d] = some z) (h : P z ρ) : Ok (mCallO g i ρ) P := ok_bind (ok_of e (ok_of e2 h))
theorem ok_callOL {g : List D → Option (List D)} {z : List D} (e : rd ρ i = some d) (e2 : g [d] = some z) (h : PL z ρ) : Ok (mCallOL g i ρ) PL := ok_bind (ok_of e (ok_of e2 h))
theorem ok_move (e : rd ρ i = some d) (h : P d (ρ.set i none)) : Ok (mMove i ρ) P := ok_bind (ok_of e h)
theorem ok_isD {T : String} (h : Ok (ma ρ) fun d ρ1 => P (.bool (isD T d)) ρ1) : Ok (mIsD T ma ρ) P := ok_bind h
theorem ok_binL {g : D → D → Option (List D)} (h : Ok (ma ρ) fun d ρ1 => Ok (mb ρ1) fun e ρ2 => ∃ z, g d e = some z ∧ PL z ρ2) : Ok (mBinL g ma mb ρ) PL := ok_bind (h.mono fun d ρ1 k => ok_bind (k.mono fun e ρ2 ⟨z, e1, k2⟩ => ok_of e1 k2))
theorem ok_seqD (h : Ok (ma ρ) fun d ρ1 => ∃ z, seqD d = some z ∧ PL z ρ1) : Ok (mSeqD ma ρ) PL := ok_bind (h.mono fun d ρ1 ⟨z, e1, k2⟩ => ok_of e1 k2)
theorem ok_range1 (h : Ok (ms ρ) fun ds ρ1 => ∃ j : Int, ds = [.int j] ∧ (-16777216 ≤ j ∧ j ≤ 16777216) ∧ PL (rangeD 0 j.toNat) ρ1) : Ok (mRange1 ms ρ) PL := ok_bind (h.mono fun ds ρ1 ⟨j, e, hj, k⟩ => by
  subst e
  show Ok (if -16777216 ≤ j ∧ j ≤ 16777216 then Out.ok (rangeD 0 j.toNat) ρ1 else .bad) PL
  rw [if_pos hj]; exact k)
theorem ok_listRg (h : Ok (ma ρ) fun d ρ1 => ∃ j : Int, d = .int j ∧ (-16777216 ≤ j ∧ j ≤ 16777216) ∧ PL (rangeD 0 j.toNat) ρ1) : Ok (mListRg ma ρ) PL := ok_bind (h.mono fun d ρ1 ⟨j, e, hj, k⟩ => by
  subst e
  show Ok (if -16777216 ≤ j ∧ j ≤ 16777216 then Out.ok (rangeD 0 j.toNat) ρ1 else .bad) PL
  rw [if_pos hj]; exact k)
theorem ok_enum (h : Ok (ms ρ) fun ds ρ1 => ∃ xs, (ds = [.list xs] ∨ ds = [.tuple xs]) ∧ PL (enumD xs) ρ1) : Ok (mEnum ms ρ) PL := ok_bind (h.mono fun ds ρ1 ⟨xs, e, k⟩ => by
  rcases e with e | e <;> (subst e; exact k))
theorem ok_upd {f : List D → List D → Option (D × List D)} (e : rd ρ i = some d) (h : Ok (ms ρ) fun as ρ1 => ∃ ds z ds', rd ρ1 i = some (.list ds) ∧ f ds as = some (z, ds') ∧ P z (ρ1.set i (some (.list ds')))) : Ok (mUpd i f ms ρ) P := ok_bind (ok_of e (ok_bind (h.mono fun as ρ1 ⟨ds, z, ds', e1, e2, k⟩ => by
  rw [e1]
  show Ok (match f ds as with | some (d, ds') => Out.ok d (ρ1.set i (some (.list ds'))) | none => .bad) P
  rw [e2]; exact k)))
theorem ok_store (h : Ok (ma ρ) fun z ρ1 => ∃ y, rd ρ1 i = some y ∧ Ok (mk ρ1) fun e ρ2 => ∃ ds j n, rd ρ2 i = some (.list ds) ∧ e = .int j ∧ L2.ixN ds.length j = some n ∧ PF .nx (ρ2.set i (some (.list (ds.set n z))))) : Ok (mStore i ma mk ρ) PF := ok_bind (h.mono fun z ρ1 ⟨y, e0, k⟩ => ok_bind (ok_of e0 (ok_bind (k.mono fun e ρ2 ⟨ds, j, n, e1, e2, e3, k2⟩ => by
  subst e2
  rw [e1]
  show Ok (match L2.ixN ds.length j with | some n => Out.ok Fl.nx (ρ2.set i (some (.list (ds.set n z)))) | none => .bad) PF
  rw [e3]; exact k2))))
theorem ok_callD {f : List D → Out D} {ks : List (Option Nat)} (h : Ok (ms ρ) fun ds ρ1 => ∃ as, resolve ρ1 ks ds = some as ∧ Ok (f as) fun d os => P d (wback ks os ρ1)) : Ok (mCallD f ks ms ρ) P := ok_bind (h.mono fun ds ρ1 ⟨as, e, k⟩ => ok_bind (ok_of e (by
  obtain ⟨d, os, e2, k2⟩ := k.eq
  show Ok (match f as with | .ok d os => Out.ok d (wback ks os ρ1) | .err c os => .err c (wback ks os ρ1) | .bad => .bad) P
  rw [e2]; exact k2)))
theorem ok_callDL {f : List D → Out (List D)} {ks : List (Option Nat)} (h : Ok (ms ρ) fun ds ρ1 => ∃ as, resolve ρ1 ks ds = some as ∧ Ok (f as) fun d os => PL d (wback ks os ρ1)) : Ok (mCallDL f ks ms ρ) PL := ok_bind (h.mono fun ds ρ1 ⟨as, e, k⟩ => ok_bind (ok_of e (by
  obtain ⟨d, os, e2, k2⟩ := k.eq
  show Ok (match f as with | .ok d os => Out.ok d (wback ks os ρ1) | .err c os => .err c (wback ks os ρ1) | .bad => .bad) PL
  rw [e2]; exact k2)))
/-- a def: the body from the arguments, and the lists handed back -/
def DefK (S : Sg) (P : D → Ev → Prop) : Fl → Ev → Prop
  | .nx, ρ => chk S (outs S ρ) = true ∧ P .none (outs S ρ)
  | .rt d, ρ => chk S (outs S ρ) = true ∧ P d (outs S ρ)
  | _, _ => False
theorem defK_rt {S : Sg} (h1 : chk S (outs S ρ) = true) (h2 : P d (outs S ρ)) : DefK S P (.rt d) ρ := ⟨h1, h2⟩
theorem defK_nx {S : Sg} (h1 : chk S (outs S ρ) = true) (h2 : P .none (outs S ρ)) : DefK S P .nx ρ := ⟨h1, h2⟩
theorem ok_def {S : Sg} {n : Nat} {mb : Ev → Out Fl} {ds : List D} {ρ0 : Ev} (h0 : ds.map some ++ List.replicate (n - ds.length) none = ρ0) (h : Ok (mb ρ0) (DefK S P)) : Ok (mDef S n mb ds) P := by
  subst h0
  unfold mDef
  cases e : mb (ds.map some ++ List.replicate (n - ds.length) none) with
  | ok fl ρ =>
    rw [e] at h
    cases fl with
    | nx => obtain ⟨h1, h2⟩ := h; show Ok (if chk S (outs S ρ) = true then _ else _) P; rw [if_pos h1]; exact h2
    | rt d => obtain ⟨h1, h2⟩ := h; show Ok (if chk S (outs S ρ) = true then _ else _) P; rw [if_pos h1]; exact h2
    | bk => exact h.elim
    | ct => exact h.elim
  | err c ρ => rw [e] at h; exact h.elim
  | bad => rw [e] at h; exact h.elim
theorem ok_defL {n : Nat} {me : Ev → Out (List D)} {ds : List D} {ρ0 : Ev} (h0 : ds.map some ++ List.replicate (n - ds.length) none = ρ0) (h : Ok (me ρ0) fun xs _ => PL xs (List.replicate ds.length none)) : Ok (mDefL n me ds) PL := by
  subst h0
  unfold mDefL
  obtain ⟨xs, ρ, e, k⟩ := h.eq
  rw [e]
  exact k
theorem ite_dec {c : Prop} [Decidable c] {A B : Prop} (h1 : c → A) (h2 : ¬ c → B) : if decide c = true then A else B := by
  by_cases h : c
  · rw [if_pos (decide_eq_true h)]; exact h1 h
  · rw [if_neg (by rw [decide_eq_false h]; exact Bool.false_ne_true)]; exact h2 h
theorem ok_for {g : Ev → D → Option Ev} {mb : Ev → Out Fl} (h : Ok (mi ρ) fun items ρ1 => Ok (forM g mb items ρ1) PF) : Ok (mFor mi g mb ρ) PF := ok_bind h
/-- how a turn ends -/
def Turned (I : Ev → Prop) (P : Fl → Ev → Prop) : Fl → Ev → Prop
  | .nx, ρ => I ρ
  | .ct, ρ => I ρ
  | .bk, ρ => P .nx ρ
  | .rt d, ρ => P (.rt d) ρ
theorem for_inv {g : Ev → D → Option Ev} {mb : Ev → Out Fl} (I : Nat → Ev → Prop) : ∀ {items : List D} {ρ : Ev} (k : Nat), I k ρ → (∀ i d ρ, items[i]? = some d → I (k + i) ρ → ∃ ρ', g ρ d = some ρ' ∧ Ok (mb ρ') (Turned (I (k + (i + 1))) PF)) → (∀ ρ, I (k + items.length) ρ → PF .nx ρ) → Ok (forM g mb items ρ) PF
  | [], ρ, k, h0, _, h2 => h2 ρ h0
  | d :: items, ρ, k, h0, h1, h2 => by
    obtain ⟨ρ', e, h⟩ := h1 0 d ρ rfl h0
    unfold forM
    refine ok_bind (ok_of e (ok_bind (h.mono fun fl ρ2 z => ?_)))
    have ih : I (k + 1) ρ2 → Ok (forM g mb items ρ2) PF := fun z => for_inv I (k + 1) z (fun i d ρ e z => by
      have := h1 (i + 1) d ρ e (by rw [show k + (i + 1) = k + 1 + i by omega]; exact z)
      rwa [show k + (i + 1 + 1) = k + 1 + (i + 1) by omega] at this) (fun ρ z => h2 ρ (by rw [List.length_cons, show k + (items.length + 1) = k + 1 + items.length by omega]; exact z))
    cases fl with
    | nx => exact ih z
    | ct => exact ih z
    | bk => exact z
    | rt d => exact z
theorem comp_inv {g : Ev → D → Option Ev} {mt : Ev → Out Bool} {me : Ev → Out D} {vs : List Nat} (J : Nat → List D → Ev → Prop) : ∀ {PL : List D → Ev → Prop} {items : List D} {ρ : Ev} (k : Nat) (acc : List D), J k acc ρ →
    (∀ i d ys ρ, items[i]? = some d → J (k + i) ys ρ → ∃ ρ1, g ρ d = some ρ1 ∧ Ok (mt ρ1) fun b ρ2 => if b = true then Ok (me ρ2) fun y ρ3 => J (k + (i + 1)) (ys ++ [y]) (wipeE ρ3 vs) else J (k + (i + 1)) ys (wipeE ρ2 vs)) →
    (∀ ys ρ, J (k + items.length) (acc ++ ys) ρ → PL ys ρ) → Ok (compM g mt me vs items ρ) PL
  | PL, [], ρ, k, acc, h0, _, h2 => h2 [] ρ (by rw [List.append_nil]; exact h0)
  | PL, d :: items, ρ, k, acc, h0, h1, h2 => by
    obtain ⟨ρ1, e, h⟩ := h1 0 d acc ρ rfl h0
    unfold compM
    refine ok_bind (ok_of e (ok_bind (h.mono fun b ρ2 z => ?_)))
    have h1' : ∀ i d ys ρ, items[i]? = some d → J (k + 1 + i) ys ρ → ∃ ρ1, g ρ d = some ρ1 ∧ Ok (mt ρ1) fun b ρ2 => if b = true then Ok (me ρ2) fun y ρ3 => J (k + 1 + (i + 1)) (ys ++ [y]) (wipeE ρ3 vs) else J (k + 1 + (i + 1)) ys (wipeE ρ2 vs) := fun i d ys ρ e z => by
      have := h1 (i + 1) d ys ρ e (by rw [show k + (i + 1) = k + 1 + i by omega]; exact z)
      rwa [show k + (i + 1 + 1) = k + 1 + (i + 1) by omega] at this
    cases b with
    | true =>
      have z : Ok (me ρ2) fun y ρ3 => J (k + 1) (acc ++ [y]) (wipeE ρ3 vs) := z
      show Ok ((me ρ2).bind fun y ρ3 => (compM g mt me vs items (wipeE ρ3 vs)).bind fun ys ρ4 => .ok (y :: ys) ρ4) PL
      refine ok_bind (z.mono fun y ρ3 z => ok_bind ?_)
      exact comp_inv (PL := fun ys ρ4 => PL (y :: ys) ρ4) J (k + 1) (acc ++ [y]) z h1' (fun ys ρ z => h2 (y :: ys) ρ (by rw [List.length_cons, show k + (items.length + 1) = k + 1 + items.length by omega, show acc ++ y :: ys = acc ++ [y] ++ ys by simp]; exact z))
    | false =>
      have z : J (k + 1) acc (wipeE ρ2 vs) := z
      exact comp_inv J (k + 1) acc z h1' (fun ys ρ z => h2 ys ρ (by rw [List.length_cons, show k + (items.length + 1) = k + 1 + items.length by omega]; exact z))
theorem ok_lc {g : Ev → D → Option Ev} {me : Ev → Out D} {vs : List Nat} (h : Ok (mi ρ) fun items ρ1 => Ok (compM g mt me vs items (wipeE ρ1 vs)) fun ys ρ2 => PL ys (restE ρ1 ρ2 vs)) : Ok (mLc mi g mt me vs ρ) PL := ok_bind (h.mono fun items ρ1 k => ok_bind (ok_noE k))
theorem ok_yes (h : PB true ρ) : Ok (mYes ρ) PB := h
end
end MW
namespace MW
open PySem
theorem gMod_ok {i j : Int} (h : 0 < j) : gMod (.int i) (.int j) = some (.int (i % j)) := if_pos h
theorem gDiv_ok {i j : Int} (h : 0 < j) (h2 : j < 1073741824) : gDiv (.int i) (.int j) = some (.int (i / j)) := if_pos ⟨h, h2⟩
theorem gMul_ok {i j : Int} (h : (-18446744073709551616 < i ∧ i < 18446744073709551616) ∨ (-18446744073709551616 < j ∧ j < 18446744073709551616)) : gMul (.int i) (.int j) = some (.int (i * j)) := if_pos h
theorem gAdd_ok {i j : Int} : gAdd (.int i) (.int j) = some (.int (i + j)) := rfl
theorem gSub_ok {i j : Int} : gSub (.int i) (.int j) = some (.int (i - j)) := rfl
theorem bGt_ok {i j : Int} : bGt (.int i) (.int j) = some (decide (j < i)) := rfl
theorem bLt_ok {i j : Int} : bLt (.int i) (.int j) = some (decide (i < j)) := rfl
theorem bLe_ok {i j : Int} : bLe (.int i) (.int j) = some (decide (i ≤ j)) := rfl
theorem bGe_ok {i j : Int} : bGe (.int i) (.int j) = some (decide (j ≤ i)) := rfl
theorem gLen_ok {ds : List D} : gLen [.list ds] = some (.int ds.length) := rfl
theorem gLenT_ok {ds : List D} : gLen [.tuple ds] = some (.int ds.length) := rfl
theorem gTupleOf_ok {ds : List D} : gTupleOf [.list ds] = some (.tuple ds) := rfl
theorem gIx_ok {ds : List D} {i : Nat} {d : D} (h : ds[i]? = some d) : gIx (.list ds) (.int i) = some d := by
  show L2.atI ds (i : Int) = some d
  exact L2.atI_nat h
theorem gIxT_ok {ds : List D} {i : Nat} {d : D} (h : ds[i]? = some d) : gIx (.tuple ds) (.int i) = some d := by
  show L2.atI ds (i : Int) = some d
  exact L2.atI_nat h
theorem Pen.up {N M : Int} {d : D} : (∃ a b n : Int, d = .list [.int a, .int b, .int n] ∧ 0 ≤ a ∧ 0 ≤ b ∧ b < 1000000007 ∧ 0 ≤ n ∧ n ≤ N) → N ≤ M → ∃ a b n : Int, d = .list [.int a, .int b, .int n] ∧ 0 ≤ a ∧ 0 ≤ b ∧ b < 1000000007 ∧ 0 ≤ n ∧ n ≤ M
  | ⟨a, b, n, e, k1, k2, k3, k4, k5⟩, h => ⟨a, b, n, e, k1, k2, k3, k4, Int.le_trans k5 h⟩
theorem ite_yes {A B : Prop} (h : A) : if true = true then A else B := h
theorem ok_at {α : Type} {m : Ev → Out α} {ρ ρ' : Ev} {P : α → Ev → Prop} (e : ρ = ρ') (h : Ok (m ρ') P) : Ok (m ρ) P := by subst e; exact h
theorem rangeD_len {n : Nat} : (rangeD 0 n).length = n := by unfold rangeD; rw [List.length_map, List.length_range]
theorem rangeD_at {n i : Nat} {d : D} (h : (rangeD 0 n)[i]? = some d) : i < n ∧ d = .int i := by
  unfold rangeD at h
  rw [List.getElem?_map] at h
  by_cases hi : i < n
  · rw [List.getElem?_range hi] at h
    refine ⟨hi, ?_⟩
    rw [← Option.some.inj h]
    show PyData.int (0 + (i : Int)) = .int i
    rw [Int.zero_add]
  · rw [List.getElem?_eq_none (by rw [List.length_range]; omega)] at h
    cases h
/-- what a draw holds on to -/
def Pen (N : Int) (d : D) : Prop := ∃ a b n : Int, d = .list [.int a, .int b, .int n] ∧ 0 ≤ a ∧ 0 ≤ b ∧ b < 1000000007 ∧ 0 ≤ n ∧ n ≤ N
end MW
local macro_rules | `(tactic| walk_at "mx1") => `(tactic| first
  | with_reducible refine MW.ok_seq ?_ | with_reducible refine MW.then_nx ?_ | with_reducible refine MW.then_rt ?_ | with_reducible refine MW.ok_next ?_ | with_reducible refine MW.ok_ret ?_ | with_reducible refine MW.ok_set ?_ | with_reducible refine MW.ok_setL ?_ | with_reducible refine MW.ok_drop ?_
  | with_reducible refine MW.ok_ifS ?_ | with_reducible refine MW.ok_if ?_ | ((with_reducible apply MW.ok_var); rfl) | with_reducible refine MW.ok_c ?_ | with_reducible refine MW.ok_bin ?_ | with_reducible refine MW.ok_un ?_ | ((with_reducible apply MW.ok_ownBin); rfl) | with_reducible refine MW.ok_test ?_ | with_reducible refine MW.ok_tru ?_
  | with_reducible refine MW.ok_notB ?_ | with_reducible refine MW.ok_ofB ?_ | with_reducible refine MW.ok_andB ?_ | with_reducible refine MW.ok_orB ?_ | with_reducible refine MW.ok_andV ?_ | with_reducible refine MW.ok_orV ?_ | with_reducible refine MW.ok_chainT ?_
  | with_reducible refine MW.ok_nil ?_ | with_reducible refine MW.ok_cons ?_ | ((with_reducible apply MW.ok_lend); rfl) | with_reducible refine MW.ok_tup ?_ | with_reducible refine MW.ok_lst ?_ | with_reducible refine MW.ok_call ?_ | with_reducible refine MW.ok_callL ?_
  | ((with_reducible apply MW.ok_move); rfl) | with_reducible refine MW.ok_isD ?_ | with_reducible refine MW.ok_binL ?_ | with_reducible refine MW.ok_seqD ?_ | with_reducible refine MW.ok_store ?_ | with_reducible refine MW.ok_callD ?_ | with_reducible refine MW.ok_callDL ?_ | with_reducible refine MW.ok_for ?_ | with_reducible refine MW.ok_lc ?_ | with_reducible refine MW.ok_yes ?_ | ((with_reducible apply MW.ok_upd); rfl) | with_reducible refine MW.ok_listRg ?_ | with_reducible refine MW.ok_range1 ?_ | with_reducible refine MW.ok_enum ?_ | with_reducible refine MW.ite_yes ?_ | ((with_reducible apply MW.ok_callO); rfl; rfl))
local macro_rules | `(tactic| walk_at "mv1") => `(tactic| first
  | with_reducible refine ⟨_, MW.gAdd_ok, ?_⟩ | with_reducible refine ⟨_, MW.gSub_ok, ?_⟩ | with_reducible refine ⟨_, MW.bGt_ok, ?_⟩ | with_reducible refine ⟨_, MW.bLt_ok, ?_⟩ | with_reducible refine ⟨_, MW.bLe_ok, ?_⟩ | with_reducible refine ⟨_, MW.bGe_ok, ?_⟩
  | with_reducible refine ⟨_, MW.gLen_ok, ?_⟩ | with_reducible refine ⟨_, MW.gLenT_ok, ?_⟩ | with_reducible refine ⟨_, MW.gTupleOf_ok, ?_⟩ | with_reducible refine ⟨_, MW.gMod_ok (by omega), ?_⟩ | with_reducible refine ⟨_, MW.gDiv_ok (by omega) (by omega), ?_⟩ | with_reducible refine ⟨_, MW.gMul_ok (by omega), ?_⟩
  | (refine ⟨_, _, _, (rfl : MW.rd _ _ = some _), rfl, rfl, ?_⟩) | (refine ⟨_, (rfl : MW.rd _ _ = some _), ?_⟩) | (refine ⟨_, (rfl : MW.gIx _ _ = some _), ?_⟩) | (refine ⟨_, (rfl : MW.resolve _ _ _ = some _), ?_⟩))
local macro_rules | `(tactic| walk_at "mx") => `(tactic| repeat (first | walk_at "mx1" | walk_at "mv1"))
namespace MW
open PySem
abbrev nD (i : Nat) : D := .int (i : Int)
abbrev tD (q : List Nat) : D := .tuple (q.map nD)
theorem pen_le {N M : Int} {d : D} (h : Pen N d) (k : N ≤ M) : Pen M d := Pen.up h k
theorem gAddT_ok {xs ys : List D} (h : xs.length + ys.length ≤ 16777216) : gAdd (.tuple xs) (.tuple ys) = some (.tuple (xs ++ ys)) := if_pos h
theorem fApp_ok {ds : List D} {d : D} (h : ds.length < 16777216) : fApp ds [d] = some (.none, ds ++ [d]) := if_pos h
/-- a view: the numbers 0 .. c - 1, each of them there -/
def Vw (v : List Nat) (c : Nat) : Prop := 1 ≤ v.length ∧ v.length ≤ 9 ∧ (1 ≤ c ∧ c ≤ v.length) ∧ (∀ x ∈ v, x < c) ∧ ∀ y, y < c → y ∈ v
theorem canLay_nD : ∀ q : List Nat, PyData.canLayAll0 (q.map nD) = true
  | [] => rfl
  | _ :: q => by simp [PyData.canLayAll0, PyData.canLay0, canLay_nD q]
theorem depth_nD : ∀ q : List Nat, PyData.depthAll (q.map nD) = 0
  | [] => rfl
  | _ :: q => by simp [PyData.depthAll, PyData.depth, depth_nD q]
theorem shaped_lD (q : List Nat) : SeqAt.shaped (.list (q.map nD)) = true := by simp [SeqAt.shaped, PyData.canLay0, PyData.depth, canLay_nD, depth_nD]
theorem shaped_nD (n : Int) : SeqAt.shaped (.int n) = true := by simp [SeqAt.shaped, PyData.canLay0, PyData.depth]
theorem intsD_nD : ∀ q : List Nat, intsD (q.map nD) = some (q.map Int.ofNat)
  | [] => rfl
  | x :: q => by
    have ih := intsD_nD q
    unfold intsD at ih ⊢
    rw [List.map_cons, List.mapM_cons, ih]
    rfl
theorem max_view {v : List Nat} {c : Nat} (h : Vw v c) : gMax [tD v] = some (.int ((c : Int) - 1)) := by
  obtain ⟨v1, v2, v3, v4, v5⟩ := h
  show ((intsD (v.map nD)).bind fun ns => if ns = [] then none else some (PyData.int (maxI ns))) = _
  rw [intsD_nD]
  have hne : v.map Int.ofNat ≠ [] := fun e => by
    have z : v = [] := List.map_eq_nil_iff.mp e
    rw [z] at v1
    exact absurd v1 (by simp)
  show (if v.map Int.ofNat = [] then none else some (PyData.int (maxI (v.map Int.ofNat)))) = _
  rw [if_neg hne, ← maxI_eq (xs := v.map Int.ofNat) (m := (c : Int) - 1) ?_ ?_]
  · refine List.mem_map.mpr ⟨c - 1, v5 _ (by omega), ?_⟩
    show ((c - 1 : Nat) : Int) = _
    omega
  · intro y hy
    obtain ⟨x, hx, e⟩ := List.mem_map.mp hy
    have := v4 x hx
    rw [← e]
    show (x : Int) ≤ _
    omega
/-- a table's rows -/
def oD : Option Nat → D
  | none => .none
  | some i => nD i
abbrev rD (r : List (Option Nat)) : D := .tuple (r.map oD)
abbrev tabD (t : List (List (Option Nat))) : D := .tuple (t.map rD)
def RowOk (n c : Nat) (r : List (Option Nat)) : Prop := r.length = c ∧ ∀ e ∈ r, ∀ i, e = some i → i < n
def Tab (n c : Nat) (t : List (List (Option Nat))) : Prop := t.length = n ∧ ∀ r ∈ t, RowOk n c r
theorem bEq_int (a b : Int) : bEq (.int a) (.int b) = some (a == b) := by
  unfold bEq
  rw [if_pos ⟨shaped_nD a, shaped_nD b⟩]
  simp [PyData.eqv]
theorem bNe_int (a b : Int) : bNe (.int a) (.int b) = some (!(a == b)) := by
  unfold bNe
  rw [if_pos ⟨shaped_nD a, shaped_nD b⟩]
  simp [PyData.eqv]
theorem at_map {α : Type} {f : α → D} {l : List α} {i : Nat} {d : D} (h : (l.map f)[i]? = some d) : ∃ hi : i < l.length, d = f l[i] := by
  obtain ⟨h1, h2⟩ := List.getElem?_eq_some_iff.mp h
  rw [List.length_map] at h1
  rw [List.getElem_map] at h2
  exact ⟨h1, h2.symm⟩
theorem map_at {α : Type} {f : α → D} {l : List α} {i : Nat} (h : i < l.length) : (l.map f)[i]? = some (f l[i]) := by rw [List.getElem?_map, List.getElem?_eq_getElem h]; rfl
end MW
namespace MW
open PySem
def findFrom (f : Nat → Option D) : Nat → Nat → Option D
  | _, 0 => none
  | k, n + 1 => match f k with
    | some r => some r
    | none => findFrom f (k + 1) n
/-- a table's entry -/
def cell (t : List (List (Option Nat))) (s w : Nat) : Option Nat := (t.getD s []).getD w none
theorem cell_at {t : List (List (Option Nat))} {s w : Nat} (hs : s < t.length) (hw : w < t[s].length) : cell t s w = t[s][w] := by
  unfold cell
  simp [List.getD_eq_getElem?_getD, hs, hw]
end MW
namespace MW
open PySem
theorem ok_slT {ma : Ev → Out D} {ml mh : Ev → Out (Option Int)} {ρ : Ev} {P : D → Ev → Prop} (h : Ok (ma ρ) fun d ρ1 => Ok (ml ρ1) fun lo ρ2 => Ok (mh ρ2) fun hi ρ3 => ∃ ds, d = .tuple ds ∧ P (.tuple (cutD ds lo hi)) ρ3) : Ok (mSl ma ml mh ρ) P := ok_bind (h.mono fun d ρ1 k => ok_bind (k.mono fun lo ρ2 k => ok_bind (k.mono fun hi ρ3 ⟨ds, e, k3⟩ => by rw [e]; exact k3)))
theorem ok_noP {ρ : Ev} {P : Option Int → Ev → Prop} (h : P none ρ) : Ok (mNoP ρ) P := h
theorem ok_part {ma : Ev → Out D} {ρ : Ev} {P : Option Int → Ev → Prop} (h : Ok (ma ρ) fun d ρ1 => ∃ i, d = .int i ∧ P (some i) ρ1) : Ok (mPart ma ρ) P := ok_bind (h.mono fun d ρ1 ⟨i, e, k3⟩ => by rw [e]; exact k3)
theorem cut_one (x : D) (l : List D) : cutD (x :: l) (some 1) none = l := by
  unfold cutD
  rw [show HT.sIx (x :: l).length 0 (some 1) = min 1 (x :: l).length from HT.sIx_nat (x :: l).length 0 1, HT.sIx_none]
  rw [show min 1 (x :: l).length = 1 by rw [List.length_cons]; omega]
  show List.take ((x :: l).length - 1) l = l
  rw [List.length_cons, Nat.add_sub_cancel]
  exact List.take_length
end MW
namespace MW
open PySem PySem.Spec PyProof.Rows L2
def gIndex (ds : List D) : List D → Option D := fun as => match as with
  | [d] => if SeqAt.shaped d = true ∧ SeqAt.shaped (.list ds) = true then (ds.findIdx? fun z => PyData.eqv z d).map fun j => .int (j : Nat) else none
  | _ => none
def mIndex (mo : Ev → Out D) (ms : Ev → Out (List D)) : Ev → Out D := fun ρ => (mo ρ).bind fun d ρ1 => match d with
  | .list ds => (ms ρ1).bind fun as ρ2 => Out.of (gIndex ds as) ρ2
  | _ => .bad
section
variable {X : Cx} {W : WX} {S : Sg} {pos apos : Pos} {o e0 : Expr} {mo : Ev → Out D} {ms : Ev → Out (List D)}
theorem me_index (hu : X.A.units + 65 < cLine) (ho : ME X W S o mo) (ha : MA X W S [e0] ms)
    (hb : attributeBase o "index" X.env (eval o X.env) = eval o X.env := by rfl)
    (hf : ((backTo pos (starEach [e0] X.env)).all (fun x => !x.1) && (backToKw pos (keywordEach [] X.env)).all (fun x => x.1.isSome) && decide (([e0] : List Expr).length + ([] : List Keyword).length + (if ([] : List Keyword).isEmpty then 0 else 1) < 30)) = true := by rfl)
    (hl : (apos.endLine == pos.line) = true := by rfl) (hs : starEach [e0] X.env = (false, eval e0 X.env) :: starEach [] X.env := by rfl) (hp : (backTo pos (starEach [] X.env)).any (·.1) = false := by rfl) :
    ME X W S (.Call (.Attribute o "index" apos) [e0] [] pos) (mIndex mo ms) := by
  obtain ⟨t, pt, k⟩ := ho.ex
  obtain ⟨t', pt', k'⟩ := ha.ex
  refine ⟨_, pe_bm PySem.F.plainAttrs_list PySem.F.slot_list_index PySem.F.type_list_index (mt_indexD hu) pt pt' hb hf hl hs hp, fun B F H σ ρ Q I h => ?_⟩
  refine k B F H σ ρ _ I (h.bind.mono (fun d ρ1 h1 F1 H1 x I1 s1 r1 => ?_) fun _ _ z => z)
  have h1 : Sat (match d with
    | .list ds => (ms ρ1).bind fun as ρ2 => Out.of (gIndex ds as) ρ2
    | _ => .bad) (EKo X.K S B σ F Q) (XKo X W S B σ F) := h1
  split at h1
  · cases r1 with
    | lst hq hr =>
      refine ⟨.inl ⟨rfl, _, .inl (rd_same I1.same hq)⟩, k' B F1 H1 σ ρ1 _ I1 (h1.bind.mono (fun as ρ2 h2 F2 H2 vs I2 s2 r2 => ?_) fun _ _ z => XKo.up s1 z)⟩
      obtain ⟨z, hz, h3⟩ := sat_of h2
      unfold gIndex at hz
      split at hz
      · split at hz
        · rename_i hk
          obtain ⟨j, e1, rfl⟩ := Option.map_eq_some_iff.mp hz
          obtain ⟨hj, e2, e3⟩ := List.findIdx?_eq_some_iff_getElem.mp e1
          cases r2 with
          | cons r2 rr =>
            cases rr
            have sH := s2.trans I2.same
            refine ⟨_, _, _, _, j, _, rfl, rfl, (Rp.lst (rd_same s2 hq) (hr.up s2)).up I2.same |>.dp (shaped_lay hk.2), (r2.up I2.same).dp (shaped_lay hk.1), hk.2, hk.1, List.getElem?_eq_getElem hj, e2, fun m z' hm hz' => ?_, h3 F2 H2 _ I2 (s1.trans s2) (.int _)⟩
            obtain ⟨hm2, rfl⟩ := List.getElem?_eq_some_iff.mp hz'
            have := e3 m hm
            simpa using this
        · cases hz
      · cases hz
  · exact h1.elim
end
end MW
namespace MW
open PySem PySem.Spec PyProof.Rows L2
end MW
namespace MW
open PySem PySem.Spec PyProof.Rows L2
end MW
namespace MW
open PySem PySem.Spec PyProof.Rows L2
variable {gq : Bool}
def fitsR (d : D) : Bool := d.showable && (!d.hasDict || noList d) && decide (d.depth ≤ 60) && decide (d.shown.length ≤ 16777216)
def gRepr : List D → Option D
  | [d] => if fitsR d = true then some (.str d.shown) else none
  | _ => none
section
variable {X : Cx}
def rRepr (K : Fg) : List V → Hp → VK → Prop := fun vs H Q => ∃ (x : V) (d : D), vs = [x] ∧ Rp K H x d ∧ fitsR d = true ∧ Q (.str d.shown) H
theorem hu62 {k : Nat} {A : Around} (hr : RoomQ gq k A) : A.units + 62 < cLine := by have := hr.un; omega
theorem cr_repr (hgd : X.A.guards = some []) (hu : X.A.units + 62 < cLine) : CallR X (.builtin "repr") (rRepr X.K) := by
  intro pins s σ H vs us Q I r h
  obtain ⟨x, d, rfl, rx, hf, q⟩ := h
  obtain ⟨u, rfl, ru⟩ := r.one
  simp only [fitsR, Bool.and_eq_true, decide_eq_true_eq] at hf
  obtain ⟨⟨⟨h1, h2⟩, h3⟩, h4⟩ := hf
  have sz := sizeLine_eq
  have hz : d.shown.length ≤ sizeLine := by omega
  obtain ⟨as, rd, hs⟩ := Rp.reads I rx ru
  have hsm : d.hasDict = true → sysModules ∉ as := fun z => hs (by rw [z] at h2; simpa using h2)
  have fin : ∀ (t : Tok) (s2 : Shared), Inv X pins σ H s2 → EP X pins σ Q (.str d.shown t) s2 := fun t s2 I2 => ⟨.str d.shown, H, I2, ⟨t, rfl⟩, q⟩
  cases rd with
  | none => exact PySem.P.repr_of_none (fin _ _ (I.tok _))
  | bool b => exact PySem.P.repr_of_bool (fin _ _ (I.tok _))
  | int i t => exact PySem.P.repr_of_int (by simpa [PyData.showable] using h1) (fin _ _ (I.tok _))
  | str y t => exact PySem.P.repr_of_str (fin _ _ (I.tok _)) hz
  | list g c dt qq => exact repr_of_reads' (.list g c dt qq) h1 hsm hgd (by omega) (fun _ _ e => e) (fun h' u tk k => fin _ _ (I.kept k)) hz
  | tuple g c dt qq => exact repr_of_reads' (.tuple g c dt qq) h1 hsm hgd (by omega) (fun _ _ e => e) (fun h' u tk k => fin _ _ (I.kept k)) hz
  | dict g c dt qa qb => exact repr_of_reads' (.dict g c dt qa qb) h1 hsm hgd (by omega) (fun _ _ e => e) (fun h' u tk k => fin _ _ (I.kept k)) hz
theorem cd_repr : CallD X (rRepr X.K) gRepr := by
  intro S B F H σ ρ Q xs ds z I r hz k
  unfold gRepr at hz
  split at hz
  · split at hz
    · rename_i hf
      cases hz
      obtain ⟨x, rfl, rx⟩ := seen1 r
      exact ⟨x, _, rfl, rx.full I.same, hf, k.now I (.str _)⟩
    · cases hz
  · cases hz
variable {W : WX} {S : Sg} {e : Expr} {p pos : Pos} {ms : Ev → Out (List D)}
theorem me_repr (hgd : X.A.guards = some []) (hu : X.A.units + 62 < cLine) (hg : Gl X "repr") (hm : X.mg "repr" = none) (ha : MA X W S [e] ms) (hv : bootBuiltins "repr" = some (.builtin "repr") := by decide +kernel) (he : starEach [e] X.env = (false, eval e X.env) :: starEach [] X.env := by rfl) (hpl : (backTo pos (starEach [] X.env)).any (·.1) = false := by rfl) : ME X W S (.Call (.Name "repr" p) [e] [] pos) (mCall gRepr ms) :=
  me_callV cd_repr ha fun t pt => pe_callB (cr_repr hgd hu) hg hm hv pt (by decide) (by decide) he hpl
def mIndexO (i : Nat) (ms : Ev → Out (List D)) : Ev → Out D := fun ρ => (Out.of (rd ρ i) ρ).bind fun _ ρ => (ms ρ).bind fun as ρ2 => match rd ρ2 i with
  | some (.list ds) => Out.of (gIndex ds as) ρ2
  | _ => .bad
theorem me_indexO (i : Nat) {x : Str} {p' apos : Pos} {e0 : Expr} (k : knd S i = 1) (hv : PE X (.Name x p') (tVar i)) (hu : X.A.units + 65 < cLine) (ha : MA X W S [e0] ms)
    (hb : attributeBase (.Name x p') "index" X.env (eval (.Name x p') X.env) = eval (.Name x p') X.env := by rfl)
    (hf : ((backTo pos (starEach [e0] X.env)).all (fun x => !x.1) && (backToKw pos (keywordEach [] X.env)).all (fun x => x.1.isSome) && decide (([e0] : List Expr).length + ([] : List Keyword).length + (if ([] : List Keyword).isEmpty then 0 else 1) < 30)) = true := by rfl)
    (hl : (apos.endLine == pos.line) = true := by rfl) (hs : starEach [e0] X.env = (false, eval e0 X.env) :: starEach [] X.env := by rfl) (hp : (backTo pos (starEach [] X.env)).any (·.1) = false := by rfl) :
    ME X W S (.Call (.Attribute (.Name x p') "index" apos) [e0] [] pos) (mIndexO i ms) := by
  obtain ⟨t', pt', k'⟩ := ha.ex
  refine ⟨_, pe_bm PySem.F.plainAttrs_list PySem.F.slot_list_index PySem.F.type_list_index (mt_indexD hu) hv pt' hb hf hl hs hp, fun B F H σ ρ Q I h => ?_⟩
  obtain ⟨d0, e1, h1⟩ := sat_of (Sat.bind h)
  obtain ⟨a, ea, xs0, ds0, _, _, hH0, _⟩ := own_lst I k e1
  refine ⟨_, ea, .inl ⟨rfl, xs0, .inl (.inl hH0)⟩, ?_⟩
  refine k' B F H σ ρ _ I ((Sat.bind h1).mono (fun as ρ2 h2 F2 H2 vs I2 s2 r2 => ?_) fun _ _ z => z)
  split at h2
  · rename_i ds e2
    obtain ⟨z, hz, h3⟩ := sat_of h2
    obtain ⟨a', ea', xs, ds', e3, hF, hH, rr⟩ := own_lst I2 k e2
    rw [ea] at ea'
    cases ea'
    cases e3
    unfold gIndex at hz
    split at hz
    · split at hz
      · rename_i hk
        obtain ⟨j, q1, rfl⟩ := Option.map_eq_some_iff.mp hz
        obtain ⟨hj, q2, q3⟩ := List.findIdx?_eq_some_iff_getElem.mp q1
        cases r2 with
        | cons r2 rr2 =>
          cases rr2
          refine ⟨_, _, _, _, j, _, rfl, rfl, (Rp.lst (.inl hH) (rr.up I2.same)).dp (shaped_lay hk.2), (r2.up I2.same).dp (shaped_lay hk.1), hk.2, hk.1, List.getElem?_eq_getElem hj, q2, fun m z' hm hz' => ?_, h3 F2 H2 _ I2 s2 (.int _)⟩
          obtain ⟨hm2, rfl⟩ := List.getElem?_eq_some_iff.mp hz'
          simpa using q3 m hm
      · cases hz
    · cases hz
  · exact h2.elim
/-- xs[::-1] -/
def gRev : List D → Option (List D)
  | [.list ds] => some ds.reverse
  | _ => none
theorem ml_revO (i : Nat) {x : Str} {p' : Pos} {kk : Nat} {p1 p2 p3 : Pos} (k : knd S i = 1) (hv : PE X (.Name x p') (tVar i)) : ML X W S (.Subscript (.Name x p') (.Slice none none (some (.UnaryOp .USub (.Constant (.int 1) kk p1) p2)) p3) pos) (mCallOL gRev i) := by
  refine ⟨_, pe_revL hv, fun B F H σ ρ Q I h => ?_⟩
  obtain ⟨d, e1, h3⟩ := sat_of (Sat.bind h)
  obtain ⟨z, hz, h4⟩ := sat_of h3
  obtain ⟨a, ea, xs, ds, rfl, hF, hH, r⟩ := own_lst I k e1
  cases hz
  exact ⟨_, ea, _, _, rfl, .inl (.inl hH), fun p hp => LKo.mk h4 I r.rev hp⟩
end
end MW
namespace MW
open PySem PySem.Spec PyProof.Rows L2
section
variable {X : Cx} {W : WX} {S : Sg} {pos : Pos} {vs : List Nat}
theorem mg_twoK {K0 : Fg} (i j : Nat) {x y : Str} {p1 p2 : Pos} {kk : Nat} (e : X.K = K0) (k : knd S i = 0) (k' : knd S j = 0) (hc : X.calm = true) (h1 : PG X (.Name x p1) (gName i)) (h2 : PG X (.Name y p2) (gName j))
    (hs : (assignEach [Expr.Name x p1, Expr.Name y p2] X.env).map (·.2) = assign (.Name x p1) X.env :: (assignEach [Expr.Name y p2] X.env).map (·.2) := by rfl) (hs2 : (assignEach [Expr.Name y p2] X.env).map (·.2) = assign (.Name y p2) X.env :: (assignEach [] X.env).map (·.2) := by rfl)
    (hn : (assignEach [Expr.Name x p1, Expr.Name y p2] X.env).length = 2 := by rfl) (hst : (assignEach [Expr.Name x p1, Expr.Name y p2] X.env).findIdx? (·.1) = none := by rfl) :
    MG X S (.Tuple [.Name x p1, .Name y p2] kk pos) (gTup K0 2 (gCons (gName i) (gCons (gName j) gNil))) [i, j] (gN2 i j) := e ▸ mg_two i j k k' hc h1 h2 hs hs2 hn hst
end
def tMSs (K : Fg) (mg : Str → Option Value) (W : WX) (S : Sg) (m : Ev → Out Fl) : TS := fun D σ H => ∃ B F ρ, SInv K S B σ F H ρ ∧ Sat (m ρ) (FKo K S B F D) (fun c ρ' => ∀ F' H' σ' C, SInv K S B σ' F' H' ρ' → Same F F' → mg c = some (.ref C) → W (.ref C) none σ' H')
theorem MSs.run {X : Cx} {W : WX} {S : Sg} {sts : List Stmt} {m : Ev → Out Fl} (h : MSs X W S sts m) : PSs X sts (tMSs X.K X.mg W S m) := by
  obtain ⟨t, p, q⟩ := h.ex
  exact ⟨fun pins s σ H D I ⟨B, F, ρ, J, z⟩ => p.run pins s σ H D I (q B F H σ ρ D J z)⟩
end MW
namespace MW
open PySem
theorem comp_filter {α : Type} {g : Ev → D → Option Ev} {mt : Ev → Out Bool} {me : Ev → Out D} {vs : List Nat} {enc : α → D} {ρ0 : Ev} (p : α → Bool) (f : α → D) : ∀ {l : List α}, (∀ x ∈ l, ∃ ρ1, g ρ0 (enc x) = some ρ1 ∧ Ok (mt ρ1) fun b ρ2 => b = p x ∧ if b = true then Ok (me ρ2) (fun z ρ3 => z = f x ∧ wipeE ρ3 vs = ρ0) else wipeE ρ2 vs = ρ0) →
    Ok (compM g mt me vs (l.map enc) ρ0) fun ys ρ => ys = (l.filter p).map f ∧ ρ = ρ0
  | [], _ => ⟨rfl, rfl⟩
  | x :: l, h => by
    obtain ⟨ρ1, e, k⟩ := h x List.mem_cons_self
    have ih := comp_filter p f (l := l) fun y hy => h y (List.mem_cons_of_mem _ hy)
    rw [List.map_cons]
    unfold compM
    refine ok_bind (ok_of e (ok_bind (k.mono fun b ρ2 ⟨hb, z⟩ => ?_)))
    cases b with
    | true =>
      have z : Ok (me ρ2) (fun z ρ3 => z = f x ∧ wipeE ρ3 vs = ρ0) := z
      show Ok ((me ρ2).bind fun y ρ3 => (compM g mt me vs (l.map enc) (wipeE ρ3 vs)).bind fun ys ρ4 => .ok (y :: ys) ρ4) _
      refine ok_bind (z.mono fun y ρ3 ⟨e1, e2⟩ => ok_bind ?_)
      rw [e2]
      refine ih.mono fun ys ρ4 ⟨e3, e4⟩ => ?_
      refine ⟨?_, e4⟩
      rw [List.filter_cons_of_pos hb.symm, List.map_cons, e1, e3]
    | false =>
      have z : wipeE ρ2 vs = ρ0 := z
      show Ok (compM g mt me vs (l.map enc) (wipeE ρ2 vs)) _
      rw [z]
      refine ih.mono fun ys ρ4 ⟨e3, e4⟩ => ⟨?_, e4⟩
      rw [List.filter_cons_of_neg (by rw [← hb]; exact Bool.false_ne_true), e3]
theorem comp_map {α : Type} {g : Ev → D → Option Ev} {me : Ev → Out D} {vs : List Nat} {enc : α → D} {ρ0 : Ev} (f : α → D) {l : List α} (h : ∀ x ∈ l, ∃ ρ1, g ρ0 (enc x) = some ρ1 ∧ Ok (me ρ1) (fun z ρ3 => z = f x ∧ wipeE ρ3 vs = ρ0)) : Ok (compM g mYes me vs (l.map enc) ρ0) fun ys ρ => ys = l.map f ∧ ρ = ρ0 := by
  refine (comp_filter (fun _ => true) f (l := l) fun x hx => ?_).mono fun ys ρ ⟨e1, e2⟩ => ⟨?_, e2⟩
  · obtain ⟨ρ1, e, k⟩ := h x hx
    exact ⟨ρ1, e, rfl, k⟩
  · rw [e1]; congr 1; exact List.filter_eq_self.mpr fun _ _ => rfl
theorem rangeD_nD (n : Nat) : rangeD 0 n = (List.range n).map nD := by
  unfold rangeD
  apply List.map_congr_left
  intro i _
  show PyData.int (0 + (i : Int)) = PyData.int (i : Int)
  rw [Int.zero_add]
theorem ok_indexO {i : Nat} {ms : Ev → Out (List D)} {ρ : Ev} {d : D} {P : D → Ev → Prop} (e : rd ρ i = some d) (h : Ok (ms ρ) fun as ρ1 => ∃ ds z, rd ρ1 i = some (.list ds) ∧ gIndex ds as = some z ∧ P z ρ1) : Ok (mIndexO i ms ρ) P := ok_bind (ok_of e (ok_bind (h.mono fun as ρ1 ⟨ds, z, e1, e2, k⟩ => by rw [e1]; exact ok_of e2 k)))
theorem bIn_nD (n : Nat) (q : List Nat) : bIn (nD n) (.list (q.map nD)) = some (q.contains n) := by
  show (if SeqAt.shaped (nD n) = true ∧ SeqAt.shaped (.list (q.map nD)) = true then some ((q.map nD).any fun z => PyData.eqv z (nD n)) else none) = _
  rw [if_pos ⟨shaped_nD n, shaped_lD q⟩]
  congr 1
  rw [List.any_map, List.contains_eq_any_beq]
  congr 1
  funext x
  show ((x : Int) == (n : Int)) = (n == x)
  by_cases e : n = x
  · subst e; simp
  · rw [beq_eq_false_iff_ne.mpr (show (x : Int) ≠ n by omega), beq_eq_false_iff_ne.mpr e]
theorem bNotIn_nD (n : Nat) (q : List Nat) : bNotIn (nD n) (.list (q.map nD)) = some (!q.contains n) := by
  unfold bNotIn
  rw [bIn_nD]; rfl
theorem gIndex_nD {q : List Nat} {n : Nat} (h : n ∈ q) : gIndex (q.map nD) [nD n] = some (nD (q.idxOf n)) := by
  show (if SeqAt.shaped (nD n) = true ∧ SeqAt.shaped (.list (q.map nD)) = true then ((q.map nD).findIdx? fun z => PyData.eqv z (nD n)).map fun j => PyData.int (j : Nat) else none) = _
  rw [if_pos ⟨shaped_nD n, shaped_lD q⟩]
  have e : (q.map nD).findIdx? (fun z => PyData.eqv z (nD n)) = some (q.idxOf n) := by
    rw [List.findIdx?_map]
    have : ((fun z => PyData.eqv z (nD n)) ∘ nD) = fun x => x == n := by
      funext x
      show ((x : Int) == (n : Int)) = (x == n)
      by_cases e : x = n
      · subst e; simp
      · rw [beq_eq_false_iff_ne.mpr (show (x : Int) ≠ n by omega), beq_eq_false_iff_ne.mpr e]
    rw [this, List.findIdx?_eq_some_iff_findIdx_eq]
    exact ⟨by rw [List.idxOf_lt_length_iff]; exact h, rfl⟩
  rw [e]; rfl
end MW
namespace MW
open PySem
def Rb (L k : Nat) (d : D) : Prop := d.showable = true ∧ d.hasDict = false ∧ d.depth ≤ k ∧ d.shown.length ≤ L
theorem Rb.up {L L' k k' : Nat} {d : D} (h : Rb L k d) (h1 : L ≤ L') (h2 : k ≤ k') : Rb L' k' d := ⟨h.1, h.2.1, Nat.le_trans h.2.2.1 h2, Nat.le_trans h.2.2.2 h1⟩
theorem rb_nD {n m : Nat} (h : n ≤ m) (hm : m ≤ 1000) : Rb (m + 2) 0 (nD n) := by
  refine ⟨?_, rfl, Nat.le_refl _, ?_⟩
  · show decide (((n : Int).natAbs).log2 < 1920) = true
    rw [Int.natAbs_natCast, decide_eq_true_eq]
    by_cases z : n = 0
    · subst z; decide
    · rw [Nat.log2_lt z]
      exact Nat.lt_of_lt_of_le (show n < 2 ^ 10 by omega) (Nat.pow_le_pow_right (by decide) (by decide))
  · have := PyProof.Rows.len_str_of_int (n : Int)
    rw [Int.natAbs_natCast] at this
    show (Str.ofString (toString (n : Int))).length ≤ m + 2
    omega
theorem rb_none : Rb 4 0 .none := ⟨rfl, rfl, Nat.le_refl _, by decide +kernel⟩
theorem shown_all : ∀ {ds : List D} {L : Nat}, (∀ d ∈ ds, d.shown.length ≤ L) → piled (PyData.shownAll ds) ≤ ds.length * (L + 2)
  | [], _, _ => by simp [PyData.shownAll, piled]
  | d :: ds, L, h => by
    have ih := shown_all (ds := ds) (L := L) fun x hx => h x (List.mem_cons_of_mem _ hx)
    have h1 := h d List.mem_cons_self
    have e : piled (PyData.shownAll (d :: ds)) = (d.shown.length + 2) + piled (PyData.shownAll ds) := by
      simp [PyData.shownAll, piled]
    rw [e, List.length_cons, Nat.succ_mul]
    omega
theorem all_of : ∀ {ds : List D} {L k : Nat}, (∀ d ∈ ds, Rb L k d) → PyData.showableAll ds = true ∧ PyData.hasDictAll ds = false ∧ PyData.depthAll ds ≤ k
  | [], _, _, _ => ⟨rfl, rfl, Nat.zero_le _⟩
  | d :: ds, L, k, h => by
    obtain ⟨a, b, c⟩ := all_of (ds := ds) fun x hx => h x (List.mem_cons_of_mem _ hx)
    obtain ⟨a1, b1, c1, _⟩ := h d List.mem_cons_self
    refine ⟨?_, ?_, ?_⟩
    · simp [PyData.showableAll, a, a1]
    · simp [PyData.hasDictAll, b, b1]
    · simp only [PyData.depthAll]; omega
theorem tuple_len (ts : List Str) : (tupleText ts).length ≤ piled ts + 3 := by
  by_cases e : ts = []
  · subst e; decide +kernel
  · have := join_length_add ts e
    unfold tupleText
    rw [Str.length_append, Str.length_append]
    have h1 : ((("(" : String) : Str)).length = 1 := by decide +kernel
    have h2 : (((if ts.length == 1 then ",)" else ")" : String) : Str)).length ≤ 2 := by split <;> decide +kernel
    omega
theorem rb_tuple {ds : List D} {L k n : Nat} (h : ∀ d ∈ ds, Rb L k d) (hn : ds.length ≤ n) : Rb (n * (L + 2) + 3) (k + 1) (.tuple ds) := by
  obtain ⟨a, b, c⟩ := all_of h
  refine ⟨by simpa [PyData.showable] using a, by simpa [PyData.hasDict] using b, by simp only [PyData.depth]; omega, ?_⟩
  simp only [PyData.shown]
  have h1 := tuple_len (PyData.shownAll ds)
  have h2 := shown_all fun d hd => (h d hd).2.2.2
  have h3 : ds.length * (L + 2) ≤ n * (L + 2) := Nat.mul_le_mul_right _ hn
  omega
theorem bNe_str (a : Str) : bNe (.str a) (.str a) = some false := by
  unfold bNe
  split
  · simp [PyData.eqv]
  · simp [sEq]
end MW
namespace MW
open PySem
theorem for_list {α : Type} {enc : α → D} {g : Ev → D → Option Ev} {mb : Ev → Out Fl} {PF : Fl → Ev → Prop} {l : List α} {ρ : Ev} (I : Nat → Ev → Prop) (h0 : I 0 ρ) (h1 : ∀ i (h : i < l.length) ρ, I i ρ → ∃ ρ', g ρ (enc l[i]) = some ρ' ∧ Ok (mb ρ') (Turned (I (i + 1)) PF)) (h2 : ∀ ρ, I l.length ρ → PF .nx ρ) : Ok (forM g mb (l.map enc) ρ) PF := by
  refine for_inv I 0 h0 (fun i d ρ hi k => ?_) fun ρ k => h2 ρ (by rw [List.length_map, Nat.zero_add] at k; exact k)
  obtain ⟨h, rfl⟩ := at_map hi
  rw [Nat.zero_add] at k ⊢
  exact h1 i h ρ k
theorem comp_list {α : Type} {enc : α → D} {g : Ev → D → Option Ev} {mt : Ev → Out Bool} {me : Ev → Out D} {vs : List Nat} {PL : List D → Ev → Prop} {l : List α} {ρ : Ev} (J : Nat → List D → Ev → Prop) (h0 : J 0 [] ρ)
    (h1 : ∀ i (h : i < l.length) ys ρ, J i ys ρ → ∃ ρ1, g ρ (enc l[i]) = some ρ1 ∧ Ok (mt ρ1) fun b ρ2 => if b = true then Ok (me ρ2) fun y ρ3 => J (i + 1) (ys ++ [y]) (wipeE ρ3 vs) else J (i + 1) ys (wipeE ρ2 vs))
    (h2 : ∀ ys ρ, J l.length ys ρ → PL ys ρ) : Ok (compM g mt me vs (l.map enc) ρ) PL := by
  refine comp_inv J 0 [] h0 (fun i d ys ρ hi k => ?_) fun ys ρ k => h2 ys ρ (by rw [List.length_map, Nat.zero_add, List.nil_append] at k; exact k)
  obtain ⟨h, rfl⟩ := at_map hi
  rw [Nat.zero_add] at k ⊢
  exact h1 i h ys ρ k
theorem range_get {n i : Nat} (h : i < (List.range n).length) : (List.range n)[i] = i ∧ i < n := ⟨List.getElem_range h, by simpa using h⟩
end MW
namespace MW
open PySem PySem.Spec PyProof.Rows L2
inductive MHds (X : Cx) (S : Sg) : List ExceptHandler → List (List (Str × Bool) × (Ev → Out Fl)) → List (Value × (Addr → Value → Option Addr → TS)) → Prop
  | nil : MHds X S [] [] []
  | cons {x : Str} {C : Addr} {np pos' : Pos} {b₀ : Stmt} {suite : List Stmt} {cs : List (Str × Bool)} {mh : Ev → Out Fl} {hds : List ExceptHandler} {l : List (List (Str × Bool) × (Ev → Out Fl))} {ts : List (Value × (Addr → Value → Option Addr → TS))} (hc : Names X x (.ref C))
      (hcs : ∀ n b, (n, b) ∈ cs → ∀ A, X.mg n = some (.ref A) → PySem.W.exmOne X.K (.ref A) (.ref C) = some b)
      (hsu : ∀ (a : Addr) (oe : Obj) (cls : Value) (d : Option Addr) (pn : List (Addr × Obj)), Zc cls d oe → (∃ vs, oe.data = .fields vs) → MSs (X.suite a ((a, oe) :: pn)) (fun _ _ _ _ => False) S (b₀ :: suite) mh)
      (r : MHds X S hds l ts) : MHds X S (.ExceptHandler (some (.Name x np)) none (b₀ :: suite) pos' :: hds) ((cs, mh) :: l) ((.ref C, fun _ _ _ => tMSs X.K X.mg (fun _ _ _ _ => False) S mh) :: ts)
section
variable {X : Cx} {W : WX} {S : Sg} {pos : Pos} {hds : List ExceptHandler} {l : List (List (Str × Bool) × (Ev → Out Fl))} {ts : List (Value × (Addr → Value → Option Addr → TS))}
theorem MHds.ok (h : MHds X S hds l ts) : HdsOk X hds ts := by
  induction h with
  | nil => exact .nil
  | cons hc hcs hsu r ih => exact .cons hc (fun a oe cls d pn z1 z2 => (hsu a oe cls d pn z1 z2).run) ih
end
end MW
namespace MW
open PySem PySem.Spec PyProof.Rows L2
/-- σ knows what σ0 knows -/
def Kp (σ0 σ : Sts) : Prop := σ0.length = σ.length ∧ ∀ (j : Nat) (v : V), σ0[j]? = some (some v) → σ[j]? = some (some v)
theorem Kp.refl (σ : Sts) : Kp σ σ := ⟨rfl, fun _ _ e => e⟩
theorem Kp.trans {a b c : Sts} (h : Kp a b) (k : Kp b c) : Kp a c := ⟨h.1.trans k.1, fun j v e => k.2 j v (h.2 j v e)⟩
end MW
namespace MW
open PySem PySem.Spec PyProof.Rows L2
end MW
namespace MW
open PySem PySem.Spec PyProof.Rows L2
abbrev tI (ks : List Int) : D := .tuple (ks.map .int)
end MW
namespace MW
open PySem PySem.Spec PyProof.Rows L2
def keyI : D → Option (List Int)
  | .tuple ds => intsOf ds
  | _ => none
/-- what a set of pairs has to do with the items that were put into it -/
structure SetRel (K : Fg) (F : Hp) (L : List (Addr × List Int)) (ys : List D) : Prop where
  nd : (L.map (·.2)).Nodup
  rp : ∀ p ∈ L, p.2 ≠ [] ∧ Rp K F (.ref p.1) (tI p.2)
  mem : ∀ k, k ∈ L.map (·.2) ↔ k ∈ ys.filterMap keyI
  len : L.length ≤ ys.length
theorem SetRel.up {K : Fg} {F F' : Hp} {L : List (Addr × List Int)} {ys : List D} (s : Same F F') (h : SetRel K F L ys) : SetRel K F' L ys := ⟨h.nd, fun p hp => ⟨(h.rp p hp).1, (h.rp p hp).2.up s⟩, h.mem, h.len⟩
end MW
namespace MW
open PySem PySem.Spec PyProof.Rows L2
end MW
namespace MW
open PySem PySem.Spec PyProof.Rows L2
end MW
namespace MW
open PySem PySem.Spec PyProof.Rows L2
def encD (ps : List (L2.Key × D)) : List (D × D) := ps.map fun p => (keyD p.1, p.2)
inductive RpP (K : Fg) (F : Hp) : List (L2.Key × V) → List (L2.Key × D) → Prop
  | nil : RpP K F [] []
  | cons {k : L2.Key} {v : V} {kvs : List (L2.Key × V)} {d : D} {ps : List (L2.Key × D)} : Rp K F v d → RpP K F kvs ps → RpP K F ((k, v) :: kvs) ((k, d) :: ps)
section
variable {K : Fg} {F F' : Hp}
theorem RpP.enc : ∀ {kvs : List (L2.Key × V)} {ps : List (L2.Key × D)}, RpP K F kvs ps → RpK K F kvs (encD ps)
  | _, _, .nil => .nil
  | _, _, .cons r t => .cons r t.enc
theorem RpP.up (s : Same F F') : ∀ {kvs : List (L2.Key × V)} {ps : List (L2.Key × D)}, RpP K F kvs ps → RpP K F' kvs ps
  | _, _, .nil => .nil
  | _, _, .cons r t => .cons (r.up s) (t.up s)
theorem RpP.len : ∀ {kvs : List (L2.Key × V)} {ps : List (L2.Key × D)}, RpP K F kvs ps → kvs.length = ps.length
  | _, _, .nil => rfl
  | _, _, .cons r t => by rw [List.length_cons, List.length_cons, t.len]
theorem RpP.any (k : L2.Key) : ∀ {kvs : List (L2.Key × V)} {ps : List (L2.Key × D)}, RpP K F kvs ps → (kvs.any fun kv => decide (kv.1 = k)) = ps.any fun p => decide (p.1 = k)
  | _, _, .nil => rfl
  | _, _, .cons r t => by rw [List.any_cons, List.any_cons, t.any k]
theorem RpP.app : ∀ {kvs ls : List (L2.Key × V)} {ps qs : List (L2.Key × D)}, RpP K F kvs ps → RpP K F ls qs → RpP K F (kvs ++ ls) (ps ++ qs)
  | _, _, _, _, .nil, h => h
  | _, _, _, _, .cons r t, h => .cons r (t.app h)
end
end MW
namespace MW
open PySem PySem.Spec PyProof.Rows L2
end MW
namespace MW
open PySem PySem.Spec PyProof.Rows L2
end MW
namespace MW
open PySem PySem.Spec PyProof.Rows L2
end MW
namespace MW
open PySem PySem.Spec PyProof.Rows L2
section
variable {X : Cx} {W : WX} {S : Sg}
theorem EKo.dct {B : Base} {σ : Sts} {F H : Hp} {ρ : Ev} {Q : VK} {kvs : List (L2.Key × V)} {ps : List (D × D)} {p : Addr} {K : Fg} (h : EKo K S B σ F Q (.dict ps) ρ) (I : SInv K S B σ F H ρ) (r : RpK K F kvs ps) (r' : ∀ F', Same F F' → RpK K F' kvs ps) (hp : H p = none) : ∃ d u, V.ref p = .ref d ∧ upd H p (.dK kvs) d = some u ∧ L2.Mut (some u) ∧ ∀ od, Q (.ref p) (upd (upd H p (.dK kvs)) d (.frz od u)) := by
  have hF : F p = none := Same.free I.same hp
  refine ⟨p, _, rfl, upd_same, trivial, fun od => ?_⟩
  rw [upd_upd]
  exact h _ _ _ (I.newF hp) (same_upd hF) (.dct upd_same (r' _ (same_upd hF)))
theorem me_dict0 {pos : Pos} : ME X W S (.Dict [] [] pos) (mC (.dict [])) := by
  refine ⟨_, pe_frz pe_dnewK, fun B F H σ ρ Q I h => fun p hp => ?_⟩
  exact EKo.dct (show EKo X.K S B σ F Q (.dict []) ρ from h) I .nil (fun _ _ => .nil) hp
end
end MW
namespace MW
open PySem PySem.Spec PyProof.Rows L2
def rRepTM (K : Fg) : R2 := fun x y H Q => ∃ l k xs, x = .ref l ∧ y = .int k ∧ SqT K H l xs ∧ xs ≠ [] ∧ 2 ≤ k ∧ k ≤ 1000 ∧ xs.length ≤ 1000 ∧ ∀ (p : Addr) (o : Obj), o.dict = none → H p = none → Q (.ref p) (upd H p (.frz o (.tup (List.replicate k.toNat xs).flatten)))
section
variable {X : Cx}
theorem op_repTM : OpR X (binaryOp .Mult) (rRepTM X.K) := by
  intro pins s σ H x y v u Q I rx ry h
  obtain ⟨l, k, xs, rfl, rfl, hT, hne, h1, h2, hz, q⟩ := h
  cases rx
  obtain ⟨t, rfl⟩ := ry
  obtain ⟨its, r, ⟨⟨cls, dd, data, sl⟩, ho, hc, n, hd⟩, hs⟩ := I.tuple hT
  simp only at hc hd
  subst hc hd
  have hle : its.length = xs.length := r.length.symm
  have hn : its ≠ [] := fun e => hne (by
    rw [e] at hle
    exact List.eq_nil_of_length_eq_zero hle.symm)
  have hi : its.toArray.isEmpty = false := by
    cases its with
    | nil => exact absurd rfl hn
    | cons a b => rfl
  have hsz0 : its.toArray.size = xs.length := by rw [List.size_toArray, hle]
  have hm : ((its.toArray.size : Nat) : Int) * k ≤ 1000000 := by
    rw [hsz0]
    have a1 : ((xs.length : Nat) : Int) * k ≤ 1000 * k := Int.mul_le_mul_of_nonneg_right (by omega) (by omega)
    omega
  have flen : (List.replicate k.toNat its).flatten.length ≤ sizeLine := by
    rw [PyProof.Rows.lm_len_rep_flat, hle, sizeLine_eq]
    have a1 : k.toNat * xs.length ≤ 1000 * 1000 := Nat.mul_le_mul (by omega) hz
    omega
  have c0 : (decide (k < -(2 ^ 63)) || decide (k ≥ 2 ^ 63)) = false := by
    rw [decide_eq_false (by omega), decide_eq_false (by omega)] <;> rfl
  have c1 : (its.toArray.isEmpty || k == 1) = false := by
    rw [hi, Bool.false_or]
    exact beq_eq_false_iff_ne.mpr (by omega)
  have c2 : (decide (k ≤ 0) || its.toArray.isEmpty) = false := by
    rw [hi, Bool.or_false]
    exact decide_eq_false (by omega)
  have c4 : Builtin.Tuple.tupleTooMany (((its.toArray.size : Nat) : Int) * k) = false := by
    unfold Builtin.Tuple.tupleTooMany
    rw [sizeLine_eq]
    exact decide_eq_false (by omega)
  refine wpAny_binaryOp_repeat_ref (T := "tuple") (U := "int") (by decide) ⟨_, ho, rfl⟩ (fun s' => typeIs_int s' k t) noFill_tuple_mul F.fills_int_mul F.slot_int_rmul repeat_tuple F.slot_int_index.lookup
    (call_meets F.slot_int_rmul (typeIs_int s k t) F.entry_int_rmul (F.args_int_rmul_2 _ _) (int_rmul_tuple k t l its.toArray n dd sl)
      ⟨ho, rfl, ⟨_, ho, rfl⟩, call_meets F.slot_tuple_mul ⟨_, ho, rfl⟩ F.entry_tuple_mul (F.args_tuple_mul_2 _ _) (tuple_mulW l its.toArray n dd sl k t c0 c1 c2 (by omega) c4 (by rw [size_rep, List.size_toArray]; exact flen)) ⟨ho, ?_⟩⟩)
  rw [size_rep]
  have := mkT (n := 0) I (r.rep k.toNat) (by rw [PyProof.Rows.lm_len_rep_flat, sizeLine_eq]; have a1 : k.toNat * xs.length ≤ 1000 * 1000 := Nat.mul_le_mul (by omega) hz; omega) q
  exact this
def gMulT : D → D → Option D
  | .tuple (x :: xs), .int k => if 2 ≤ k ∧ k ≤ 1000 ∧ (x :: xs).length ≤ 1000 then some (.tuple (List.replicate k.toNat (x :: xs)).flatten) else none
  | _, _ => none
theorem opd_mulT : OpD X (rRepTM X.K) gMulT := by
  intro S B F H σ ρ Q x y d e z I rx ry hz k
  unfold gMulT at hz
  split at hz
  · split at hz
    · cases hz
      rename_i x0 xs' j hj
      obtain ⟨p, xs, rfl, h1, r1⟩ := rx.tup I.same
      have l1 := r1.len
      refine ⟨p, _, xs, rfl, ry.int, h1, fun z => ?_, by omega, by omega, by omega, fun q o ho hq => EKo.tup k I (r1.rep _) ho hq⟩
      rw [z] at l1
      cases l1
    · cases hz
  · cases hz
variable {W : WX} {S : Sg} {a b e : Expr} {es : List Expr} {ma mb : Ev → Out D} {ms : Ev → Out (List D)} {p pos : Pos}
theorem me_mulT (ha : ME X W S a ma) (hb : ME X W S b mb) : ME X W S (.BinOp a .Mult b pos) (mBin gMulT ma mb) := me_op op_repTM opd_mulT ha hb
end
end MW
namespace MW
open PySem PySem.Spec PyProof.Rows L2
end MW
namespace MW
open PySem PySem.Spec PyProof.Rows L2
section
variable {prog : Program} {w : World} {A : Around} {s0 : Shared} {R : Result → Shared → Prop} {xs ys : Array Value} {a b z TI TO i1 i2 S : Addr} {h0 : Heap} {J : List Addr → Heap → Prop}
/-- the pairs that are in the list by now -/
structure ZPairs (xs ys : Array Value) (z TO i1 i2 S : Addr) (h0 h : Heap) (ts : List Addr) (c : Nat) : Prop where
  lst : h.get? S = some { cls := .type "list", data := .seq (ts.map Value.ref).toArray c }
  pair : ∀ j (hj : j < ts.length), ∃ x y, xs[j]? = some x ∧ ys[j]? = some y ∧ IsPair h ts[j] x y
  fresh : ∀ t ∈ ts, t ≠ z ∧ t ≠ i1 ∧ t ≠ i2 ∧ t ≠ S ∧ h0.get? t = none
  old : ∀ c o, c ≠ z → c ≠ TO → c ≠ i1 → c ≠ i2 → c ≠ S → h0.get? c = some o → h.get? c = some o
theorem ZPairs.keep {h h' : Heap} {ts : List Addr} {c : Nat} (p : ZPairs xs ys z TO i1 i2 S h0 h ts c) (hS : S ≠ z ∧ S ≠ TO ∧ S ≠ i1 ∧ S ≠ i2) (k : ∀ c o, c ≠ z → c ≠ i1 → c ≠ i2 → h.get? c = some o → h'.get? c = some o) : ZPairs xs ys z TO i1 i2 S h0 h' ts c :=
  ⟨k _ _ hS.1 hS.2.2.1 hS.2.2.2 p.lst, fun j hj => by
    obtain ⟨x, y, e1, e2, e3⟩ := p.pair j hj
    obtain ⟨n1, n2, n3, _, _⟩ := p.fresh _ (List.getElem_mem hj)
    exact ⟨x, y, e1, e2, k _ _ n1 n2 n3 e3⟩, p.fresh, fun c o m1 m2 m3 m4 m5 q => k _ _ m1 m3 m4 (p.old c o m1 m2 m3 m4 m5 q)⟩
/-- one more -/
theorem ZPairs.push {h : Heap} {ts : List Addr} {c T : Nat} {x y : Value} (p : ZPairs xs ys z TO i1 i2 S h0 h ts c) (g : IsPair h T x y) (n : T ≠ z ∧ T ≠ i1 ∧ T ≠ i2 ∧ T ≠ S ∧ h0.get? T = none) (e1 : xs[ts.length]? = some x) (e2 : ys[ts.length]? = some y) :
    ZPairs xs ys z TO i1 i2 S h0 (h.update S (Obj.mapSeq fun v => v.push (.ref T))) (ts ++ [T]) (if ((ts.map Value.ref).toArray.push (.ref T)).size == (ts.map Value.ref).toArray.size then c else c + 1) := by
  have other : ∀ c, c ≠ S → (h.update S (Obj.mapSeq fun v => v.push (.ref T))).get? c = h.get? c := fun c hc => Heap.get?_update_other h _ (Ne.symm hc)
  refine ⟨?_, fun j hj => ?_, fun t ht => ?_, fun c o m1 m2 m3 m4 m5 q => (other c m5).trans (p.old c o m1 m2 m3 m4 m5 q)⟩
  · have := Heap.get?_update_self (Obj.mapSeq fun v => v.push (.ref T)) p.lst rfl
    rw [List.map_append, List.map_singleton, ← List.push_toArray]
    exact this
  · by_cases z : j < ts.length
    · obtain ⟨x', y', q1, q2, q3⟩ := p.pair j z
      refine ⟨x', y', q1, q2, ?_⟩
      rw [List.getElem_append_left z]
      exact (other _ (p.fresh _ (List.getElem_mem z)).2.2.2.1).trans q3
    · have ej : j = ts.length := by rw [List.length_append, List.length_singleton] at hj; omega
      subst ej
      refine ⟨x, y, e1, e2, ?_⟩
      rw [List.getElem_append_right (Nat.le_refl _)]
      simp only [Nat.sub_self, List.getElem_singleton]
      exact (other _ n.2.2.2.1).trans g
  · rcases List.mem_append.mp ht with z | z
    · exact p.fresh t z
    · rw [List.mem_singleton.mp z]; exact n
/-- where the walk stands -/
structure ZWalk (xs ys : Array Value) (a b z TI i1 i2 : Addr) (i : Nat) (h : Heap) : Prop where
  ti : IsPair h TI (.ref i1) (.ref i2)
  one : h.IsTupleIter i1 a i
  two : h.IsTupleIter i2 b i
  ta : h.IsTuple a xs
  tb : h.IsTuple b ys
theorem ZWalk.at {i : Nat} {h h' : Heap} (w : ZWalk xs ys a b z TI i1 i2 i h) (k : ∀ c o, (c = TI ∨ c = i1 ∨ c = i2 ∨ c = a ∨ c = b) → h.get? c = some o → h'.get? c = some o) : ZWalk xs ys a b z TI i1 i2 i h' :=
  ⟨k _ _ (.inl rfl) w.ti, w.one.at fun o q => k _ o (.inr (.inl rfl)) q, w.two.at fun o q => k _ o (.inr (.inr (.inl rfl))) q, w.ta.at fun o q => k _ o (.inr (.inr (.inr (.inl rfl)))) q, w.tb.at fun o q => k _ o (.inr (.inr (.inr (.inr rfl)))) q⟩
end
end MW
namespace MW
open PySem PySem.Spec PyProof.Rows L2
end MW
namespace MW
open PySem PySem.Spec PyProof.Rows L2
end MW
namespace MW
open PySem PySem.Spec PyProof.Rows L2
end MW
namespace MW
open PySem PySem.Spec PyProof.Rows L2
variable {gq : Bool}
def FkO (K : Fg) (S : Sg) (B : Base) (F : Hp) (D : Ends) (i : Nat) : Fl → Ev → Prop := fun fl ρ' => fl = .nx ∧ ∀ F' H' σ', SInv K S B σ' F' H' ρ' → Same F F' → ∀ p, σ'[i]? = some (some (.ref p)) → D.rt (.ref p) H'
theorem FkO.up {K : Fg} {S : Sg} {B : Base} {F F1 : Hp} {D : Ends} {i : Nat} {fl : Fl} {ρ : Ev} (s : Same F F1) (h : FkO K S B F D i fl ρ) : FkO K S B F1 D i fl ρ := ⟨h.1, fun F' H' σ' I s' => h.2 F' H' σ' I (s.trans s')⟩
end MW
namespace MW
open PySem PySem.Spec PyProof.Rows L2
end MW
namespace MW
open PySem PySem.Spec PyProof.Rows L2
end MW
namespace MW
open PySem PySem.Spec PyProof.Rows L2
end MW
namespace MW
open PySem PySem.Spec PyProof.Rows L2
end MW
namespace MW
open PySem PySem.Spec PyProof.Rows L2
theorem RpK.at {K : Fg} {F : Hp} : ∀ {kvs : List (L2.Key × V)} {ps : List (D × D)} {i : Nat} {k : L2.Key} {v : V}, RpK K F kvs ps → kvs[i]? = some (k, v) → ∃ d, ps[i]? = some (keyD k, d) ∧ Rp K F v d
  | _, _, i, _, _, .nil, h => by simp at h
  | _, _, 0, _, _, .cons r t, h => by
    simp at h
    obtain ⟨rfl, rfl⟩ := h
    exact ⟨_, rfl, r⟩
  | _, _, i + 1, _, _, .cons r t, h => by
    obtain ⟨d, e, q⟩ := t.at (i := i) (by simpa using h)
    exact ⟨d, by simpa using e, q⟩
section
variable {K : Fg} {S : Sg} {B : Base} {σ : Sts} {F H : Hp} {ρ : Ev}
theorem SInv.setFreeM (I : SInv K S B σ F H ρ) {p : Addr} {o : HO} (hF : F p = none) (hB : (B.O p ∧ B.M p) ∨ B.H p = none) (hn : ∀ i a, Held S σ H ρ i a → a ≠ p) (so : ∀ o0, H p = some o0 → Soft o0) : SInv K S B σ F (upd H p o) ρ := by
  refine I.move (same_upd_out I.same hF) ⟨I.ext.fs, fun b o' e n => ?_, fun b e => ?_, I.ext.fr, tabs_upd I.ext.tb so, I.ext.to, I.ext.tf⟩ (Same.refl _) (fun i b hh => (I.heldAt hh).1) fun i b hh => ?_
  · have hb : b ≠ p := fun z => by
      subst z
      rcases hB with q | q
      · exact n q.1
      · rw [q] at e; cases e
    rw [upd_ne hb]
    exact I.ext.hs b o' e n
  · by_cases hb : b = p
    · subst hb; rw [upd_same] at e; cases e
    · rw [upd_ne hb] at e; exact I.ext.st b e
  · rw [upd_ne (hn i b hh)]
theorem SInv.freezeM (I : SInv K S B σ F H ρ) {p : Addr} {o' : HO} (hF : F p = none) (hB : (B.O p ∧ B.M p) ∨ B.H p = none) (hn : ∀ i a, Held S σ H ρ i a → a ≠ p) (so : ∀ o0, H p = some o0 → Soft o0) (so' : Soft o') : SInv K S B σ (upd F p o') (upd H p o') ρ :=
  (I.setFreeM hF hB hn so).freeze hF upd_same (by
    rcases hB with q | q
    · exact .inr q.2
    · exact .inl q) (fun i a hh => hn i a (held_same (fun c ec => by rw [upd_ne (hn i c ⟨hh.1, hh.2.1, c, ec, .inl rfl⟩)]) hh)) so'
end
end MW
namespace MW
open PySem PySem.Spec PyProof.Rows L2
section
variable {P : Program} {w : World} {K : PySem.W.Frag} {mg : Str → Option Value} {base : Heap} {f : Addr} {fd : FuncData} {ps N : List Str} {sp : Sp} {pv : Str}
/-- what is asked of the arguments: they are the items of a new tuple, in the one slot -/
structure FnS (P : Program) (w : World) (K : PySem.W.Frag) (mg : Str → Option Value) (base : Heap) (k : Nat) (f : Addr) (pv : Str) (sp : Sp) : Prop where
  run : ∀ (A : Around) (outer : List Env) (s : Shared) (H : Hp) (us : List Value) (vs : List V) (Q : VK) (E : XK), RoomG k A → Env0 P w K mg base A outer s H → Vals vs us → vs.length ≤ 6 →
    (∀ (p : Addr) (o : Obj), o.dict = none → H p = none → sp [.ref p] (upd H p (.frz o (.tup vs))) Q E) →
    codeAny (model P w) A (.call (.ref f) ⟨us, []⟩) (CR (L2.CX P w) outer P w H s Q E) s
/-- how such a def binds -/
def BindS (K : PySem.W.Frag) (fd : FuncData) (pv : Str) : Prop := ∀ us : List Value, us.length ≤ 6 → bindArgs fd ⟨us, []⟩ = (newTuple us >>= fun t => pure [(pv, t)])
theorem FnS.of {x qual : Str} {st : Stmt} {k : Nat} (F : L2.Fun K x qual st f fd) (hb : BindS K fd pv) (S : FnScope N [pv] (defScope st)) (len : ∀ vs H Q E, sp vs H Q E → vs.length = 1)
    (body : ∀ (cdv : Value) (A : Around) (outer : List Env) (s : Shared) (H : Hp) (vs : List V) (Q : VK) (E : XK), RoomG k (A.deeper (envOfC qual (defScope st) s.heap.objs.size f cdv)) → sp vs H Q E →
      ∃ t, PSs (cxOf (L2.CX P w) P w K mg base N qual (defScope st) f cdv A outer s H E) (defBody st) t ∧ t { nx := fun _ H' => Q .non H', rt := Q } (start N vs) H) : FnS P w K mg base (k + 1) f pv sp := by
  obtain ⟨oc, od, kV, doc, pm, an, cdv, ct, osl, rfl, lk, hcd⟩ := F.ex
  refine ⟨fun A outer s H us vs Q E hr e0 r hz hsp => ?_⟩
  have hn : H s.heap.objs.size = Option.none := e0.hok.fresh (Nat.le_refl _)
  refine StX.run_bnd (ps := [pv]) lk hcd S hr.rm e0 (G := fun xs H2 => ∃ (p : Addr) (o : Obj), o.dict = none ∧ H p = Option.none ∧ xs = [V.ref p] ∧ H2 = upd H p (.frz o (.tup vs))) (fun A' Ex Q' h => ?_) fun s2 H2 xs ⟨p, o, ho, hp, ex, eH⟩ hr' => ?_
  · have hsz := sizeLine_eq
    rw [hb us (by rw [← r.length]; exact hz)]
    refine wpAny_bind (wpAny_newTuple (wpAny_pure ?_) (by rw [← r.length]; omega))
    have new : ObjOk P w (upd H s.heap.objs.size (.frz ({ cls := .type "tuple", data := .seq us.toArray } : Obj) (.tup vs))) (s.heap.push ({ cls := .type "tuple", data := .seq us.toArray } : Obj)) s.heap.objs.size (.frz ({ cls := .type "tuple", data := .seq us.toArray } : Obj) (.tup vs)) := ⟨Heap.get?_push_size _ rfl, by omega, us, r, ⟨_, Heap.get?_push_size _ rfl, rfl, _, rfl⟩⟩
    have un := StX.un_laid (fs := frs outer) (s := s) (o := ({ cls := .type "tuple", data := .seq us.toArray } : Obj)) (u := .frz ({ cls := .type "tuple", data := .seq us.toArray } : Obj) (.tup vs)) hn
    have z := h _ _ [V.ref s.heap.objs.size] [Value.ref s.heap.objs.size] (StX.env0_laid e0 new) un rfl (fun e s' => StX.cxUp outer s H _ _ E e s' un (fun b o q => Heap.get?_push_of_some _ q) rfl) (.cons rfl .nil)
      rfl ⟨_, _, rfl, hn, rfl, rfl⟩
    exact z
  · subst ex eH
    exact body cdv A outer s2 _ _ Q E ⟨hr', fun _ => by
      have h := hr.gd rfl
      first | exact h | (simp [Around.deeper, h])⟩ (hsp p o ho hp)
end
end MW
namespace MW
open PySem PySem.Spec PyProof.Rows L2
end MW
namespace MW
open PySem PySem.Spec PyProof.Rows L2
end MW
namespace MW
open PySem PySem.Spec PyProof.Rows L2 PySem.W
end MW
namespace MW
open PySem PySem.Spec PyProof.Rows L2
end MW
namespace MW
open PySem PySem.Spec PyProof.Rows L2
end MW
namespace MW
open PySem PySem.Spec PyProof.Rows L2
end MW
namespace MW
open PySem PySem.Spec PyProof.Rows L2
section
variable {X : Cx} {W : WX} {S : Sg} {pos pos' : Pos}
abbrev DKo (K : Fg) (S : Sg) (B : Base) (σ : Sts) (F : Hp) (Q : VK) : List (L2.Key × D) → Ev → Prop := fun qs ρ' => ∀ F' H' p kvs, SInv K S B σ F' H' ρ' → Same F F' → F' p = none → H' p = some (.dK kvs) → RpP K F' kvs qs → B.H p = none → (∀ i a, Held S σ H' ρ' i a → a ≠ p) → Q (.ref p) H'
structure MKd (X : Cx) (W : WX) (S : Sg) (e : Expr) (m : Ev → Out (List (L2.Key × D))) : Prop where
  ex : ∃ t : TE, PE X e t ∧ ∀ B F H σ ρ Q, SInv X.K S B σ F H ρ → Sat (m ρ) (DKo X.K S B σ F Q) (XKo X W S B σ F) → t σ H Q
def mDct (m : Ev → Out (List (L2.Key × D))) : Ev → Out D := fun ρ => (m ρ).bind fun qs ρ1 => .ok (.dict (encD qs)) ρ1
/-- .. as shared data -/
theorem MKd.me {e : Expr} {m : Ev → Out (List (L2.Key × D))} (h : MKd X W S e m) : ME X W S e (mDct m) := by
  obtain ⟨t, p, q⟩ := h.ex
  refine ⟨_, pe_frz p, fun B F H σ ρ Q I hh => ?_⟩
  refine q B F H σ ρ _ I ((Sat.bind hh).mono (fun qs ρ1 h1 F1 H1 p kvs I1 s1 hF hH r hB hn => ⟨p, _, rfl, hH, trivial, fun od => ?_⟩) fun _ _ z => z)
  have sF := same_upd (o := HO.frz od (.dK kvs)) hF
  exact h1 _ _ _ (I1.freezeM (o' := .frz od (.dK kvs)) hF (.inr hB) hn (fun o0 e => by rw [hH] at e; cases e; exact soft_dK) soft_frz) (s1.trans sF) (.dct upd_same (RpK.up sF r.enc))
end
end MW
namespace PySem
end PySem
namespace MW
open PySem PySem.Spec PyProof.Rows L2
end MW
namespace MW
open PySem PySem.Spec PyProof.Rows L2
end MW
namespace MW
open PySem PySem.Spec PyProof.Rows L2
end MW
namespace MW
open PySem PySem.Spec PyProof.Rows L2 GenW
end MW
namespace MW
open PySem PySem.Spec PyProof.Rows L2 GenW
end MW
namespace MW
open PySem PySem.Spec PyProof.Rows L2
end MW
namespace MW
open PySem PySem.Spec PyProof.Rows L2
section
variable {P : Program} {w : World} {K : PySem.W.Frag} {mg : Str → Option Value} {base : Heap} {f : Addr} {fd : FuncData} {N : List Str} {sp : Sp} {pv kn : Str}
structure FnSK (P : Program) (w : World) (K : PySem.W.Frag) (mg : Str → Option Value) (base : Heap) (k : Nat) (f : Addr) (pv kn : Str) (sp : Sp) : Prop where
  run : ∀ (A : Around) (outer : List Env) (s : Shared) (H : Hp) (us : List Value) (w1 : Value) (vs : List V) (z1 : V) (Q : VK) (E : XK), RoomG k A → Env0 P w K mg base A outer s H → Vals vs us → vs.length ≤ 6 → Vals [z1] [w1] →
    (∀ (p : Addr) (o : Obj), o.dict = none → H p = none → sp [z1, .ref p] (upd H p (.frz o (.tup vs))) Q E) →
    codeAny (model P w) A (.call (.ref f) ⟨us, [(kn, w1)]⟩) (CR (L2.CX P w) outer P w H s Q E) s
def BindSK (K : PySem.W.Frag) (fd : FuncData) (pv kn : Str) : Prop := ∀ (us : List Value) (w1 : Value), us.length ≤ 6 → bindArgs fd ⟨us, [(kn, w1)]⟩ = (newTuple us >>= fun t => pure [(kn, w1), (pv, t)])
theorem FnSK.of {x qual : Str} {st : Stmt} {k : Nat} (F : L2.Fun K x qual st f fd) (hb : BindSK K fd pv kn) (S : FnScope N [kn, pv] (defScope st)) (len : ∀ vs H Q E, sp vs H Q E → vs.length = 2)
    (body : ∀ (cdv : Value) (A : Around) (outer : List Env) (s : Shared) (H : Hp) (vs : List V) (Q : VK) (E : XK), RoomG k (A.deeper (envOfC qual (defScope st) s.heap.objs.size f cdv)) → sp vs H Q E →
      ∃ t, PSs (cxOf (L2.CX P w) P w K mg base N qual (defScope st) f cdv A outer s H E) (defBody st) t ∧ t { nx := fun _ H' => Q .non H', rt := Q } (start N vs) H) : FnSK P w K mg base (k + 1) f pv kn sp := by
  obtain ⟨oc, od, kV, doc, pm, an, cdv, ct, osl, rfl, lk, hcd⟩ := F.ex
  refine ⟨fun A outer s H us w1 vs z1 Q E hr e0 r hz rw1 hsp => ?_⟩
  have hn : H s.heap.objs.size = Option.none := e0.hok.fresh (Nat.le_refl _)
  refine StX.run_bnd (ps := [kn, pv]) lk hcd S hr.rm e0 (G := fun xs H2 => ∃ (p : Addr) (o : Obj), o.dict = none ∧ H p = Option.none ∧ xs = [z1, V.ref p] ∧ H2 = upd H p (.frz o (.tup vs))) (fun A' Ex Q' h => ?_) fun s2 H2 xs ⟨p, o, ho, hp, ex, eH⟩ hr' => ?_
  · have hsz := sizeLine_eq
    rw [hb us w1 (by rw [← r.length]; exact hz)]
    refine wpAny_bind (wpAny_newTuple (wpAny_pure ?_) (by rw [← r.length]; omega))
    have new : ObjOk P w (upd H s.heap.objs.size (.frz ({ cls := .type "tuple", data := .seq us.toArray } : Obj) (.tup vs))) (s.heap.push ({ cls := .type "tuple", data := .seq us.toArray } : Obj)) s.heap.objs.size (.frz ({ cls := .type "tuple", data := .seq us.toArray } : Obj) (.tup vs)) := ⟨Heap.get?_push_size _ rfl, by omega, us, r, ⟨_, Heap.get?_push_size _ rfl, rfl, _, rfl⟩⟩
    have un := StX.un_laid (fs := frs outer) (s := s) (o := ({ cls := .type "tuple", data := .seq us.toArray } : Obj)) (u := .frz ({ cls := .type "tuple", data := .seq us.toArray } : Obj) (.tup vs)) hn
    have rr : Vals [z1, V.ref s.heap.objs.size] [w1, Value.ref s.heap.objs.size] := by
      cases rw1 with
      | cons a b => exact .cons a (.cons rfl .nil)
    have z := h _ _ [z1, V.ref s.heap.objs.size] [w1, Value.ref s.heap.objs.size] (StX.env0_laid e0 new) un rfl (fun e s' => StX.cxUp outer s H _ _ E e s' un (fun b o q => Heap.get?_push_of_some _ q) rfl) rr
      rfl ⟨_, _, rfl, hn, rfl, rfl⟩
    exact z
  · subst ex eH
    exact body cdv A outer s2 _ _ Q E ⟨hr', fun _ => by
      have h := hr.gd rfl
      first | exact h | (simp [Around.deeper, h])⟩ (hsp p o ho hp)
end
end MW
namespace MW
open PySem PySem.Spec PyProof.Rows L2
end MW
namespace MW
open PySem PySem.Spec PyProof.Rows L2
end MW
namespace MW
open PySem PySem.Spec PyProof.Rows L2
end MW
namespace MW
open PySem PySem.Spec PyProof.Rows L2
end MW
namespace MW
open PySem PySem.Spec PyProof.Rows L2
end MW
namespace MW
open PySem PySem.Spec PyProof.Rows L2 LamX NdefX
/-- H1 is H, or the table at P has grown by a new code object -/
def LamH (P : Addr) (q : Str) (H H1 : Hp) : Prop := H1 = H ∨ ∃ (c : Addr) (ps more : Array Value), H P = some (.tbl ps) ∧ H c = none ∧ H1 = upd (upd H P (.tbl (ps ++ more))) c (CodeO c q)
section
variable {X : Cx} {pins : List (Addr × Obj)} {σ : L2.St} {H : Hp} {s : Shared}
theorem lam_make3 {c P : Addr} {params : Arguments} {body : Expr} {scope : Scope} {pos : Pos} {E : Value → Shared → Prop} {Q : Value → Shared → Prop} {nm : Nat → Nat → Str} (hq : nm pos.line pos.col = X.env.qual ++ "<lambda>") (I : Inv X pins σ H s) (TB : TabB X.base X.mg c P) (hcode : X.env.code = .ref c)
    (hT : TabN H P nm) (hdef : defaultsOf params X.env = ([], [])) (hfree : ∀ y ∈ scope.names, y.2 = .free → ∃ c, X.env.cells.lookup y.1 = some c)
    (h : ∀ (f c' : Addr) (pm ctv : Value) (H1 : Hp) (s' : Shared), Inv X pins σ H1 s' → LamH P (X.env.qual ++ "<lambda>") H H1 → TabN H1 P nm →
      s'.heap.get? f = some (PySem.W.kla_obj "<lambda>" (X.env.qual ++ "<lambda>") params body scope (cloFrom X.env.cells scope.names []) pm c' ctv) → H1 f = none → f ∉ frs X.stack → H1 c' = some (CodeO c' (X.env.qual ++ "<lambda>")) → Q (.ref f) s') :
    wpAny (model X.prog X.w) X.A (eval (.Lambda params body scope pos) X.env) Q E s := by
  obtain ⟨ps, hP, ht, ha⟩ := id hT
  refine PySem.W.kla_eval hdef ?_
  have bP : s.heap.BuiltinsAt X.mg P := TB.bm.keeps I.bk
  have hP' : s.heap.get? P = some { cls := .none, data := .fields ps } := I.hok P _ hP
  have nofr : ∀ f, s.heap.objs.size ≤ f → f ∉ frs X.stack := fun f hf z => by
    rcases List.mem_cons.mp (I.stkSub _ z) with e | e
    · have h1 := I.lt
      rw [← e] at h1
      exact Nat.lt_irrefl _ (Nat.lt_of_lt_of_le h1 hf)
    · exact I.nofs hf e
  cases hc : codeAmong pos ps.toList with
  | none =>
    refine PySem.W.kla_makeFunction (mg := X.mg) (c := c) (P := P) (ps := ps) (closure_ok hfree) I.ok.glob (I.mod.glob.keeps I.bk) hcode (TB.code.keeps I.bk) hP' ht hc TB.gP bP fun c' ctv h' tk hx hge hlt hrec htb => ?_
    obtain ⟨c2, oc, vs, t, e2, hoc, hd, hv⟩ := hrec
    cases e2
    have hsz : s.heap.objs.size ≤ h'.objs.size := Nat.le_trans hge (Nat.le_of_lt hlt)
    have nC : H c' = none := I.hok.fresh hge
    have I1 := inv_table (t' := tk) (more := #[rawInt pos.line, rawInt pos.col, .ref c']) (h' := h'.push (PySem.W.kla_obj "<lambda>" (X.env.qual ++ "<lambda>") params body scope (cloFrom X.env.cells scope.names []) ((X.mg "__name__").getD .none) c' ctv)) I hP
      (fun b o hb e => Heap.get?_push_of_some _ (hx b o hb e)) (Heap.get?_push_of_some _ htb) hge ⟨oc, vs, t, Heap.get?_push_of_some _ hoc, hd, hv⟩
    have hE : ExtN H (upd (upd H P (.tbl (ps ++ #[rawInt pos.line, rawInt pos.col, .ref c']))) c' (CodeO c' (X.env.qual ++ "<lambda>"))) := fun b o e n => by
      rw [upd_ne (ne_of_none e nC), upd_ne (fun z => n ps (Option.some.inj (e.symm.trans (by rw [z]; exact hP))))]
      exact e
    have eL : (ps ++ #[rawInt pos.line, rawInt pos.col, .ref c']).toList = ps.toList ++ [rawInt pos.line, rawInt pos.col, .ref c'] := by simp
    refine h h'.objs.size c' ((X.mg "__name__").getD .none) ctv _ _ I1 (.inr ⟨c', ps, _, hP, nC, rfl⟩) ?_ (Heap.get?_push_size _ rfl) ?_ (nofr _ hsz) upd_same
    · refine ⟨_, by rw [upd_ne (ne_of_none hP nC), upd_same], by rw [eL]; exact PySem.TriplesOk_snoc _ _ _ _ ht, fun p' cv hcv => ?_⟩
      rw [eL] at hcv
      rcases among_app2 _ ht hcv with z | ⟨z, z1, z2⟩
      · obtain ⟨c0, e1, e2⟩ := ha p' cv z
        exact ⟨c0, e1, hE _ _ e2 codeO_ne⟩
      · exact ⟨c', z, by rw [← z1, ← z2, hq]; exact upd_same⟩
    · have n1 : h'.objs.size ≠ c' := Nat.ne_of_gt hlt
      have n2 : h'.objs.size ≠ P := Nat.ne_of_gt (Nat.lt_of_lt_of_le (Heap.lt_size hP') hsz)
      rw [upd_ne n1, upd_ne n2]
      exact I.hok.fresh hsz
  | some cv =>
    obtain ⟨c', e, hco⟩ := ha pos cv hc
    subst e
    refine PySem.W.kla_makeFunctionHit (mg := X.mg) (c := c) (P := P) (ps := ps) (closure_ok hfree) I.ok.glob (I.mod.glob.keeps I.bk) hcode (TB.code.keeps I.bk) hP' ht hc bP fun ctv h' tk hx hsz => ?_
    have I1 : Inv X pins σ H { s with heap := h'.push (PySem.W.kla_obj "<lambda>" (X.env.qual ++ "<lambda>") params body scope (cloFrom X.env.cells scope.names []) ((X.mg "__name__").getD .none) c' ctv), toks := tk } := I.kept fun b o e => Heap.get?_push_of_some _ (hx b o e)
    exact h h'.objs.size c' ((X.mg "__name__").getD .none) ctv H _ I1 (.inl rfl) hT (Heap.get?_push_size _ rfl) (I.hok.fresh hsz) (nofr _ hsz) (by rw [hq] at hco; exact hco)
end
section
variable {K : Fg} {S : Sg} {B : Base} {σ : Sts} {F H : Hp} {ρ : Ev}
/-- .. and when there are new things beside it -/
theorem SInv.grow {H1 : Hp} (I : SInv K S B σ F H ρ) (e1 : ∀ b o, H b = some o → H1 b = some o) (e2 : ∀ b, H1 b = none → H b = none) : SInv K S B σ F H1 ρ :=
  I.move (fun b o e => e1 _ _ (I.same _ _ e)) ⟨I.ext.fs, fun b o e n => e1 _ _ (I.ext.hs b o e n), fun b e => I.ext.st b (e2 b e), I.ext.fr, I.ext.tb.ext e1, I.ext.to, I.ext.tf⟩ (Same.refl _) (fun i b hh => (I.heldAt hh).1) fun i b hh => by
    obtain ⟨o, ho⟩ := Option.ne_none_iff_exists'.mp (I.heldSome hh)
    rw [ho]; exact e1 _ _ ho
/-- the tables alone have grown -/
theorem SInv.retab {H1 : Hp} (I : SInv K S B σ F H ρ) (e : ∀ b, b ∉ B.T.map (·.1) → H1 b = H b) (h1 : NdefX.TabsN B.T H1) : SInv K S B σ F H1 ρ := by
  have mem : ∀ {b}, b ∈ B.T.map (·.1) → ∃ p ∈ B.T, p.1 = b := fun h => List.mem_map.mp h
  have nP : ∀ i b, Held S σ H ρ i b → b ∉ B.T.map (·.1) := fun i b hh z => by
    obtain ⟨p, hp, rfl⟩ := mem z
    obtain ⟨ps, hP⟩ := tabs_at I.ext.tb hp
    exact (I.heldSoft hh _ hP).1 ps rfl
  refine I.move (fun b o e1 => ?_) ⟨I.ext.fs, fun b o e1 n => ?_, fun b e1 => ?_, I.ext.fr, h1, I.ext.to, I.ext.tf⟩ (Same.refl _) (fun i b hh => (I.heldAt hh).1) fun i b hh => e b (nP i b hh)
  · rw [e b fun z => by
      obtain ⟨p, hp, rfl⟩ := mem z
      rw [I.ext.tf p hp] at e1; cases e1]
    exact I.same _ _ e1
  · rw [e b fun z => by
      obtain ⟨p, hp, rfl⟩ := mem z
      exact n (I.ext.to p hp)]
    exact I.ext.hs b o e1 n
  · by_cases hb : b ∈ B.T.map (·.1)
    · obtain ⟨p, hp, rfl⟩ := mem hb
      obtain ⟨ps, q⟩ := tabs_at h1 hp
      rw [q] at e1; cases e1
    · rw [e b hb] at e1; exact I.ext.st b e1
/-- one of the tables grows -/
theorem SInv.lam {P : Addr} {q : Str} {nm : Nat → Nat → Str} {H1 : Hp} (I : SInv K S B σ F H ρ) (hT : (P, nm) ∈ S.T) (hu : ∀ p ∈ S.T, p.2 = nm) (hL : LamH P q H H1) (h1 : TabN H1 P nm) : SInv K S B σ F H1 ρ := by
  have bT : (P, nm) ∈ B.T := by rw [I.ts]; exact hT
  have tbl : TabsN B.T H1 := by
    rcases hL with rfl | ⟨c, ps, more, hP, hc, rfl⟩
    · exact I.ext.tb
    · intro p hp
      have e2 : p.2 = nm := hu p (by rw [← I.ts]; exact hp)
      by_cases hpe : p.1 = P
      · rw [hpe, e2]; exact h1
      · obtain ⟨ps', e1, e2, e3⟩ := I.ext.tb p hp
        refine ⟨ps', ?_, e2, fun pos cv e => ?_⟩
        · rw [upd_ne (ne_of_none e1 hc), upd_ne hpe]; exact e1
        · obtain ⟨c0, e4, e5⟩ := e3 pos cv e
          refine ⟨c0, e4, ?_⟩
          rw [upd_ne (ne_of_none e5 hc), upd_ne fun z => by rw [z, hP] at e5; cases e5]
          exact e5
  rcases hL with rfl | ⟨c, ps, more, hP, hc, rfl⟩
  · exact I
  · have I1 : SInv K S B σ F (upd H c (CodeO c q)) ρ := I.grow (fun b o e => by rw [upd_ne (ne_of_none e hc)]; exact e) fun b e => by
      by_cases hb : b = c
      · rw [hb]; exact hc
      · rw [upd_ne hb] at e; exact e
    refine I1.retab (fun b hb => ?_) tbl
    have hbP : b ≠ P := fun z => hb (List.mem_map.mpr ⟨(P, nm), bT, z.symm⟩)
    by_cases hbc : b = c
    · rw [hbc, upd_same, upd_same]
    · rw [upd_ne hbc, upd_ne hbP, upd_ne hbc]
end
def tLam3 (P : Addr) (nm : Nat → Nat → Str) (q : Str) (TT : (XK → Hp → VK → Prop) → Hp → VK → Prop) (t : XK → TE) : TE := fun σ H Q => TabN H P nm ∧ ∀ H1, LamH P q H H1 → TabN H1 P nm → TT (fun E H' Q' => t E σ H' Q') H1 Q
section
variable {X : Cx}
/-- the lambda at f is called by its name, in a def that is under way: what is known of the caller's room and guards holds in its body too -/
theorem pe_act2 {gq : Bool} {CXg : CXT} {Eg : XK} {pins : List (Addr × Obj)} {σ : L2.St} {H : Hp} {s : Shared} {Ng : List Str} {qg : Str} {sg : Scope} {g f c' : Addr} {cdg pm ctv : Value} {params : Arguments} {body : Expr} {scope : Scope} {k i : Nat} {a : Str} {pn : List (Addr × Obj)} {xe : Value → Shared → Prop} {W : WX} {E : XK} {tb : TE} {p1 p2 : Pos}
    (J0 : Inv X pins σ H s) (Ls : LamS X.env.scope scope) (there : s.heap.get? f = some (PySem.W.kla_obj "<lambda>" (X.env.qual ++ "<lambda>") params body scope (cloFrom X.env.cells scope.names []) pm c' ctv)) (loose : H f = none) (noframe : f ∉ frs X.stack)
    (plain : bindArgs (PySem.W.kla_fn "<lambda>" (X.env.qual ++ "<lambda>") params body scope (cloFrom X.env.cells scope.names []) pm (.ref c') ctv) ⟨[], []⟩ = pure [])
    (tk : Takes ((cxOf CXg X.prog X.w X.K X.mg X.base Ng qg sg g cdg X.A X.stack s H Eg).tr pn xe) W) (up : ∀ cls d σ' H', E cls d H' → W cls d σ' H') (rm : RoomQ gq (k + 1) (X.A.deeper (envOfC qg sg s.heap.objs.size g cdg)))
    (does : ∀ (A : Around) (outer : List Env) (s : Shared) (H : Hp), RoomQ gq k (A.deeper (lamEnv X scope s.heap.objs.size f c')) → PE (lamCx X A outer s H E scope f c') body tb)
    (at_ : Ng[i]? = some a) (seen : Vis sg a) (nd : (a == ("__debug__" : Str)) = false := by decide) (nc : (a == ("__classdict__" : Str)) = false := by decide) :
    PE ((cxOf CXg X.prog X.w X.K X.mg X.base Ng qg sg g cdg X.A X.stack s H Eg).tr pn xe) (.Call (.Name a p1) [] [] p2)
      (fun τ H2 Q => τ[i]? = some (some (.ref f)) ∧ H2 c' = some (CodeO c' (X.env.qual ++ "<lambda>")) ∧ tb σ H2 Q) := by
  constructor
  intro pz sz τ H2 Q Iz hz
  have look := (pe_var (pos := p1) (i := i) at_ seen nd nc).run pz sz τ H2 (fun v H1 => v = .ref f ∧ H1 = H2) Iz ⟨.ref f, hz.1, rfl, rfl⟩
  apply wpAny_Call_Name_kw
  refine thn look fun u s1 w1 => ?_
  rcases w1 with ⟨v, H1, I1, rv, rfl, rfl⟩
  obtain rfl : u = Value.ref f := rv
  have now : s1.heap.get? f = some (PySem.W.kla_obj "<lambda>" (X.env.qual ++ "<lambda>") params body scope (cloFrom X.env.cells scope.names []) pm c' ctv) := I1.base.keep f _ there loose noframe (by intro z; cases (show f ∈ ([] : List Addr) from z))
  obtain ⟨⟨oc, fs, t, c1, c2, c3⟩, _, _⟩ := I1.hok c' _ hz.2.1
  refine PySem.W.callWith_F0 ⟨_, _, _, _, now⟩ ?_
  have run : codeAny (model X.prog X.w) (X.A.deeper (envOfC qg sg s.heap.objs.size g cdg)) (.call (.ref f) ⟨[], []⟩) (CR (L2.CX X.prog X.w) (envOfC qg sg s.heap.objs.size g cdg :: X.stack) X.prog X.w H1 s1 Q E) s1 := by
    apply PySem.W.kla_callFunE rm.rm.depth now rfl Ls.co Ls.gen rfl ⟨c', oc, fs, t, rfl, c1, c2, c3⟩
    rw [plain]
    apply wpAny_pure
    refine wpAny_newFunctionEnv (fun y hy => (Ls.own y hy).2) (fun y hy => by simp at hy) (fun h1 n1 b1 => ⟨I1.nolimit.fresh _ b1, ?_⟩) Ls.kind
    have kept : ∀ b o, s1.heap.get? b = some o → h1.get? b = some o := fun b o e => b1.extBut b o (Nat.ne_of_lt (Heap.lt_size e)) (Heap.get?_push_of_some _ e)
    refine PySem.W.kla_codeExpr (wpAny_mono ((does _ _ s1 H1 (rm.deeper _)).run [] _ _ H1 Q (lam_start2 J0 Ls I1.env0 rm.rm.hd I1.base n1 kept) hz.2.2) (fun v s' q => ?_) fun e s' q => q)
    rcases q with ⟨v', H', J', rv, q⟩
    exact ⟨v', H', J'.os, J'.bare, J'.base, J'.hok, rv, q⟩
  have px := passes_call tk up
  refine wpAny_call (codeAny_mono run fun r s' q => ?_)
  match r, q with
  | .error e, q => exact px pz τ H1 s1 e s' I1 q
  | .ok (.ret u), q => exact I1.after q
  | .ok .next, q => exact q.elim
  | .ok .brk, q => exact q.elim
  | .ok .cont, q => exact q.elim
theorem pe_lamcall3 {gq : Bool} {TT : (XK → Hp → VK → Prop) → Hp → VK → Prop} {x a : Str} {g c P : Addr} {k : Nat} {pg : Arguments} {bg : List Stmt} {sg : Scope} {dV kV doc pm cdv ct oc : Value} {an od : Option Addr} {osl : Array (Option Value)} {Ng : List Str}
    {params : Arguments} {body : Expr} {scope : Scope} {t : XK → TE} {p lpos pos : Pos} (hg : Gl X x) (hm : X.mg x = some (.ref g)) (hk : PySem.W.keepIn X.K (.ref g) = true)
    (lk : X.K.lookup g = some ⟨oc, od, .func (PySem.W.fnOf x x pg bg sg dV kV doc pm an cdv ct), osl⟩) (hcg : PySem.W.codeIn X.K cdv x = true) (hb : L2.Binds X.K (PySem.W.fnOf x x pg bg sg dV kV doc pm an cdv ct) [a] []) (Sg : FnScope Ng [a] sg) (hNg : Ng[0]? = some a) (hva : Vis sg a)
    (hG : Room (k + 2) X.A → GivesTo X Ng x sg g cdv bg a (X.env.qual ++ "<lambda>") TT)
    {nm : Nat → Nat → Str} (hnm : nm lpos.line lpos.col = X.env.qual ++ "<lambda>") (TB : TabB X.base X.mg c P) (hcode : X.env.code = .ref c) (hr : RoomQ gq (k + 2) X.A) (L : LamS X.env.scope scope) (hdef : defaultsOf params X.env = ([], []))
    (hbind : ∀ (q : Str) (cl : List (Str × Addr)) (pm cv ctv : Value), bindArgs (PySem.W.kla_fn "<lambda>" q params body scope cl pm cv ctv) ⟨[], []⟩ = pure [])
    (hbody : ∀ (A : Around) (outer : List Env) (s : Shared) (H : Hp) (E : XK) (f c' : Addr), RoomQ gq k (A.deeper (lamEnv X scope s.heap.objs.size f c')) → PE (lamCx X A outer s H E scope f c') body (t E))
    (hdb : (x == ("__debug__" : Str)) = false := by decide) (hd : (a == ("__debug__" : Str)) = false := by decide) (hcd : (a == ("__classdict__" : Str)) = false := by decide) :
    PE X (.Call (.Name x p) [.Lambda params body scope lpos] [] pos) (tLam3 P nm (X.env.qual ++ "<lambda>") TT t) := by
  refine ⟨fun pins s σ H Q I h => ?_⟩
  obtain ⟨hT, h⟩ := h
  refine wpAny_Call_Name_kw (ld_glob I hg hm ?_ hdb)
  refine PySem.W.callWith_K (h₀ := X.base) I.ok.mod.kin hk ?_ (by rfl) (by rfl)
  show wpAny _ _ (spliced ((false, eval (.Lambda params body scope lpos) X.env) :: backTo pos (starEach [] X.env))) _ _ s
  refine Calls.spliced_cons (lam_make3 hnm I TB hcode hT hdef (L.has I.ok) fun f c' pm' ctv H1 s' I1 eN T1 hf hfn hfr hco => ?_)
  refine Calls.spliced_nil ⟨I1.kIn, ?_⟩
  have rc : codeAny (model X.prog X.w) X.A (.call (.ref g) ⟨[.ref f], []⟩) (CR C8.CX0 X.stack X.prog X.w H1 s' Q C8.E0) s' := by
    refine run_ofS (N := Ng) (ps := [a]) (us := [.ref f]) (vs := [.ref f]) lk hcg Sg hr.rm I1.env0 (hb s' [.ref f] I1.kIn rfl) (.cons rfl .nil) rfl fun hr' => ?_
    obtain ⟨t', ht', hq'⟩ := hG hr.rm f c' s' H1 Q (fun E H' Q' => t E σ H' Q') (fun W pn xe E p1 p2 tk hW => pe_act2 (i := 0) I1 L hf hfn hfr (hbind _ _ _ _ _) tk hW (⟨hr', fun z => hr.gd z⟩ : RoomQ gq (k + 1) _) (fun A outer s H hr2 => hbody A outer s H E f c' hr2) hNg hva hd hcd) hco (h H1 eN T1)
    exact ⟨t', ht'.nox, hq'⟩
  refine wpAny_call (codeAny_mono rc fun r s2 hq => ?_)
  cases r with
  | error e => exact (show False from hq).elim
  | ok fl =>
    cases fl with
    | ret u => exact I1.after hq
    | next => exact False.elim hq
    | brk => exact False.elim hq
    | cont => exact False.elim hq
end
end MW
namespace MW
open PySem PySem.Spec PyProof.Rows L2 LamX L2H
def rCntF (K : Fg) : V → List V → Hp → VK → Prop := fun x xs H Q => ∃ (p : Addr) (ys : List V) (k : V), x = .ref p ∧ xs = [k] ∧ flatV k = true ∧ ys.all flatV = true ∧ SqL K H p ys ∧ Q (.int (ys.countP fun y => eqV y k : Nat)) H
section
variable {X : Cx} {W : WX} {S : Sg} {pos : Pos}
theorem mt_lcountF : MtR X "list.count" (rCntF X.K) := by
  intro pins s σ H x xs v us Q I rx rxs h
  obtain ⟨p, ys, k, rfl, rfl, fk, fy, hs, q⟩ := h
  cases rx
  obtain ⟨u, rfl, ru⟩ := rxs.one
  obtain ⟨its, rv, ⟨⟨cls, dt, data, sl⟩, n, ho, hc, hdn, hd⟩, hlen⟩ := I.list hs
  simp only at hc hd
  subst hc hd
  refine call_meets PySem.F.slot_list_count ⟨_, ho, rfl⟩ PySem.F.entry_list_count (PySem.F.args_list_count_2 _ _)
    (SeqAt.list_countAt p its.toArray n dt sl u (eqU k)) ⟨ho, fun y hy => ?_, ?_⟩
  · obtain ⟨y', r', f'⟩ := vals_all rv fy y (by simpa using hy)
    rw [eqU_of r' f']
    exact eqAt_V r' ru f' fk
  refine ⟨.int (ys.countP fun y => eqV y k : Nat), H, I.tok _, ⟨s.toks, ?_⟩, q⟩
  show Value.int ((its.toArray.toList.countP (eqU k) : Nat) : Int) s.toks = Value.int ((ys.countP (fun y => eqV y k) : Nat) : Int) s.toks
  rw [show its.toArray.toList = its from rfl, cnt_eqU rv fy]
def mCntF (mo : Ev → Out D) (ms : Ev → Out (List D)) : Ev → Out D := fun ρ => (mo ρ).bind fun d ρ1 => match d with
  | .list ds => (ms ρ1).bind fun as ρ2 => Out.of (gCount ds as) ρ2
  | _ => .bad
theorem me_lcountF {o e0 : Expr} {apos : Pos} {mo : Ev → Out D} {ms : Ev → Out (List D)} (ho : ME X W S o mo) (ha : MA X W S [e0] ms)
    (hb : attributeBase o "count" X.env (eval o X.env) = eval o X.env := by rfl)
    (hf : ((backTo pos (starEach [e0] X.env)).all (fun x => !x.1) && (backToKw pos (keywordEach [] X.env)).all (fun x => x.1.isSome) && decide (([e0] : List Expr).length + ([] : List Keyword).length + (if ([] : List Keyword).isEmpty then 0 else 1) < 30)) = true := by rfl)
    (hl : (apos.endLine == pos.line) = true := by rfl) (hs : starEach [e0] X.env = (false, eval e0 X.env) :: starEach [] X.env := by rfl) (hp : (backTo pos (starEach [] X.env)).any (·.1) = false := by rfl) :
    ME X W S (.Call (.Attribute o "count" apos) [e0] [] pos) (mCntF mo ms) := by
  obtain ⟨t, pt, k⟩ := ho.ex
  obtain ⟨t', pt', k'⟩ := ha.ex
  refine ⟨_, pe_bm PySem.F.plainAttrs_list PySem.F.slot_list_count PySem.F.type_list_count mt_lcountF pt pt' hb hf hl hs hp, fun B F H σ ρ Q I h => ?_⟩
  refine k B F H σ ρ _ I (h.bind.mono (fun d ρ1 h1 F1 H1 x I1 s1 r1 => ?_) fun _ _ z => z)
  have h1 : Sat (match d with
    | .list ds => (ms ρ1).bind fun as ρ2 => Out.of (gCount ds as) ρ2
    | _ => .bad) (EKo X.K S B σ F Q) (XKo X W S B σ F) := h1
  split at h1
  · cases r1 with
    | lst hq hr =>
      refine ⟨.inl ⟨rfl, _, .inl (rd_same I1.same hq)⟩, k' B F1 H1 σ ρ1 _ I1 (h1.bind.mono (fun as ρ2 h2 F2 H2 vs I2 s2 r2 => ?_) fun _ _ z => XKo.up s1 z)⟩
      obtain ⟨z, hz, h3⟩ := sat_of h2
      unfold gCount at hz
      split at hz
      · rename_i e1
        split at hz
        · rename_i hk
          cases hz
          cases r2 with
          | cons r2 rr =>
            cases rr
            obtain ⟨e4, f4⟩ := rp_flat r2 hk.1
            obtain ⟨e5, f5⟩ := rpL_flat (hr.up s2) hk.2
            subst e4 e5
            refine ⟨_, _, _, rfl, rfl, f4, f5, .inl (rd_same (s2.trans I2.same) hq), ?_⟩
            have := h3 F2 H2 _ I2 (s1.trans s2) (.int _)
            rw [List.countP_map]
            exact this
        · cases hz
      · cases hz
  · exact h1.elim
end
/-- of the exceptions of class c, at C: which of the names ns it is an instance of, and that it is caught by CS -/
structure ExcW (K : Fg) (mg : Str → Option Value) (ns : List Str) (CS : Addr) (c : Str) (D : Addr) : Prop where
  ec : ExcC K D
  is : ∀ n ∈ ns, ∀ C, mg n = some (.ref C) → PySem.W.kitOne K (.ref D) (.ref C) = some (n == c)
  ve : PySem.W.kitOne K (.ref D) (.type "ValueError") = some true
  ca : PySem.W.exmOne K (.ref D) (.ref CS) = some true
/-- the exception at a stands pinned in X -/
structure PinE (X : Cx) (a D : Addr) : Prop where
  ex : ∃ oe : Obj, (a, oe) ∈ X.pn ∧ Zc (.ref D) none oe ∧ ∃ vs, oe.data = .fields vs
section
variable {X : Cx} {a D : Addr}
theorem call_isP (hp : PinE X a D) (C : ExcC X.K D) : CallR X (.builtin "isinstance") (rIsE X.K D a) := by
  intro pins s σ H xs us Q I r h
  obtain ⟨c, cv, b, rfl, hcv, e, q⟩ := h
  obtain ⟨oe, hm, hz, hf⟩ := hp.ex
  cases r with
  | cons rx rr =>
    cases rr with
    | cons rt rr =>
      cases rr
      cases rx
      have ec := hcv _ rt
      subst ec
      obtain ⟨hget, _⟩ := I.pin (a, oe) (List.mem_append.mpr (.inl hm))
      obtain ⟨vs, hv⟩ := hf
      have J : PySem.W.InstAt s.heap a oe D none := by
        obtain ⟨oc, od, oda, osl⟩ := oe
        obtain ⟨h1, h2⟩ := hz
        dsimp only at h1 h2 hv
        subst h1 h2 hv
        exact ⟨hget, rfl, rfl, trivial⟩
      exact PySem.W.kia_one (PySem.W.handS_kitx_exc C.hg C.hk C.hs C.hd C.ha C.hn C.ht C.hm) I.kIn J e (fun z => nomatch z) fun tk => ⟨.bl b, H, I.kept (t' := tk) fun _ _ z => z, rfl, q⟩
/-- an expression gives b, as long as slot 0 holds the exception -/
structure BE (X : Cx) (a : Addr) (e : Expr) (b : Bool) : Prop where
  ex : ∃ t, PE X e t ∧ ∀ σ H Q, σ[0]? = some (some (.ref a)) → Q (.bl b) H → t σ H Q
structure VL (X : Cx) (a : Addr) (es : List Expr) (vs : List V) : Prop where
  ex : ∃ t, PA X es t ∧ ∀ σ H Q, σ[0]? = some (some (.ref a)) → Q vs H → t σ H Q
theorem be_is {ns : List Str} {CS C : Addr} {c n ev : Str} {p p1 p2 pos : Pos} (hp : PinE X a D) (w : ExcW X.K X.mg ns CS c D) (hg : Gl X "isinstance") (hm : X.mg "isinstance" = none) (hN : X.N[0]? = some ev) (hv : Vis X.env.scope ev) (hgn : Gl X n) (hmn : X.mg n = some (.ref C)) (hn : n ∈ ns)
    (hd : (ev == ("__debug__" : Str)) = false := by decide) (hcd : (ev == ("__classdict__" : Str)) = false := by decide) (hdn : (n == ("__debug__" : Str)) = false := by decide)
    (hs : starEach [.Name ev p1, .Name n p2] X.env = (false, eval (.Name ev p1) X.env) :: starEach [.Name n p2] X.env := by rfl) (hs2 : starEach [.Name n p2] X.env = (false, eval (.Name n p2) X.env) :: starEach [] X.env := by rfl) (hpl : (backTo pos (starEach [.Name n p2] X.env)).any (·.1) = false := by rfl) :
    BE X a (.Call (.Name "isinstance" p) [.Name ev p1, .Name n p2] [] pos) (n == c) :=
  ⟨_, pe_callB (call_isP hp w.ec) hg hm (by decide +kernel) (pa_cons (pe_var hN hv hd hcd) (pa_cons (pe_glob hgn hmn (v := .ref C) rfl hdn) pa_nil hs2) hs) (by decide) (by decide) hs hpl, fun σ H Q e q =>
    ⟨_, e, .ref C, .ref C, n == c, rfl, fun u hu => hu, w.is n hn C hmn, q⟩⟩
theorem be_ve {ns : List Str} {CS : Addr} {c ev : Str} {p p1 p2 pos : Pos} (hp : PinE X a D) (w : ExcW X.K X.mg ns CS c D) (hg : Gl X "isinstance") (hm : X.mg "isinstance" = none) (hN : X.N[0]? = some ev) (hv : Vis X.env.scope ev) (hgn : Gl X "ValueError") (hmn : X.mg "ValueError" = none)
    (hd : (ev == ("__debug__" : Str)) = false := by decide) (hcd : (ev == ("__classdict__" : Str)) = false := by decide)
    (hs : starEach [.Name ev p1, .Name "ValueError" p2] X.env = (false, eval (.Name ev p1) X.env) :: starEach [.Name "ValueError" p2] X.env := by rfl) (hs2 : starEach [.Name "ValueError" p2] X.env = (false, eval (.Name "ValueError" p2) X.env) :: starEach [] X.env := by rfl) (hpl : (backTo pos (starEach [.Name "ValueError" p2] X.env)).any (·.1) = false := by rfl) :
    BE X a (.Call (.Name "isinstance" p) [.Name ev p1, .Name "ValueError" p2] [] pos) true :=
  ⟨_, pe_callB (call_isP hp w.ec) hg hm (by decide +kernel) (pa_cons (pe_var hN hv hd hcd) (pa_cons (pe_bltn (v := .ty "ValueError") hgn hmn (by decide +kernel) rfl) pa_nil hs2) hs) (by decide) (by decide) hs hpl, fun σ H Q e q =>
    ⟨_, e, .ty "ValueError", .type "ValueError", true, rfl, fun u hu => hu, w.ve, q⟩⟩
theorem vl_nil : VL X a [] [] := ⟨_, pa_nil, fun σ H Q _ q => q⟩
theorem vl_be {e : Expr} {es : List Expr} {b : Bool} {vs : List V} (h : BE X a e b) (r : VL X a es vs) (hs : starEach (e :: es) X.env = (false, eval e X.env) :: starEach es X.env := by rfl) : VL X a (e :: es) (.bl b :: vs) := by
  obtain ⟨t, p, q⟩ := h.ex
  obtain ⟨t', p', q'⟩ := r.ex
  exact ⟨_, pa_cons p p' hs, fun σ H Q e h => q σ H _ e (q' σ H _ e h)⟩
theorem vl_str {x : Str} {j : Nat} {p : Pos} {es : List Expr} {vs : List V} (r : VL X a es vs) (hs : starEach (.Constant (.str x) j p :: es) X.env = (false, eval (.Constant (.str x) j p) X.env) :: starEach es X.env := by rfl) : VL X a (.Constant (.str x) j p :: es) (.str x :: vs) := by
  obtain ⟨t', p', q'⟩ := r.ex
  exact ⟨_, pa_cons pe_str p' hs, fun σ H Q e h => q' σ H _ e h⟩
def Grow (H H1 : Hp) : Prop := (∀ b o, H b = some o → H1 b = some o) ∧ ∀ b, H1 b = none → H b = none
theorem Grow.refl (H : Hp) : Grow H H := ⟨fun _ _ e => e, fun _ e => e⟩
theorem Grow.trans {H H1 H2 : Hp} (g : Grow H H1) (h : Grow H1 H2) : Grow H H2 := ⟨fun b o e => h.1 b o (g.1 b o e), fun b e => g.2 b (h.2 b e)⟩
theorem Grow.new {H : Hp} {p : Addr} {o : HO} (hp : H p = none) : Grow H (upd H p o) := ⟨fun b u e => by rw [upd_ne (ne_of_none e hp)]; exact e, fun b e => by
  by_cases hb : b = p
  · rw [hb]; exact hp
  · rw [upd_ne hb] at e; exact e⟩
/-- what slot i holds: a list, or it does not matter -/
def HoldL (σ : Sts) (H : Hp) (i : Nat) : Option (List V) → Prop
  | none => True
  | some vs => ∃ q, σ[i]? = some (some (.ref q)) ∧ H q = some (.lst vs)
structure StW (a : Addr) (H0 : Hp) (o1 o2 : Option (List V)) (σ : Sts) (H : Hp) : Prop where
  len : σ.length = 3
  s0 : σ[0]? = some (some (.ref a))
  gr : Grow H0 H
  l1 : HoldL σ H 1 o1
  l2 : HoldL σ H 2 o2
theorem HoldL.up {σ σ' : Sts} {H H' : Hp} {i : Nat} {o : Option (List V)} (h : HoldL σ H i o) (e : σ'[i]? = σ[i]?) (g : Grow H H') : HoldL σ' H' i o := by
  cases o with
  | none => trivial
  | some vs => obtain ⟨q, e1, e2⟩ := h; exact ⟨q, e.trans e1, g.1 _ _ e2⟩
structure WS (X : Cx) (a : Addr) (st : Stmt) (o1 o2 o1' o2' : Option (List V)) : Prop where
  ex : ∃ t, PS X st t ∧ ∀ H0 D σ H, StW a H0 o1 o2 σ H → (∀ σ' H', StW a H0 o1' o2' σ' H' → D.nx σ' H') → t D σ H
structure WSs (X : Cx) (a : Addr) (st : List Stmt) (o1 o2 : Option (List V)) (c : Str) : Prop where
  ex : ∃ t, PSs X st t ∧ ∀ H0 D σ H, StW a H0 o1 o2 σ H → (∀ H', Grow H0 H' → D.rt (.str c) H') → t D σ H
theorem ws_cons {st : Stmt} {rest : List Stmt} {o1 o2 o1' o2' : Option (List V)} {c : Str} (h : WS X a st o1 o2 o1' o2') (r : WSs X a rest o1' o2' c) : WSs X a (st :: rest) o1 o2 c := by
  obtain ⟨t, p, q⟩ := h.ex
  obtain ⟨t', p', q'⟩ := r.ex
  exact ⟨_, pss_cons p p', fun H0 D σ H s k => q H0 _ σ H s fun σ' H' s' => q' H0 D σ' H' s' k⟩
theorem stw1 {H0 : Hp} {o1 o2 : Option (List V)} {σ : Sts} {H : Hp} {p : Addr} {vs : List V} (s : StW a H0 o1 o2 σ H) (g : Grow H0 (upd H p (.lst vs))) (hp : H p = none) : StW a H0 (some vs) o2 (σ.set 1 (some (.ref p))) (upd H p (.lst vs)) :=
  ⟨by rw [List.length_set]; exact s.len, by rw [List.getElem?_set_ne (by decide)]; exact s.s0, g, ⟨p, by rw [List.getElem?_set_self (by rw [s.len]; decide)], upd_same⟩, s.l2.up (by rw [List.getElem?_set_ne (by decide)]) (.new hp)⟩
theorem stw2 {H0 : Hp} {o1 o2 : Option (List V)} {σ : Sts} {H : Hp} {p : Addr} {vs : List V} (s : StW a H0 o1 o2 σ H) (g : Grow H0 (upd H p (.lst vs))) (hp : H p = none) : StW a H0 o1 (some vs) (σ.set 2 (some (.ref p))) (upd H p (.lst vs)) :=
  ⟨by rw [List.length_set]; exact s.len, by rw [List.getElem?_set_ne (by decide)]; exact s.s0, g, s.l1.up (by rw [List.getElem?_set_ne (by decide)]) (.new hp), ⟨p, by rw [List.getElem?_set_self (by rw [s.len]; decide)], upd_same⟩⟩
section
variable {y : Str} {p' p2 pos3 spos pos : Pos} {es : List Expr} {vs ws : List V} {o1 o2 : Option (List V)}
theorem ws_set1 (hN : X.N.Nodup) (hi : X.N[1]? = some y) (hx : Loc X.env.scope y) (h : VL X a es vs) (hz : vs.length ≤ 1000 := by first | decide | simp) (hs : swapsWith (.List es pos) (some (.Name y p')) spos.line X.env = pure false := by rfl)
    (hf : X.fn y = true ∨ X.env.scope.names.lookup y = some .local := by first | exact .inl rfl | exact .inr rfl | assumption) : WS X a (.Assign [.Name y p'] (.List es pos) spos) o1 o2 (some vs) o2 := by
  obtain ⟨t, p, q⟩ := h.ex
  have hsz := sizeLine_eq
  exact ⟨_, ps_set hN hi hx (pe_lst p) hs hf, fun H0 D σ H s k => q σ H _ s.s0 ⟨by omega, fun b hb => k _ _ (stw1 s (s.gr.trans (.new hb)) hb)⟩⟩
theorem ws_set2 (hN : X.N.Nodup) (hi : X.N[2]? = some y) (hx : Loc X.env.scope y) (h : VL X a es vs) (hz : vs.length ≤ 1000 := by first | decide | simp) (hs : swapsWith (.List es pos) (some (.Name y p')) spos.line X.env = pure false := by rfl)
    (hf : X.fn y = true ∨ X.env.scope.names.lookup y = some .local := by first | exact .inl rfl | exact .inr rfl | assumption) : WS X a (.Assign [.Name y p'] (.List es pos) spos) o1 o2 o1 (some vs) := by
  obtain ⟨t, p, q⟩ := h.ex
  have hsz := sizeLine_eq
  exact ⟨_, ps_set hN hi hx (pe_lst p) hs hf, fun H0 D σ H s k => q σ H _ s.s0 ⟨by omega, fun b hb => k _ _ (stw2 s (s.gr.trans (.new hb)) hb)⟩⟩
theorem ws_add1 (hN : X.N.Nodup) (hi : X.N[1]? = some y) (hx : Loc X.env.scope y) (hv : Vis X.env.scope y) (h : VL X a es vs) (hz : ws.length + vs.length ≤ 1000 := by first | decide | simp) (hs : swapsWith (.BinOp (.Name y p2) .Add (.List es pos) pos3) (some (.Name y p')) spos.line X.env = pure false := by rfl)
    (hf : X.fn y = true ∨ X.env.scope.names.lookup y = some .local := by first | exact .inl rfl | exact .inr rfl | assumption) (hd : (y == ("__debug__" : Str)) = false := by decide) (hcd : (y == ("__classdict__" : Str)) = false := by decide) :
    WS X a (.Assign [.Name y p'] (.BinOp (.Name y p2) .Add (.List es pos) pos3) spos) (some ws) o2 (some (ws ++ vs)) o2 := by
  obtain ⟨t, p, q⟩ := h.ex
  have hsz := sizeLine_eq
  refine ⟨_, ps_set hN hi hx (pe_op op_catR (pe_var hi hv hd hcd) (pe_lst p)) hs hf, fun H0 D σ H s k => ?_⟩
  obtain ⟨b, e1, e2⟩ := s.l1
  refine ⟨_, e1, q σ H _ s.s0 ⟨by omega, fun b1 hb1 => ?_⟩⟩
  have e3 := (Grow.new hb1 (o := .lst vs)).1 _ _ e2
  refine ⟨b, b1, ws, vs, rfl, rfl, .inl e3, .inl upd_same, by omega, fun b2 hb2 => ?_⟩
  have s1 : StW a H0 (some ws) o2 σ (upd H b1 (.lst vs)) := ⟨s.len, s.s0, s.gr.trans (.new hb1), ⟨b, e1, e3⟩, s.l2.up rfl (.new hb1)⟩
  exact k _ _ (stw1 s1 (s1.gr.trans (.new hb2)) hb2)
theorem ws_add2 (hN : X.N.Nodup) (hi : X.N[2]? = some y) (hx : Loc X.env.scope y) (hv : Vis X.env.scope y) (h : VL X a es vs) (hz : ws.length + vs.length ≤ 1000 := by first | decide | simp) (hs : swapsWith (.BinOp (.Name y p2) .Add (.List es pos) pos3) (some (.Name y p')) spos.line X.env = pure false := by rfl)
    (hf : X.fn y = true ∨ X.env.scope.names.lookup y = some .local := by first | exact .inl rfl | exact .inr rfl | assumption) (hd : (y == ("__debug__" : Str)) = false := by decide) (hcd : (y == ("__classdict__" : Str)) = false := by decide) :
    WS X a (.Assign [.Name y p'] (.BinOp (.Name y p2) .Add (.List es pos) pos3) spos) o1 (some ws) o1 (some (ws ++ vs)) := by
  obtain ⟨t, p, q⟩ := h.ex
  have hsz := sizeLine_eq
  refine ⟨_, ps_set hN hi hx (pe_op op_catR (pe_var hi hv hd hcd) (pe_lst p)) hs hf, fun H0 D σ H s k => ?_⟩
  obtain ⟨b, e1, e2⟩ := s.l2
  refine ⟨_, e1, q σ H _ s.s0 ⟨by omega, fun b1 hb1 => ?_⟩⟩
  have e3 := (Grow.new hb1 (o := .lst vs)).1 _ _ e2
  refine ⟨b, b1, ws, vs, rfl, rfl, .inl e3, .inl upd_same, by omega, fun b2 hb2 => ?_⟩
  have s1 : StW a H0 o1 (some ws) σ (upd H b1 (.lst vs)) := ⟨s.len, s.s0, s.gr.trans (.new hb1), s.l1.up rfl (.new hb1), ⟨b, e1, e3⟩⟩
  exact k _ _ (stw2 s1 (s1.gr.trans (.new hb2)) hb2)
end
end
section
variable {X : Cx} {a : Addr}
/-- the end of such a def: one mark is set, and the word that stands there is handed back -/
abbrev S_word : Sg := ⟨[0, 0, 0], 1, [], []⟩
theorem sinv_word {K : Fg} {a : Addr} {H0 H : Hp} {σ : Sts} {bs ws : List V} {ds es : List D} (s : StW a H0 (some bs) (some ws) σ H) (r1 : RpL K H bs ds) (r2 : RpL K H ws es) :
    SInv K S_word ⟨fun _ => False, fun _ => False, H, H, σ, []⟩ σ H H [none, some (.list ds), some (.list es)] := by
  have noOwn : ∀ i : Nat, own S_word i = true → False := fun i k => by
    match i, k with
    | 0, k => cases k
    | 1, k => cases k
    | 2, k => cases k
    | n + 3, k => cases k
  refine ⟨s.len.symm, Same.refl _, ⟨Same.refl _, fun _ _ e _ => e, fun _ e => e, fun _ _ e => .inl e, (nofun : ∀ p ∈ ([] : List NdefX.NTab), _), (nofun : ∀ p ∈ ([] : List NdefX.NTab), _), (nofun : ∀ p ∈ ([] : List NdefX.NTab), _)⟩, fun i d e k => ?_, fun i d e k => (noOwn i k).elim, fun i j b h1 h2 => (noOwn i h1.1).elim, fun i d e k => ?_, fun _ _ _ => rfl, rfl⟩
  · match i, e with
    | 0, e => cases e
    | 1, e =>
      obtain ⟨q, e1, e2⟩ := s.l1
      cases e
      exact ⟨_, e1, .lst (.inl e2) r1⟩
    | 2, e =>
      obtain ⟨q, e1, e2⟩ := s.l2
      cases e
      exact ⟨_, e1, .lst (.inl e2) r2⟩
    | n + 3, e => cases e
  · match i, k with
    | 0, k => cases k
    | 1, k => cases k
    | 2, k => cases k
    | n + 3, k => cases k
theorem rpL_bls {K : Fg} {H : Hp} : ∀ bs : List Bool, RpL K H (bs.map V.bl) (bs.map PyData.bool)
  | [] => .nil
  | b :: bs => .cons (.bl b) (rpL_bls bs)
theorem rpL_strs {K : Fg} {H : Hp} : ∀ xs : List Str, RpL K H (xs.map V.str) (xs.map PyData.str)
  | [] => .nil
  | x :: xs => .cons (.str x) (rpL_strs xs)
/-- the mirror's two parts, of the marks bs and the words ws -/
def endOk (bs : List Bool) (ws : List Str) (c : Str) (mt : Ev → Out Bool) (me : Ev → Out D) : Prop :=
  mt [none, some (.list (bs.map .bool)), some (.list (ws.map .str))] = .ok false [none, some (.list (bs.map .bool)), some (.list (ws.map .str))] ∧
  me [none, some (.list (bs.map .bool)), some (.list (ws.map .str))] = .ok (.str c) [none, some (.list (bs.map .bool)), some (.list (ws.map .str))]
theorem ws_end {tst b2 re oth : Expr} {p1 p2 p3 p4 p5 : Pos} {bs : List Bool} {ws : List Str} {c : Str} {mt : Ev → Out Bool} {me : Ev → Out D} (hb : ∀ whole, isTrue b2 X.env whole = (do let v ← whole; standAt b2.pos; holding [v] (truthy v)))
    (ht : MT X (fun _ _ _ _ => False) S_word tst mt) (hi : BE X a b2 true) (ho : ∃ t, PE X oth t) (hr : ME X (fun _ _ _ _ => False) S_word re me) (e : endOk bs ws c mt me) :
    WSs X a [.If (.BoolOp .Or [tst, .UnaryOp .Not b2 p1] p2) [.Return (some oth) p3] [] p4, .Return (some re) p5] (some (bs.map V.bl)) (some (ws.map V.str)) c := by
  obtain ⟨t1, q1, k1⟩ := ht.ex
  obtain ⟨t2, q2, k2⟩ := hi.ex
  obtain ⟨t3, q3⟩ := ho
  obtain ⟨t4, q4, k4⟩ := hr.ex
  refine ⟨_, pss_cons (ps_if (PW.pt (pw_or q1 (pw_or1 (pt_not (pt_val q2 hb))))) (pss_one (ps_ret q3)) pss_nil) (pss_one (ps_ret q4)), fun H0 D σ H s k => ?_⟩
  have I := sinv_word s (rpL_bls (K := X.K) bs) (rpL_strs ws)
  refine k1 _ H H σ _ _ I ?_
  rw [e.1]
  intro F1 H1 I1 s1
  refine iteF ?_
  refine k2 σ H1 _ s.s0 ⟨true, rfl, ?_⟩
  refine iteF ?_
  refine k4 _ F1 H1 σ _ _ I1 ?_
  rw [e.2]
  intro F2 H2 v I2 s2 r2
  cases r2
  exact k _ (s.gr.trans ⟨fun b o e => I2.ext.hs b o e (fun z => z), fun b e => I2.ext.st b e⟩)
end
end MW
namespace MW
open PySem PySem.Spec PyProof.Rows L2 LamX L2H
section
variable {X : Cx}
theorem pe_word {a D : Addr} {oe : Obj} {c : Str} {i k : Nat} {x ev we : Str} {fw : Addr} {pw : Arguments} {bw : List Stmt} {sw : Scope} {dV kV doc pm cdv ct oc : Value} {an od : Option Addr} {osl : Array (Option Value)} {Nw : List Str} {p p1 pos : Pos}
    (hpin : (a, oe) ∈ X.pn) (hz : Zc (.ref D) none oe) (hf : ∃ vs, oe.data = .fields vs)
    (hg : Gl X x) (hm : X.mg x = some (.ref fw)) (hk : PySem.W.keepIn X.K (.ref fw) = true) (lk : X.K.lookup fw = some ⟨oc, od, .func (PySem.W.fnOf x x pw bw sw dV kV doc pm an cdv ct), osl⟩) (hcg : PySem.W.codeIn X.K cdv x = true)
    (hb : L2.Binds X.K (PySem.W.fnOf x x pw bw sw dV kV doc pm an cdv ct) [we] []) (Sw : FnScope Nw [we] sw) (h3 : Nw.length = 3) (hr : RoomH (k + 1) X.A)
    (hbody : ∀ (A : Around) (outer : List Env) (s : Shared) (H : Hp) (E : XK) (q : Addr × Obj), PinE (cxH C8.CX0 X.prog X.w X.K X.mg X.base Nw x sw fw cdv A outer s H E q) a D → RoomH k (A.deeper (envOfC x sw s.heap.objs.size fw cdv)) →
      WSs (cxH C8.CX0 X.prog X.w X.K X.mg X.base Nw x sw fw cdv A outer s H E q) a bw none none c)
    (hN : X.N[i]? = some ev) (hv : Vis X.env.scope ev) (hd : (ev == ("__debug__" : Str)) = false := by decide) (hcd : (ev == ("__classdict__" : Str)) = false := by decide) (hdb : (x == ("__debug__" : Str)) = false := by decide)
    (he : starEach [.Name ev p1] X.env = (false, eval (.Name ev p1) X.env) :: starEach [] X.env := by rfl) (hpl : (backTo pos (starEach [] X.env)).any (·.1) = false := by rfl) :
    PE X (.Call (.Name x p) [.Name ev p1] [] pos) (fun σ H Q => σ[i]? = some (some (.ref a)) ∧ ∀ H', Grow H H' → Q (.str c) H') := by
  refine ⟨fun pins s σ H Q I h => ?_⟩
  obtain ⟨hs, h⟩ := h
  refine wpAny_Call_Name_kw (ld_glob I hg hm ?_ hdb)
  refine PySem.W.callWith_K (h₀ := X.base) I.ok.mod.kin hk (thn ((pa_cons (pe_var (pos := p1) hN hv hd hcd) pa_nil he).run pos pins s σ H (fun vs H1 => vs = [.ref a] ∧ ∀ H', Grow H1 H' → Q (.str c) H') I ⟨_, hs, rfl, h⟩) fun us s1 ⟨vs, H1, I1, r, q⟩ => ⟨I1.kIn, ?_⟩) he hpl
  obtain ⟨rfl, q⟩ := q
  have P1 := I1.pin (a, oe) (List.mem_append_left _ hpin)
  have po : PinOk X.stack H1 s1 (a, oe) := ⟨P1.1, P1.2.1, fun hm => (List.mem_cons.mp (I1.stkSub a hm)).elim P1.2.2.1 P1.2.2.2.1, P1.2.2.2.2⟩
  have hl : us.length = 1 := by rw [← r.length]; rfl
  have rc : codeAny (model X.prog X.w) X.A (.call (.ref fw) ⟨us, []⟩) (CR C8.CX0 X.stack X.prog X.w H1 s1 Q C8.E0) s1 := by
    have KX : X.K.In s1.heap := I1.kIn
    have b := hb s1 us KX (by rw [List.append_nil, hl]; rfl)
    rw [List.append_nil] at b
    have lim : s1.heap.NoLimit := I1.nolimit
    have hkind : ∀ y ∈ [we].zip us, sw.names.lookup y.1 = some .local ∨ (sw.names.lookup y.1 = some .cell ∧ ((cellsFrom (s1.heap.objs.size + 1) sw.names []).lookup y.1).isSome = true) := fun ⟨n, v⟩ hy => by
      rcases Sw.par n (List.of_mem_zip hy).1 with q | q
      · exact .inl q
      · exact .inr ⟨q, PySem.W.cellsFrom_some _ _ _ (.inl q)⟩
    refine codeAny_call_function hr.depth (KX _ _ lk) rfl Sw.co Sw.gen rfl (PySem.W.codeRec_of KX hcg) (b _ _ _ _ ?_)
    refine wpAny_newFunctionEnv_cells Sw.kind hkind fun env he s2 xx => ?_
    subst he
    refine ⟨lim.keeps xx.toInCall.keep, codeAny_func ?_⟩
    have J : Inv (cxH C8.CX0 X.prog X.w X.K X.mg X.base Nw x sw fw cdv X.A X.stack s1 H1 C8.E0 (a, oe)) [] (L2.start Nw [.ref a]) H1 s2 := inv_startH Sw po I1.env0 rfl r xx
    obtain ⟨t, ht, hq⟩ := (hbody X.A X.stack s1 H1 C8.E0 (a, oe) ⟨oe, List.mem_cons_self, hz, hf⟩ (hr.deeper _)).ex
    have h0 : StW a H1 none none (L2.start Nw [.ref a]) H1 := ⟨by unfold L2.start; simp; omega, by unfold L2.start; simp, .refl _, trivial, trivial⟩
    refine wpAny_mono (ht.run [] s2 (L2.start Nw [.ref a]) H1 { nx := fun _ H' => Q .non H', rt := Q } J (hq H1 _ _ H1 h0 fun H' g => q H' g)) (fun fl s' hs => ?_) fun e s' hs => hs
    have fin : ∀ {σ' : L2.St} {H' : Hp} {v : V} {u : Value}, Inv (cxH C8.CX0 X.prog X.w X.K X.mg X.base Nw x sw fw cdv X.A X.stack s1 H1 C8.E0 (a, oe)) [] σ' H' s' → L2.RelV v u → Q v H' → CE X.stack X.prog X.w H1 s1 Q u s' :=
      fun {σ' H' v u} J rv q => ⟨v, H', J.os, J.bare, J.base, J.hok, rv, q⟩
    cases fl with
    | ret u =>
      obtain ⟨v, σ', H', J, rv, q⟩ := hs
      exact fin J rv q
    | next =>
      obtain ⟨σ', H', J, q⟩ := hs
      exact fin (v := V.non) (u := Value.none) J rfl q
    | brk =>
      obtain ⟨_, _, _, q⟩ := hs
      exact False.elim q
    | cont =>
      obtain ⟨_, _, _, q⟩ := hs
      exact False.elim q
  refine wpAny_call (codeAny_mono rc fun r s2 hq => ?_)
  cases r with
  | error e => exact (show False from hq).elim
  | ok fl =>
    cases fl with
    | ret u => exact I1.after hq
    | next => exact False.elim hq
    | brk => exact False.elim hq
    | cont => exact False.elim hq
end
end MW
namespace MW
open PySem PySem.Spec PyProof.Rows L2 LamX
section
variable {Pg : Program} {w : World} {K : PySem.W.Frag} {mg : Str → Option Value} {base : Heap} {f : Addr} {fd : FuncData} {ps N : List Str} {sp : Sp} {gq : Bool}
/-- a def, by what its body does, its code object known -/
theorem FnQ.ofC {x qual : Str} {st : Stmt} {k : Nat} {cv : Value} (F : L2.Fun K x qual st f fd) (S : FnScope N ps (defScope st)) (hcv : fd.code = cv) (len : ∀ vs H Q E, sp vs H Q E → vs.length = ps.length)
    (body : ∀ (A : Around) (outer : List Env) (s : Shared) (H : Hp) (vs : List V) (Q : VK) (E : XK), RoomQ gq k (A.deeper (envOfC qual (defScope st) s.heap.objs.size f cv)) → sp vs H Q E →
      ∃ t, PSs (cxOf (L2.CX Pg w) Pg w K mg base N qual (defScope st) f cv A outer s H E) (defBody st) t ∧ t { nx := fun _ H' => Q .non H', rt := Q } (start N vs) H) : FnQ gq Pg w K mg base (k + 1) f fd ps sp := by
  obtain ⟨oc, od, kV, doc, pm, an, cdv, ct, osl, rfl, lk, hcd⟩ := F.ex
  have hcv : cdv = cv := hcv
  subst hcv
  constructor
  · exact len
  intro A outer s H args us vs Q E hr e0 hb rv hsp
  have hvs : vs.length = ps.length := len _ _ _ _ hsp
  have keep := fun b o e => (e0.bs b o e).1
  have kin : K.In s.heap := e0.mod.kin.keeps keep
  have nolim : s.heap.NoLimit := e0.mod.nolimit.keeps keep
  apply codeAny_call_function hr.rm.depth (kin _ _ lk) rfl S.co S.gen rfl (PySem.W.codeRec_of kin hcd)
  apply hb
  refine wpAny_newFunctionEnv_cells S.kind ?_ ?_
  · rintro ⟨y, u⟩ hy
    have hyp := S.par y (List.of_mem_zip hy).1
    cases hyp with
    | inl q => exact Or.inl q
    | inr q => exact Or.inr ⟨q, PySem.W.cellsFrom_some _ _ _ (Or.inl q)⟩
  · intro env henv s1 x
    subst henv
    constructor
    · exact nolim.keeps x.toInCall.keep
    · apply codeAny_func
      obtain ⟨t, ht, hq⟩ := body A outer s H vs Q E (hr.deeper _) hsp
      have I0 : Inv (cxOf (L2.CX Pg w) Pg w K mg base N qual (defScope st) f cdv A outer s H E) [] (start N vs) H s1 := inv_start (CX := L2.CX Pg w) S hr.rm.hd e0 hvs rv x
      have run := ht.run [] s1 (start N vs) H _ I0 hq
      apply wpAny_mono run
      · intro fl s' hs
        have ends : ∀ {σ' : L2.St} {H' : Hp} {v : V} {u : Value}, Inv (cxOf (L2.CX Pg w) Pg w K mg base N qual (defScope st) f cdv A outer s H E) [] σ' H' s' → RelV v u → Q v H' → CE outer Pg w H s Q u s' := by
          intro σ' H' v u J ru q
          exact ⟨v, H', J.os, J.bare, J.base, J.hok, ru, q⟩
        match fl, hs with
        | .ret u, ⟨v, σ', H', J, ru, q⟩ => exact ends J ru q
        | .next, ⟨σ', H', J, q⟩ => exact ends (v := V.non) (u := Value.none) J rfl q
        | .brk, ⟨_, _, _, q⟩ => exact q.elim
        | .cont, ⟨_, _, _, q⟩ => exact q.elim
      · exact fun e s' hs => hs
def spTopT (K : Fg) (Ps : List Addr) : Sp := fun vs H Q _ => ∃ (a : Addr) (ns : List Int), vs = [.ref a] ∧ SqL K H a (ns.map V.int) ∧ ns.length ≤ 63 ∧ (∀ P ∈ Ps, H P = some (.tbl #[])) ∧ ∀ H', Q (.bl true) H'
theorem rpL_intsT {F : Hp} : ∀ ns : List Int, RpL K F (ns.map V.int) (ns.map PyData.int)
  | [] => .nil
  | x :: ns => .cons (.int x) (rpL_intsT ns)
theorem mDef_rt {S : Sg} {n : Nat} {mb : Ev → Out Fl} {ds : List D} {zs : Ev} (h : mDef S n mb ds = .ok (.bool true) zs) : ∃ ρ, mb (ds.map some ++ List.replicate (n - ds.length) none) = .ok (.rt (.bool true)) ρ := by
  unfold mDef at h
  split at h
  · split at h
    · cases h
    · cases h
  · rename_i d ρ e
    split at h
    · cases h
      exact ⟨ρ, e⟩
    · cases h
  · cases h
  · cases h
  · split at h <;> cases h
  · cases h
theorem law_okT {x qual y : Str} {st : Stmt} {k : Nat} {c : Addr} {Ps : List Addr} {nm : Nat → Nat → Str} (S : Sg) {mb : Ev → Out Fl} {m : List D → Out D} (noL : noLst K = true) (Fn : L2.Fun K x qual st f fd) (Sc : FnScope N [y] (defScope st)) (hnp : S.np = 1) (hk : knd S 0 = 0) (hT : S.T = Ps.map fun P => (P, nm)) (hc : fd.code = .ref c)
    (hbody : ∀ (A : Around) (outer : List Env) (s : Shared) (H : Hp) (E : XK), RoomQ gq k (A.deeper (envOfC qual (defScope st) s.heap.objs.size f (.ref c))) →
      MSs (cxOf (L2.CX Pg w) Pg w K mg base N qual (defScope st) f (.ref c) A outer s H E) (fun c d _ H => E c d H) S (defBody st) mb)
    (hm : ∀ ns : List Int, ns.length ≤ 63 → ∃ zs, m [.list (ns.map PyData.int)] = .ok (.bool true) zs) (S' : Sg) (em : m = mDef S' N.length mb) :
    FnQ gq Pg w K mg base (k + 1) f fd [y] (spTopT K Ps) := by
  refine FnQ.ofC Fn Sc hc (fun vs H Q E h => ?_) (fun A outer s H vs Q E hr h => ?_)
  · obtain ⟨a, ns, rfl, _⟩ := h
    rfl
  obtain ⟨a, ns, rfl, hS, hl, hP, hq⟩ := h
  obtain ⟨t, p, k1⟩ := (hbody A outer s H E hr).ex
  refine ⟨t, p, ?_⟩
  obtain ⟨zs, e⟩ := hm ns hl
  rw [em] at e
  obtain ⟨ρ1, e1⟩ := mDef_rt e
  rcases hS with hS | ⟨o, its, n, hk2, hc2, _⟩
  rotate_left
  · have := lookup_all noL hk2
    simp only [hc2] at this
    cases this
  have hNP : 1 ≤ N.length := by
    have := congrArg List.length Sc.pre
    rw [List.length_take] at this
    have h1 : ([y] : List Str).length = 1 := rfl
    omega
  have haP : a ∉ Ps := fun z => by
    have hP := hP a z
    rcases hS with h | ⟨o, h⟩
    · rw [hP] at h; cases h
    · rw [hP] at h; cases h
  have atF : ∀ b, b ∉ Ps → (fun b => if b ∈ Ps then none else H b : Hp) b = H b := fun b hb => if_neg hb
  let F : Hp := fun b => if b ∈ Ps then none else H b
  have FP : ∀ P ∈ Ps, F P = none := fun P h => if_pos h
  have sF : Same F H := fun b o e => by
    by_cases hb : b ∈ Ps
    · rw [FP b hb] at e; cases e
    · rw [← atF b hb]; exact e
  have at0 : ∀ (i : Nat) (d : D), ([PyData.list (ns.map PyData.int)].map some ++ List.replicate (N.length - 1) none)[i]? = some (some d) → i = 0 ∧ d = .list (ns.map .int) := fun i d e => by
    cases i with
    | zero => exact ⟨rfl, (Option.some.inj (Option.some.inj e)).symm⟩
    | succ i =>
      simp only [List.map_cons, List.map_nil, List.cons_append, List.nil_append, List.getElem?_cons_succ, List.getElem?_replicate] at e
      split at e <;> cases e
  have memT : ∀ {p : NdefX.NTab}, p ∈ (Ps.map fun P => (P, nm)) → p.1 ∈ Ps := fun {p} hp => by
    obtain ⟨P, h1, rfl⟩ := List.mem_map.mp hp
    exact h1
  refine k1 ⟨fun b => b ∈ Ps, fun _ => False, F, H, start N [.ref a], Ps.map fun P => (P, nm)⟩ F H _ _ _ ⟨?_, sF, ⟨Same.refl _, fun _ _ e _ => e, fun _ e => e, fun _ _ e => .inl e, fun p hp => ?_, fun p hp => ?_, fun p hp => ?_⟩, fun i d e k => ?_, fun i d e k => ?_, fun i j b h1 h2 => ?_, fun i d e k => ?_, fun _ _ _ => rfl, hT.symm⟩ (by
    have e1 : mb ([PyData.list (ns.map PyData.int)].map some ++ List.replicate (N.length - 1) none) = .ok (.rt (.bool true)) ρ1 := e1
    show Sat (mb ([PyData.list (ns.map PyData.int)].map some ++ List.replicate (N.length - 1) none)) _ _
    rw [e1]
    intro F' H' σ' I' s' v r
    cases r
    exact hq H')
  · unfold L2.start
    simp
    try omega
  · exact NdefX.TabN.nil (hP _ (memT hp))
  · exact memT hp
  · exact FP _ (memT hp)
  · obtain ⟨rfl, rfl⟩ := at0 i d e
    refine ⟨.ref a, by unfold L2.start; simp, .lst ?_ (rpL_intsT ns)⟩
    rcases hS with h | ⟨o, h⟩
    · exact .inl ((atF a haP).trans h)
    · exact .inr ⟨o, (atF a haP).trans h⟩
  · obtain ⟨rfl, rfl⟩ := at0 i d e
    rw [own_of0 hk] at k; cases k
  · obtain ⟨k, ⟨d, e⟩, _⟩ := h1
    obtain ⟨rfl, rfl⟩ := at0 i d e
    rw [own_of0 hk] at k; cases k
  · obtain ⟨rfl, rfl⟩ := at0 i d e
    rw [hk] at k; cases k
end
theorem recs_nil {q : Program} : ∀ y ∈ ([] : List Str), ∃ e ∈ recsOf q, e.name = y := fun _ h => by cases h
theorem recs_cons {q : Program} {x : Str} {xs : List Str} {d : DefRec} (h : (recsOf q).find? (fun e => e.name == x) = some d) (r : ∀ y ∈ xs, ∃ e ∈ recsOf q, e.name = y) : ∀ y ∈ x :: xs, ∃ e ∈ recsOf q, e.name = y := fun y hy => by
  rcases List.mem_cons.mp hy with z | z
  · rw [z]
    have h2 := List.find?_some h
    exact ⟨d, List.mem_of_find?_eq_some h, by simpa using h2⟩
  · exact r y z
/-- behind the program's top: the script and the law's table are known, and no repr is under way -/
theorem walk_GT {l : PySem.W.OpenLaw} {k : Nat} {q : Program} {loose : List Str} {XP : (Str → Option Value) → Heap → Prop} {YP : World → Heap → Prop} {d : DefRec} {K : Params → Fg} {x : Str}
    (hn : l.most = some 63) (hdf : d.params.defaults = []) (hr : Room k callerA) (xs : List Str) (hxs : ∀ x ∈ xs, ∃ e ∈ recsOf q, e.name = x) (hY : ∀ (w : World) (h : Heap), YP w h → (K w.params).In h) (noL : ∀ w : World, noLst (K w.params) = true) (noT : ∀ w : World, PySem.W.noTabs (K w.params) = true)
    (F : ∀ (w : World) (mg : Str → Option Value) (fa : Addr) (h : Heap), (K w.params).In h → h.Ns mainGlobals mg → mg d.name = some (.ref fa) → ∀ (C : Str → Addr × Addr), (∀ y ∈ xs, ∀ fb : Addr, mg y = some (.ref fb) → ∀ (o : Obj) (fd : FuncData), h.get? fb = some o → o.data = .func fd → fd.code = .ref (C y).1) →
      ∃ fd : FuncData, (∀ (s : Shared) (u : Value), BindsTo s fd ⟨[u], []⟩ [(x, u)]) ∧ ∀ base : Heap, (K w.params).In base → base.Ns mainGlobals mg → (∀ y ∈ xs, TabB base mg (C y).1 (C y).2) → FnG l.prog w (K w.params) mg base k fa fd [x] (spTopT (K w.params) (xs.map fun y => (C y).2))) :
    PySem.W.WalkO q loose XP YP l.row.toRowW d [] (fun f vs => PySem.call f vs) := by
  apply Att.attach_call hn hdf
  intro w s₀ s₁ mg mb fa o pm cd doc a vs ns G Y ho hd hcd hmg hobj hints hlen hg
  have hK : (K w.params).In s₁.heap := hY w _ Y
  have tabs : ∀ y : Str, ∃ cp : Addr × Addr, y ∈ xs → ∃ (b : Addr) (o : Obj) (fd : FuncData), mg y = some (.ref b) ∧ s₁.heap.get? b = some o ∧ o.data = .func fd ∧ fd.code = .ref cp.1 ∧ s₁.heap.IsCode cp.1 cp.2 #[] ∧ s₁.heap.TableAt cp.1 cp.2 #[] := fun y => by
    by_cases hy : y ∈ xs
    · obtain ⟨e, he, rfl⟩ := hxs y hy
      obtain ⟨b, o, fd, c, P, t⟩ := G.T.tab e he
      exact ⟨(c, P), fun _ => ⟨b, o, fd, t⟩⟩
    · exact ⟨(0, 0), fun z => absurd z hy⟩
  obtain ⟨C, hCs⟩ := Classical.axiomOfChoice tabs
  let Ps : List Addr := xs.map fun y => (C y).2
  have hPs : ∀ P ∈ Ps, s₁.heap.get? P = some { cls := .none, data := .fields #[] } ∧ ∃ c, PySem.W.CodeHd s₁.heap c P := fun P hP => by
    obtain ⟨y, hy, rfl⟩ := List.mem_map.mp hP
    obtain ⟨b, o, fd, t1, t2, t3, t4, t5, t6⟩ := hCs y hy
    exact ⟨t6.2, _, PySem.W.CodeHd.of t5 t6⟩
  obtain ⟨fd, bd, hF⟩ := F w mg fa _ hK G.T.g hmg C (fun y hy fb e0 o2 fd2 e1 e2 => by
    obtain ⟨b, o, fd, t1, t2, t3, t4, t5, t6⟩ := hCs y hy
    rw [e0] at t1
    cases t1
    rw [t2] at e1
    cases e1
    rw [t3] at e2
    cases e2
    exact t4)
  have haP : a ∉ Ps := fun z => by
    have hP := (hPs a z).1
    rw [hP] at hobj
    have z' : Data.fields #[] = Data.seq vs.toArray _ := congrArg Obj.data (Option.some.inj hobj)
    cases z'
  let ob : Obj := { cls := .type "list", data := .seq vs.toArray }
  let ho1 : HO := .frz ob (.lst (ns.map V.int))
  let H : Hp := fun b => if b = a then some ho1 else if b ∈ Ps then some (.tbl #[]) else none
  have hself : H a = some ho1 := if_pos rfl
  have htab : ∀ P ∈ Ps, H P = some (.tbl #[]) := fun P hP => (if_neg (fun z : P = a => haP (by rw [← z]; exact hP))).trans (if_pos hP)
  have hothers : ∀ b, b ≠ a → b ∉ Ps → H b = none := fun b hb hb2 => (if_neg hb).trans (if_neg hb2)
  have aK : ∀ {b u}, (K w.params).lookup b = some u → b ≠ a := fun {b u} e z => by
    subst z
    have e1 := hK _ _ e
    rw [hobj] at e1
    cases e1
    have := lookup_all (noL w) e
    simp at this
  have pK : ∀ {b u}, (K w.params).lookup b = some u → b ∉ Ps := fun {b u} e z => by
    have hP := (hPs b z).1
    have e1 := hK _ _ e
    rw [hP] at e1
    cases e1
    have h2 : (false : Bool) = true := lookup_all (noT w) e
    cases h2
  have good : HOk l.prog w H s₁.heap := fun b u e => by
    by_cases hb : b = a
    · subst hb
      rw [hself] at e
      cases e
      have sz := sizeLine_eq
      exact ⟨hobj, by rw [List.length_map]; omega, vs, _, vals_ints hints, hobj⟩
    · by_cases hb2 : b ∈ Ps
      · rw [htab b hb2] at e
        cases e
        exact (hPs b hb2).1
      · rw [hothers b hb hb2] at e; cases e
  have see : ∀ {b u}, s₁.heap.get? b = some u → b ≠ a → b ∉ Ps → (hidT s₁.heap H).get? b = some u := fun {b u} e hb hb2 => hidT_get e (hothers b hb hb2)
  have neA : ∀ {b u}, s₁.heap.get? b = some u → (∀ vs n, u.data ≠ .seq vs n) → b ≠ a := fun {b u} e h z => by
    subst z
    rw [hobj] at e
    cases e
    exact h _ _ rfl
  have neP : ∀ {b u}, s₁.heap.get? b = some u → u.data ≠ .fields #[] → b ∉ Ps := fun {b u} e h z => by
    rw [(hPs b z).1] at e
    cases e
    exact h rfl
  have names : ∀ {b : Addr} {m : Str → Option Value}, s₁.heap.Ns b m → (hidT s₁.heap H).Ns b m := by
    rintro b m ⟨u, es, ep, e, hdt, r⟩
    exact ⟨u, es, ep, see e (neA e fun vs n z => by rw [hdt] at z; cases z) (neP e fun z => by rw [hdt] at z; cases z), hdt, r⟩
  have kin : (K w.params).In (hidT s₁.heap H) := fun b u e => see (hK b u e) (aK e) (pK e)
  obtain ⟨mc, h1, h2⟩ := G.T.nolimit
  have md : Mod (K w.params) mg (hidT s₁.heap H) := ⟨kin, names G.T.g, ⟨mb, names G.T.b, G.T.builtins⟩, mc, names h1, h2⟩
  have e0 : Env0 l.prog w (K w.params) mg (hidT s₁.heap H) callerA [] s₁ H :=
    { frames := rfl, mod := md, bs := fun b u e => of_hidT e, bsz := Nat.le_of_eq (hidT_size _ _), funs := trivial, frf := fun b hb => absurd (show b ∈ ([] : List Addr) from hb) (by simp), hok := good, bare := .of_eq hg }
  have TB : ∀ y ∈ xs, TabB (hidT s₁.heap H) mg (C y).1 (C y).2 := fun y hy => by
    have hPm : (C y).2 ∈ Ps := List.mem_map.mpr ⟨y, hy, rfl⟩
    have hP := (hPs _ hPm).1
    obtain ⟨b0, o0, fd0, t1, t2, t3, t4, t5, t6⟩ := hCs y hy
    have hC : PySem.W.CodeHd s₁.heap (C y).1 (C y).2 := PySem.W.CodeHd.of t5 t6
    refine ⟨?_, ?_, fun z => ?_⟩
    · obtain ⟨o, us, file, tf, flags, tg, inF, text, tt, e1, r1, r2, r3, r4, r5, r6, r7, r8, hne⟩ := hC
      exact ⟨o, us, file, tf, flags, tg, inF, text, tt, see e1 (neA e1 fun vs n z => by rw [r2] at z; cases z) (neP e1 fun z => by
        rw [r2] at z
        cases z
        simp at r3), r1, r2, r3, r4, r5, r6, r7, r8, hne⟩
    · obtain ⟨bm, ob, b1, b2, b3, b4, b5, b6⟩ := G.T.bmain
      have nG : bm ≠ mainGlobals := fun q => by
        obtain ⟨o, es, ep, e, hd, _⟩ := G.T.g
        rw [q, e] at b3
        cases b3
        rw [hd] at b6
        cases b6
      have nPs : bm ∉ Ps := neP b3 fun z => by rw [b6] at z; cases z
      have nP : bm ≠ (C y).2 := fun z => nPs (z ▸ hPm)
      exact ⟨bm, ob, b1, b2, nG, nP, see b3 (neA b3 fun vs n z => by rw [b6] at z; cases z) nPs, b4, b5, b6⟩
    · obtain ⟨o, es, ep, e, hd, _⟩ := G.T.g
      rw [z, hP] at e
      cases e
      cases hd
  have hS : SqL (K w.params) H a (ns.map V.int) := .inl (.inr ⟨ob, hself⟩)
  have run := (hF _ kin (names G.T.g) TB).run callerA [] s₁ H ⟨[.ref a], []⟩ [.ref a] [.ref a] (fun v _ => v = .bl true) (fun _ _ _ => False) ⟨hr, fun _ => rfl⟩ e0 (bd s₁ (.ref a)) (.cons rfl .nil) ⟨a, ns, rfl, hS, hlen, htab, fun _ => rfl⟩
  apply codeAny_mono run
  intro r s' hq
  match r, hq with
  | .error _, ⟨_, _, _, _, _, _, _, _, _, _, _, _, z⟩ => exact z.elim
  | .ok .next, hq => exact hq.elim
  | .ok .brk, hq => exact hq.elim
  | .ok .cont, hq => exact hq.elim
  | .ok (.ret u), ⟨v, H', os, bare, un, hok', ru, qv⟩ =>
    have qv : v = .bl true := qv
    subst qv
    obtain rfl : u = Value.bool true := ru
    have grown : ∀ P ∈ Ps, ∃ more : Array Value, s'.heap.get? P = some { cls := .none, data := .fields more } := fun P hP => by
      obtain ⟨more, z⟩ := un.tbls P #[] (htab P hP)
      exact ⟨_, hok' P _ z⟩
    have key : ∀ b u, b ∉ Ps → s₁.heap.get? b = some u → s'.heap.get? b = some u := fun b u hb2 e => by
      by_cases hb : b = a
      · subst hb
        obtain ⟨e1, _⟩ := hok' b _ (un.frzs b ob _ hself)
        rw [hobj] at e
        cases e
        exact e1
      · exact un.keep b u e (hothers b hb hb2) (fun z => by cases z) (fun z => by cases z)
    refine ⟨rfl, ⟨fun b u e => ?_, fun b u e => ?_⟩, os, bare⟩
    · by_cases hb : b ∈ Ps
      · obtain ⟨more, hm⟩ := grown b hb
        obtain ⟨hP, c, hC⟩ := hPs b hb
        rw [hP] at e
        cases e
        exact .inr (.inl ⟨(hC.tab hP).isCodeTable, rfl, #[], more, rfl, by rw [Array.empty_append]; exact hm⟩)
      · exact .inl (key b u hb e)
    · by_cases hb : b ∈ Ps
      · obtain ⟨more, hm⟩ := grown b hb
        exact ⟨_, hm⟩
      · exact ⟨u, key b u hb e⟩
end MW
namespace MW
open PySem PySem.Spec PyProof.Rows L2 LamX L2H
/-- which of the names are the exception's, one by one -/
def IsAll (K : Fg) (mg : Str → Option Value) (D : Addr) (c : Str) (ns : List Str) : Prop := ∀ n ∈ ns, ∀ C, mg n = some (.ref C) → PySem.W.kitOne K (.ref D) (.ref C) = some (n == c)
theorem is_nil {K : Fg} {mg : Str → Option Value} {D : Addr} {c : Str} : IsAll K mg D c [] := fun n h => by cases h
theorem is_cons {K : Fg} {mg : Str → Option Value} {D A : Addr} {c n : Str} {b : Bool} {ns : List Str} (e : mg n = some (.ref A)) (q : PySem.W.kitOne K (.ref D) (.ref A) = some b) (r : IsAll K mg D c ns) (hb : (n == c) = b := by decide) : IsAll K mg D c (n :: ns) := fun x hx C hC => by
  rcases List.mem_cons.mp hx with z | z
  · rw [z] at hC ⊢
    rw [e] at hC
    cases hC
    rw [hb]; exact q
  · exact r x z C hC
/-- told of every class that is raised -/
def AllW (K : Fg) (mg : Str → Option Value) (ns : List Str) (CS : Addr) (ws : List Str) : Prop := ∀ c ∈ ws, ∀ D, mg c = some (.ref D) → ExcW K mg ns CS c D
theorem aw_nil {K : Fg} {mg : Str → Option Value} {ns : List Str} {CS : Addr} : AllW K mg ns CS [] := fun n h => by cases h
theorem aw_cons {K : Fg} {mg : Str → Option Value} {ns ws : List Str} {CS A : Addr} {c : Str} (e : mg c = some (.ref A)) (w : ExcW K mg ns CS c A) (r : AllW K mg ns CS ws) : AllW K mg ns CS (c :: ws) := fun x hx C hC => by
  rcases List.mem_cons.mp hx with z | z
  · rw [z] at hC ⊢
    rw [e] at hC
    cases hC
    exact w
  · exact r x z C hC
section
variable {X : Cx} {W : WX} {S : Sg}
theorem pe_wordF {a D : Addr} {oe : Obj} {c : Str} {i k : Nat} {x ev we : Str} {st : Stmt} {fw : Addr} {fd : FuncData} {Nw : List Str} {p p1 pos : Pos}
    (hpin : (a, oe) ∈ X.pn) (hz : Zc (.ref D) none oe) (hf : ∃ vs, oe.data = .fields vs)
    (hg : Gl X x) (hm : X.mg x = some (.ref fw)) (Fn : L2.Fun X.K x x st fw fd)
    (hb : L2.Binds X.K fd [we] []) (Sw : FnScope Nw [we] (defScope st)) (h3 : Nw.length = 3) (hr : RoomH (k + 1) X.A)
    (hbody : ∀ (cdv : Value) (A : Around) (outer : List Env) (s : Shared) (H : Hp) (E : XK) (q : Addr × Obj), PinE (cxH C8.CX0 X.prog X.w X.K X.mg X.base Nw x (defScope st) fw cdv A outer s H E q) a D → RoomH k (A.deeper (envOfC x (defScope st) s.heap.objs.size fw cdv)) →
      WSs (cxH C8.CX0 X.prog X.w X.K X.mg X.base Nw x (defScope st) fw cdv A outer s H E q) a (defBody st) none none c)
    (hN : X.N[i]? = some ev) (hv : Vis X.env.scope ev) (hd : (ev == ("__debug__" : Str)) = false := by decide) (hcd : (ev == ("__classdict__" : Str)) = false := by decide) (hdb : (x == ("__debug__" : Str)) = false := by decide)
    (he : starEach [.Name ev p1] X.env = (false, eval (.Name ev p1) X.env) :: starEach [] X.env := by rfl) (hpl : (backTo pos (starEach [] X.env)).any (·.1) = false := by rfl) :
    PE X (.Call (.Name x p) [.Name ev p1] [] pos) (fun σ H Q => σ[i]? = some (some (.ref a)) ∧ ∀ H', Grow H H' → Q (.str c) H') := by
  obtain ⟨oc, od, kV, doc, pm, an, cdv, ct, osl, rfl, lk, hcd2⟩ := Fn.ex
  exact pe_word hpin hz hf hg hm Fn.kp lk hcd2 hb Sw h3 hr (hbody cdv) hN hv hd hcd hdb he hpl
end
end MW
namespace MW
open PySem PySem.Spec PyProof.Rows L2
end MW
namespace MW
open PySem PySem.Spec PyProof.Rows L2
end MW
namespace MW
open PySem PySem.Spec PyProof.Rows L2
end MW
namespace MW
open PySem PySem.Spec PyProof.Rows L2
end MW
namespace MW
open PySem PySem.Spec PyProof.Rows L2
def strsD : List D → Option (List Str)
  | [] => some []
  | .str x :: ds => (strsD ds).map (x :: ·)
  | _ :: _ => none
theorem rpL_strsD {K : Fg} {F : Hp} : ∀ {xs : List V} {ds : List D} {ys : List Str}, RpL K F xs ds → strsD ds = some ys → xs = ys.map V.str
  | _, _, ys, .nil, e => by cases e; rfl
  | _, _, ys, .cons (d := d) (ds := ds) h r, e => by
    cases h with
    | str x =>
      obtain ⟨zs, e1, rfl⟩ := Option.map_eq_some_iff.mp e
      rw [rpL_strsD r e1]; rfl
    | non => cases e
    | bl b => cases e
    | int i => cases e
    | lst a b => cases e
    | tup a b => cases e
    | dct a b => cases e
theorem rpL_ofStrs {K : Fg} {F : Hp} : ∀ ys : List Str, RpL K F (ys.map V.str) (ys.map PyData.str)
  | [] => .nil
  | y :: ys => .cons (.str y) (rpL_ofStrs ys)
section
variable {X : Cx} {W : WX} {S : Sg} {pos apos : Pos} {o e : Expr} {mo me : Ev → Out D}
/-- a text's method of one argument -/
def mStrM (g : Str → D → Option D) (mo me : Ev → Out D) : Ev → Out D := fun ρ => (mo ρ).bind fun d ρ1 => match d with
  | .str a => (me ρ1).bind fun e ρ2 => Out.of (g a e) ρ2
  | _ => .bad
def mStrML (g : Str → D → Option (List D)) (mo me : Ev → Out D) : Ev → Out (List D) := fun ρ => (mo ρ).bind fun d ρ1 => match d with
  | .str a => (me ρ1).bind fun e ρ2 => Out.of (g a e) ρ2
  | _ => .bad
def gJoin : Str → D → Option D
  | a, .list ds => match strsD ds with
    | some ys => if (ys.map (·.length)).sum + ys.length * a.length ≤ 16777216 then some (.str (Txt.join a ys)) else none
    | none => none
  | _, _ => none
theorem me_join (ho : ME X W S o mo) (he : ME X W S e me) (hs : starEach [e] X.env = [(false, eval e X.env)] := by rfl) (hbase : attributeBase o "join" X.env (eval o X.env) = eval o X.env := by rfl) (hline : (apos.endLine == pos.line) = true := by rfl) :
    ME X W S (.Call (.Attribute o "join" apos) [e] [] pos) (mStrM gJoin mo me) := by
  obtain ⟨t, p, q⟩ := ho.ex
  obtain ⟨t', p', q'⟩ := he.ex
  refine ⟨_, pe_join p p' hs hbase hline, fun B F H σ ρ Q I h => ?_⟩
  refine q B F H σ ρ _ I ((Sat.bind h).mono (fun d ρ1 h1 F1 H1 x I1 s1 r1 => ?_) fun _ _ z => z)
  split at h1
  · cases r1
    refine ⟨⟨_, rfl⟩, q' B F1 H1 σ ρ1 _ I1 ((Sat.bind h1).mono (fun d2 ρ2 h2 F2 H2 y I2 s2 r2 => ?_) fun _ _ z => XKo.up s1 z)⟩
    obtain ⟨z, hz, h3⟩ := sat_of h2
    unfold gJoin at hz
    split at hz
    · split at hz
      · rename_i ys ey
        split at hz
        · rename_i hl
          cases hz
          cases r2 with
          | lst hq hr =>
            rw [rpL_strsD hr ey] at hq
            exact ⟨_, _, ys, rfl, rfl, .inl (.inl (rd_same I2.same hq)), hl, h3 F2 H2 _ I2 (s1.trans s2) (.str _)⟩
        · cases hz
      · cases hz
    · cases hz
  · exact h1.elim
def gSplit : Str → D → Option (List D)
  | a, .str b => if (b.length == 0) = false ∧ a.length + 2 ≤ 16777216 then some ((Txt.split a b).map .str) else none
  | _, _ => none
theorem ml_split (ho : ME X W S o mo) (he : ME X W S e me) (hs : starEach [e] X.env = [(false, eval e X.env)] := by rfl) (hbase : attributeBase o "split" X.env (eval o X.env) = eval o X.env := by rfl) (hline : (apos.endLine == pos.line) = true := by rfl) :
    ML X W S (.Call (.Attribute o "split" apos) [e] [] pos) (mStrML gSplit mo me) := by
  obtain ⟨t, p, q⟩ := ho.ex
  obtain ⟨t', p', q'⟩ := he.ex
  have hsz := sizeLine_eq
  refine ⟨_, pe_split p p' hs hbase hline, fun B F H σ ρ Q I h => ?_⟩
  refine q B F H σ ρ _ I ((Sat.bind h).mono (fun d ρ1 h1 F1 H1 x I1 s1 r1 => ?_) fun _ _ z => z)
  split at h1
  · cases r1
    refine ⟨⟨_, rfl⟩, q' B F1 H1 σ ρ1 _ I1 ((Sat.bind h1).mono (fun d2 ρ2 h2 F2 H2 y I2 s2 r2 => ?_) fun _ _ z => XKo.up s1 z)⟩
    obtain ⟨z, hz, h3⟩ := sat_of h2
    unfold gSplit at hz
    split at hz
    · split at hz
      · rename_i hl
        cases hz
        cases r2
        exact ⟨_, _, rfl, rfl, hl.1, by omega, fun pp hp => LKo.mk (fun F' H' p' xs' I' s' => h3 F' H' p' xs' I' ((s1.trans s2).trans s')) I2 (rpL_ofStrs _) hp⟩
      · cases hz
    · cases hz
  · exact h1.elim
def gFmt : D → Option D
  | .str y => if y.length ≤ 16777216 then some (.str y) else none
  | .int i => if i.natAbs.log2 < 1920 then some (.str (toString i)) else none
  | _ => none
theorem me_fmt {p : Pos} (he : ME X W S e me) : ME X W S (.FormattedValue e (-1) none p) (mUn gFmt me) := by
  obtain ⟨t, p', q⟩ := he.ex
  have hsz := sizeLine_eq
  refine ⟨_, pe_fmt p', fun B F H σ ρ Q I h => ?_⟩
  refine q B F H σ ρ _ I ((Sat.bind h).mono (fun d ρ1 h1 F1 H1 x I1 s1 r1 => ?_) fun _ _ z => z)
  obtain ⟨z, hz, h3⟩ := sat_of h1
  unfold gFmt at hz
  split at hz
  · split at hz
    · cases hz
      cases r1
      exact .inl ⟨_, rfl, by omega, h3 F1 H1 _ I1 s1 (.str _)⟩
    · cases hz
  · split at hz
    · rename_i hl
      cases hz
      cases r1
      exact .inr ⟨_, rfl, hl, h3 F1 H1 _ I1 s1 (.str _)⟩
    · cases hz
  · cases hz
def mJ : List (Ev → Out D) → Str → Ev → Out D
  | [], acc => fun ρ => .ok (.str acc) ρ
  | m :: ms, acc => fun ρ => (m ρ).bind fun d ρ1 => match d with
    | .str y => if (acc ++ y).length ≤ 16777216 then mJ ms (acc ++ y) ρ1 else .bad
    | _ => .bad
inductive MJ (X : Cx) (W : WX) (S : Sg) : List Expr → List (Ev → Out D) → Prop
  | nil : MJ X W S [] []
  | cons {e : Expr} {m : Ev → Out D} {es : List Expr} {ms : List (Ev → Out D)} : ME X W S e m → MJ X W S es ms → MJ X W S (e :: es) (m :: ms)
theorem MJ.run {es : List Expr} {ms : List (Ev → Out D)} (h : MJ X W S es ms) : ∃ ts, PJ X es ts ∧ ∀ B F H σ ρ acc (Q : Str → Hp → Prop), SInv X.K S B σ F H ρ → Sat (mJ ms acc ρ) (EKo X.K S B σ F fun v H' => ∃ y, v = .str y ∧ Q y H') (XKo X W S B σ F) → tJs ts acc σ H Q := by
  induction h with
  | nil =>
    refine ⟨[], .nil, fun B F H σ ρ acc Q I h => ?_⟩
    obtain ⟨y, e, k⟩ := h F H (.str acc) I (Same.refl _) (.str acc)
    cases e
    exact k
  | cons h1 r ih =>
    obtain ⟨ts, p, q⟩ := ih
    obtain ⟨t, p1, q1⟩ := h1.ex
    have hsz := sizeLine_eq
    refine ⟨t :: ts, .cons p1 p, fun B F H σ ρ acc Q I h => ?_⟩
    refine q1 B F H σ ρ _ I ((Sat.bind h).mono (fun d ρ1 h1 F1 H1 x I1 s1 r1 => ?_) fun _ _ z => z)
    split at h1
    · split at h1
      · rename_i hl
        cases r1
        exact ⟨_, rfl, by omega, q B F1 H1 σ ρ1 _ Q I1 (Sat.mono h1 (fun d ρ2 k => EKo.up s1 k) fun _ _ z => XKo.up s1 z)⟩
      · exact h1.elim
    · exact h1.elim
theorem mJ_str : ∀ {ms : List (Ev → Out D)} {acc : Str} {ρ ρ1 : Ev} {d : D}, mJ ms acc ρ = .ok d ρ1 → ∃ y, d = .str y
  | [], acc, ρ, ρ1, d, h => by
    cases h
    exact ⟨acc, rfl⟩
  | m :: ms, acc, ρ, ρ1, d, h => by
    unfold mJ at h
    generalize m ρ = o at h
    cases o with
    | bad => cases h
    | err c ρ2 => cases h
    | ok d2 ρ2 =>
      replace h : (match (motive := D → Out D) d2 with
        | .str y => if (acc ++ y).length ≤ 16777216 then mJ ms (acc ++ y) ρ2 else .bad
        | _ => .bad) = Out.ok d ρ1 := h
      split at h
      · split at h
        · exact mJ_str h
        · cases h
      · cases h
theorem me_joined {v1 v2 : Expr} {rest : List Expr} {ms : List (Ev → Out D)} {p : Pos} (h : MJ X W S (v1 :: v2 :: rest) ms) : ME X W S (.JoinedStr (v1 :: v2 :: rest) p) (mJ ms Str.empty) := by
  obtain ⟨ts, p1, q⟩ := h.run
  refine ⟨_, pe_joined p1, fun B F H σ ρ Q I h => q B F H σ ρ _ _ I (Sat.mono (Sat.tell h) (fun d ρ1 ⟨k, e⟩ F1 H1 v I1 s1 r1 => ?_) fun _ _ z => z)⟩
  obtain ⟨y, rfl⟩ := mJ_str e
  have r2 := r1
  cases r1
  exact ⟨y, rfl, k F1 H1 _ I1 s1 r2⟩
def gStrI : List D → Option D
  | [.int i] => if i.natAbs.log2 < 1920 then some (.str (toString i)) else none
  | [.str a] => some (.str a)
  | _ => none
variable {es : List Expr} {ms : Ev → Out (List D)} {p : Pos}
theorem call_str_any : CallR X (.type "str") (fun xs H Q => (∃ i, xs = [.int i] ∧ i.natAbs.log2 < 1920 ∧ Q (.str (toString i)) H) ∨ ∃ a, xs = [.str a] ∧ Q (.str a) H) := by
  intro pins s σ H xs us Q I r h
  rcases h with h | h
  · exact call_str_int pins s σ H xs us Q I r h
  · exact SkE.call_str_str pins s σ H xs us Q I r h
theorem me_strI (hg : Gl X "str") (hm : X.mg "str" = none) (ha : MA X W S [e] ms) (hv : bootBuiltins "str" = some (.type "str") := by decide +kernel) (he : starEach [e] X.env = (false, eval e X.env) :: starEach [] X.env := by rfl) (hpl : (backTo pos (starEach [] X.env)).any (·.1) = false := by rfl) : ME X W S (.Call (.Name "str" p) [e] [] pos) (mCall gStrI ms) := by
  refine me_callV (r := fun xs H Q => (∃ i, xs = [.int i] ∧ i.natAbs.log2 < 1920 ∧ Q (.str (toString i)) H) ∨ ∃ a, xs = [.str a] ∧ Q (.str a) H) (fun S B F H σ ρ Q xs ds z I r hz k => ?_) ha fun t pt => pe_callTy call_str_any hg hm hv pt (by decide) (by decide) he hpl
  unfold gStrI at hz
  split at hz
  · split at hz
    · rename_i hl
      cases hz
      obtain ⟨x, rfl, rx⟩ := seen1 r
      exact .inl ⟨_, by rw [rx.int], hl, k.now I (.str _)⟩
    · cases hz
  · cases hz
    obtain ⟨x, rfl, rx⟩ := seen1 r
    exact .inr ⟨_, by rw [rx.str], k.now I (.str _)⟩
  · cases hz
def gIntS : List D → Option D
  | [.str a] => if a.length ≤ 640 then (PySem.intText? a).map .int else none
  | _ => none
theorem me_intS (hg : Gl X "int") (hm : X.mg "int" = none) (ha : MA X W S [e] ms) (hv : bootBuiltins "int" = some (.type "int") := by decide +kernel) (he : starEach [e] X.env = (false, eval e X.env) :: starEach [] X.env := by rfl) (hpl : (backTo pos (starEach [] X.env)).any (·.1) = false := by rfl) : ME X W S (.Call (.Name "int" p) [e] [] pos) (mCall gIntS ms) := by
  refine me_callV (r := fun xs H Q => ∃ a n, xs = [.str a] ∧ PySem.intText? a = some n ∧ a.length ≤ 640 ∧ Q (.int n) H) (fun S B F H σ ρ Q xs ds z I r hz k => ?_) ha fun t pt => pe_callTy call_int_str hg hm hv pt (by decide) (by decide) he hpl
  unfold gIntS at hz
  split at hz
  · split at hz
    · rename_i hl
      obtain ⟨n, e1, rfl⟩ := Option.map_eq_some_iff.mp hz
      obtain ⟨x, rfl, rx⟩ := seen1 r
      exact ⟨_, n, by rw [rx.str], e1, hl, k.now I (.int _)⟩
    · cases hz
  · cases hz
/-- whether a text stands in another -/
def bInS : D → D → Option Bool
  | .str a, .str b => some (!(Builtin.Str.occurrences b a 0 b.length 1).isEmpty)
  | _, _ => none
theorem opb_inS : OpB X (fun x y H Q => ∃ i j, x = .str i ∧ y = .str j ∧ Q (.bl (!(Builtin.Str.occurrences j i 0 j.length 1).isEmpty)) H) bInS := fun S B F H σ ρ x y d e b Q I rx ry hz q => by
  unfold bInS at hz
  split at hz
  · cases hz
    exact ⟨_, _, rx.str, ry.str, q⟩
  · cases hz
variable {a b : Expr} {ma mb : Ev → Out D}
theorem mt_inS (ha : ME X W S a ma) (hb : ME X W S b mb) (hm : behindInMarks .In b = false) : MT X W S (.Compare a [.In] [b] pos) (mTest bInS ma mb) := mt_cmp op_in_str opb_inS ha hb hm
end
end MW
namespace MW
open PySem PySem.Spec PyProof.Rows L2 PySem.W
variable {X : Cx} {W : WX} {S : Sg} {pos : Pos}
def gStar (K : Fg) (t : TGs) : TG := fun v σ H Q => ∃ a x r, v = .ref a ∧ SqL K H a (x :: r) ∧ ∀ p, H p = none → t [x, .ref p] σ (upd H p (.lst r)) Q
theorem pg_star {a b : Expr} {k : Nat} {pos2 : Pos} {t : TGs} (hc : X.calm = true) (h : PGs X [a, b] t)
    (hs : (assignEach [a, .Starred b pos2] X.env).map (·.2) = (assignEach [a, b] X.env).map (·.2) := by rfl) (hn : (assignEach [a, .Starred b pos2] X.env).length = 2 := by rfl)
    (hst : (assignEach [a, .Starred b pos2] X.env).findIdx? (·.1) = some 1 := by rfl) : PG X (.Tuple [a, .Starred b pos2] k pos) (gStar X.K t) := by
  refine ⟨fun pins s σ H v u Q I r hw => ?_⟩
  obtain ⟨l, x, xr, e1, hq, hw⟩ := hw
  subst e1
  cases r
  obtain ⟨its, rv, ht, hz⟩ := I.list hq
  cases rv with
  | @cons _ u1 _ ur r1 rr =>
  have hl := ht.isList
  have hh := I.ok.hd hc
  rw [assign_Tuple]
  refine wpAny_bind (wpAny_standAt ?_)
  unfold unpack
  rw [hn, hst, hs]
  have hlt : l ≠ s.heap.objs.size := by obtain ⟨o, ho, _⟩ := hl; exact Nat.ne_of_lt (Heap.lt_size ho)
  have hll : l < s.heap.objs.size := by obtain ⟨o, ho, _⟩ := hl; exact Heap.lt_size ho
  have hsz : (u1 :: ur).toArray.size = ur.length + 1 := by simp
  refine wpAny_bind (wpAny_holding ?_)
  unfold unpackItems
  refine wpAny_bind ?_
  unfold notIterableAtAll
  refine wpAny_bind (wpAny_specialOf hl.typeIs slot_list_iter.lookup ?_)
  refine wpAny_pure ?_
  simp only [Bool.false_eq_true, if_false]
  refine wpAny_bind (wpAny_holding (wpAny_pyIter_list hl ?_))
  refine wpAny_bind (wpAny_holding (kun_draw hlt 1 0 _ _ ⟨_, Heap.get?_push_size _ rfl, rfl, rfl⟩ (hl.push _) (by rw [hsz]; omega) fun h₁ hit₁ hs₁ => ?_))
  have hl₁ := (hl.push _).extBut hs₁.extBut hlt
  rw [Nat.zero_add] at hit₁
  have hit₁' := hit₁
  obtain ⟨oi, hoi, _⟩ := hit₁'
  have hl₁' := hl₁
  obtain ⟨ol, hol, _⟩ := hl₁'
  have hz2 : ur.length + 1 ≤ sizeLine := by
    have := rr.length
    have : xr.length + 1 ≤ sizeLine := by simpa using hz
    omega
  have hd1 : List.take 1 (List.drop 0 (u1 :: ur).toArray.toList) = [u1] := by simp
  rw [hd1]
  rw [if_neg (by simp)]
  refine wpAny_bind (wpAny_holding (kun_collect (s := { s with heap := h₁ }) (T := "list_iterator") (.inr (.inr (.inl rfl))) (Walks.list (A := X.A.in1) hh s.heap.objs.size l hlt (u1 :: ur).toArray) (fun j u st => st.1.typeIs) (k := 1) (by rw [hsz]; omega) ⟨hit₁, hl₁⟩ (Heap.lt_size hoi) (Heap.lt_size hol) (fun h₂ tk hk => ?_) (by rw [hsz]; exact hz2)))
  have hd2 : List.drop 1 (u1 :: ur).toArray.toList = ur := by simp
  rw [hd2]
  have he : ∀ b o, s.heap.get? b = some o → h₂.get? b = some o := fun b o e => hk b o (Nat.ne_of_lt (Heap.lt_size e)) (hs₁.extBut b o (Nat.ne_of_lt (Heap.lt_size e)) (Heap.get?_push_of_some _ e))
  have I1 : Inv X pins σ H { s with heap := h₂, toks := tk } := I.kept he
  show wpAny _ _ (if ur.length < 2 - 1 - 1 then _ else _) _ _ _
  rw [if_neg (by omega)]
  show wpAny _ _ (newList (ur.take (ur.length - 0)) >>= fun d => pure ([u1] ++ [d] ++ ur.drop (ur.length - 0))) _ _ _
  rw [Nat.sub_zero, List.take_length, List.drop_length]
  refine wpAny_bind (wpAny_newList ?_ (by omega))
  refine wpAny_pure ?_
  have I2 := I1.laid (a := h₂.objs.size) (o := .lst xr) (h' := h₂.push { cls := .type "list", data := .seq ur.toArray }) (t' := tk) (fun b o e => Heap.get?_push_of_some _ e) (Nat.le_refl _) ⟨by rw [rr.length]; omega, ur, 0, rr, Heap.get?_push_size _ rfl⟩
  exact h.run pins _ σ _ _ _ Q I2 (.cons r1 (.cons (show RelV (.ref h₂.objs.size) (.ref h₂.objs.size) from rfl) .nil)) (hw h₂.objs.size (I1.hok.fresh (Nat.le_refl _)))
def mStar (i j : Nat) (m : Ev → Out D) : Ev → Out Fl := fun ρ => (m ρ).bind fun d ρ1 => match d with
  | .list (x :: r) => .ok .nx ((ρ1.set i (some x)).set j (some (.list r)))
  | _ => .bad
theorem ms_star (i j : Nat) {x y : Str} {p1 p2 p3 p4 : Pos} {kk : Nat} {e : Expr} {m : Ev → Out D} (k : knd S i = 0) (k' : knd S j = 0) (hc : X.calm = true) (he : ME X W S e m) (h1 : PG X (.Name x p1) (gName i)) (h2 : PG X (.Name y p2) (gName j))
    (hs1 : (assignEach [Expr.Name x p1, Expr.Name y p2] X.env).map (·.2) = assign (.Name x p1) X.env :: (assignEach [Expr.Name y p2] X.env).map (·.2) := by rfl) (hs2 : (assignEach [Expr.Name y p2] X.env).map (·.2) = assign (.Name y p2) X.env :: (assignEach [] X.env).map (·.2) := by rfl)
    (hs3 : (assignEach [.Name x p1, .Starred (.Name y p2) p3] X.env).map (·.2) = (assignEach [Expr.Name x p1, Expr.Name y p2] X.env).map (·.2) := by rfl) (hn : (assignEach [.Name x p1, .Starred (.Name y p2) p3] X.env).length = 2 := by rfl)
    (hst : (assignEach [.Name x p1, .Starred (.Name y p2) p3] X.env).findIdx? (·.1) = some 1 := by rfl)
    (hs : swapsWithSole [.Tuple [.Name x p1, .Starred (.Name y p2) p3] kk p4] e pos.line X.env = pure false := by rfl) (hw : swappedStores [.Tuple [.Name x p1, .Starred (.Name y p2) p3] kk p4] e X.env = pure none := by rfl)
    (h1' : (assignEach [.Tuple [.Name x p1, .Starred (.Name y p2) p3] kk p4] X.env).map (·.2) = [assign (.Tuple [.Name x p1, .Starred (.Name y p2) p3] kk p4) X.env] := by rfl) :
    MS X W S (.Assign [.Tuple [.Name x p1, .Starred (.Name y p2) p3] kk p4] e pos) (mStar i j m) := by
  obtain ⟨te, pe, q⟩ := he.ex
  refine ⟨_, ps_asg pe (pg_star hc (pgs_cons h1 (pgs_cons h2 pgs_nil hs2) hs1) hs3 hn hst) hs hw h1', fun B F H σ ρ D I h => ?_⟩
  refine q B F H σ ρ _ I ((Sat.bind h).mono (fun d ρ1 z F1 H1 v I1 s1 r1 => ?_) fun _ _ z => XSo.ex z)
  split at z
  · cases r1 with
    | lst hq hr =>
      cases hr with
      | @cons _ xs _ _ r1 hr =>
        refine ⟨_, _, _, rfl, .inl (rd_same I1.same hq), fun p hp => ?_⟩
        have hF : F1 p = none := Same.free I1.same hp
        have I2 := fun xs => I1.newF (o := .lst xs) hp
        refine ⟨_, _, rfl, _, _, rfl, rfl, ?_⟩
        exact z _ _ _ (((I2 _).setSh k (r1.up (same_upd hF))).setSh k' (.lst (.inl upd_same) (hr.up (same_upd hF)))) (s1.trans (same_upd hF))
  · exact z.elim
end MW
namespace MW
open PySem PySem.Spec PyProof.Rows L2
section
variable {X : Cx} {W : WX} {S : Sg} {a b : Expr} {ma mb : Ev → Out D} {lo hi : Option Expr} {ml mh : Ev → Out (Option Int)} {pos p2 : Pos}
def gCutS (d : D) (lo hi : Option Int) : Option D := match d with
  | .str z => if z.length ≤ 16777216 then some (.str (cutS z lo hi)) else none
  | _ => none
def mSlS (ma : Ev → Out D) (ml mh : Ev → Out (Option Int)) : Ev → Out D := fun ρ => (ma ρ).bind fun d ρ1 => (ml ρ1).bind fun lo ρ2 => (mh ρ2).bind fun hi ρ3 => Out.of (gCutS d lo hi) ρ3
theorem me_slS (ha : ME X W S a ma) (hl : MO X W S lo ml) (hh : MO X W S hi mh) : ME X W S (.Subscript a (.Slice lo hi none p2) pos) (mSlS ma ml mh) := by
  obtain ⟨t, p, q⟩ := ha.ex
  obtain ⟨tl, pl, ql⟩ := hl.ex
  obtain ⟨th, ph, qh⟩ := hh.ex
  have hsz := sizeLine_eq
  refine ⟨_, pe_slice sl_str p pl ph, fun B F H σ ρ Q I h => ?_⟩
  refine q B F H σ ρ _ I ((Sat.bind h).mono (fun d ρ1 h1 F1 H1 x I1 s1 r1 => ?_) fun _ _ z => z)
  refine ql B F1 H1 σ ρ1 _ I1 ((Sat.bind h1).mono (fun l ρ2 h2 F2 H2 I2 s2 => ?_) fun _ _ z => XKo.up s1 z)
  refine qh B F2 H2 σ ρ2 _ I2 ((Sat.bind h2).mono (fun u ρ3 h3 F3 H3 I3 s3 => ?_) fun _ _ z => XKo.up (s1.trans s2) z)
  obtain ⟨z, hz, h4⟩ := sat_of h3
  unfold gCutS at hz
  split at hz
  · split at hz
    · cases hz
      cases r1
      exact ⟨_, rfl, by omega, h4 F3 H3 _ I3 (s1.trans (s2.trans s3)) (.str _)⟩
    · cases hz
  · cases hz
end
end MW
namespace MW
open PySem PySem.Spec PyProof.Rows L2 LamX
section
variable {K : Fg} {S : Sg} {B : Base} {σ : Sts} {F H : Hp} {ρ : Ev}
theorem SInv.unT (I : SInv K S B σ F H ρ) : SInv K { S with T := [] } { B with T := [] } σ F H ρ :=
  ⟨I.len, I.same, ⟨I.ext.fs, I.ext.hs, I.ext.st, I.ext.fr, (nofun : ∀ p ∈ ([] : List NdefX.NTab), _), (nofun : ∀ p ∈ ([] : List NdefX.NTab), _), (nofun : ∀ p ∈ ([] : List NdefX.NTab), _)⟩, I.sh, I.ow, I.nd, I.al, I.pin, rfl⟩
theorem SInv.reT (I : SInv K { S with T := [] } { B with T := [] } σ F H ρ) (hT : B.T = S.T) (tb : NdefX.TabsN B.T H) (to : ∀ p ∈ B.T, B.O p.1) (tf : ∀ p ∈ B.T, F p.1 = none) : SInv K S B σ F H ρ :=
  ⟨I.len, I.same, ⟨I.ext.fs, I.ext.hs, I.ext.st, I.ext.fr, tb, to, tf⟩, I.sh, I.ow, I.nd, I.al, I.pin, hT⟩
end
/-- the tables of the defs xs, all with the names nm -/
def tabsOf (xs : List Str) (nm : Nat → Nat → Str) (C : Str → Addr × Addr) : List NdefX.NTab := (xs.map fun y => (C y).2).map fun P => (P, nm)
theorem tabsOf_mem {xs : List Str} {nm : Nat → Nat → Str} {C : Str → Addr × Addr} {x : Str} (h : x ∈ xs) : ((C x).2, nm) ∈ tabsOf xs nm C := List.mem_map.mpr ⟨_, List.mem_map.mpr ⟨x, h, rfl⟩, rfl⟩
theorem tabsOf_nm {xs : List Str} {nm : Nat → Nat → Str} {C : Str → Addr × Addr} : ∀ p ∈ tabsOf xs nm C, p.2 = nm := fun p hp => by
  obtain ⟨_, _, rfl⟩ := List.mem_map.mp hp
  rfl
def sgT (os : List Bool) (T : List NdefX.NTab) : Sg := { sgOf os with T := T }
def spMT (K : Fg) (mg : Str → Option Value) (os : List Bool) (T : List NdefX.NTab) (m : List D → Out D) : Sp := fun vs H Q E => ∃ B F ds, vs.length = os.length ∧ SInv K (sgT os T) B (vs.map some) F H (ds.map some) ∧
  Sat (m ds) (fun d zs => ∀ F' H' v, Back K (sgT os T) B vs F' H' zs → Same F F' → Rp K F' v d → Q v H') (fun c zs => ∀ F' H' C, Back K (sgT os T) B vs F' H' zs → Same F F' → mg c = some (.ref C) → E (.ref C) none H')
def callBT (T : List NdefX.NTab) (os : List Bool) (vs : List V) (as : List D) (F H : Hp) : Base := ⟨fun a => (callB os vs as F H).O a ∨ ∃ p ∈ T, p.1 = a, fun _ => False, F, H, vs.map some, T⟩
section
variable {K : Fg} {S : Sg} {B : Base} {σ : Sts} {F H : Hp} {ρ : Ev} {os : List Bool}
theorem call_startT {ks : List (Option Nat)} {vs : List V} {ds as : List D} (I : SInv K S B σ F H ρ) (hA : ArgL K σ F ks vs ds) (hr : resolve ρ ks ds = some as) (hk : os = ks.map Option.isSome) (ho : ks.all (fun k => k.all (fun i => knd S i == 1)) = true) (nd : (ks.filterMap id).Nodup) :
    vs.length = os.length ∧ SInv K (sgT os S.T) (callBT S.T os vs as F H) (vs.map some) F H (as.map some) := by
  obtain ⟨hl, J⟩ := call_start I hA hr hk ho nd
  have tb : NdefX.TabsN S.T H := by have := I.ext.tb; rw [I.ts] at this; exact this
  refine ⟨hl, J.len, J.same, ⟨J.ext.fs, fun b o e n => J.ext.hs b o e (fun z => n (.inl z)), J.ext.st, J.ext.fr, tb, fun p hp => .inr ⟨p, hp, rfl⟩, fun p hp => I.ext.tf p (by rw [I.ts]; exact hp)⟩, J.sh, fun i d e k => ?_, J.nd, J.al, J.pin, rfl⟩
  obtain ⟨a, bs, e1, w, q⟩ := J.ow i d e k
  exact ⟨a, bs, e1, w, fun b hb => (q b hb).imp (fun z => ⟨.inl z.1, z.2⟩) id⟩
theorem call_backT {ks : List (Option Nat)} {vs : List V} {ds as : List D} {F' H' : Hp} {zs : Ev} (I : SInv K S B σ F H ρ) (hA : ArgL K σ F ks vs ds) (hr : resolve ρ ks ds = some as) (hk : os = ks.map Option.isSome) (ho : ks.all (fun k => k.all (fun i => knd S i == 1)) = true) (nd : (ks.filterMap id).Nodup)
    (b : Back K (sgT os S.T) (callBT S.T os vs as F H) vs F' H' zs) : SInv K S B σ F' H' (wback ks zs ρ) := by
  have isT : ∀ {a}, a ∈ S.T.map (·.1) → ∃ p ∈ S.T, p.1 = a := fun h => List.mem_map.mp h
  have tb : NdefX.TabsN S.T H := by have := I.ext.tb; rw [I.ts] at this; exact this
  have tb' : NdefX.TabsN S.T H' := b.ext.tb
  let H2 : Hp := fun a => if a ∈ S.T.map (·.1) then H a else H' a
  have at1 : ∀ {a}, a ∈ S.T.map (·.1) → H2 a = H a := fun h => if_pos h
  have at2 : ∀ {a}, a ∉ S.T.map (·.1) → H2 a = H' a := fun h => if_neg h
  have J : SInv K S B σ F' H2 (wback ks zs ρ) := by
    refine call_back I hA hr hk ho nd ⟨b.len, ⟨b.ext.fs, fun c o e n => ?_, fun c e => ?_, b.ext.fr, (nofun : ∀ p ∈ ([] : List NdefX.NTab), _), (nofun : ∀ p ∈ ([] : List NdefX.NTab), _), (nofun : ∀ p ∈ ([] : List NdefX.NTab), _)⟩, fun c o e => ?_, fun i a k e => ?_⟩
    · by_cases hc : c ∈ S.T.map (·.1)
      · rw [at1 hc]; exact e
      · rw [at2 hc]
        exact b.ext.hs c o e fun z => z.elim n fun ⟨p, hp, z⟩ => hc (List.mem_map.mpr ⟨p, hp, z⟩)
    · by_cases hc : c ∈ S.T.map (·.1)
      · rw [at1 hc] at e; exact e
      · rw [at2 hc] at e; exact b.ext.st c e
    · by_cases hc : c ∈ S.T.map (·.1)
      · obtain ⟨p, hp, rfl⟩ := isT hc
        have := b.ext.tf p hp
        rw [this] at e; cases e
      · rw [at2 hc]; exact b.same c o e
    · obtain ⟨d, e1, xs, es, ed, hF, hH, r⟩ := b.ow i a k e
      refine ⟨d, e1, xs, es, ed, hF, ?_, r⟩
      have hc : a ∉ S.T.map (·.1) := fun z => by
        obtain ⟨p, hp, rfl⟩ := isT z
        exact tabs_ne tb' hp hH soft_lst rfl
      rw [at2 hc]; exact hH
  refine J.retab (fun c hc => ?_) (by rw [I.ts]; exact tb')
  rw [I.ts] at hc
  exact (at2 hc).symm
theorem start_sinvT {vs : List V} {ds : List D} {N : List Str} (hs : os.length = S.np) (hk : (List.range S.np).all (fun i => knd S i == if os.getD i false = true then 1 else 0) = true) (hl : vs.length = S.np) (I : SInv K (sgT os S.T) B (vs.map some) F H (ds.map some)) :
    SInv K S B (L2.start N vs) F H (ds.map some ++ List.replicate (N.length - ds.length) none) := by
  have J : SInv K (sgOf os) { B with T := [] } (vs.map some) F H (ds.map some) := I.unT
  have J2 : SInv K { S with T := [] } { B with T := [] } (L2.start N vs) F H (ds.map some ++ List.replicate (N.length - ds.length) none) := start_sinv (S := { S with T := [] }) hs hk hl rfl J
  exact J2.reT I.ts I.ext.tb I.ext.to I.ext.tf
end
section
variable {P : Program} {w : World} {K : PySem.W.Frag} {mg : Str → Option Value} {base : Heap} {gq : Bool}
theorem def_satT {X : Cx} {S : Sg} {os : List Bool} {N : List Str} {mb : Ev → Out Fl} {t : TS} {E : XK} {Q : VK} {vs : List V} {ds : List D} {B : Base} {F H : Hp} (hos : os.length = S.np) (hks : (List.range S.np).all (fun i => knd S i == if os.getD i false = true then 1 else 0) = true) (hl : vs.length = os.length)
    (q : ∀ B F H σ ρ D, SInv X.K S B σ F H ρ → Sat (mb ρ) (FKo X.K S B F D) (XSo X (fun c d _ H => E c d H) S B F) → t D σ H) (I : SInv X.K (sgT os S.T) B (vs.map some) F H (ds.map some))
    (hs : Sat (mDef S N.length mb ds) (fun d zs => ∀ F' H' v, Back X.K (sgT os S.T) B vs F' H' zs → Same F F' → Rp X.K F' v d → Q v H') (fun c zs => ∀ F' H' C, Back X.K (sgT os S.T) B vs F' H' zs → Same F F' → X.mg c = some (.ref C) → E (.ref C) none H')) : t { nx := fun _ H' => Q .non H', rt := Q } (L2.start N vs) H := by
  refine q B F H _ _ _ (start_sinvT (N := N) hos hks (by omega) I) ?_
  have kn : ∀ i, i < S.np → knd S i = knd (sgOf os) i := fun i hi => by
    have := List.all_eq_true.mp hks i (List.mem_range.mpr hi)
    rw [sgOf_knd]
    exact eq_of_beq this
  have back : ∀ {F' H' : Hp} {σ' : Sts} {ρ' : Ev}, SInv X.K S B σ' F' H' ρ' → chk S (outs S ρ') = true → Back X.K (sgT os S.T) B vs F' H' (outs S ρ') := fun {F' H' σ' ρ'} J ha => by
    refine ⟨by show (outs S ρ').length = os.length; simp [outs, hos], J.ext, J.same, fun i a k e => ?_⟩
    have hi : i < S.np := by
      have := (List.getElem?_eq_some_iff.mp e).1
      omega
    have k1 : knd S i = 1 := by
      rw [kn i hi, sgOf_knd]
      have k : own (sgOf os) i = true := k
      rw [sgOf_own] at k
      rw [k]; rfl
    have h1 := List.all_eq_true.mp ha i (List.mem_range.mpr hi)
    rw [own_of1 k1] at h1
    have h2 : ((outs S ρ').getD i none).isSome = true := by simpa using h1
    have ho := outs_at (ρ := ρ') hi (own_of1 k1)
    rw [List.getD_eq_getElem?_getD, ho] at h2
    obtain ⟨d, hd⟩ := Option.isSome_iff_exists.mp (show (ρ'.getD i none).isSome = true from h2)
    obtain ⟨a', e1, ow⟩ := own_lst J k1 hd
    have hp := J.pin i hi (own_of1 k1)
    have hp0 := I.pin i (by show i < os.length; omega) k
    have : σ'[i]? = some (some (.ref a)) := by
      rw [hp, ← hp0, List.getElem?_map, e]
      rfl
    rw [this] at e1
    cases e1
    exact ⟨d, by rw [ho, hd], ow⟩
  cases e1 : mb (ds.map some ++ List.replicate (N.length - ds.length) none) with
  | bad =>
    have e2 : mDef S N.length mb ds = .bad := by unfold mDef; rw [e1]
    rw [e2] at hs
    exact hs.elim
  | err c ρ' =>
    have e2 : mDef S N.length mb ds = if chk S (outs S ρ') = true then .err c (outs S ρ') else .bad := by unfold mDef; rw [e1]
    rw [e2] at hs
    by_cases ha : chk S (outs S ρ') = true
    · rw [if_pos ha] at hs
      exact fun F' H' σ' C J s' hC => hs F' H' C (back J ha) s' hC
    · rw [if_neg ha] at hs
      exact hs.elim
  | ok fl ρ' =>
    cases fl with
    | bk =>
      have e2 : mDef S N.length mb ds = .bad := by unfold mDef; rw [e1]
      rw [e2] at hs
      exact hs.elim
    | ct =>
      have e2 : mDef S N.length mb ds = .bad := by unfold mDef; rw [e1]
      rw [e2] at hs
      exact hs.elim
    | nx =>
      have e2 : mDef S N.length mb ds = if chk S (outs S ρ') = true then .ok .none (outs S ρ') else .bad := by unfold mDef; rw [e1]
      rw [e2] at hs
      by_cases ha : chk S (outs S ρ') = true
      · rw [if_pos ha] at hs
        exact fun F' H' σ' J s' => hs F' H' .non (back J ha) s' .non
      · rw [if_neg ha] at hs
        exact hs.elim
    | rt d =>
      have e2 : mDef S N.length mb ds = if chk S (outs S ρ') = true then .ok d (outs S ρ') else .bad := by unfold mDef; rw [e1]
      rw [e2] at hs
      by_cases ha : chk S (outs S ρ') = true
      · rw [if_pos ha] at hs
        exact fun F' H' σ' J s' v rv => hs F' H' v (back J ha) s' rv
      · rw [if_neg ha] at hs
        exact hs.elim
theorem def_okT {x qual : Str} {st : Stmt} {f c : Addr} {fd : FuncData} {N ps : List Str} {k : Nat} (S : Sg) (os : List Bool) {mb : Ev → Out Fl} (Fn : L2.Fun K x qual st f fd) (Sc : FnScope N ps (defScope st)) (hc : fd.code = .ref c) (hnp : ps.length = S.np) (hos : os.length = S.np) (hks : (List.range S.np).all (fun i => knd S i == if os.getD i false = true then 1 else 0) = true)
    (hbody : ∀ (A : Around) (outer : List Env) (s : Shared) (H : Hp) (E : XK), RoomQ gq k (A.deeper (envOfC qual (defScope st) s.heap.objs.size f (.ref c))) →
      MSs (cxOf (L2.CX P w) P w K mg base N qual (defScope st) f (.ref c) A outer s H E) (fun c d _ H => E c d H) S (defBody st) mb) :
    FnQ gq P w K mg base (k + 1) f fd ps (spMT K mg os S.T (mDef S N.length mb)) := by
  refine FnQ.ofC Fn Sc hc (fun vs H Q E h => ?_) (fun A outer s H vs Q E hr h => ?_)
  · obtain ⟨_, _, _, hl, _⟩ := h
    rw [hl, hnp, hos]
  · obtain ⟨B, F, ds, hl, I, hs⟩ := h
    obtain ⟨t, p, q⟩ := (hbody A outer s H E hr).ex
    exact ⟨t, p, def_satT hos hks hl q I hs⟩
end
section
variable {X : Cx} {W : WX} {S : Sg} {os : List Bool} {pos p : Pos} {e : Expr} {es : List Expr} {ks : List (Option Nat)} {ms : Ev → Out (List D)} {k : Nat} {f : Addr} {fd : FuncData} {ps : List Str} {x : Str} {m : List D → Out D} {gq : Bool}
theorem me_callT (Fn : FnQ gq X.prog X.w X.K X.mg X.base k f fd ps (spMT X.K X.mg os S.T m)) (hr : RoomQ gq k X.A) (hg : Gl X x) (hm : X.mg x = some (.ref f)) (hk : PySem.W.keepIn X.K (.ref f) = true) (hb : Binds X.K fd ps []) (tk : Takes X W)
    (ha : MAc X W S (e :: es) ks ms) (h1 : os = ks.map Option.isSome) (h3 : ks.all (fun k => k.all (fun i => knd S i == 1)) = true) (h4 : (ks.filterMap id).Nodup) (hdb : (x == ("__debug__" : Str)) = false := by decide) (he : starEach (e :: es) X.env = (false, eval e X.env) :: starEach es X.env := by rfl) (hpl : (backTo pos (starEach es X.env)).any (·.1) = false := by rfl) :
    ME X W S (.Call (.Name x p) (e :: es) [] pos) (mCallD m ks ms) := by
  obtain ⟨t, pt, q⟩ := ha.ex
  refine ⟨_, pe_callG Fn hr hg hm hk hb (fun σ => passAt tk σ) pt hdb he hpl, fun B F H σ ρ Q I h => ?_⟩
  refine q B F H σ ρ _ I ((Sat.bind h).mono (fun ds ρ1 h1' F1 H1 vs I1 s1 r1 => ?_) fun _ _ z => z)
  obtain ⟨as, e1, h5⟩ := sat_of (Sat.bind h1')
  obtain ⟨hl, J⟩ := call_startT I1 r1 e1 h1 h3 h4
  refine ⟨_, F1, as, hl, J, ?_⟩
  cases e2 : m as with
  | bad => rw [e2] at h5; exact h5.elim
  | ok d os =>
    rw [e2] at h5
    exact fun F' H' v b s' r => h5 F' H' v (call_backT I1 r1 e1 h1 h3 h4 b) (s1.trans s') r
  | err c os =>
    rw [e2] at h5
    exact fun F' H' C b s' hC => h5 F' H' C (call_backT I1 r1 e1 h1 h3 h4 b) (s1.trans s') hC
end
end MW
namespace MW
open PySem PySem.Spec PyProof.Rows L2 LamX L2H
end MW
namespace MW
open PySem PySem.Spec PyProof.Rows L2 LamX L2H
theorem pe_never {X : Cx} {e : Expr} : PE X e (fun _ _ _ => False) := ⟨fun _ _ _ _ _ _ h => h.elim⟩
def TSaid3 (K : Fg) (mg : Str → Option Value) (ws : List (Str × Str)) : (XK → Hp → VK → Prop) → Hp → VK → Prop := fun tl H Q =>
  tl (fun cls d H' => ∃ p D, p ∈ ws ∧ mg p.1 = some (.ref D) ∧ cls = .ref D ∧ d = none ∧ ∀ H2, Grow H' H2 → Q (.str ("! " ++ p.2 ++ "")) H2) H
    fun v H' => rRepr K [v] H' Q
section
variable {X : Cx}
theorem said3_gives {Ng : List Str} {x a ce ev lb wd q : Str} {sg : Scope} {g CS : Addr} {cdg : Value} {ws : List (Str × Str)} {ns : List Str} {j j2 j3 k : Nat} {xx : Expr} {q0 q1 q2 q3 q4 q5 q6 q7 q8 p1 p2 p3 p4 p5 p6 p7 p8 p9 p10 p11 p12 p13 pr : Pos}
    (hge : sg.names.lookup ce = some .globalImplicit) (hme : X.mg ce = some (.ref CS)) (hde : (ce == ("__debug__" : Str)) = false) (h0 : ∀ f : Addr, (L2.start Ng [V.ref f])[0]? = some (some (V.ref f)))
    (hNd : Ng.Nodup) (hN1 : Ng[1]? = some ev) (hl1 : sg.names.lookup ev = some .local) (hN2 : Ng[2]? = some lb) (hl2 : sg.names.lookup lb = some .local) (hl3 : Ng.length = 3)
    (hd2 : (lb == ("__debug__" : Str)) = false) (hcd2 : (lb == ("__classdict__" : Str)) = false)
    (hgr : sg.names.lookup ("repr" : Str) = some .globalImplicit) (hmr : X.mg "repr" = none) (hgd : ∀ L : Addr, (X.A.deeper (envOfC x sg L g cdg)).guards = some []) (hun : ∀ L : Addr, (X.A.deeper (envOfC x sg L g cdg)).units + 62 < cLine)
    (hwl : ∀ p ∈ ws, p.2.length ≤ 100 ∧ p.2 ≠ "clash")
    (hW : ∀ p ∈ ws, ∀ D, X.mg p.1 = some (.ref D) → ExcW X.K X.mg ns CS p.1 D)
    (hrm : ∀ L : Addr, RoomH (k + 1) (X.A.deeper (envOfC x sg L g cdg)))
    (hword : ∀ p ∈ ws, ∀ D, X.mg p.1 = some (.ref D) → ∀ (s : Shared) (H : Hp) (b : Addr) (oe : Obj) (pn : List (Addr × Obj)), Zc (.ref D) none oe → (∃ vs, oe.data = .fields vs) →
      PE (Cx.suite (cxOf C8.CX0 X.prog X.w X.K X.mg X.base Ng x sg g cdg X.A X.stack s H C8.E0).nox b ((b, oe) :: pn)) (.Call (.Name wd p6) [.Name ev p7] [] p8) (fun σ H Q => σ[1]? = some (some (.ref b)) ∧ ∀ H', Grow H H' → Q (.str p.2) H')) :
    GivesTo X Ng x sg g cdg [.Try [.Return (some (.Call (.Name "repr" pr) [.Call (.Name a p1) [] [] p2] [] p3)) p4]
      [.ExceptHandler (some (.Name ce p5)) (some ev) [.Assign [.Name lb q1] (.Call (.Name wd p6) [.Name ev p7] [] p8) q2,
        .Return (some (.BinOp (.BinOp (.Constant (.str "! ") j q0) .Add (.Name lb q3) q4) .Add (.IfExp (.Compare (.Name lb q5) [.Eq] [.Constant (.str "clash") j2 q6] q7) xx (.Constant (.str "") j3 q8) p9) p10)) p11] p12] [] [] p13] a q (TSaid3 X.K X.mg ws) := by
  intro f c' s H Q tl act hc h
  have hsz := sizeLine_eq
  have hb2 : (Str.ofString "! ").length = 2 := by decide +kernel
  have hb3 : (Str.ofString "").length = 0 := by decide +kernel
  have hgl : Gl (cxOf C8.CX0 X.prog X.w X.K X.mg X.base Ng x sg g cdg X.A X.stack s H C8.E0).nox ce := hge
  refine ⟨_, pss_one (ps_try_as (X := (cxOf C8.CX0 X.prog X.w X.K X.mg X.base Ng x sg g cdg X.A X.stack s H C8.E0).nox) (c := .ref CS) (i := 1)
      (tb := fun W D σ H => ∃ Ech : XK, (∀ cls d σ' H', Ech cls d H' → W cls d σ' H') ∧ σ[0]? = some (some (.ref f)) ∧ H c' = some (CodeO c' q) ∧ tl Ech H fun v H' => rRepr X.K [v] H' D.rt)
      (ts := fun b cls d D σ H => ∃ p Dd, p ∈ ws ∧ X.mg p.1 = some (.ref Dd) ∧ cls = .ref Dd ∧ d = none ∧ (1 < σ.length → σ[1]? = some (some (.ref b))) ∧ ∀ H2, Grow H H2 → D.rt (.str ("! " ++ p.2 ++ "")) H2)
      rfl rfl hNd hN1 hl1 ⟨hgl, hde, .inl hme⟩ LamX.takes0 (fun W pn xe tk _ => ?_) (fun b oe cls d pn z1 z2 => ?_)), ?_⟩
  · refine ⟨fun pins s' σ H' D I h' => ?_⟩
    obtain ⟨Ech, hW, h1, h2, h3⟩ := h'
    have hp := act W pn xe Ech p1 p2 tk hW
    have hq := pss_one (ps_ret (pos := p4) (pe_callB (X := (cxOf C8.CX0 X.prog X.w X.K X.mg X.base Ng x sg g cdg X.A X.stack s H C8.E0).tr pn xe) (cr_repr (hgd s.heap.objs.size) (hun s.heap.objs.size)) (p := pr) (pos := p3) (x := "repr") hgr hmr (by decide +kernel) (pa_cons hp pa_nil) (by decide) (by decide)))
    exact hq.run pins s' σ H' D I ⟨h1, h2, h3⟩
  · refine ⟨fun pins s' σ H' D I h' => ?_⟩
    obtain ⟨p, Dd, m1, m2, rfl, rfl, e1, k1⟩ := h'
    obtain ⟨w1, w2⟩ := hwl p m1
    have hp := hword p m1 Dd m2 s H b oe pn z1 z2
    have hv := pe_var (X := Cx.suite (cxOf C8.CX0 X.prog X.w X.K X.mg X.base Ng x sg g cdg X.A X.stack s H C8.E0).nox b ((b, oe) :: pn)) (i := 2) (x := lb) (pos := q3) hN2 (.inl hl2) hd2 hcd2
    have hv2 := pe_var (X := Cx.suite (cxOf C8.CX0 X.prog X.w X.K X.mg X.base Ng x sg g cdg X.A X.stack s H C8.E0).nox b ((b, oe) :: pn)) (i := 2) (x := lb) (pos := q5) hN2 (.inl hl2) hd2 hcd2
    have hq := pss_cons (ps_set (pos := q2) (pos' := q1) hNd hN2 (.inl hl2) hp rfl (.inr hl2)) (pss_one (ps_ret (pos := p11) (pe_op (pos := p10) op_add_str (pe_op (pos := q4) op_add_str (pe_str (x := "! ") (j := j) (pos := q0)) hv) (pe_ifExp (pos := p9) (pt_cmpR (pos := q7) op_eq hv2 (pe_str (x := "clash") (j := j2) (pos := q6)) rfl) (pe_never (e := xx)) (pe_str (x := "") (j := j3) (pos := q8))))))
    have hlen : σ.length = 3 := by rw [I.len]; exact hl3
    have es : (σ.set 2 (some (.str p.2)))[2]? = some (some (.str p.2)) := List.getElem?_set_self (by omega)
    have ne : decide (V.str p.2 = V.str (Str.ofString "clash")) = false := decide_eq_false fun z => w2 (by injection z)
    refine hq.run pins s' σ H' D I ⟨e1 (by omega), fun H2 g => ⟨_, es, ⟨_, _, rfl, rfl, by omega, ⟨_, es, rfl, _, rfl, ?_⟩⟩⟩⟩
    rw [ne]
    refine iteF ⟨_, _, rfl, rfl, ?_, k1 H2 g⟩
    have e9 : (Str.ofString "! " ++ p.2).length = 2 + p.2.length := by
      rw [show (Str.ofString "! " ++ p.2).length = (Str.ofString "! ").length + p.2.length from strLen_append _ _, hb2]
    omega
  · refine ⟨fun cls d H' => ∃ p D, p ∈ ws ∧ X.mg p.1 = some (.ref D) ∧ cls = .ref D ∧ d = none ∧ ∀ H2, Grow H' H2 → Q (.str ("! " ++ p.2 ++ "")) H2, fun cls d σ' H' ⟨p, Dd, m1, m2, e1, e2, k1⟩ => ?_, h0 f, hc, h⟩
    subst e1 e2
    refine ⟨true, (hW p m1 Dd m2).ca, fun _ b hb => ⟨p, Dd, m1, m2, rfl, rfl, fun hl => ?_, k1⟩, fun z => by cases z⟩
    rw [List.length_set] at hl
    exact List.getElem?_set_self hl
end
def wordOf : List (Str × Str) → Str → Option Str
  | [], _ => none
  | p :: ws, c => if p.1 = c then some p.2 else wordOf ws c
theorem wordOf_mem : ∀ {ws : List (Str × Str)} {c w : Str}, wordOf ws c = some w → (c, w) ∈ ws
  | p :: ws, c, w, h => by
    unfold wordOf at h
    split at h
    · rename_i e
      cases h
      rw [← e]; exact List.mem_cons_self
    · exact List.mem_cons_of_mem _ (wordOf_mem h)
/-- told by repr, or by the word of the exception's class -/
def mSaid3 (ws : List (Str × Str)) (mb : Ev → Out D) : Ev → Out D := fun ρ => match mb ρ with
  | .ok d ρ1 => if fitsR d = true then .ok (.str d.shown) ρ1 else .bad
  | .err c ρ1 => match wordOf ws c with
    | some w => .ok (.str ("! " ++ w ++ "")) ρ1
    | none => .bad
  | .bad => .bad
section
variable {X : Cx} {W : WX} {S : Sg}
theorem me_said3 {x a : Str} {g c P : Addr} {k : Nat} {pg : Arguments} {bg : List Stmt} {sg : Scope} {dV kV doc pm cdv ct oc : Value} {an od : Option Addr} {osl : Array (Option Value)} {Ng : List Str} {ws : List (Str × Str)} {mb : Ev → Out D}
    {params : Arguments} {body : Expr} {scope : Scope} {p lpos pos : Pos} (hg : Gl X x) (hm : X.mg x = some (.ref g)) (hk : PySem.W.keepIn X.K (.ref g) = true)
    (lk : X.K.lookup g = some ⟨oc, od, .func (PySem.W.fnOf x x pg bg sg dV kV doc pm an cdv ct), osl⟩) (hcg : PySem.W.codeIn X.K cdv x = true) (hb : L2.Binds X.K (PySem.W.fnOf x x pg bg sg dV kV doc pm an cdv ct) [a] []) (Sg : FnScope Ng [a] sg) (hNg : Ng[0]? = some a) (hva : Vis sg a)
    (hG : Room (k + 2) X.A → GivesTo X Ng x sg g cdv bg a (X.env.qual ++ "<lambda>") (TSaid3 X.K X.mg ws))
    {nm : Nat → Nat → Str} (hnm : nm lpos.line lpos.col = X.env.qual ++ "<lambda>") (TB : TabB X.base X.mg c P) (hcode : X.env.code = .ref c) (hT : (P, nm) ∈ S.T) (hu : ∀ p ∈ S.T, p.2 = nm) (hr : RoomQ true (k + 2) X.A) (L : LamS X.env.scope scope) (hdef : defaultsOf params X.env = ([], []))
    (hbind : ∀ (q : Str) (cl : List (Str × Addr)) (pm cv ctv : Value), bindArgs (PySem.W.kla_fn "<lambda>" q params body scope cl pm cv ctv) ⟨[], []⟩ = pure [])
    (hbody : ∀ (A : Around) (outer : List Env) (s : Shared) (H : Hp) (E : XK) (f c' : Addr), Takes (lamCx X A outer s H E scope f c') (fun cls d _ H => E cls d H) → RoomQ true k (lamCx X A outer s H E scope f c').A →
      ME (lamCx X A outer s H E scope f c') (fun cls d _ H => E cls d H) S body mb)
    (hdb : (x == ("__debug__" : Str)) = false := by decide) (hd : (a == ("__debug__" : Str)) = false := by decide) (hcd : (a == ("__classdict__" : Str)) = false := by decide) :
    ME X W S (.Call (.Name x p) [.Lambda params body scope lpos] [] pos) (mSaid3 ws mb) := by
  have hsz := sizeLine_eq
  refine ⟨_, pe_lamcall3 (t := fun E => tME X.K X.mg (fun cls d _ H => E cls d H) S mb) hg hm hk lk hcg hb Sg hNg hva hG hnm TB hcode hr L hdef hbind (fun A outer s H E f c' hr2 =>
    (hbody A outer s H E f c' (takes_of rfl rfl rfl rfl) hr2).run) hdb hd hcd, fun B F H σ ρ Q I h => ?_⟩
  refine ⟨I.ext.tb (P, nm) (by rw [I.ts]; exact hT), fun H1 l1 t1 => ?_⟩
  have J := I.lam hT hu l1 t1
  refine ⟨B, F, ρ, J, ?_⟩
  unfold mSaid3 at h
  cases e : mb ρ with
  | bad => rw [e] at h; exact h.elim
  | ok d ρ1 =>
    rw [e] at h
    by_cases hf : fitsR d = true
    · have h : Sat (if fitsR d = true then Out.ok (PyData.str d.shown) ρ1 else Out.bad) (EKo X.K S B σ F Q) (XKo X W S B σ F) := h
      rw [if_pos hf] at h
      exact fun F' H' v I' s' r' => ⟨v, d, rfl, r'.up I'.same, hf, h F' H' _ I' s' (.str _)⟩
    · have h : Sat (if fitsR d = true then Out.ok (PyData.str d.shown) ρ1 else Out.bad) (EKo X.K S B σ F Q) (XKo X W S B σ F) := h
      rw [if_neg hf] at h
      exact h.elim
  | err c ρ1 =>
    rw [e] at h
    have h : Sat (match wordOf ws c with | some w => Out.ok (PyData.str ("! " ++ w ++ "")) ρ1 | none => Out.bad) (EKo X.K S B σ F Q) (XKo X W S B σ F) := h
    cases hc : wordOf ws c with
    | some w =>
      rw [hc] at h
      exact fun F' H' C I' s' hC => ⟨(c, w), C, wordOf_mem hc, hC, rfl, rfl, fun H2 g => h F' H2 _ (I'.grow g.1 g.2) s' (.str _)⟩
    | none => rw [hc] at h; exact h.elim
theorem me_said3F {x a : Str} {g c P : Addr} {st : Stmt} {fd : FuncData} {Ng : List Str} {ws : List (Str × Str)} {mb : Ev → Out D}
    {params : Arguments} {body : Expr} {scope : Scope} {p lpos pos : Pos} (k : Nat) (hg : Gl X x) (hm : X.mg x = some (.ref g)) (Fn : L2.Fun X.K x x st g fd) (hb : L2.Binds X.K fd [a] []) (Sg : FnScope Ng [a] (defScope st)) (hNg : Ng[0]? = some a) (hva : Vis (defScope st) a)
    (hG : ∀ cdv, Room (k + 2) X.A → GivesTo X Ng x (defScope st) g cdv (defBody st) a (X.env.qual ++ "<lambda>") (TSaid3 X.K X.mg ws))
    {nm : Nat → Nat → Str} (hnm : nm lpos.line lpos.col = X.env.qual ++ "<lambda>") (TB : TabB X.base X.mg c P) (hcode : X.env.code = .ref c) (hT : (P, nm) ∈ S.T) (hu : ∀ p ∈ S.T, p.2 = nm) (hr : RoomQ true (k + 2) X.A) (L : LamS X.env.scope scope) (hdef : defaultsOf params X.env = ([], []))
    (hbind : ∀ (q : Str) (cl : List (Str × Addr)) (pm cv ctv : Value), bindArgs (PySem.W.kla_fn "<lambda>" q params body scope cl pm cv ctv) ⟨[], []⟩ = pure [])
    (hbody : ∀ (A : Around) (outer : List Env) (s : Shared) (H : Hp) (E : XK) (f c' : Addr), Takes (lamCx X A outer s H E scope f c') (fun cls d _ H => E cls d H) → RoomQ true k (lamCx X A outer s H E scope f c').A →
      ME (lamCx X A outer s H E scope f c') (fun cls d _ H => E cls d H) S body mb)
    (hdb : (x == ("__debug__" : Str)) = false := by decide) (hd : (a == ("__debug__" : Str)) = false := by decide) (hcd : (a == ("__classdict__" : Str)) = false := by decide) :
    ME X W S (.Call (.Name x p) [.Lambda params body scope lpos] [] pos) (mSaid3 ws mb) := by
  obtain ⟨oc, od, kV, doc, pm, an, cdv, ct, osl, rfl, lk, hcd2⟩ := Fn.ex
  exact me_said3 hg hm Fn.kp lk hcd2 hb Sg hNg hva (hG cdv) hnm TB hcode hT hu hr L hdef hbind hbody hdb hd hcd
end
end MW
namespace MW
open PySem PySem.Spec PyProof.Rows L2
section
variable {X : Cx} {pos : Pos} {e : Expr} {es : List Expr} {te : TE} {t : TA}
theorem PE.toT (h : PE X e te) : PET X e te := fun pins s σ H Q _ I hq => h.run pins s σ H Q I hq
theorem PA.toT (h : PA X es t) : PAT X es t := fun pos pins s σ H Q _ I hq => h.run pos pins s σ H Q I hq
theorem pet_lst (h : PAT X es t) : PET X (.List es pos) (tLst t) := fun pins s σ H Q h0 I hq => wpAny_List_spliced (thn (h pos pins s σ H _ h0 I hq) fun us s1 ⟨xs, H1, I1, r, z, q⟩ =>
  ⟨by rw [← r.length]; exact z, by
    have hf := I1.hok.fresh (Nat.le_refl s1.heap.objs.size)
    exact ⟨.ref s1.heap.objs.size, upd H1 s1.heap.objs.size (.lst xs), I1.laid (fun b u e => Heap.get?_push_of_some _ e) (Nat.le_refl _) ⟨z, us, 0, r, Heap.get?_push_size s1.heap rfl⟩, rfl, q _ hf⟩⟩)
theorem pst_set {i : Nat} {x : Str} {pos' : Pos} (hN : X.N.Nodup) (hi : X.N[i]? = some x) (hx : Loc X.env.scope x) (he : PET X e te) (hs : swapsWith e (some (.Name x pos')) pos.line X.env = pure false) (hf : X.fn x = true ∨ X.env.scope.names.lookup x = some .local) :
    PST X (.Assign [.Name x pos'] e pos) (tAsg te (gName i)) := fun pins s σ H D h0 I h => wpAny_Assign_Name (thn (he pins s σ H _ h0 I h) fun v s1 ⟨y, H1, I1, r1, q1⟩ => store_ok I1 hN hi hx r1 (fun s2 I2 => ⟨_, H1, I2, q1⟩) hf) hs
end
structure MET (X : Cx) (W : WX) (S : Sg) (e : Expr) (m : Ev → Out D) : Prop where
  ex : ∃ t : TE, PET X e t ∧ ∀ B F H σ ρ Q, SInv X.K S B σ F H ρ → Sat (m ρ) (EKo X.K S B σ F Q) (XKo X W S B σ F) → t σ H Q
structure MAT (X : Cx) (W : WX) (S : Sg) (es : List Expr) (m : Ev → Out (List D)) : Prop where
  ex : ∃ t : TA, PAT X es t ∧ ∀ B F H σ ρ Q, SInv X.K S B σ F H ρ → Sat (m ρ) (VsKo X.K S B σ F Q) (XKo X W S B σ F) → t σ H Q
  len : ∀ ρ ds ρ', m ρ = .ok ds ρ' → ds.length = es.length
structure MLT (X : Cx) (W : WX) (S : Sg) (e : Expr) (m : Ev → Out (List D)) : Prop where
  ex : ∃ t : TE, PET X e t ∧ ∀ B F H σ ρ Q, SInv X.K S B σ F H ρ → Sat (m ρ) (LKo X.K S B σ F Q) (XKo X W S B σ F) → t σ H Q
structure MST (X : Cx) (W : WX) (S : Sg) (st : Stmt) (m : Ev → Out Fl) : Prop where
  ex : ∃ t : TS, PST X st t ∧ ∀ B F H σ ρ D, SInv X.K S B σ F H ρ → Sat (m ρ) (FKo X.K S B F D) (XSo X W S B F) → t D σ H
structure MSsT (X : Cx) (W : WX) (S : Sg) (sts : List Stmt) (m : Ev → Out Fl) : Prop where
  ex : ∃ t : TS, PSsT X sts t ∧ ∀ B F H σ ρ D, SInv X.K S B σ F H ρ → Sat (m ρ) (FKo X.K S B F D) (XSo X W S B F) → t D σ H
section
variable {X : Cx} {W : WX} {S : Sg} {pos : Pos} {a b e : Expr} {es : List Expr} {ma mb : Ev → Out D}
theorem ME.toT (h : ME X W S e ma) : MET X W S e ma := by
  obtain ⟨t, p, q⟩ := h.ex
  exact ⟨_, PE.toT p, q⟩
theorem mat_nil : MAT X W S [] mNil := ⟨⟨_, PA.toT pa_nil, fun B F H σ ρ Q I h => h F H [] I (Same.refl _) .nil⟩, fun ρ ds ρ' h => by cases h; rfl⟩
theorem mat_cons {mr : Ev → Out (List D)} (ha : MET X W S a ma) (hr : MAT X W S es mr) (hs : starEach (a :: es) X.env = (false, eval a X.env) :: starEach es X.env := by rfl) : MAT X W S (a :: es) (mCons ma mr) := by
  obtain ⟨t, p, q⟩ := ha.ex
  obtain ⟨t', p', q'⟩ := hr.ex
  refine ⟨⟨_, pat_cons p p' hs, fun B F H σ ρ Q I h => ?_⟩, fun ρ ds ρ' h => ?_⟩
  · refine q B F H σ ρ _ I (h.bind.mono (fun d ρ1 h1 F1 H1 x I1 s1 r1 => ?_) fun _ _ z => z)
    refine q' B F1 H1 σ ρ1 _ I1 (h1.bind.mono (fun ds ρ2 h2 F2 H2 xs I2 s2 r2 => ?_) fun _ _ z => XKo.up s1 z)
    exact h2 F2 H2 (x :: xs) I2 (s1.trans s2) (.cons (r1.up s2) r2)
  · unfold mCons at h
    cases e1 : ma ρ with
    | ok d ρ1 =>
      rw [e1] at h
      have h' : (mr ρ1).bind (fun ds ρ2 => Out.ok (d :: ds) ρ2) = .ok ds ρ' := h
      cases e2 : mr ρ1 with
      | ok ds2 ρ2 =>
        rw [e2] at h'
        cases h'
        rw [List.length_cons, List.length_cons, hr.len ρ1 ds2 _ e2]
      | err c ρ2 => rw [e2] at h'; cases h'
      | bad => rw [e2] at h'; cases h'
    | err c ρ1 => rw [e1] at h; cases h
    | bad => rw [e1] at h; cases h
theorem mlt_lst {ms : Ev → Out (List D)} (h : MAT X W S es ms) (hl : Nat.ble es.length 1000 = true := by rfl) : MLT X W S (.List es pos) ms := by
  obtain ⟨t, p, q⟩ := h.ex
  refine ⟨_, pet_lst p, fun B F H σ ρ Q I hh => ?_⟩
  refine q B F H σ ρ _ I (hh.tell.mono (fun ds ρ1 ⟨h1, e1⟩ F1 H1 xs I1 s1 r1 => ⟨?_, fun p hp => ?_⟩) fun _ _ z => z)
  · rw [r1.len, h.len _ _ _ e1]; exact small_len hl
  · exact LKo.mk (fun F' H' p' xs' I' s' => h1 F' H' p' xs' I' (s1.trans s')) I1 r1 hp
theorem MLT.me {ms : Ev → Out (List D)} (h : MLT X W S a ms) : MET X W S a (mLst ms) := by
  obtain ⟨t, p, q⟩ := h.ex
  exact ⟨_, p, fun B F H σ ρ Q I hh => q B F H σ ρ _ I (hh.bind.mono (fun ds ρ1 h1 => LKo.ofE h1) fun _ _ z => z)⟩
theorem met_lst {ms : Ev → Out (List D)} (h : MAT X W S es ms) (hl : Nat.ble es.length 1000 = true := by rfl) : MET X W S (.List es pos) (mLst ms) := (mlt_lst h hl).me
theorem mlt_add (ha : ME X W S a ma) (hb : MET X W S b mb) : MLT X W S (.BinOp a .Add b pos) (mBinL lAdd ma mb) := by
  obtain ⟨ta, pa, qa⟩ := ha.ex
  obtain ⟨tb, pb, qb⟩ := hb.ex
  have hsz := sizeLine_eq
  refine ⟨_, CwR.pet_op op_catR (PE.toT pa) pb, fun B F H σ ρ Q I h => ?_⟩
  refine qa B F H σ ρ _ I (h.bind.mono (fun d ρ1 h1 F1 H1 x I1 s1 r1 => ?_) fun _ _ z => z)
  refine qb B F1 H1 σ ρ1 _ I1 (h1.bind.mono (fun e ρ2 h2 F2 H2 y I2 s2 r2 => ?_) fun _ _ z => XKo.up s1 z)
  obtain ⟨z, hz, k⟩ := sat_of h2
  unfold lAdd at hz
  split at hz
  · split at hz
    · cases hz
      cases r1 with
      | lst g1 q1 =>
        cases r2 with
        | lst g2 q2 =>
          refine ⟨_, _, _, _, rfl, rfl, rd_same (s2.trans I2.same) g1, rd_same I2.same g2, by rw [q1.len, q2.len]; omega, fun p hp => ?_⟩
          exact LKo.mk (fun F' H' p' xs' I' s' => k F' H' p' xs' I' ((s1.trans s2).trans s')) I2 ((q1.up s2).app q2) hp
    · cases hz
  · cases hz
theorem mst_setL (i : Nat) {x : Str} {m : Ev → Out (List D)} {pos' : Pos} (k : knd S i = 1) (hp : Nat.ble S.np i = true) (hN : X.N.Nodup) (hi : X.N[i]? = some x) (hx : Loc X.env.scope x) (he : MLT X W S e m) (hs : swapsWith e (some (.Name x pos')) pos.line X.env = pure false := by rfl)
    (hf : X.fn x = true ∨ X.env.scope.names.lookup x = some .local := by first | exact .inl rfl | exact .inr rfl | assumption) : MST X W S (.Assign [.Name x pos'] e pos) (mSetL i m) := by
  obtain ⟨t, p, q⟩ := he.ex
  exact ⟨_, pst_set hN hi hx p hs hf, setL_sat k hp q⟩
theorem MS.toT {st : Stmt} {m : Ev → Out Fl} (h : MS X W S st m) : MST X W S st m := by
  obtain ⟨t, p, q⟩ := h.ex
  exact ⟨_, PST.of p, q⟩
theorem msst_cons {st : Stmt} {rest : List Stmt} {m n : Ev → Out Fl} (h1 : MST X W S st m) (h2 : MSsT X W S rest n) : MSsT X W S (st :: rest) (mSeq m n) := by
  obtain ⟨t, p, q⟩ := h1.ex
  obtain ⟨u, p', q'⟩ := h2.ex
  refine ⟨_, psst_cons p p', fun B F H σ ρ D I h => ?_⟩
  refine q B F H σ ρ _ I (h.bind.mono (fun fl ρ1 h1 F1 H1 σ1 I1 s1 => ?_) fun _ _ z => z)
  cases fl with
  | nx => exact q' B F1 H1 σ1 ρ1 D I1 (Sat.mono h1 (fun fl ρ2 h2 => FKo.up s1 h2) fun _ _ z => XSo.up s1 z)
  | bk => exact h1 F1 H1 σ1 I1 s1
  | ct => exact h1 F1 H1 σ1 I1 s1
  | rt d => exact h1 F1 H1 σ1 I1 s1
theorem msst_one {st : Stmt} {m : Ev → Out Fl} (h1 : MS X W S st m) : MSsT X W S [st] m := by
  obtain ⟨t, p, q⟩ := (mss_one h1).ex
  exact ⟨_, PSsT.of p, q⟩
/-- x.replace(y, z) -/
def gRepl (y z : Str) : D → Option D
  | .str x => if x.length + (x.length + 1) * z.length ≤ 16777216 then some (.str (Txt.replace x y z)) else none
  | _ => none
theorem met_replace {y z : Str} {j k : Nat} {c0 c1 apos : Pos} (ha : ME X W S a ma) (hyz : (y == z) = false := by decide +kernel)
    (hst : starEach [.Constant (.str y) j c0, .Constant (.str z) k c1] X.env = [(false, eval (.Constant (.str y) j c0) X.env), (false, eval (.Constant (.str z) k c1) X.env)] := by rfl)
    (hbase : attributeBase a "replace" X.env (eval a X.env) = eval a X.env := by rfl) (hline : (apos.endLine == pos.line) = true := by rfl) :
    MET X W S (.Call (.Attribute a "replace" apos) [.Constant (.str y) j c0, .Constant (.str z) k c1] [] pos) (mUn (gRepl y z) ma) := by
  obtain ⟨t, p, q⟩ := ha.ex
  refine ⟨_, CwR.pet_replT (PE.toT p) hyz hst hbase hline, fun B F H σ ρ Q I h => ?_⟩
  refine q B F H σ ρ _ I (h.bind.mono (fun d ρ1 h1 F1 H1 x I1 s1 r1 => ?_) fun _ _ z => z)
  obtain ⟨w, hz, h3⟩ := sat_of h1
  unfold gRepl at hz
  split at hz
  · split at hz
    · rename_i hl
      cases hz
      cases r1
      exact ⟨_, rfl, hl, h3 F1 H1 _ I1 s1 (.str _)⟩
    · cases hz
  · cases hz
end
section
variable {P : Program} {w : World} {K : Fg} {mg : Str → Option Value} {base : Heap} {gq : Bool}
theorem FnQ.ofT {x qual : Str} {st : Stmt} {f : Addr} {fd : FuncData} {N ps : List Str} {k : Nat} {sp : Sp} (F : L2.Fun K x qual st f fd) (S : FnScope N ps (defScope st)) (hnc : ∀ y ∈ (defScope st).names, y.2 ≠ .cell) (hps : 1 ≤ ps.length) (len : ∀ vs H Q E, sp vs H Q E → vs.length = ps.length)
    (body : ∀ (cdv : Value) (A : Around) (outer : List Env) (s : Shared) (H : Hp) (vs : List V) (Q : VK) (E : XK), RoomQ false k (A.deeper (envOfC qual (defScope st) s.heap.objs.size f cdv)) → sp vs H Q E →
      ∃ t, PSsT (cxOf (L2.CX P w) P w K mg base N qual (defScope st) f cdv A outer s H E) (defBody st) t ∧ t { nx := fun _ H' => Q .non H', rt := Q } (start N vs) H) : FnQ gq P w K mg base (k + 1) f fd ps sp := by
  obtain ⟨oc, od, kV, doc, pm, an, cdv, ct, osl, rfl, lk, hcd⟩ := F.ex
  have G := fn_ofT (CX := L2.CX P w) (P := P) (w := w) (mg := mg) (base := base) (k := k) (sp := sp) lk hcd S hnc hps len fun A outer s H vs Q E hr h => body cdv A outer s H vs Q E ⟨hr, fun z => by cases z⟩ h
  exact ⟨len, fun A outer s H args us vs Q E hr e0 hb rv hsp => G.run A outer s H args us vs Q E hr.rm e0 hb rv hsp⟩
theorem def_okRp {x qual : Str} {st : Stmt} {f : Addr} {fd : FuncData} {N ps : List Str} {k : Nat} (S : Sg) (os : List Bool) {mb : Ev → Out Fl} (Fn : L2.Fun K x qual st f fd) (Sc : FnScope N ps (defScope st)) (hnc : ∀ y ∈ (defScope st).names, y.2 ≠ .cell) (hps : 1 ≤ ps.length) (hnp : ps.length = S.np) (hos : os.length = S.np) (hks : (List.range S.np).all (fun i => knd S i == if os.getD i false = true then 1 else 0) = true)
    (hbody : ∀ (cdv : Value) (A : Around) (outer : List Env) (s : Shared) (H : Hp) (E : XK), RoomQ false k (A.deeper (envOfC qual (defScope st) s.heap.objs.size f cdv)) →
      MSsT (cxOf (L2.CX P w) P w K mg base N qual (defScope st) f cdv A outer s H E) (fun c d _ H => E c d H) S (defBody st) mb) (hTn : S.T = [] := by rfl) :
    FnQ gq P w K mg base (k + 1) f fd ps (spM K mg os (mDef S N.length mb)) := by
  refine FnQ.ofT Fn Sc hnc hps (fun vs H Q E h => ?_) (fun cdv A outer s H vs Q E hr h => ?_)
  · obtain ⟨_, _, _, hl, _⟩ := h
    rw [hl, hnp, hos]
  · obtain ⟨B, F, ds, hl, I, hs⟩ := h
    obtain ⟨t, p, q⟩ := (hbody cdv A outer s H E hr).ex
    exact ⟨t, p, def_sat hos hks hl (nil_ts I hTn) q I hs⟩
end
section
variable {gq : Bool} {X : Cx} {k : Nat} {f : Addr} {fd : FuncData} {sp : Sp} {x : Str} {p pos : Pos} {E : L2.St → XK}
theorem pe_callG0 (F : FnQ gq X.prog X.w X.K X.mg X.base k f fd [] sp) (hr : RoomQ gq k X.A) (hg : Gl X x) (hm : X.mg x = some (.ref f)) (hk : PySem.W.keepIn X.K (.ref f) = true) (hb : Binds X.K fd [] []) (hx : ∀ σ, PassesAt (L2.CX X.prog X.w) X σ (E σ)) (hdb : (x == ("__debug__" : Str)) = false := by decide) :
    PE X (.Call (.Name x p) [] [] pos) (tCallS sp E tNil) := by
  refine ⟨fun pins s σ H Q I h => wpAny_Call_Name_kw (ld_glob I hg hm (PySem.W.callWith_K0 I.kIn hk ?_) hdb)⟩
  have bd : BindsTo s fd ⟨[], []⟩ (([] : List Str).zip []) := by
    have z := hb s [] I.kIn rfl
    simpa using z
  have run := F.run X.A X.stack s H ⟨[], []⟩ [] [] Q (E σ) hr I.env0 bd .nil h
  apply wpAny_call
  apply codeAny_mono run
  intro r s' hq
  match r, hq with
  | .error e, hq => exact hx σ pins H s e s' I hq
  | .ok (.ret u), hq => exact I.after hq
  | .ok .next, hq => exact hq.elim
  | .ok .brk, hq => exact hq.elim
  | .ok .cont, hq => exact hq.elim
end
section
variable {gq : Bool} {X : Cx} {W : WX} {S : Sg} {k : Nat} {f : Addr} {fd : FuncData} {x : Str} {p pos : Pos} {m : List D → Out D}
theorem me_call0 (Fn : FnQ gq X.prog X.w X.K X.mg X.base k f fd [] (spM X.K X.mg [] m)) (hr : RoomQ gq k X.A) (hg : Gl X x) (hm : X.mg x = some (.ref f)) (hk : PySem.W.keepIn X.K (.ref f) = true) (hb : Binds X.K fd [] []) (tk : Takes X W) (hdb : (x == ("__debug__" : Str)) = false := by decide) :
    ME X W S (.Call (.Name x p) [] [] pos) (mCallD m [] mNil) := by
  refine ⟨_, pe_callG0 Fn hr hg hm hk hb (fun σ => passAt tk σ) hdb, fun B F H σ ρ Q I h => ?_⟩
  have q := (mac_nil (X := X) (W := W) (S := S)).ex
  have h1' : Sat (Out.bind (Out.of (resolve ρ [] []) ρ) fun as ρ1 => match m as with
    | .ok d os => .ok d (wback [] os ρ1)
    | .err c os => .err c (wback [] os ρ1)
    | .bad => .bad) (EKo X.K S B σ F Q) (XKo X W S B σ F) := h
  obtain ⟨as, e1, h5⟩ := sat_of (Sat.bind h1')
  obtain ⟨hl, J⟩ := call_start (ks := []) (ds := []) (vs := []) (os := []) I .nil e1 rfl rfl (by simp)
  refine ⟨_, F, as, hl, J, ?_⟩
  cases e2 : m as with
  | bad => rw [e2] at h5; exact h5.elim
  | ok d os =>
    rw [e2] at h5
    exact fun F' H' v b s' r => h5 F' H' v (call_back (ks := []) (ds := []) (vs := []) (os := []) I .nil e1 rfl rfl (by simp) b) s' r
  | err c os =>
    rw [e2] at h5
    exact fun F' H' C b s' hC => h5 F' H' C (call_back (ks := []) (ds := []) (vs := []) (os := []) I .nil e1 rfl rfl (by simp) b) s' hC
end
end MW
namespace Pf
open PySem MW
abbrev N_is_whole : List Str := ["thing"]
abbrev S_is_whole : Sg := ⟨[0], 1, [], []⟩
def mb_is_whole : Ev → Out Fl := (mRet (mAndV (mIsD "int" (mVar 0)) (mNotV (mIsD "bool" (mVar 0)))))
def m_is_whole : List D → Out D := mDef S_is_whole 1 mb_is_whole
abbrev N_is_below : List Str := ["thing", "limit"]
abbrev S_is_below : Sg := ⟨[0, 0], 2, [], []⟩
def mb_is_below : Ev → Out Fl := (mRet (mAndV (mCallD m_is_whole [none] (mCons (mVar 0) mNil)) (mOfB (mChainT bLe bLt (mC (.int 0)) (mVar 0) (mVar 1)))))
def m_is_below : List D → Out D := mDef S_is_below 2 mb_is_below
abbrev N_is_view : List Str := ["thing", "number"]
abbrev S_is_view : Sg := ⟨[0, 0], 1, [], []⟩
def mb_is_view : Ev → Out Fl := (mSeq (mIfS (mOrB (mNotB (mTru (mIsD "tuple" (mVar 0)))) (mNotB (mChainT bLe bLe (mC (.int 1)) (mCall gLen (mCons (mVar 0) mNil)) (mC (.int 9)))))
    (mRet (mC (.bool false)))
    mNext)
  (mSeq (mIfS (mNotB (mTru (mCall gAll (mCons (mLst (mLc (mSeqD (mVar 0)) (gN 1) mYes (mCallD m_is_below [none, none] (mCons (mVar 1) (mCons (mCall gLen (mCons (mVar 0) mNil)) mNil))) [1])) mNil))))
    (mRet (mC (.bool false)))
    mNext)
  (mRet (mBin (gB bEq) (mUn gLenSet (mVar 0)) (mBin gAdd (mCall gMax (mCons (mVar 0) mNil)) (mC (.int 1)))))))
def m_is_view : List D → Out D := mDef S_is_view 2 mb_is_view
abbrev N_need_view : List Str := ["view"]
abbrev S_need_view : Sg := ⟨[0], 1, [], []⟩
def mb_need_view : Ev → Out Fl := (mIfS (mNotB (mTru (mCallD m_is_view [none] (mCons (mVar 0) mNil))))
    (fun ρ => .err "NoView" ρ)
    mNext)
def m_need_view : List D → Out D := mDef S_need_view 1 mb_need_view
abbrev N_count_values : List Str := ["view"]
abbrev S_count_values : Sg := ⟨[0], 1, [], []⟩
def mb_count_values : Ev → Out Fl := (mRet (mBin gAdd (mCall gMax (mCons (mVar 0) mNil)) (mC (.int 1))))
def m_count_values : List D → Out D := mDef S_count_values 1 mb_count_values
abbrev N__is_row : List Str := ["view", "thing", "entry"]
abbrev S__is_row : Sg := ⟨[0, 0, 0], 2, [], []⟩
def mb__is_row : Ev → Out Fl := (mSeq (mIfS (mOrB (mNotB (mTru (mIsD "tuple" (mVar 1)))) (mTest bNe (mCall gLen (mCons (mVar 1) mNil)) (mCallD m_count_values [none] (mCons (mVar 0) mNil))))
    (mRet (mC (.bool false)))
    mNext)
  (mRet (mCall gAll (mCons (mLst (mLc (mSeqD (mVar 1)) (gN 2) mYes (mOrV (mBin (gB bIs) (mVar 2) (mC .none)) (mCallD m_is_below [none, none] (mCons (mVar 2) (mCons (mCall gLen (mCons (mVar 0) mNil)) mNil)))) [2])) mNil))))
def m__is_row : List D → Out D := mDef S__is_row 3 mb__is_row
abbrev N_is_table : List Str := ["view", "thing", "row"]
abbrev S_is_table : Sg := ⟨[0, 0, 0], 2, [], []⟩
def mb_is_table : Ev → Out Fl := (mSeq (mDrop (mCallD m_need_view [none] (mCons (mVar 0) mNil)))
  (mSeq (mIfS (mOrB (mNotB (mTru (mIsD "tuple" (mVar 1)))) (mTest bNe (mCall gLen (mCons (mVar 1) mNil)) (mCall gLen (mCons (mVar 0) mNil))))
    (mRet (mC (.bool false)))
    mNext)
  (mRet (mCall gAll (mCons (mLst (mLc (mSeqD (mVar 1)) (gN 2) mYes (mCallD m__is_row [none, none] (mCons (mVar 0) (mCons (mVar 2) mNil))) [2])) mNil)))))
def m_is_table : List D → Out D := mDef S_is_table 3 mb_is_table
abbrev N__law_cell_at : List Str := ["_law_script", "_law_k"]
abbrev S__law_cell_at : Sg := ⟨[0, 0], 2, [], []⟩
def mb__law_cell_at : Ev → Out Fl := (mSeq (mIfS (mTest bLt (mVar 1) (mCall gLen (mCons (mVar 0) mNil)))
    (mRet (mBin gIx (mVar 0) (mVar 1)))
    mNext)
  (mRet (mC (.int 0))))
def m__law_cell_at : List D → Out D := mDef S__law_cell_at 2 mb__law_cell_at
abbrev N__law_pen : List Str := ["_law_cell"]
abbrev S__law_pen : Sg := ⟨[0], 1, [], []⟩
def mb__law_pen : Ev → Out (List D) := (mCons (mCall gMax (mCons (mC (.int 0)) (mCons (mBin gSub (mVar 0) (mBin gPow (mC (.int 10)) (mC (.int 18)))) mNil))) (mCons (mBin gMod (mVar 0) (mC (.int 1000000007))) (mCons (mC (.int 0)) mNil)))
def m__law_pen : List D → Out (List D) := mDefL 1 mb__law_pen
abbrev N__law_draw : List Str := ["_law_pen_here", "_law_many", "_law_stir", "_law_digit"]
abbrev S__law_draw : Sg := ⟨[1, 0, 0, 0], 2, [], []⟩
def mb__law_draw : Ev → Out Fl := (mSeq (mIfS (mTest bGt (mOwnBin gIx 0 (mC (.int 0))) (mC (.int 0)))
    (mSeq (mSet 3 (mBin gMod (mOwnBin gIx 0 (mC (.int 0))) (mVar 1)))
  (mSeq (mStore 0 (mBin gDiv (mOwnBin gIx 0 (mC (.int 0))) (mVar 1)) (mC (.int 0)))
  (mRet (mVar 3))))
    mNext)
  (mSeq (mStore 0 (mBin gAdd (mOwnBin gIx 0 (mC (.int 2))) (mC (.int 1))) (mC (.int 2)))
  (mSeq (mSet 2 (mBin gMod (mBin gMul (mBin gAdd (mOwnBin gIx 0 (mC (.int 1))) (mBin gMul (mC (.int 17)) (mOwnBin gIx 0 (mC (.int 2))))) (mBin gAdd (mC (.int 69621)) (mBin gMul (mC (.int 2)) (mOwnBin gIx 0 (mC (.int 2)))))) (mC (.int 2147483647))))
  (mSeq (mSet 2 (mBin gMod (mBin gAdd (mBin gAdd (mBin gMul (mVar 2) (mVar 2)) (mBin gMul (mC (.int 40503)) (mOwnBin gIx 0 (mC (.int 2))))) (mC (.int 5))) (mC (.int 2147483629))))
  (mRet (mBin gMod (mBin gDiv (mBin gMod (mBin gMul (mVar 2) (mC (.int 48271))) (mC (.int 2147483647))) (mC (.int 32))) (mVar 1)))))))
def m__law_draw : List D → Out D := mDef S__law_draw 4 mb__law_draw
abbrev N_need_table : List Str := ["view", "table"]
abbrev S_need_table : Sg := ⟨[0, 0], 2, [], []⟩
def mb_need_table : Ev → Out Fl := (mIfS (mNotB (mTru (mCallD m_is_table [none, none] (mCons (mVar 0) (mCons (mVar 1) mNil)))))
    (fun ρ => .err "NoTable" ρ)
    mNext)
def m_need_table : List D → Out D := mDef S_need_table 2 mb_need_table
abbrev N__law_view : List Str := ["_law_pen_here", "_law_low", "_law_high", "_law_raw", "_law_names", "_law_value", "_law_turn"]
abbrev S__law_view : Sg := ⟨[1, 0, 0, 0, 1, 0, 0], 3, [], []⟩
def mb__law_view : Ev → Out Fl := (mSeq (mSet 3 (mLst (mLc (mRange1 (mCons (mBin gAdd (mVar 1) (mCallD m__law_draw [some 0, none] (mLend 0 (mCons (mBin gAdd (mBin gSub (mVar 2) (mVar 1)) (mC (.int 1))) mNil)))) mNil)) (gN 6) mYes (mCallD m__law_draw [some 0, none] (mLend 0 (mCons (mC (.int 4)) mNil))) [6])))
  (mSeq (mSetL 4 mNil)
  (mSeq (mFor (mSeqD (mVar 3)) (gN 5)
    (mIfS (mTestOwn bNotIn (mVar 5) 4)
    (mDrop (mUpd 4 fApp (mCons (mVar 5) mNil)))
    mNext))
  (mSeq (mIfS (mTest bEq (mCallD m__law_draw [some 0, none] (mLend 0 (mCons (mC (.int 2)) mNil))) (mC (.int 0)))
    (mSetL 4 (mCallOL gRev 4))
    mNext)
  (mRet (mCall gTupleOf (mCons (mLst (mLc (mSeqD (mVar 3)) (gN 5) mYes (mIndexO 4 (mCons (mVar 5) mNil)) [5])) mNil)))))))
def m__law_view : List D → Out D := mDef S__law_view 7 mb__law_view
abbrev N_words : List Str := ["entries", "entry"]
abbrev S_words : Sg := ⟨[0, 0], 1, [], []⟩
def mb_words : Ev → Out Fl := (mRet (mStrM gJoin (mC (.str " ")) (mLst (mLc (mSeqD (mVar 0)) (gN 1) mYes (mIf (mTest bIs (mVar 1) (mC .none)) (mC (.str "-")) (mCall gStrI (mCons (mVar 1) mNil))) [1]))))
def m_words : List D → Out D := mDef S_words 2 mb_words
abbrev N_table_text : List Str := ["view", "table", "lines", "line", "state", "row"]
abbrev S_table_text : Sg := ⟨[0, 0, 0, 0, 0, 0], 2, [], []⟩
def mb_table_text : Ev → Out Fl := (mSeq (mDrop (mCallD m_need_table [none, none] (mCons (mVar 0) (mCons (mVar 1) mNil))))
  (mSeq (mSet 2 (mBin gAdd (mLst (mCons (mJ [(mC (.str "view ")), (mUn gFmt (mCallD m_words [none] (mCons (mVar 0) mNil)))] Str.empty) mNil)) (mLst (mLc (mEnum (mCons (mVar 1) mNil)) (gN2 4 5) mYes (mJ [(mUn gFmt (mVar 4)), (mC (.str ": ")), (mUn gFmt (mCallD m_words [none] (mCons (mVar 5) mNil)))] Str.empty) [4, 5]))))
  (mRet (mStrM gJoin (mC (.str "")) (mLst (mLc (mSeqD (mVar 2)) (gN 3) mYes (mBin gAdd (mVar 3) (mC (.str "\n"))) [3]))))))
def m_table_text : List D → Out D := mDef S_table_text 6 mb_table_text
abbrev N__entry : List Str := ["word"]
abbrev S__entry : Sg := ⟨[0], 1, [], []⟩
def mb__entry : Ev → Out Fl := (mRet (mIf (mAndB (mTest bEq (mCall gLen (mCons (mVar 0) mNil)) (mC (.int 1))) (mTest bInS (mVar 0) (mC (.str "0123456789")))) (mCall gIntS (mCons (mVar 0) mNil)) (mC .none)))
def m__entry : List D → Out D := mDef S__entry 1 mb__entry
abbrev N__entries : List Str := ["line", "word"]
abbrev S__entries : Sg := ⟨[0, 0], 1, [], []⟩
def mb__entries : Ev → Out Fl := (mRet (mCall gTupleOf (mCons (mLst (mLc (mSeqD (mSl (mVar 0) (mPart (mC (.int 1))) mNoP)) (gN 1) mYes (mCallD m__entry [none] (mCons (mVar 1) mNil)) [1])) mNil)))
def m__entries : List D → Out D := mDef S__entries 2 mb__entries
abbrev N_read_table : List Str := ["text", "view", "table", "first", "others", "line"]
abbrev S_read_table : Sg := ⟨[0, 0, 0, 0, 0, 0], 1, [], []⟩
def mb_read_table : Ev → Out Fl := (mSeq (mIfS (mNotB (mTru (mIsD "str" (mVar 0))))
    (fun ρ => .err "NoText" ρ)
    mNext)
  (mSeq (mStar 3 4 (mLst (mLc (mSeqD (mLst (mStrML gSplit (mVar 0) (mC (.str "\n"))))) (gN 5) mYes (mLst (mStrML gSplit (mVar 5) (mC (.str " ")))) [5])))
  (mSeq (mSet 1 (mCallD m__entries [none] (mCons (mVar 3) mNil)))
  (mSeq (mSet 2 (mCall gTupleOf (mCons (mLst (mLc (mSeqD (mSl (mVar 4) mNoP (mPart (mUn gNeg (mC (.int 1)))))) (gN 5) mYes (mCallD m__entries [none] (mCons (mVar 5) mNil)) [5])) mNil)))
  (mSeq (mIfS (mOrB (mNotB (mTru (mCallD m_is_view [none] (mCons (mVar 1) mNil)))) (mOrB (mNotB (mTru (mCallD m_is_table [none, none] (mCons (mVar 1) (mCons (mVar 2) mNil))))) (mTest bNe (mCallD m_table_text [none, none] (mCons (mVar 1) (mCons (mVar 2) mNil))) (mVar 0))))
    (fun ρ => .err "NoText" ρ)
    mNext)
  (mRet (mTup (mCons (mVar 1) (mCons (mVar 2) mNil)))))))))
def m_read_table : List D → Out D := mDef S_read_table 6 mb_read_table
abbrev N__law_no_views_v2 : List Str := ["_law_found"]
abbrev S__law_no_views_v2 : Sg := ⟨[0], 0, [], []⟩
def mb__law_no_views_v2 : Ev → Out Fl := (mSeq (mSet 0 (mLst (mCons (mC .none) (mCons (mC (.bool true)) (mCons (mC (.int 0)) (mCons (mC (.str "0")) (mCons (mTup mNil) (mCons (mLst mNil) (mCons (mC (.dict [])) (mCons (mLst (mCons (mC (.int 0)) mNil)) (mCons (mTup (mCons (mC (.int 1)) mNil)) (mCons (mTup (mCons (mC (.int 0)) (mCons (mC (.int 2)) mNil))) (mCons (mTup (mCons (mC (.bool true)) mNil)) (mCons (mTup (mCons (mC (.int 0)) (mCons (mC (.bool true)) mNil))) (mCons (mTup (mCons (mC (.int 0)) (mCons (mC (.bool false)) mNil))) (mCons (mTup (mCons (mC (.bool false)) (mCons (mC (.int 0)) (mCons (mC (.int 1)) mNil)))) (mCons (mTup (mCons (mC (.int 0)) (mCons (mUn gNeg (mC (.int 1))) mNil))) mNil)))))))))))))))))
  (mSeq (mSet 0 (mBin gAdd (mVar 0) (mLst (mCons (mTup (mCons (mC (.int 0)) (mCons (mC .none) mNil))) (mCons (mTup (mCons (mC (.int 0)) (mCons (mC (.str "1")) mNil))) (mCons (mTup (mCons (mTup (mCons (mC (.int 0)) mNil)) mNil)) (mCons (mBin gMulT (mTup (mCons (mC (.int 0)) mNil)) (mC (.int 10))) (mCons (mTup (mCons (mC (.int 0)) (mCons (mC (.int 1)) (mCons (mC (.int 2)) (mCons (mC (.int 3)) (mCons (mC (.int 4)) (mCons (mC (.int 5)) (mCons (mC (.int 6)) (mCons (mC (.int 7)) (mCons (mC (.int 8)) (mCons (mC (.int 9)) mNil))))))))))) (mCons (mTup (mCons (mC (.int 0)) (mCons (mBin gPow (mC (.int 10)) (mC (.int 12))) mNil))) (mCons (mLst (mCons (mC (.int 0)) (mCons (mC (.int 1)) mNil))) mNil))))))))))
  (mRet (mBin gAdd (mVar 0) (mLst (mCons (mTup (mCons (mC (.int 0)) (mCons (mLst (mCons (mC (.int 1)) mNil)) mNil))) mNil))))))
def m__law_no_views_v2 : List D → Out D := mDef S__law_no_views_v2 1 mb__law_no_views_v2
abbrev N__law_any : List Str := ["_law_pen_here", "_law_view_here", "_law_rows", "_law_state", "_law_row", "_law_value", "_law_entry"]
abbrev S__law_any : Sg := ⟨[1, 0, 1, 0, 0, 0, 0], 2, [], []⟩
def mb__law_any : Ev → Out Fl := (mSeq (mSetL 2 mNil)
  (mSeq (mFor (mRange1 (mCons (mCall gLen (mCons (mVar 1) mNil)) mNil)) (gN 3)
    (mSeq (mSet 4 (mLst (mLc (mRange1 (mCons (mBin gAdd (mCall gMax (mCons (mVar 1) mNil)) (mC (.int 1))) mNil)) (gN 5) mYes (mCallD m__law_draw [some 0, none] (mLend 0 (mCons (mBin gAdd (mCall gLen (mCons (mVar 1) mNil)) (mC (.int 1))) mNil))) [5])))
  (mDrop (mUpd 2 fApp (mCons (mCall gTupleOf (mCons (mLst (mLc (mSeqD (mVar 4)) (gN 6) mYes (mIf (mTest bEq (mVar 6) (mCall gLen (mCons (mVar 1) mNil))) (mC .none) (mVar 6)) [6])) mNil)) mNil)))))
  (mRet (mCallO gTupleOf 2))))
def m__law_any : List D → Out D := mDef S__law_any 7 mb__law_any
abbrev N__law_text : List Str := ["_law_view_here", "_law_table", "_law_found", "_law_state", "_law_words", "_law_entry", "_law_value"]
abbrev S__law_text : Sg := ⟨[0, 0, 0, 0, 0, 0, 0], 2, [], []⟩
def mb__law_text : Ev → Out Fl := (mSeq (mSet 2 (mBin gAdd (mBin gAdd (mC (.str "view ")) (mStrM gJoin (mC (.str " ")) (mLst (mLc (mSeqD (mVar 0)) (gN 6) mYes (mCall gStrI (mCons (mVar 6) mNil)) [6])))) (mC (.str "\n"))))
  (mSeq (mFor (mRange1 (mCons (mCall gLen (mCons (mVar 0) mNil)) mNil)) (gN 3)
    (mSeq (mSet 4 (mLst (mLc (mSeqD (mBin gIx (mVar 1) (mVar 3))) (gN 5) mYes (mIf (mTest bIs (mVar 5) (mC .none)) (mC (.str "-")) (mCall gStrI (mCons (mVar 5) mNil))) [5])))
  (mSet 2 (mBin gAdd (mBin gAdd (mBin gAdd (mBin gAdd (mVar 2) (mCall gStrI (mCons (mVar 3) mNil))) (mC (.str ": "))) (mStrM gJoin (mC (.str " ")) (mVar 4))) (mC (.str "\n"))))))
  (mRet (mVar 2))))
def m__law_text : List D → Out D := mDef S__law_text 7 mb__law_text
abbrev N__law_with : List Str := ["_law_table", "_law_state", "_law_value", "_law_entry", "_law_row"]
abbrev S__law_with : Sg := ⟨[0, 0, 0, 0, 0], 4, [], []⟩
def mb__law_with : Ev → Out Fl := (mSeq (mSet 4 (mBin gAdd (mBin gAdd (mSl (mBin gIx (mVar 0) (mVar 1)) mNoP (mPart (mVar 2))) (mTup (mCons (mVar 3) mNil))) (mSl (mBin gIx (mVar 0) (mVar 1)) (mPart (mBin gAdd (mVar 2) (mC (.int 1)))) mNoP)))
  (mRet (mBin gAdd (mBin gAdd (mSl (mVar 0) mNoP (mPart (mVar 1))) (mTup (mCons (mVar 4) mNil))) (mSl (mVar 0) (mPart (mBin gAdd (mVar 1) (mC (.int 1)))) mNoP))))
def m__law_with : List D → Out D := mDef S__law_with 5 mb__law_with
abbrev N__law_no_tables_v2 : List Str := ["_law_view_here", "_law_table", "_law_found", "_law_bad"]
abbrev S__law_no_tables_v2 : Sg := ⟨[0, 0, 1, 0], 2, [], []⟩
def mb__law_no_tables_v2 : Ev → Out Fl := (mSeq (mSetL 2 (mCons (mC .none) (mCons (mTup mNil) (mCons (mLst mNil) (mCons (mC (.int 0)) (mCons (mC (.bool true)) (mCons (mC (.str "table")) (mCons (mC (.dict [])) (mCons (mLst (mCallL gListOf (mCons (mVar 1) mNil))) (mCons (mSl (mVar 1) mNoP (mPart (mUn gNeg (mC (.int 1))))) (mCons (mBin gAdd (mVar 1) (mSl (mVar 1) mNoP (mPart (mC (.int 1))))) (mCons (mTup (mCons (mVar 1) mNil)) mNil))))))))))))
  (mSeq (mFor (mSeqD (mLst (mCons (mCall gLen (mCons (mVar 0) mNil)) (mCons (mUn gNeg (mC (.int 1))) (mCons (mC (.bool true)) (mCons (mC (.str "0")) (mCons (mBin gPow (mC (.int 10)) (mC (.int 12))) (mCons (mTup (mCons (mC (.int 0)) mNil)) (mCons (mLst (mCons (mC (.int 0)) mNil)) mNil))))))))) (gN 3)
    (mDrop (mUpd 2 fApp (mCons (mCallD m__law_with [none, none, none, none] (mCons (mVar 1) (mCons (mBin gSub (mCall gLen (mCons (mVar 0) mNil)) (mC (.int 1))) (mCons (mCall gMax (mCons (mVar 0) mNil)) (mCons (mVar 3) mNil))))) mNil))))
  (mRet (mBin gAdd (mMove 2) (mLst (mCons (mBin gAdd (mSl (mVar 1) mNoP (mPart (mUn gNeg (mC (.int 1))))) (mTup (mCons (mLst (mCallL gListOf (mCons (mBin gIx (mVar 1) (mUn gNeg (mC (.int 1)))) mNil))) mNil))) (mCons (mBin gAdd (mSl (mVar 1) mNoP (mPart (mUn gNeg (mC (.int 1))))) (mTup (mCons (mBin gAdd (mBin gIx (mVar 1) (mUn gNeg (mC (.int 1)))) (mTup (mCons (mC .none) mNil))) mNil))) (mCons (mBin gAdd (mSl (mVar 1) mNoP (mPart (mUn gNeg (mC (.int 1))))) (mTup (mCons (mSl (mBin gIx (mVar 1) (mUn gNeg (mC (.int 1)))) (mPart (mC (.int 1))) mNoP) mNil))) mNil))))))))
def m__law_no_tables_v2 : List D → Out D := mDef S__law_no_tables_v2 4 mb__law_no_tables_v2
abbrev N__law_read : List Str := ["_law_thing"]
abbrev S__law_read : Sg := ⟨[0], 1, [], []⟩
def mb__law_read : Ev → Out Fl := (mRet (mSaid3 [("NoTable", "table"), ("NoText", "text"), ("NoView", "view")] (mCallD m_read_table [none] (mCons (mVar 0) mNil))))
def m__law_read : List D → Out D := mDef S__law_read 1 mb__law_read
abbrev N__law_told : List Str := ["_law_view_here", "_law_table"]
abbrev S__law_told : Sg := ⟨[0, 0], 2, [], []⟩
def mb__law_told : Ev → Out Fl := (mRet (mSaid3 [("NoTable", "table"), ("NoText", "text"), ("NoView", "view")] (mCallD m_table_text [none, none] (mCons (mVar 0) (mCons (mVar 1) mNil)))))
def m__law_told : List D → Out D := mDef S__law_told 2 mb__law_told
abbrev N__law_few_texts : List Str := ["_law_found"]
abbrev S__law_few_texts : Sg := ⟨[0], 0, [], []⟩
def mb__law_few_texts : Ev → Out Fl := (mSeq (mSet 0 (mLst (mCons (mC .none) (mCons (mC (.bool true)) (mCons (mC (.int 0)) (mCons (mTup mNil) (mCons (mLst mNil) (mCons (mC (.dict [])) (mCons (mC (.str "")) (mCons (mC (.str "\n")) (mCons (mC (.str "view")) (mCons (mC (.str "view\n")) (mCons (mC (.str "view \n")) (mCons (mC (.str "view 0")) (mCons (mC (.str "view 0\n")) (mCons (mC (.str "view 0\n0: 0")) mNil))))))))))))))))
  (mSeq (mSet 0 (mBin gAdd (mVar 0) (mLst (mCons (mC (.str "view 0\n1: 0\n")) (mCons (mC (.str "view 0\n0: 0 0\n")) (mCons (mC (.str "view 0\n0:\n")) (mCons (mC (.str "view 0\n0: \n")) (mCons (mC (.str "view 1\n0: - -\n")) mNil))))))))
  (mRet (mBin gAdd (mVar 0) (mLst (mCons (mC (.str "view -\n0: 0\n")) (mCons (mC (.str "view 0\n0: 0\n1: 0\n")) (mCons (mC (.str "view 0 0\n0: 0\n0: 0\n")) (mCons (mC (.str "0\n0: 0\n")) (mCons (mC (.str "view 0 0: 0\n")) mNil))))))))))
def m__law_few_texts : List D → Out D := mDef S__law_few_texts 1 mb__law_few_texts
abbrev N__law_no_texts : List Str := ["_law_view_here", "_law_table", "_law_text_here", "_law_lines", "_law_found", "_law_bad"]
abbrev S__law_no_texts : Sg := ⟨[0, 0, 0, 0, 1, 0], 2, [], []⟩
def mb__law_no_texts : Ev → Out Fl := (mSeq (mSet 2 (mCallD m__law_text [none, none] (mCons (mVar 0) (mCons (mVar 1) mNil))))
  (mSeq (mSet 3 (mLst (mStrML gSplit (mVar 2) (mC (.str "\n")))))
  (mSeq (mSetL 4 (mCons (mSlS (mVar 2) mNoP (mPart (mUn gNeg (mC (.int 1))))) (mCons (mBin gAdd (mVar 2) (mC (.str "\n"))) (mCons (mBin gAdd (mC (.str "\n")) (mVar 2)) (mCons (mBin gAdd (mC (.str " ")) (mVar 2)) (mCons (mBin gAdd (mVar 2) (mC (.str " "))) (mCons (mBin gAdd (mVar 2) (mVar 2)) (mCons (mSlS (mVar 2) (mPart (mC (.int 1))) mNoP) (mCons (mBin gAdd (mSlS (mVar 2) mNoP (mPart (mUn gNeg (mC (.int 1))))) (mC (.str " \n"))) mNil)))))))))
  (mSeq (mSetL 4 (mBinL lAdd (mMove 4) (mLst (mCons (mUn (gRepl " " "  ") (mVar 2)) (mCons (mUn (gRepl "view" "View") (mVar 2)) (mCons (mUn (gRepl "view" "view:") (mVar 2)) mNil))))))
  (mSeq (mSetL 4 (mBinL lAdd (mMove 4) (mLst (mCons (mUn (gRepl ":" "") (mVar 2)) (mCons (mUn (gRepl ":" " :") (mVar 2)) (mCons (mUn (gRepl ":" ";") (mVar 2)) (mCons (mUn (gRepl ": " ":") (mVar 2)) mNil)))))))
  (mSeq (mSetL 4 (mBinL lAdd (mMove 4) (mLst (mCons (mUn (gRepl "\n" "\n\n") (mVar 2)) (mCons (mUn (gRepl "\n" "") (mVar 2)) (mCons (mUn (gRepl "\n" " \n") (mVar 2)) mNil))))))
  (mSeq (mSetL 4 (mBinL lAdd (mMove 4) (mLst (mCons (mUn (gRepl "0" "00") (mVar 2)) (mCons (mUn (gRepl "0" "+0") (mVar 2)) (mCons (mUn (gRepl "0" "-0") (mVar 2)) (mCons (mUn (gRepl "0" "O") (mVar 2)) mNil)))))))
  (mSeq (mSetL 4 (mBinL lAdd (mMove 4) (mLst (mCons (mUn (gRepl " " "_") (mVar 2)) (mCons (mUn (gRepl "view " "") (mVar 2)) (mCons (mBin gAdd (mVar 2) (mC (.str "view 0\n"))) (mCons (mBin gAdd (mBin gAdd (mVar 2) (mBin gIx (mVar 3) (mC (.int 1)))) (mC (.str "\n"))) mNil)))))))
  (mSeq (mDrop (mUpd 4 fApp (mCons (mBin gAdd (mStrM gJoin (mC (.str "\n")) (mSl (mVar 3) mNoP (mPart (mUn gNeg (mC (.int 2)))))) (mC (.str "\n"))) mNil)))
  (mSeq (mIfS (mTest bGt (mCall gLen (mCons (mVar 0) mNil)) (mC (.int 1)))
    (mDrop (mUpd 4 fApp (mCons (mStrM gJoin (mC (.str "\n")) (mBin gAdd (mLst (mCons (mBin gIx (mVar 3) (mC (.int 0))) (mCons (mBin gIx (mVar 3) (mC (.int 2))) (mCons (mBin gIx (mVar 3) (mC (.int 1))) mNil)))) (mSl (mVar 3) (mPart (mC (.int 3))) mNoP))) mNil)))
    mNext)
  (mSeq (mFor (mSeqD (mLst (mCons (mCall gStrI (mCons (mCall gLen (mCons (mVar 0) mNil)) mNil)) (mCons (mC (.str "-1")) (mCons (mC (.str "--")) (mCons (mC (.str "None")) (mCons (mC (.str "")) (mCons (mC (.str "0-")) (mCons (mC (.str "~")) mNil))))))))) (gN 5)
    (mDrop (mUpd 4 fApp (mCons (mCallD m__law_text [none, none] (mCons (mVar 0) (mCons (mCallD m__law_with [none, none, none, none] (mCons (mVar 1) (mCons (mBin gSub (mCall gLen (mCons (mVar 0) mNil)) (mC (.int 1))) (mCons (mCall gMax (mCons (mVar 0) mNil)) (mCons (mVar 5) mNil))))) mNil))) mNil))))
  (mRet (mBin gAdd (mMove 4) (mLst (mCons (mLst (mCons (mVar 2) mNil)) (mCons (mTup (mCons (mVar 2) mNil)) (mCons (mTup (mCons (mVar 0) (mCons (mVar 1) mNil))) mNil)))))))))))))))))
def m__law_no_texts : List D → Out D := mDef S__law_no_texts 6 mb__law_no_texts
abbrev N_law_k65 : List Str := ["_law_script", "_law_cell", "_law_pen_here", "_law_view_here", "_law_table", "_law_bad", "_law_kept"]
abbrev S_law_k65 : Sg := ⟨[0, 0, 1, 0, 0, 0, 0], 1, [], []⟩
def mb_law_k65 : Ev → Out Fl := (mSeq (mIfS (mTest bNe (mLst (mLc (mSeqD (mCallD m__law_few_texts [] mNil)) (gN 5) (mTest bNe (mCallD m__law_read [none] (mCons (mVar 5) mNil)) (mC (.str "! text"))) (mC (.int 1)) [5])) (mLst mNil))
    (mRet (mC (.bool false)))
    mNext)
  (mSeq (mIfS (mTest bNe (mLst (mLc (mSeqD (mCallD m__law_no_views_v2 [] mNil)) (gN 5) (mTest bNe (mCallD m__law_told [none, none] (mCons (mVar 5) (mCons (mC .none) mNil))) (mC (.str "! view"))) (mC (.int 1)) [5])) (mLst mNil))
    (mRet (mC (.bool false)))
    mNext)
  (mSeq (mFor (mSeqD (mBin gAdd (mLst (mCons (mCallD m__law_cell_at [none, none] (mCons (mVar 0) (mCons (mC (.int 0)) mNil))) mNil)) (mSl (mVar 0) (mPart (mC (.int 1))) (mPart (mC (.int 3)))))) (gN 1)
    (mSeq (mSetL 2 (mCallDL m__law_pen [none] (mCons (mVar 1) mNil)))
  (mSeq (mSet 3 (mCallD m__law_view [some 2, none, none] (mLend 2 (mCons (mC (.int 1)) (mCons (mC (.int 9)) mNil)))))
  (mSeq (mSet 4 (mCallD m__law_any [some 2, none] (mLend 2 (mCons (mVar 3) mNil))))
  (mSeq (mIfS (mTest bNe (mLst (mLc (mSeqD (mCallD m__law_no_texts [none, none] (mCons (mVar 3) (mCons (mVar 4) mNil)))) (gN 5) (mTest bNe (mCallD m__law_read [none] (mCons (mVar 5) mNil)) (mC (.str "! text"))) (mC (.int 1)) [5])) (mLst mNil))
    (mRet (mC (.bool false)))
    mNext)
  (mFor (mSeqD (mCallD m__law_no_tables_v2 [none, none] (mCons (mVar 3) (mCons (mVar 4) mNil)))) (gN 5)
    (mSeq (mSet 6 (mCall gRepr (mCons (mVar 5) mNil)))
  (mIfS (mOrB (mTest bNe (mCallD m__law_told [none, none] (mCons (mVar 3) (mCons (mVar 5) mNil))) (mC (.str "! table"))) (mTest bNe (mCall gRepr (mCons (mVar 5) mNil)) (mVar 6)))
    (mRet (mC (.bool false)))
    mNext))))))))
  (mRet (mC (.bool true))))))
def m_law_k65 : List D → Out D := mDef S_law_k65 7 mb_law_k65
end Pf
namespace Pf
open PySem MW
theorem draw_ok {N q : Int} {d : D} (h : Pen N d) (hN : N ≤ 1000000) (hq : 1 ≤ q) (hq2 : q < 1000000) : Ok (m__law_draw [d, .int q]) (fun z os => ∃ (i : Int) (p : D), z = .int i ∧ 0 ≤ i ∧ i < q ∧ os = [some p, none] ∧ Pen (N + 1) p) := by
  obtain ⟨a, b, n, rfl, ha, hb, hb2, hn, hn2⟩ := h
  refine ok_def (by rfl) ?_
  unfold mb__law_draw
  walk_at "mx"
  refine ite_dec (fun c => ?_) (fun c => ?_)
  · walk_at "mx"
    exact defK_rt rfl ⟨_, _, rfl, Int.emod_nonneg _ (by omega), Int.emod_lt_of_pos _ (by omega), rfl, _, _, _, rfl, Int.ediv_nonneg ha (by omega), hb, hb2, hn, by omega⟩
  · walk_at "mx"
    exact defK_rt rfl ⟨_, _, rfl, Int.emod_nonneg _ (by omega), Int.emod_lt_of_pos _ (by omega), rfl, _, _, _, rfl, ha, hb, hb2, by omega, by omega⟩
theorem cell_ok (ns : List Int) (k : Nat) : Ok (m__law_cell_at [.list (ns.map .int), .int k]) (fun z os => ∃ i : Int, z = .int i ∧ os = [none, none]) := by
  refine ok_def (by rfl) ?_
  unfold mb__law_cell_at
  walk_at "mx"
  refine ite_dec (fun c => ?_) (fun c => ?_)
  · walk_at "mx"
    have h : k < ns.length := by rw [List.length_map] at c; omega
    refine ⟨.int ns[k], gIx_ok (by rw [List.getElem?_map, List.getElem?_eq_getElem h]; rfl), ?_⟩
    walk_at "mx"
    exact defK_rt rfl ⟨_, rfl, rfl⟩
  · walk_at "mx"
    exact defK_rt rfl ⟨_, rfl, rfl⟩
theorem pen_ok (c : Int) : Ok (m__law_pen [.int c]) (fun ds os => Pen 0 (.list ds) ∧ os = [none]) := by
  refine ok_defL (by rfl) ?_
  unfold mb__law_pen
  walk_at "mx"
  refine ⟨.int 1000000000000000000, rfl, ?_⟩
  walk_at "mx"
  refine ⟨.int (if c - 1000000000000000000 > 0 then c - 1000000000000000000 else 0), rfl, ?_⟩
  walk_at "mx"
  refine ⟨⟨_, _, _, rfl, ?_, Int.emod_nonneg _ (by omega), Int.emod_lt_of_pos _ (by omega), by omega, by omega⟩, rfl⟩
  split <;> omega
end Pf
namespace Pf
open PySem MW
abbrev Tb := List (List (Option Nat))
/-- parts of the first n states: each state in one of them, each part not empty, ascending, no value twice -/
structure Pn (v : List Nat) (n : Nat) (ps : List (List Nat)) : Prop where
  all : ps.flatten.Perm (List.range n)
  ne : ∀ q ∈ ps, q ≠ []
  asc : ∀ q ∈ ps, q.Pairwise (· < ·)
  dif : ∀ q ∈ ps, ∀ s ∈ q, ∀ t ∈ q, v.getD s 0 = v.getD t 0 → s = t
section
variable {v : List Nat} {n : Nat} {ps : List (List Nat)}
theorem Pn.lt (h : Pn v n ps) {q : List Nat} (hq : q ∈ ps) {s : Nat} (hs : s ∈ q) : s < n :=
  List.mem_range.mp (h.all.mem_iff.mp (List.mem_flatten.mpr ⟨q, hq, hs⟩))
theorem Pn.has (h : Pn v n ps) {s : Nat} (hs : s < n) : ∃ q ∈ ps, s ∈ q := by
  obtain ⟨q, h1, h2⟩ := List.mem_flatten.mp (h.all.mem_iff.mpr (List.mem_range.mpr hs))
  exact ⟨q, h1, h2⟩
theorem Pn.perm (h : Pn v n ps) {qs : List (List Nat)} (e : qs.Perm ps) : Pn v n qs :=
  ⟨e.flatten.trans h.all, fun q hq => h.ne q (e.mem_iff.mp hq), fun q hq => h.asc q (e.mem_iff.mp hq), fun q hq => h.dif q (e.mem_iff.mp hq)⟩
theorem Pn.count (h : Pn v n ps) : ps.length ≤ n := by
  have : ∀ ps : List (List Nat), (∀ q ∈ ps, q ≠ []) → ps.length ≤ ps.flatten.length := by
    intro ps
    induction ps with
    | nil => intro _; exact Nat.le_refl _
    | cons q ps ih =>
      intro k
      have h1 := List.length_pos_iff.mpr (k q List.mem_cons_self)
      have h2 := ih fun r hr => k r (List.mem_cons_of_mem _ hr)
      rw [List.flatten_cons, List.length_append, List.length_cons]
      omega
  have h1 := this ps h.ne
  rw [h.all.length_eq, List.length_range] at h1
  exact h1
theorem Pn.len (h : Pn v n ps) {q : List Nat} (hq : q ∈ ps) : q.length ≤ n := by
  have : ∀ ps : List (List Nat), q ∈ ps → q.length ≤ ps.flatten.length := by
    intro ps
    induction ps with
    | nil => intro h; cases h
    | cons r ps ih =>
      intro k
      rw [List.flatten_cons, List.length_append]
      rcases List.mem_cons.mp k with z | z
      · rw [z]; omega
      · have := ih z; omega
  have h1 := this ps hq
  rw [h.all.length_eq, List.length_range] at h1
  exact h1
theorem set_flatten {x : Nat} : ∀ {ps : List (List Nat)} {k : Nat} (hk : k < ps.length), (ps.set k (ps[k] ++ [x])).flatten.Perm (ps.flatten ++ [x])
  | [], _, h => by cases h
  | q :: ps, 0, _ => by
    rw [List.set_cons_zero, List.flatten_cons, List.flatten_cons, List.getElem_cons_zero, List.append_assoc, List.append_assoc]
    exact List.Perm.append_left q List.perm_append_comm
  | q :: ps, k + 1, h => by
    rw [List.set_cons_succ, List.flatten_cons, List.flatten_cons, List.append_assoc]
    exact List.Perm.append_left q (set_flatten (Nat.lt_of_succ_lt_succ h))
theorem Pn.join (h : Pn v n ps) {k : Nat} (hk : k < ps.length) (hv : v.getD n 0 ∉ ps[k].map fun s => v.getD s 0) : Pn v (n + 1) (ps.set k (ps[k] ++ [n])) := by
  have hm := List.getElem_mem hk
  refine ⟨?_, fun q hq => ?_, fun q hq => ?_, fun q hq s hs t ht e => ?_⟩
  · rw [List.range_succ]
    exact (set_flatten hk).trans (h.all.append (List.Perm.refl _))
  · rcases List.mem_or_eq_of_mem_set hq with z | z
    · exact h.ne q z
    · rw [z]; simp
  · rcases List.mem_or_eq_of_mem_set hq with z | z
    · exact h.asc q z
    · rw [z, List.pairwise_append]
      refine ⟨h.asc _ hm, List.pairwise_singleton _ _, fun a ha b hb => ?_⟩
      rw [List.mem_singleton.mp hb]
      exact h.lt hm ha
  · rcases List.mem_or_eq_of_mem_set hq with z | z
    · exact h.dif q z s hs t ht e
    · rw [z] at hs ht
      rcases List.mem_append.mp hs with s1 | s1 <;> rcases List.mem_append.mp ht with t1 | t1
      · exact h.dif _ hm s s1 t t1 e
      · rw [List.mem_singleton.mp t1] at e
        exact absurd (List.mem_map.mpr ⟨s, s1, e⟩) hv
      · rw [List.mem_singleton.mp s1] at e
        exact absurd (List.mem_map.mpr ⟨t, t1, e.symm⟩) hv
      · rw [List.mem_singleton.mp s1, List.mem_singleton.mp t1]
end
/-- the three rules -/
structure Sound (v : List Nat) (c : Nat) (t : Tb) : Prop where
  tab : Tab v.length c t
  stay : ∀ s, s < v.length → cell t s (v.getD s 0) = some s
  shown : ∀ s w o, s < v.length → w < c → cell t s w = some o → v.getD o 0 = w
  forget : ∀ s w o, s < v.length → w < c → cell t s w = some o → ∀ x, x < c → cell t o x = cell t s x
theorem Tab.lt {n c : Nat} {t : Tb} (h : Tab n c t) {s w o : Nat} (e : cell t s w = some o) : o < n := by
  by_cases hs : s < t.length
  · by_cases hw : w < t[s].length
    · rw [cell_at hs hw] at e
      exact (h.2 _ (List.getElem_mem hs)).2 _ (List.getElem_mem hw) _ e
    · unfold cell at e
      simp [List.getD_eq_getElem?_getD, hs, hw] at e
  · unfold cell at e
    simp [List.getD_eq_getElem?_getD, hs] at e
theorem vw_getD {v : List Nat} {c : Nat} (hv : Vw v c) {s : Nat} (hs : s < v.length) : v.getD s 0 < c := by
  rw [List.getD_eq_getElem?_getD, List.getElem?_eq_getElem hs]
  exact hv.2.2.2.1 _ (List.getElem_mem hs)
end Pf
namespace Pf
open PySem MW
def leN (a b : List Nat) : Bool := decide (a ≤ b)
def sortT (ps : List (List Nat)) : List (List Nat) := ps.mergeSort leN
end Pf
namespace Pf
open PySem MW
theorem fold_app {α : Type} (l : List α) (i : Nat) (h : i < l.length) : l.take (i + 1) = l.take i ++ [l[i]] := by rw [List.take_add_one, List.getElem?_eq_getElem h]; rfl
end Pf
namespace Pf
open PySem MW
theorem whole_ok (d : D) (P : D → Ev → Prop) (h : ∀ b, (∀ i : Int, d = .int i → b = true) → P (.bool b) [none]) : Ok (m_is_whole [d]) P := by
  refine ok_def (by rfl) ?_
  unfold mb_is_whole
  walk_at "mx"
  refine ⟨isD "int" d, rfl, ?_⟩
  cases e : isD "int" d with
  | true =>
    refine L2.iteT ?_
    walk_at "mx"
    refine defK_rt rfl (h _ fun i e => ?_)
    subst e; rfl
  | false =>
    refine L2.iteF ?_
    refine defK_rt rfl (h _ fun i e' => ?_)
    subst e'
    cases e
theorem below_ok (i : Int) (n : Int) (h0 : 0 ≤ i) (h1 : i < n) : Ok (m_is_below [.int i, .int n]) (fun z os => z = .bool true ∧ os = [none, none]) := by
  refine ok_def (by rfl) ?_
  unfold mb_is_below
  walk_at "mx"
  refine whole_ok _ _ fun b hb => ?_
  have := hb i rfl
  subst this
  refine ⟨_, rfl, L2.iteT ?_⟩
  walk_at "mx"
  rw [decide_eq_true h0]
  refine L2.iteT ?_
  walk_at "mx"
  rw [decide_eq_true h1]
  exact defK_rt rfl ⟨rfl, rfl⟩
theorem all_true (n : Nat) : gAll [.list (List.replicate n (.bool true))] = some (.bool true) := by
  have e : ∀ n, boolsD (List.replicate n (PyData.bool true)) = some (List.replicate n true) := by
    intro n
    induction n with
    | zero => rfl
    | succ n ih =>
      unfold boolsD at ih ⊢
      rw [List.replicate_succ, List.mapM_cons, ih]
      rfl
  show ((boolsD (List.replicate n (PyData.bool true))).map fun ns => PyData.bool (ns.all id)) = _
  rw [e]
  simp
theorem view_is {v : List Nat} {c : Nat} (hv : Vw v c) : Ok (m_is_view [tD v]) (fun z os => z = .bool true ∧ os = [none]) := by
  have hv0 := hv
  obtain ⟨v1, v2, v3, v4, v5⟩ := hv
  refine ok_def (by rfl) ?_
  unfold mb_is_view
  walk_at "mx"
  refine ⟨_, rfl, ?_⟩
  refine L2.iteF ?_
  walk_at "mx"
  rw [List.length_map, decide_eq_true (show (1 : Int) ≤ (v.length : Int) by omega)]
  refine L2.iteT ?_
  walk_at "mx"
  rw [decide_eq_true (show (v.length : Int) ≤ 9 by omega)]
  refine L2.iteF ?_
  refine ok_next ?_
  refine then_nx ?_
  walk_at "mx"
  refine ⟨_, rfl, ?_⟩
  refine comp_inv (fun k ys ρ => ρ = [some (tD v), none] ∧ ys = List.replicate k (.bool true)) 0 [] ⟨rfl, rfl⟩ ?_ ?_
  · rintro i d ys ρ hi0 ⟨rfl, rfl⟩
    obtain ⟨hi, rfl⟩ := at_map hi0
    refine ⟨_, rfl, ?_⟩
    walk_at "mx"
    have := v4 v[i] (List.getElem_mem hi)
    show Ok (m_is_below [.int (v[i] : Nat), .int ((v.map nD).length : Int)]) _
    rw [List.length_map]
    refine (below_ok _ _ (by omega) (by omega)).mono ?_
    rintro z os ⟨rfl, rfl⟩
    refine ⟨rfl, ?_⟩
    rw [show 0 + (i + 1) = 0 + i + 1 by omega, List.replicate_succ']
  rintro ys ρ ⟨rfl, e⟩
  rw [List.nil_append] at e
  subst e
  walk_at "mx"
  refine ⟨_, all_true _, ?_⟩
  refine ⟨_, rfl, ?_⟩
  refine L2.iteF ?_
  refine ok_next ?_
  refine then_nx ?_
  refine ok_at (ρ' := [some (tD v), none]) rfl ?_
  have hset : gLenSet (tD v) = some (.int c) := by
    have e : ∀ q : List Nat, intsOf (q.map nD) = some (q.map Int.ofNat) := by
      intro q
      induction q with
      | nil => rfl
      | cons x q ih => show (intsOf (q.map nD)).map (_ :: ·) = _; rw [ih]; rfl
    show ((intsOf (v.map nD)).bind fun ns => if ns.length ≤ 4000 then some (PyData.int ((dd ns).length : Nat)) else none) = _
    rw [e]
    show (if (v.map Int.ofNat).length ≤ 4000 then some (PyData.int ((dd (v.map Int.ofNat)).length : Nat)) else none) = _
    rw [if_pos (by rw [List.length_map]; omega)]
    have h1 : (dd (v.map Int.ofNat)).length = ((List.range c).map Int.ofNat).length := by
      refine nodup_len (dd_nodup _) ?_ fun n => ?_
      · have hr : ∀ n : Nat, ((List.range n).map Int.ofNat).Nodup := by
          intro n
          induction n with
          | zero => exact List.nodup_nil
          | succ n ih =>
            rw [List.range_succ, List.map_append]
            refine List.nodup_append.mpr ⟨ih, by simp, fun a ha b hb e => ?_⟩
            obtain ⟨x, hx, e1⟩ := List.mem_map.mp ha
            have := List.mem_range.mp hx
            have hb : b = Int.ofNat n := by simpa using hb
            rw [hb, ← e1] at e
            have e : (x : Int) = (n : Int) := e
            omega
        exact hr c
      · rw [mem_dd, List.mem_map, List.mem_map]
        constructor
        · rintro ⟨x, hx, e⟩
          exact ⟨x, List.mem_range.mpr (v4 x hx), e⟩
        · rintro ⟨x, hx, e⟩
          exact ⟨x, v5 x (List.mem_range.mp hx), e⟩
    rw [h1, List.length_map, List.length_range]
  walk_at "mx"
  refine ⟨_, hset, ?_⟩
  walk_at "mx"
  refine ⟨_, max_view hv0, ?_⟩
  walk_at "mx"
  rw [show (c : Int) - 1 + 1 = c by omega]
  refine ⟨.bool true, ?_, defK_rt rfl ⟨rfl, rfl⟩⟩
  show (bEq (.int c) (.int c)).map PyData.bool = _
  rw [bEq_int]
  simp
theorem need_view {v : List Nat} {c : Nat} (hv : Vw v c) : Ok (m_need_view [tD v]) (fun z os => os = [none]) := by
  refine ok_def (by rfl) ?_
  unfold mb_need_view
  walk_at "mx"
  refine (view_is hv).mono ?_
  rintro z os ⟨rfl, rfl⟩
  refine ⟨_, rfl, ?_⟩
  refine L2.iteF ?_
  walk_at "mx"
  exact defK_nx rfl rfl
theorem count_ok {v : List Nat} {c : Nat} (hv : Vw v c) : Ok (m_count_values [tD v]) (fun z os => z = .int c ∧ os = [none]) := by
  refine ok_def (by rfl) ?_
  unfold mb_count_values
  walk_at "mx"
  refine ⟨_, max_view hv, ?_⟩
  walk_at "mx"
  rw [show (c : Int) - 1 + 1 = c by omega]
  exact defK_rt rfl ⟨rfl, rfl⟩
theorem row_ok {v : List Nat} {c : Nat} {r : List (Option Nat)} (hv : Vw v c) (hr : RowOk v.length c r) : Ok (m__is_row [tD v, rD r]) (fun z os => z = .bool true ∧ os = [none, none]) := by
  refine ok_def (by rfl) ?_
  unfold mb__is_row
  walk_at "mx"
  refine ⟨_, rfl, ?_⟩
  refine L2.iteF ?_
  walk_at "mx"
  refine (count_ok hv).mono ?_
  rintro z os ⟨rfl, rfl⟩
  refine ⟨_, bNe_int _ _, ?_⟩
  rw [List.length_map, hr.1, beq_self_eq_true]
  refine L2.iteF ?_
  refine ok_next ?_
  refine then_nx ?_
  refine ok_at (ρ' := [some (tD v), some (rD r), none]) rfl ?_
  walk_at "mx"
  refine ⟨_, rfl, ?_⟩
  refine comp_inv (fun k ys ρ => ρ = [some (tD v), some (rD r), none] ∧ ys = List.replicate k (.bool true)) 0 [] ⟨rfl, rfl⟩ ?_ ?_
  · rintro i d ys ρ hi0 ⟨rfl, rfl⟩
    obtain ⟨hi, rfl⟩ := at_map hi0
    refine ⟨_, rfl, ?_⟩
    walk_at "mx"
    have hb := hr.2 r[i] (List.getElem_mem hi)
    have fin : ∀ (ρ : Ev), ρ = [some (tD v), some (rD r), none] → ρ = [some (tD v), some (rD r), none] ∧ List.replicate (0 + i) (PyData.bool true) ++ [.bool true] = List.replicate (0 + (i + 1)) (PyData.bool true) := fun ρ h => ⟨h, by rw [show 0 + (i + 1) = 0 + i + 1 by omega, List.replicate_succ']⟩
    cases e : r[i] with
    | none =>
      refine ⟨.bool true, rfl, true, rfl, L2.iteT ?_⟩
      exact fin _ rfl
    | some j =>
      refine ⟨.bool false, rfl, false, rfl, L2.iteF ?_⟩
      walk_at "mx"
      show Ok (m_is_below [.int (j : Nat), .int ((v.map nD).length : Int)]) _
      rw [List.length_map]
      have := hb j e
      refine (below_ok _ _ (by omega) (by omega)).mono ?_
      rintro z os ⟨rfl, rfl⟩
      exact fin _ rfl
  rintro ys ρ ⟨rfl, e⟩
  rw [List.nil_append] at e
  subst e
  walk_at "mx"
  refine ⟨_, all_true _, ?_⟩
  exact defK_rt rfl ⟨rfl, rfl⟩
theorem table_is {v : List Nat} {c : Nat} {t : List (List (Option Nat))} (hv : Vw v c) (ht : Tab v.length c t) : Ok (m_is_table [tD v, tabD t]) (fun z os => z = .bool true ∧ os = [none, none]) := by
  refine ok_def (by rfl) ?_
  unfold mb_is_table
  walk_at "mx"
  refine (need_view hv).mono ?_
  rintro z os rfl
  refine then_nx ?_
  refine ok_at (ρ' := [some (tD v), some (tabD t), none]) rfl ?_
  walk_at "mx"
  refine ⟨_, rfl, ?_⟩
  refine L2.iteF ?_
  walk_at "mx"
  refine ⟨_, bNe_int _ _, ?_⟩
  rw [List.length_map, List.length_map, ht.1, beq_self_eq_true]
  refine L2.iteF ?_
  refine ok_next ?_
  refine then_nx ?_
  walk_at "mx"
  refine ⟨_, rfl, ?_⟩
  refine comp_inv (fun k ys ρ => ρ = [some (tD v), some (tabD t), none] ∧ ys = List.replicate k (.bool true)) 0 [] ⟨rfl, rfl⟩ ?_ ?_
  · rintro i d ys ρ hi0 ⟨rfl, rfl⟩
    obtain ⟨hi, rfl⟩ := at_map hi0
    refine ⟨_, rfl, ?_⟩
    walk_at "mx"
    refine (row_ok hv (ht.2 t[i] (List.getElem_mem hi))).mono ?_
    rintro z os ⟨rfl, rfl⟩
    refine ⟨rfl, ?_⟩
    rw [show 0 + (i + 1) = 0 + i + 1 by omega, List.replicate_succ']
  rintro ys ρ ⟨rfl, e⟩
  rw [List.nil_append] at e
  subst e
  walk_at "mx"
  refine ⟨_, all_true _, ?_⟩
  exact defK_rt rfl ⟨rfl, rfl⟩
theorem need_table {v : List Nat} {c : Nat} {t : List (List (Option Nat))} (hv : Vw v c) (ht : Tab v.length c t) : Ok (m_need_table [tD v, tabD t]) (fun z os => os = [none, none]) := by
  refine ok_def (by rfl) ?_
  unfold mb_need_table
  walk_at "mx"
  refine (table_is hv ht).mono ?_
  rintro z os ⟨rfl, rfl⟩
  refine ⟨_, rfl, ?_⟩
  refine L2.iteF ?_
  walk_at "mx"
  exact defK_nx rfl rfl
end Pf
namespace Pf
open PySem MW
def B1 (v : List Nat) (t : List (List (Option Nat))) (s : Nat) : Option D := if cell t s (v.getD s 0) == some s then none else some (.tuple [.str "stay", nD s])
def B2 (v : List Nat) (t : List (List (Option Nat))) (s w : Nat) : Option D := match cell t s w with
  | none => none
  | some r => if v.getD r 0 == w then none else some (.tuple [.str "shown", nD s, nD w])
def B3 (t : List (List (Option Nat))) (s w o : Nat) : Option D := match cell t s w with
  | none => none
  | some r => if cell t r o == cell t s o then none else some (.tuple [.str "forget", nD s, nD w, nD o])
end Pf
namespace Pf
open PySem MW
/-- the first broken rule -/
def brk (v : List Nat) (c : Nat) (t : List (List (Option Nat))) : Option D := match findFrom (B1 v t) 0 v.length with
  | some r => some r
  | none => match findFrom (fun s => findFrom (B2 v t s) 0 c) 0 v.length with
    | some r => some r
    | none => findFrom (fun s => findFrom (fun w => findFrom (B3 t s w) 0 c) 0 c) 0 v.length
end Pf
namespace Pf
open PySem MW
theorem ok_testOwn {b : D → D → Option Bool} {ma : Ev → Out D} {i : Nat} {ρ : Ev} {PB : Bool → Ev → Prop} (h : Ok (ma ρ) fun d ρ1 => ∃ e, rd ρ1 i = some e ∧ ∃ z, b d e = some z ∧ PB z ρ1) : Ok (mTestOwn b ma i ρ) PB := ok_bind (h.mono fun d ρ1 ⟨e, e1, z, e2, k⟩ => ok_bind (ok_of e1 (ok_of e2 k)))
/-- a view with names told in the order in which they come, or turned about -/
theorem names_view {raw names : List Nat} (hn : names.Nodup) (hm : ∀ x, x ∈ names ↔ x ∈ raw) (h1 : 1 ≤ raw.length) (h9 : raw.length ≤ 9) (hl : names.length ≤ raw.length) : Vw (raw.map fun x => names.idxOf x) names.length := by
  refine ⟨by simpa using h1, by simpa using h9, ⟨?_, by simpa using hl⟩, fun x hx => ?_, fun y hy => ?_⟩
  · have := List.getElem_mem (show 0 < raw.length by omega)
    exact List.length_pos_of_mem ((hm _).mpr this)
  · obtain ⟨r, hr, rfl⟩ := List.mem_map.mp hx
    exact List.idxOf_lt_length_iff.mpr ((hm r).mpr hr)
  · exact List.mem_map.mpr ⟨names[y], (hm _).mp (List.getElem_mem hy), hn.idxOf_getElem y hy⟩
end Pf
namespace Pf
open PySem MW
abbrev Cl := Nat × Nat × Nat
/-- cells: each once, and with each the ones ahead of it in its row and in its column -/
structure Bl (cs : List Cl) : Prop where
  nd : cs.Nodup
  few : cs.length ≤ 9
  row : ∀ x ∈ cs, ∀ r, r ≤ x.2.1 → (x.1, r, x.2.2) ∈ cs
  col : ∀ x ∈ cs, ∀ q, q ≤ x.2.2 → (x.1, x.2.1, q) ∈ cs
  rect : ∀ x ∈ cs, ∀ y ∈ cs, x.1 = y.1 → (x.1, x.2.1, y.2.2) ∈ cs
theorem Bl.perm {cs ds : List Cl} (h : Bl cs) (p : ds.Perm cs) : Bl ds := ⟨p.nodup_iff.mpr h.nd, by rw [p.length_eq]; exact h.few, fun x hx r hr => p.mem_iff.mpr (h.row x (p.mem_iff.mp hx) r hr), fun x hx q hq => p.mem_iff.mpr (h.col x (p.mem_iff.mp hx) q hq), fun x hx y hy e => p.mem_iff.mpr (h.rect x (p.mem_iff.mp hx) y (p.mem_iff.mp hy) e)⟩
def blk (b h w : Nat) : List Cl := (List.range h).flatMap fun r => (List.range w).map fun c => (b, r, c)
theorem mem_blk {b h w : Nat} {x : Cl} : x ∈ blk b h w ↔ x.1 = b ∧ x.2.1 < h ∧ x.2.2 < w := by
  unfold blk
  rw [List.mem_flatMap]
  constructor
  · rintro ⟨r, hr, hx⟩
    obtain ⟨c, hc, rfl⟩ := List.mem_map.mp hx
    exact ⟨rfl, List.mem_range.mp hr, List.mem_range.mp hc⟩
  · rintro ⟨rfl, h1, h2⟩
    exact ⟨x.2.1, List.mem_range.mpr h1, List.mem_map.mpr ⟨x.2.2, List.mem_range.mpr h2, rfl⟩⟩
theorem blk_len (b h w : Nat) : (blk b h w).length = h * w := by
  unfold blk
  rw [List.length_flatMap]
  induction h with
  | zero => simp
  | succ h ih => rw [List.range_succ, List.map_append, List.sum_append, ih, Nat.succ_mul]; simp
theorem blk_succ (b h w : Nat) : blk b (h + 1) w = blk b h w ++ (List.range w).map fun c => (b, h, c) := by
  unfold blk
  rw [List.range_succ, List.flatMap_append]
  simp
theorem blk_nodup (b h w : Nat) : (blk b h w).Nodup := by
  induction h with
  | zero => exact List.nodup_nil
  | succ h ih =>
    rw [blk_succ]
    refine List.nodup_append.mpr ⟨ih, ?_, fun x hx y hy e => ?_⟩
    · exact List.pairwise_map.mpr ((List.nodup_range (n := w)).imp fun hne e => hne (by injection e with _ e; injection e))
    · obtain ⟨c, _, rfl⟩ := List.mem_map.mp hy
      have := (mem_blk.mp hx).2.1
      rw [e] at this
      exact Nat.lt_irrefl _ this
theorem Bl.more {cs : List Cl} (h : Bl cs) {b hh w : Nat} (hb : ∀ x ∈ cs, x.1 ≠ b) (few : cs.length + hh * w ≤ 9) : Bl (cs ++ blk b hh w) := by
  refine ⟨List.nodup_append.mpr ⟨h.nd, blk_nodup _ _ _, fun x hx y hy e => hb x hx (by rw [e]; exact (mem_blk.mp hy).1)⟩, by rw [List.length_append, blk_len]; exact few, fun x hx r hr => ?_, fun x hx q hq => ?_, fun x hx y hy e => ?_⟩
  · rcases List.mem_append.mp hx with z | z
    · exact List.mem_append_left _ (h.row x z r hr)
    · obtain ⟨e, h1, h2⟩ := mem_blk.mp z
      exact List.mem_append_right _ (mem_blk.mpr ⟨e, by show r < hh; omega, h2⟩)
  · rcases List.mem_append.mp hx with z | z
    · exact List.mem_append_left _ (h.col x z q hq)
    · obtain ⟨e, h1, h2⟩ := mem_blk.mp z
      exact List.mem_append_right _ (mem_blk.mpr ⟨e, h1, by show q < w; omega⟩)
  · rcases List.mem_append.mp hx with z | z <;> rcases List.mem_append.mp hy with z2 | z2
    · exact List.mem_append_left _ (h.rect x z y z2 e)
    · exact absurd (e.trans (mem_blk.mp z2).1) (hb x z)
    · exact absurd (e.symm.trans (mem_blk.mp z).1) (hb y z2)
    · exact List.mem_append_right _ (mem_blk.mpr ⟨(mem_blk.mp z).1, (mem_blk.mp z).2.1, (mem_blk.mp z2).2.2⟩)
end Pf
namespace Pf
open PySem MW
theorem nodup_len : ∀ {a b : List Nat}, a.Nodup → (∀ x ∈ a, x ∈ b) → a.length ≤ b.length
  | [], b, _, _ => Nat.zero_le _
  | x :: a, b, hn, h => by
    have hx := h x List.mem_cons_self
    have hn := List.nodup_cons.mp hn
    have ih := nodup_len (a := a) (b := b.erase x) hn.2 fun y hy => (List.mem_erase_of_ne (fun e => hn.1 (by rw [← e]; exact hy))).mpr (h y (List.mem_cons_of_mem _ hy))
    rw [List.length_erase_of_mem hx] at ih
    have := List.length_pos_of_mem hx
    rw [List.length_cons]
    omega
end Pf
namespace Pf
open PySem MW
def Er {α : Type} (o : Out α) (c : Str) (PE : Ev → Prop) : Prop := match o with
  | .err c' ρ => c' = c ∧ PE ρ
  | _ => False
theorem Er.mono {α : Type} {o : Out α} {c : Str} {P Q : Ev → Prop} (h : Er o c P) (k : ∀ ρ, P ρ → Q ρ) : Er o c Q := by
  cases o with
  | err c' ρ => exact ⟨h.1, k ρ h.2⟩
  | ok a ρ => exact h
  | bad => exact h
theorem Er.eq {α : Type} {o : Out α} {c : Str} {P : Ev → Prop} (h : Er o c P) : ∃ ρ, o = .err c ρ ∧ P ρ := by
  cases o with
  | err c' ρ => exact ⟨ρ, by rw [h.1], h.2⟩
  | ok a ρ => exact h.elim
  | bad => exact h.elim
section
variable {α β : Type} {o : Out α} {c : Str} {PE : Ev → Prop} {ρ : Ev}
theorem er_bind {f : α → Ev → Out β} (h : Er o c PE) : Er (o.bind f) c PE := by
  cases o with
  | err c' ρ => exact h
  | ok a ρ => exact h.elim
  | bad => exact h.elim
theorem er_then {f : α → Ev → Out β} (h : Ok o fun a ρ => Er (f a ρ) c PE) : Er (o.bind f) c PE := by
  cases o with
  | ok a ρ => exact h
  | err c' ρ => exact h.elim
  | bad => exact h.elim
theorem er_seq {m n : Ev → Out Fl} (h : Er (m ρ) c PE) : Er (mSeq m n ρ) c PE := er_bind h
theorem er_seq2 {m n : Ev → Out Fl} (h : Ok (m ρ) fun fl ρ1 => fl = .nx ∧ Er (n ρ1) c PE) : Er (mSeq m n ρ) c PE := er_then (h.mono fun fl ρ1 ⟨e, k⟩ => by subst e; exact k)
theorem er_drop {m : Ev → Out D} (h : Er (m ρ) c PE) : Er (mDrop m ρ) c PE := er_bind h
theorem er_notB {m : Ev → Out Bool} (h : Er (m ρ) c PE) : Er (mNotB m ρ) c PE := er_bind h
theorem er_tru {m : Ev → Out D} (h : Er (m ρ) c PE) : Er (mTru m ρ) c PE := er_bind h
theorem er_ifS {mt : Ev → Out Bool} {n1 n2 : Ev → Out Fl} (h : Er (mt ρ) c PE) : Er (mIfS mt n1 n2 ρ) c PE := er_bind h
theorem er_ifY {mt : Ev → Out Bool} {n1 n2 : Ev → Out Fl} (h : Ok (mt ρ) fun b ρ1 => b = true ∧ Er (n1 ρ1) c PE) : Er (mIfS mt n1 n2 ρ) c PE := er_then (h.mono fun b ρ1 ⟨e, k⟩ => by subst e; exact k)
theorem er_callD {f : List D → Out D} {ks : List (Option Nat)} {ms : Ev → Out (List D)} (h : Ok (ms ρ) fun ds ρ1 => ∃ as, resolve ρ1 ks ds = some as ∧ Er (f as) c fun os => PE (wback ks os ρ1)) : Er (mCallD f ks ms ρ) c PE := er_then (h.mono fun ds ρ1 ⟨as, e, k⟩ => er_then (ok_of e (by
  obtain ⟨os, e2, k2⟩ := k.eq
  show Er (match f as with | .ok d os => Out.ok d (wback ks os ρ1) | .err c os => .err c (wback ks os ρ1) | .bad => .bad) c PE
  rw [e2]; exact ⟨rfl, k2⟩)))
theorem er_def {S : Sg} {n : Nat} {mb : Ev → Out Fl} {ds : List D} (h : Er (mb (ds.map some ++ List.replicate (n - ds.length) none)) c fun ρ => chk S (outs S ρ) = true ∧ PE (outs S ρ)) : Er (mDef S n mb ds) c PE := by
  obtain ⟨ρ1, e, k1, k2⟩ := h.eq
  unfold mDef
  rw [e]
  show Er (if chk S (outs S ρ1) = true then Out.err c (outs S ρ1) else .bad) c PE
  rw [if_pos k1]
  exact ⟨rfl, k2⟩
end
def wholeB : D → Bool
  | .int _ => true
  | _ => false
def belowB (n : Int) : D → Bool
  | .int i => decide (0 ≤ i) && decide (i < n)
  | _ => false
def entryB (n : Int) : D → Bool
  | .none => true
  | d => belowB n d
theorem whole_any (d : D) : Ok (m_is_whole [d]) (fun z os => z = .bool (wholeB d) ∧ os = [none]) := by
  cases d with
  | bool b => exact ⟨rfl, rfl⟩
  | int i => exact ⟨rfl, rfl⟩
  | none => exact ⟨rfl, rfl⟩
  | str x => exact ⟨rfl, rfl⟩
  | list x => exact ⟨rfl, rfl⟩
  | tuple x => exact ⟨rfl, rfl⟩
  | dict x => exact ⟨rfl, rfl⟩
theorem belowB_no {d : D} {n : Int} (h : wholeB d = false) : belowB n d = false := by
  cases d <;> first | rfl | cases h
theorem belowB_int {i n : Int} : belowB n (.int i) = (decide (0 ≤ i) && decide (i < n)) := rfl
theorem wholeB_int {d : D} (h : wholeB d = true) : ∃ i, d = .int i := by
  cases d <;> first | exact ⟨_, rfl⟩ | cases h
theorem below_any (d : D) (n : Int) : Ok (m_is_below [d, .int n]) (fun z os => z = .bool (belowB n d) ∧ os = [none, none]) := by
  refine ok_def (by rfl) ?_
  unfold mb_is_below
  walk_at "mx"
  refine (whole_any d).mono ?_
  rintro z os ⟨rfl, rfl⟩
  refine ⟨_, rfl, ?_⟩
  cases e : wholeB d with
  | false =>
    refine L2.iteF ?_
    rw [belowB_no e]
    exact defK_rt rfl ⟨rfl, rfl⟩
  | true =>
    obtain ⟨i, rfl⟩ := wholeB_int e
    refine L2.iteT ?_
    walk_at "mx"
    rw [belowB_int]
    cases e1 : decide ((0 : Int) ≤ i) with
    | false =>
      refine L2.iteF ?_
      exact defK_rt rfl ⟨rfl, rfl⟩
    | true =>
      refine L2.iteT ?_
      walk_at "mx"
      exact defK_rt rfl ⟨by simp, rfl⟩
theorem all_bools {l : List D} (f : D → Bool) : gAll [.list (l.map fun d => .bool (f d))] = some (.bool (l.all f)) := by
  have e : boolsD (l.map fun d => PyData.bool (f d)) = some (l.map f) := by
    induction l with
    | nil => rfl
    | cons d l ih =>
      unfold boolsD at ih ⊢
      rw [List.map_cons, List.mapM_cons, ih]
      rfl
  show ((boolsD (l.map fun d => PyData.bool (f d))).map fun ns => PyData.bool (ns.all id)) = _
  rw [e, Option.map_some, List.all_map]
  rfl
theorem comp_any {g : Ev → D → Option Ev} {me : Ev → Out D} {vs : List Nat} {ρ0 : Ev} (f : D → D) {l : List D} {PL : List D → Ev → Prop} (h : ∀ x ∈ l, ∃ ρ1, g ρ0 x = some ρ1 ∧ Ok (me ρ1) (fun z ρ3 => z = f x ∧ wipeE ρ3 vs = ρ0)) (k : PL (l.map f) ρ0) : Ok (compM g mYes me vs l ρ0) PL := by
  have := comp_map (g := g) (me := me) (vs := vs) (enc := fun d : D => d) (ρ0 := ρ0) f (l := l) h
  rw [List.map_id'] at this
  refine this.mono ?_
  rintro ys ρ ⟨rfl, rfl⟩
  exact k
def IsV (d : D) : Prop := ∃ v c, d = tD v ∧ Vw v c
/-- all items are numbers below how many there are -/
theorem all_below {ds : List D} {n : Nat} (h : ds.all (belowB n) = true) : ∃ v : List Nat, ds = v.map nD ∧ ∀ x ∈ v, x < n := by
  induction ds with
  | nil => exact ⟨[], rfl, fun _ h => by cases h⟩
  | cons d ds ih =>
    rw [List.all_cons, Bool.and_eq_true] at h
    obtain ⟨v, rfl, hv⟩ := ih h.2
    cases d with
    | int i =>
      have h1 := h.1
      rw [belowB_int, Bool.and_eq_true, decide_eq_true_eq, decide_eq_true_eq] at h1
      obtain ⟨i, rfl⟩ := Int.eq_ofNat_of_zero_le h1.1
      refine ⟨i :: v, rfl, fun x hx => ?_⟩
      rcases List.mem_cons.mp hx with z | z
      · rw [z]; omega
      · exact hv x z
    | _ => exact absurd h.1 (by simp [belowB])
theorem below_all {v : List Nat} {n : Nat} (h : ∀ x ∈ v, x < n) : (v.map nD).all (belowB n) = true := List.all_eq_true.mpr fun d hd => by
  obtain ⟨x, hx, rfl⟩ := List.mem_map.mp hd
  have := h x hx
  show (decide ((0 : Int) ≤ (x : Int)) && decide ((x : Int) < (n : Int))) = true
  rw [Bool.and_eq_true, decide_eq_true_eq, decide_eq_true_eq]
  omega
/-- the greatest -/
theorem max_nD {v : List Nat} (h : v ≠ []) : ∃ m, m ∈ v ∧ (∀ x ∈ v, x ≤ m) ∧ gMax [tD v] = some (nD m) := by
  have : ∃ m, m ∈ v ∧ ∀ x ∈ v, x ≤ m := by
    induction v with
    | nil => exact absurd rfl h
    | cons a v ih =>
      by_cases z : v = []
      · subst z; exact ⟨a, List.mem_cons_self, fun x hx => by rw [List.mem_singleton.mp hx]; exact Nat.le_refl _⟩
      · obtain ⟨m, h1, h2⟩ := ih z
        by_cases hm : m ≤ a
        · refine ⟨a, List.mem_cons_self, fun x hx => ?_⟩
          rcases List.mem_cons.mp hx with y | y
          · rw [y]; exact Nat.le_refl _
          · exact Nat.le_trans (h2 x y) hm
        · refine ⟨m, List.mem_cons_of_mem _ h1, fun x hx => ?_⟩
          rcases List.mem_cons.mp hx with y | y
          · rw [y]; omega
          · exact h2 x y
  obtain ⟨m, h1, h2⟩ := this
  refine ⟨m, h1, h2, ?_⟩
  show ((intsD (v.map nD)).bind fun ns => if ns = [] then none else some (PyData.int (maxI ns))) = _
  rw [intsD_nD]
  show (if v.map Int.ofNat = [] then none else some (PyData.int (maxI (v.map Int.ofNat)))) = _
  rw [if_neg (fun e => h (List.map_eq_nil_iff.mp e)), ← maxI_eq (xs := v.map Int.ofNat) (m := (m : Int)) (List.mem_map.mpr ⟨m, h1, rfl⟩) ?_]
  intro y hy
  obtain ⟨x, hx, e⟩ := List.mem_map.mp hy
  have := h2 x hx
  rw [← e]
  show (x : Int) ≤ _
  omega
theorem ints_nD : ∀ q : List Nat, intsOf (q.map nD) = some (q.map Int.ofNat)
  | [] => rfl
  | x :: q => by show (intsOf (q.map nD)).map (_ :: ·) = _; rw [ints_nD q]; rfl
/-- as many as the greatest says: each of them is there -/
theorem full_of {v : List Nat} {m : Nat} (hm : ∀ x ∈ v, x ≤ m) (h : (dd (v.map Int.ofNat)).length = m + 1) : ∀ y, y ≤ m → y ∈ v := by
  intro y hy
  by_cases hyv : y ∈ v
  · exact hyv
  exfalso
  have h1 : ∀ k ∈ dd (v.map Int.ofNat), k ∈ (((List.range (m + 1)).erase y).map Int.ofNat) := fun k hk => by
    obtain ⟨x, hx, rfl⟩ := List.mem_map.mp (mem_dd.mp hk)
    refine List.mem_map.mpr ⟨x, ?_, rfl⟩
    have h2 := hm x hx
    exact (List.mem_erase_of_ne (fun e => hyv (by rw [← e]; exact hx))).mpr (List.mem_range.mpr (by omega))
  have h2 := sub_len (dd_nodup _) h1
  rw [h, List.length_map, List.length_erase_of_mem (List.mem_range.mpr (by omega)), List.length_range] at h2
  omega
theorem view_no {d : D} (h : ¬ IsV d) : Ok (m_is_view [d]) (fun z os => z = .bool false ∧ os = [none]) := by
  refine ok_def (by rfl) ?_
  unfold mb_is_view
  refine ok_seq (ok_ifS (ok_orB (ok_notB (ok_tru (ok_isD (ok_var (d := d) rfl ⟨_, rfl, ?_⟩))))))
  by_cases ht : ∃ ds, d = .tuple ds
  · obtain ⟨ds, rfl⟩ := ht
    refine L2.iteF ?_
    refine ok_notB (ok_chainT (ok_c (ok_call (ok_cons (ok_var (d := .tuple ds) rfl (ok_nil ⟨_, gLenT_ok, ⟨_, bLe_ok, ?_⟩⟩))))))
    cases h1 : decide ((1 : Int) ≤ (ds.length : Int)) with
    | false =>
      refine L2.iteF ?_
      refine L2.iteT ?_
      walk_at "mx"
      exact defK_rt rfl ⟨rfl, rfl⟩
    | true =>
      refine L2.iteT ?_
      refine ok_c ⟨_, bLe_ok, ?_⟩
      cases h9 : decide ((ds.length : Int) ≤ 9) with
      | false =>
        refine L2.iteT ?_
        walk_at "mx"
        exact defK_rt rfl ⟨rfl, rfl⟩
      | true =>
        rw [decide_eq_true_eq] at h1 h9
        refine L2.iteF ?_
        refine ok_next (then_nx ?_)
        refine ok_at (ρ' := [some (.tuple ds), none]) rfl ?_
        walk_at "mx"
        refine ⟨_, rfl, ?_⟩
        refine comp_any (fun d => .bool (belowB ds.length d)) (fun x hx => ?_) ?_
        · refine ⟨_, rfl, ?_⟩
          walk_at "mx"
          refine (below_any x _).mono ?_
          rintro z os ⟨rfl, rfl⟩
          exact ⟨rfl, rfl⟩
        · walk_at "mx"
          refine ⟨_, all_bools _, ?_⟩
          refine ⟨_, rfl, ?_⟩
          cases ha : ds.all (belowB ds.length) with
          | false =>
            refine L2.iteT ?_
            walk_at "mx"
            exact defK_rt rfl ⟨rfl, rfl⟩
          | true =>
            refine L2.iteF ?_
            refine ok_next (then_nx ?_)
            obtain ⟨v, rfl, hv⟩ := all_below ha
            rw [List.length_map] at h1 h9 hv
            refine ok_at (ρ' := [some (tD v), none]) rfl ?_
            obtain ⟨m, m1, m2, m3⟩ := max_nD (v := v) (by intro e; rw [e] at h1; simp at h1)
            have hset : gLenSet (tD v) = some (nD (dd (v.map Int.ofNat)).length) := by
              show ((intsOf (v.map nD)).bind fun ns => if ns.length ≤ 4000 then some (PyData.int ((dd ns).length : Nat)) else none) = _
              rw [ints_nD]
              show (if (v.map Int.ofNat).length ≤ 4000 then some (PyData.int ((dd (v.map Int.ofNat)).length : Nat)) else none) = _
              rw [if_pos (by rw [List.length_map]; omega)]
            walk_at "mx"
            refine ⟨_, hset, ?_⟩
            walk_at "mx"
            refine ⟨_, m3, ?_⟩
            walk_at "mx"
            refine ⟨.bool false, ?_, defK_rt rfl ⟨rfl, rfl⟩⟩
            show (bEq _ _).map PyData.bool = _
            rw [bEq_int]
            show some (PyData.bool _) = _
            congr 2
            rw [beq_eq_false_iff_ne]
            intro e
            refine h ⟨v, m + 1, rfl, by omega, by omega, ⟨by omega, ?_⟩, fun x hx => by have := m2 x hx; omega, fun y hy => full_of m2 (by omega) y (by omega)⟩
            have := hv m m1
            omega
  · have : isD "tuple" d = false := by
      cases d with
      | tuple ds => exact absurd ⟨ds, rfl⟩ ht
      | _ => rfl
    rw [this]
    refine L2.iteT ?_
    refine L2.iteT ?_
    walk_at "mx"
    exact defK_rt rfl ⟨rfl, rfl⟩
end Pf
namespace Pf
open PySem MW
theorem tuple_or (d : D) : (∃ ds, d = .tuple ds) ∨ isD "tuple" d = false := by
  cases d with
  | tuple ds => exact .inl ⟨ds, rfl⟩
  | _ => exact .inr rfl
def rowB (n c : Nat) : D → Bool
  | .tuple es => decide (es.length = c) && es.all (entryB n)
  | _ => false
def tabB (n c : Nat) : D → Bool
  | .tuple rs => decide (rs.length = n) && rs.all (rowB n c)
  | _ => false
theorem entry_of {n : Nat} {d : D} (h : entryB n d = true) : ∃ e : Option Nat, d = oD e ∧ ∀ i, e = some i → i < n := by
  cases d with
  | none => exact ⟨none, rfl, fun i h => by cases h⟩
  | int i =>
    have h : belowB n (.int i) = true := h
    rw [belowB_int, Bool.and_eq_true, decide_eq_true_eq, decide_eq_true_eq] at h
    obtain ⟨i, rfl⟩ := Int.eq_ofNat_of_zero_le h.1
    exact ⟨some i, rfl, fun j e => by cases e; omega⟩
  | _ => exact absurd h (by simp [entryB, belowB])
theorem row_of {n c : Nat} {d : D} (h : rowB n c d = true) : ∃ r, d = rD r ∧ RowOk n c r := by
  cases d with
  | tuple es =>
    have h : (decide (es.length = c) && es.all (entryB n)) = true := h
    rw [Bool.and_eq_true, decide_eq_true_eq, List.all_eq_true] at h
    have : ∀ es : List D, (∀ d ∈ es, entryB n d = true) → ∃ r : List (Option Nat), es = r.map oD ∧ ∀ e ∈ r, ∀ i, e = some i → i < n := by
      intro es
      induction es with
      | nil => intro _; exact ⟨[], rfl, fun _ h => by cases h⟩
      | cons d es ih =>
        intro k
        obtain ⟨e, rfl, he⟩ := entry_of (k d List.mem_cons_self)
        obtain ⟨r, rfl, hr⟩ := ih fun d hd => k d (List.mem_cons_of_mem _ hd)
        refine ⟨e :: r, rfl, fun x hx => ?_⟩
        rcases List.mem_cons.mp hx with z | z
        · rw [z]; exact he
        · exact hr x z
    obtain ⟨r, rfl, hr⟩ := this es h.2
    exact ⟨r, rfl, by rw [← h.1, List.length_map], hr⟩
  | _ => cases h
theorem tab_of {n c : Nat} {d : D} (h : tabB n c d = true) : ∃ t, d = tabD t ∧ Tab n c t := by
  cases d with
  | tuple rs =>
    have h : (decide (rs.length = n) && rs.all (rowB n c)) = true := h
    rw [Bool.and_eq_true, decide_eq_true_eq, List.all_eq_true] at h
    have : ∀ rs : List D, (∀ d ∈ rs, rowB n c d = true) → ∃ t : Tb, rs = t.map rD ∧ ∀ r ∈ t, RowOk n c r := by
      intro rs
      induction rs with
      | nil => intro _; exact ⟨[], rfl, fun _ h => by cases h⟩
      | cons d rs ih =>
        intro k
        obtain ⟨r, rfl, hr⟩ := row_of (k d List.mem_cons_self)
        obtain ⟨t, rfl, ht⟩ := ih fun d hd => k d (List.mem_cons_of_mem _ hd)
        refine ⟨r :: t, rfl, fun x hx => ?_⟩
        rcases List.mem_cons.mp hx with z | z
        · rw [z]; exact hr
        · exact ht x z
    obtain ⟨t, rfl, ht⟩ := this rs h.2
    exact ⟨t, rfl, by rw [← h.1, List.length_map], ht⟩
  | _ => cases h
section
variable {v : List Nat} {c : Nat}
theorem row_any (hv : Vw v c) (d : D) : Ok (m__is_row [tD v, d]) (fun z os => z = .bool (rowB v.length c d) ∧ os = [none, none]) := by
  refine ok_def (by rfl) ?_
  unfold mb__is_row
  refine ok_seq (ok_ifS (ok_orB (ok_notB (ok_tru (ok_isD (ok_var (d := d) rfl ⟨_, rfl, ?_⟩))))))
  rcases tuple_or d with ⟨ds, rfl⟩ | ht
  · refine L2.iteF ?_
    walk_at "mx"
    refine (count_ok hv).mono ?_
    rintro z os ⟨rfl, rfl⟩
    refine ⟨_, bNe_int _ _, ?_⟩
    by_cases hl : ds.length = c
    · rw [hl, beq_self_eq_true]
      refine L2.iteF ?_
      refine ok_next (then_nx ?_)
      refine ok_at (ρ' := [some (tD v), some (.tuple ds), none]) rfl ?_
      walk_at "mx"
      refine ⟨_, rfl, ?_⟩
      refine comp_any (fun d => .bool (entryB v.length d)) (fun x hx => ?_) ?_
      · refine ⟨_, rfl, ?_⟩
        refine ok_orV (ok_bin (ok_var (d := x) rfl (ok_c ?_)))
        by_cases hn : x = .none
        · subst hn
          exact ⟨_, rfl, _, rfl, L2.iteT ⟨rfl, rfl⟩⟩
        · have e1 : gB bIs x .none = some (.bool false) := by
            cases x <;> first | rfl | exact absurd rfl hn
          refine ⟨_, e1, _, rfl, L2.iteF ?_⟩
          walk_at "mx"
          show Ok (m_is_below [x, .int ((v.map nD).length : Int)]) _
          rw [List.length_map]
          refine (below_any x _).mono ?_
          rintro z os ⟨rfl, rfl⟩
          refine ⟨?_, rfl⟩
          cases x <;> first | rfl | exact absurd rfl hn
      · walk_at "mx"
        refine ⟨_, all_bools _, ?_⟩
        refine defK_rt rfl ⟨?_, rfl⟩
        show _ = PyData.bool (decide (ds.length = c) && ds.all (entryB v.length))
        rw [decide_eq_true hl, Bool.true_and]
    · rw [beq_eq_false_iff_ne.mpr (show (ds.length : Int) ≠ c by omega)]
      refine L2.iteT ?_
      walk_at "mx"
      refine defK_rt rfl ⟨?_, rfl⟩
      show _ = PyData.bool (decide (ds.length = c) && ds.all (entryB v.length))
      rw [decide_eq_false hl, Bool.false_and]
  · rw [ht]
    refine L2.iteT ?_
    refine L2.iteT ?_
    walk_at "mx"
    refine defK_rt rfl ⟨?_, rfl⟩
    cases d <;> first | rfl | cases ht
theorem table_any (hv : Vw v c) (d : D) : Ok (m_is_table [tD v, d]) (fun z os => z = .bool (tabB v.length c d) ∧ os = [none, none]) := by
  refine ok_def (by rfl) ?_
  unfold mb_is_table
  walk_at "mx"
  refine (need_view hv).mono ?_
  rintro z os rfl
  refine then_nx ?_
  refine ok_at (ρ' := [some (tD v), some d, none]) rfl ?_
  refine ok_seq (ok_ifS (ok_orB (ok_notB (ok_tru (ok_isD (ok_var (d := d) rfl ⟨_, rfl, ?_⟩))))))
  rcases tuple_or d with ⟨ds, rfl⟩ | ht
  · refine L2.iteF ?_
    walk_at "mx"
    refine ⟨_, bNe_int _ _, ?_⟩
    rw [List.length_map]
    by_cases hl : ds.length = v.length
    · rw [hl, beq_self_eq_true]
      refine L2.iteF ?_
      refine ok_next (then_nx ?_)
      refine ok_at (ρ' := [some (tD v), some (.tuple ds), none]) rfl ?_
      walk_at "mx"
      refine ⟨_, rfl, ?_⟩
      refine comp_any (fun d => .bool (rowB v.length c d)) (fun x hx => ?_) ?_
      · refine ⟨_, rfl, ?_⟩
        walk_at "mx"
        refine (row_any hv x).mono ?_
        rintro z os ⟨rfl, rfl⟩
        exact ⟨rfl, rfl⟩
      · walk_at "mx"
        refine ⟨_, all_bools _, ?_⟩
        refine defK_rt rfl ⟨?_, rfl⟩
        show _ = PyData.bool (decide (ds.length = v.length) && ds.all (rowB v.length c))
        rw [decide_eq_true hl, Bool.true_and]
    · rw [beq_eq_false_iff_ne.mpr (show (ds.length : Int) ≠ v.length by omega)]
      refine L2.iteT ?_
      walk_at "mx"
      refine defK_rt rfl ⟨?_, rfl⟩
      show _ = PyData.bool (decide (ds.length = v.length) && ds.all (rowB v.length c))
      rw [decide_eq_false hl, Bool.false_and]
  · rw [ht]
    refine L2.iteT ?_
    refine L2.iteT ?_
    walk_at "mx"
    refine defK_rt rfl ⟨?_, rfl⟩
    cases d <;> first | rfl | cases ht
end
section
variable {d e : D} {v : List Nat} {c : Nat}
theorem need_view_no (h : ¬ IsV d) : Er (m_need_view [d]) "NoView" fun os => os = [none] := by
  refine er_def ?_
  unfold mb_need_view
  refine er_ifY ?_
  refine ok_notB (ok_tru ?_)
  walk_at "mx"
  refine (view_no h).mono ?_
  rintro z os ⟨rfl, rfl⟩
  exact ⟨_, rfl, rfl, rfl, rfl, rfl⟩
theorem is_table_no (h : ¬ IsV d) : Er (m_is_table [d, e]) "NoView" fun os => os = [none, none] := by
  refine er_def ?_
  unfold mb_is_table
  refine er_seq (er_drop (er_callD ?_))
  walk_at "mx"
  refine (need_view_no h).mono ?_
  rintro os rfl
  exact ⟨rfl, rfl⟩
theorem need_table_noV (h : ¬ IsV d) : Er (m_need_table [d, e]) "NoView" fun os => os = [none, none] := by
  refine er_def ?_
  unfold mb_need_table
  refine er_ifS (er_notB (er_tru (er_callD ?_)))
  walk_at "mx"
  refine (is_table_no h).mono ?_
  rintro os rfl
  exact ⟨rfl, rfl⟩
theorem need_table_no (hv : Vw v c) (h : tabB v.length c e = false) : Er (m_need_table [tD v, e]) "NoTable" fun os => os = [none, none] := by
  refine er_def ?_
  unfold mb_need_table
  refine er_ifY ?_
  refine ok_notB (ok_tru ?_)
  walk_at "mx"
  refine (table_any hv e).mono ?_
  rintro z os ⟨rfl, rfl⟩
  rw [h]
  exact ⟨_, rfl, rfl, rfl, rfl, rfl⟩
end
end Pf
namespace Pf
open PySem MW
theorem view_any (d : D) : Ok (m_is_view [d]) (fun z os => (∃ b, z = .bool b ∧ (b = true ↔ IsV d)) ∧ os = [none]) := by
  by_cases h : IsV d
  · obtain ⟨v, c, rfl, hv⟩ := h
    exact (view_is hv).mono fun z os ⟨e1, e2⟩ => ⟨⟨true, e1, ⟨fun _ => ⟨v, c, rfl, hv⟩, fun _ => rfl⟩⟩, e2⟩
  · exact (view_no h).mono fun z os ⟨e1, e2⟩ => ⟨⟨false, e1, ⟨fun z => (by cases z), fun z => absurd z h⟩⟩, e2⟩
end Pf
namespace Pf
open PySem MW
/-- repr can show it -/
def Shw (d : D) : Prop := fitsR d = true
theorem gRepr_shw {d : D} (h : Shw d) : gRepr [d] = some (.str d.shown) := if_pos h
theorem shw_rb {d : D} {L k : Nat} (h : Rb L k d) (h1 : L ≤ 16777216) (h2 : k ≤ 60) : Shw d := by
  unfold Shw fitsR
  have h3 := Nat.le_trans h.2.2.1 h2
  have h4 := Nat.le_trans h.2.2.2 h1
  simp [h.1, h.2.1, h3, h4]
theorem textFrom_le : ∀ (ts : List Str) (k : Nat) (acc : Str), (textFrom k acc ts).length ≤ acc.length + piled ts
  | [], k, acc => Nat.le_add_right _ _
  | t :: r, k, acc => by
    have ih := textFrom_le r (k + 1) (acc ++ (if k > 0 then ", " else "" : String) ++ t)
    have e : (acc ++ (if k > 0 then ", " else "" : String) ++ t).length = acc.length + (if k > 0 then 2 else 0) + t.length := by
      rw [strLen_append, strLen_append]
      split <;> rfl
    rw [e] at ih
    rw [piled_cons]
    show (textFrom (k + 1) _ r).length ≤ _
    have : (if k > 0 then 2 else 0 : Nat) ≤ 2 := by split <;> omega
    omega
theorem rb_list {ds : List D} {L k n : Nat} (h : ∀ d ∈ ds, Rb L k d) (hn : ds.length ≤ n) : Rb (n * (L + 2) + 3) (k + 1) (.list ds) := by
  obtain ⟨a, b, c⟩ := all_of h
  refine ⟨by simpa [PyData.showable] using a, by simpa [PyData.hasDict] using b, by simp only [PyData.depth]; omega, ?_⟩
  simp only [PyData.shown]
  have h2 := shown_all fun d hd => (h d hd).2.2.2
  have h3 : ds.length * (L + 2) ≤ n * (L + 2) := Nat.mul_le_mul_right _ hn
  have h4 := textFrom_le (PyData.shownAll ds) 0 "["
  unfold listText
  rw [strLen_append]
  have h5 : ((("[" : String) : Str)).length = 1 := by decide +kernel
  have h6 : ((("]" : String) : Str)).length = 1 := by decide +kernel
  omega
theorem cut_len' (ds : List D) (lo hi : Option Int) : (cutD ds lo hi).length ≤ ds.length := by
  unfold cutD
  rw [List.length_take, List.length_drop]
  omega
theorem gAddL_ok {xs ys : List D} (h : xs.length + ys.length ≤ 16777216) : gAdd (.list xs) (.list ys) = some (.list (xs ++ ys)) := if_pos h
structure Mix (L k n : Nat) (xs : List D) : Prop where
  len : xs.length ≤ n
  all : ∀ d ∈ xs, Rb L k d
theorem Mix.app {L k n m : Nat} {xs ys : List D} (h : Mix L k n xs) (g : Mix L k m ys) : Mix L k (n + m) (xs ++ ys) :=
  ⟨by rw [List.length_append]; have := h.len; have := g.len; omega, fun d hd => (List.mem_append.mp hd).elim (h.all d) (g.all d)⟩
theorem cut_mem {ds : List D} {lo hi : Option Int} {d : D} (h : d ∈ cutD ds lo hi) : d ∈ ds := List.mem_of_mem_drop (List.mem_of_mem_take h)
theorem Mix.cut {L k n : Nat} {xs : List D} (h : Mix L k n xs) (lo hi : Option Int) : Mix L k n (cutD xs lo hi) :=
  ⟨Nat.le_trans (cut_len' xs lo hi) h.len, fun d hd => h.all d (cut_mem hd)⟩
theorem Mix.tup {L k n : Nat} {xs : List D} (h : Mix L k n xs) : Rb (n * (L + 2) + 3) (k + 1) (.tuple xs) := rb_tuple h.all h.len
theorem Mix.lst {L k n : Nat} {xs : List D} (h : Mix L k n xs) : Rb (n * (L + 2) + 3) (k + 1) (.list xs) := rb_list h.all h.len
theorem Mix.up {L k n L' k' n' : Nat} {xs : List D} (h : Mix L k n xs) (h1 : L ≤ L') (h2 : k ≤ k') (h3 : n ≤ n') : Mix L' k' n' xs := ⟨Nat.le_trans h.len h3, fun d hd => (h.all d hd).up h1 h2⟩
theorem mix_opt {r : List (Option Nat)} (h : ∀ e ∈ r, ∀ i, e = some i → i ≤ 50) : Mix 60 2 r.length (r.map oD) :=
  ⟨by rw [List.length_map]; exact Nat.le_refl _, fun d hd => by
    obtain ⟨x, hx, rfl⟩ := List.mem_map.mp hd
    cases x with
    | none => exact rb_none.up (by omega) (by omega)
    | some i => exact (rb_nD (h _ hx i rfl) (by omega)).up (by omega) (by omega)⟩
section
variable {L k n m : Nat} {ρ : Ev} {ma mb me mx : Ev → Out D} {ml mh : Ev → Out (Option Int)} {ms : Ev → Out (List D)}
/-- a row of so many items -/
def LR (P : D → Prop) (n : Nat) (ρ : Ev) : List D → Ev → Prop := fun ds ρ1 => ρ1 = ρ ∧ ds.length = n ∧ ∀ d ∈ ds, P d
theorem lr_nil {P : D → Prop} : Ok (mNil ρ) (LR P 0 ρ) := ok_nil ⟨rfl, rfl, fun d hd => by cases hd⟩
theorem lr_cons {P : D → Prop} {mr : Ev → Out (List D)} (h : Ok (ma ρ) fun z ρ1 => ρ1 = ρ ∧ P z) (g : Ok (mr ρ) (LR P n ρ)) : Ok (mCons ma mr ρ) (LR P (n + 1) ρ) := by
  refine ok_cons (h.mono fun z ρ1 ⟨e, hz⟩ => ?_)
  subst e
  refine g.mono fun ds ρ1 ⟨e, hl, hd⟩ => ?_
  subst e
  refine ⟨rfl, by rw [List.length_cons, hl], fun d h => ?_⟩
  rcases List.mem_cons.mp h with z2 | z2
  · rw [z2]; exact hz
  · exact hd d z2
theorem lr_c {P : D → Prop} {d : D} (h : P d) : Ok (mC d ρ) fun z ρ1 => ρ1 = ρ ∧ P z := ok_c ⟨rfl, h⟩
end
end Pf
namespace Pf
open PySem MW
abbrev Fd := List (Nat × List Nat)
/-- a way from state to state -/
inductive Way (near : List (List Nat)) (s : Nat) : List Nat → Nat → Prop
  | one : Way near s [s] s
  | more {tr : List Nat} {a b : Nat} : Way near s tr a → b ∈ near.getD a [] → Way near s (tr ++ [b]) b
theorem Way.ne {near : List (List Nat)} {s o : Nat} {tr : List Nat} : Way near s tr o → tr ≠ []
  | .one => by simp
  | .more _ _ => by simp
theorem Way.last {near : List (List Nat)} {s o : Nat} {tr : List Nat} : Way near s tr o → tr.getLast? = some o
  | .one => rfl
  | .more _ _ => by simp
/-- reached by ways -/
def Conn (near : List (List Nat)) (s o : Nat) : Prop := ∃ tr, Way near s tr o
structure BInv (near : List (List Nat)) (s : Nat) (f : Fd) : Prop where
  nd : (f.map (·.1)).Nodup
  lt : ∀ p ∈ f, p.1 < near.length
  st : (s, [s]) ∈ f
  wy : ∀ p ∈ f, Way near s p.2 p.1 ∧ p.2.length ≤ f.length
theorem BInv.len {near : List (List Nat)} {s : Nat} {f : Fd} (h : BInv near s f) : f.length ≤ near.length := by
  have := nodup_len (a := f.map (·.1)) (b := List.range near.length) h.nd fun x hx => by
    obtain ⟨p, hp, rfl⟩ := List.mem_map.mp hx
    exact List.mem_range.mpr (h.lt p hp)
  simpa using this
/-- what the search ends with: all states that ways lead to, each once, with a way -/
structure BEnd (near : List (List Nat)) (s : Nat) (f : Fd) : Prop extends BInv near s f where
  all : ∀ o, Conn near s o ↔ o ∈ f.map (·.1)
end Pf
namespace Pf
open PySem MW
/-- what a table links -/
def LT (t : Tb) (s o : Nat) : Prop := ∃ w, cell t s w = some o
end Pf
namespace Pf
open PySem MW
open Classical in
/-- all states that ways lead to, ascending -/
noncomputable def cmp (near : List (List Nat)) (s : Nat) : List Nat := (List.range near.length).filter fun o => decide (Conn near s o)
theorem intsD_nD (q : List Nat) : intsD (q.map nD) = some (q.map Int.ofNat) := by
  induction q with
  | nil => rfl
  | cons a q ih =>
    unfold intsD at ih ⊢
    rw [List.map_cons, List.mapM_cons, ih]
    rfl
/-- a way whose ends are different and show the same -/
def Tw (near : List (List Nat)) (v : List Nat) (tr : List Nat) : Prop := ∃ s o, Way near s tr o ∧ s < v.length ∧ o < v.length ∧ s ≠ o ∧ v.getD s 0 = v.getD o 0
end Pf
namespace Pf
open PySem MW
section
variable {mi mi1 : Ev → Out (List D)} {g g1 : Ev → D → Option Ev} {me mk mv : Ev → Out D} {vs vs1 : List Nat} {ρ : Ev} {P : D → Ev → Prop}
theorem ok_slL {ma : Ev → Out D} {ml mh : Ev → Out (Option Int)} (h : Ok (ma ρ) fun d ρ1 => Ok (ml ρ1) fun lo ρ2 => Ok (mh ρ2) fun hi ρ3 => ∃ ds, d = .list ds ∧ P (.list (cutD ds lo hi)) ρ3) : Ok (mSl ma ml mh ρ) P := ok_bind (h.mono fun d ρ1 k => ok_bind (k.mono fun lo ρ2 k => ok_bind (k.mono fun hi ρ3 ⟨ds, e, k3⟩ => by rw [e]; exact k3)))
end
end Pf
namespace Pf
open PySem MW
def once (R : List (List Nat)) : List (List Nat) := ((List.range R.length).filter fun k => !(R.take k).contains (R.getD k [])).map fun k => R.getD k []
theorem cutD_to (ds : List D) {k : Nat} (h : k ≤ ds.length) : cutD ds none (some (k : Int)) = ds.take k := by
  unfold cutD
  rw [HT.sIx_nat, HT.sIx_none, Nat.min_eq_left h, List.drop_zero, Nat.sub_zero]
end Pf
namespace Pf
open PySem MW
/-- the first place of x -/
def plc (l : List (List Nat)) (x : List Nat) : Nat := l.findIdx fun y => y == x
/-- what several views show at a state -/
def tup (vs : List (List Nat)) (s : Nat) : List Nat := vs.map fun v => v.getD s 0
/-- the joined view -/
def jvOf (n : Nat) (vs : List (List Nat)) : List Nat := (List.range n).map fun s => plc (sortT (once ((List.range n).map (tup vs)))) (tup vs s)
end Pf
namespace Pf
open PySem MW
section
variable {v : List Nat} {c : Nat}
theorem tr {d : D} {ρ : Ev} : ρ = ρ ∧ True := ⟨rfl, trivial⟩
end
end Pf
namespace Pf
open PySem MW
theorem rb_c {L k : Nat} {d : D} (h : (d.showable && !d.hasDict && decide (d.depth ≤ k) && decide (d.shown.length ≤ L)) = true) : Rb L k d := by
  simp only [Bool.and_eq_true, Bool.not_eq_true', decide_eq_true_eq] at h
  exact ⟨h.1.1.1, h.1.1.2, h.1.2, h.2⟩
theorem mix_row {n c : Nat} {r : List (Option Nat)} (hr : RowOk n c r) (hn : n ≤ 50) (hc : c ≤ 9) : Mix 60 2 9 (r.map oD) :=
  (mix_opt fun e he i ei => by have := hr.2 e he i ei; omega).up (Nat.le_refl _) (Nat.le_refl _) (by rw [hr.1]; exact hc)
theorem mix_tab {n c : Nat} {t : Tb} (ht : Tab n c t) (hn : n ≤ 9) (hc : c ≤ 9) : Mix 1200 3 9 (t.map rD) :=
  ⟨by rw [List.length_map, ht.1]; exact hn, fun d hd => by
    obtain ⟨r, hr, rfl⟩ := List.mem_map.mp hd
    exact (mix_row (ht.2 r hr) (by omega) hc).tup.up (by omega) (by omega)⟩
end Pf
namespace Pf
open PySem MW
theorem bEq_row (a b : List (Option Nat)) : PyData.eqvAll (a.map oD) (b.map oD) = (a == b) := by
  induction a generalizing b with
  | nil => cases b <;> rfl
  | cons x a ih =>
    cases b with
    | nil => rfl
    | cons y b =>
      show (PyData.eqv (oD x) (oD y) && PyData.eqvAll (a.map oD) (b.map oD)) = _
      rw [ih b]
      have : PyData.eqv (oD x) (oD y) = (x == y) := by
        cases x with
        | none => cases y <;> rfl
        | some i =>
          cases y with
          | none => rfl
          | some j =>
            show ((i : Int) == (j : Int)) = (some i == some j)
            by_cases e : i = j
            · subst e; simp
            · rw [beq_eq_false_iff_ne.mpr (show (i : Int) ≠ j by omega), beq_eq_false_iff_ne.mpr fun z => e (Option.some.inj z)]
      rw [this]
      rfl
theorem eqv_tab (a b : Tb) : PyData.eqvAll (a.map rD) (b.map rD) = (a == b) := by
  induction a generalizing b with
  | nil => cases b <;> rfl
  | cons x a ih =>
    cases b with
    | nil => rfl
    | cons y b =>
      show (PyData.eqvAll (x.map oD) (y.map oD) && PyData.eqvAll (a.map rD) (b.map rD)) = _
      rw [ih b, bEq_row x y]
      rfl
theorem shaped_tab (t : Tb) : SeqAt.shaped (tabD t) = true := by
  have c0 : ∀ r : List (Option Nat), PyData.canLayAll0 (r.map oD) = true ∧ PyData.depthAll (r.map oD) = 0 := by
    intro r
    induction r with
    | nil => exact ⟨rfl, rfl⟩
    | cons x r ih =>
      rw [List.map_cons]
      cases x <;> simp [PyData.canLayAll0, PyData.canLay0, PyData.depthAll, PyData.depth, oD, ih.1, ih.2]
  have c1 : ∀ l : Tb, PyData.canLayAll0 (l.map rD) = true ∧ PyData.depthAll (l.map rD) ≤ 1 := by
    intro l
    induction l with
    | nil => exact ⟨rfl, Nat.zero_le _⟩
    | cons q l ih =>
      rw [List.map_cons]
      refine ⟨by simp [PyData.canLayAll0, PyData.canLay0, (c0 q).1, ih.1], ?_⟩
      simp only [PyData.depthAll, PyData.depth, (c0 q).2]
      omega
  have := (c1 t).2
  simp [SeqAt.shaped, PyData.canLay0, PyData.depth, (c1 t).1]
  omega
theorem bEq_tab (a b : Tb) : bEq (tabD a) (tabD b) = some (a == b) := by
  unfold bEq
  rw [if_pos ⟨shaped_tab a, shaped_tab b⟩]
  exact congrArg some (eqv_tab a b)
end Pf
namespace Pf
open PySem MW
/-- the parts of linked states -/
noncomputable def qsOf (n : Nat) (near : List (List Nat)) : List (List Nat) := sortT (once ((List.range n).map (cmp near)))
/-- what parts or clash tell -/
def Po (n : Nat) (near : List (List Nat)) (vs : List (List Nat)) (d : D) : Prop := ((∃ tr, Tw near (jvOf n vs) tr) ∧ d = .str "clash") ∨ ((∀ tr, ¬ Tw near (jvOf n vs) tr) ∧ d = .str (PyData.tuple ((qsOf n near).map tD)).shown)
theorem Po.str {n : Nat} {near vs : List (List Nat)} {d : D} (h : Po n near vs d) : ∃ x, d = .str x := by
  rcases h with ⟨_, e⟩ | ⟨_, e⟩ <;> exact ⟨_, e⟩
end Pf
namespace Pf
open PySem MW
def sm {α : Type} (l : List α) (f : α → Nat) : Nat := (l.map f).sum
section
variable {v : List Nat} {c : Nat}
/-- how many states of q show a -/
def hq (v q : List Nat) (a : Nat) : Nat := (q.map fun s => v.getD s 0).count a
end
end Pf
namespace Pf
open PySem MW
/-- a partition with one more state -/
def freeB (v : List Nat) (n : Nat) (js : List (List Nat)) (p : Nat) : Bool := !((js.getD p []).map fun s => v.getD s 0).contains (v.getD n 0)
def putN (n : Nat) (js : List (List Nat)) (p : Nat) : List (List Nat) := js.set p (js.getD p [] ++ [n])
def ext (v : List Nat) (n : Nat) (js : List (List Nat)) : List (List (List Nat)) := (js ++ [[n]]) :: ((List.range js.length).filter (freeB v n js)).map (putN n js)
end Pf
namespace Pf
open PySem MW
theorem viewLH_ok {N : Int} {d : D} {lw up : Nat} (h : Pen N d) (hN : N ≤ 100000) (l1 : 1 ≤ lw) (l2 : lw ≤ up) (l3 : up ≤ 9) :
    Ok (m__law_view [d, nD lw, nD up]) (fun z os => ∃ (v : List Nat) (c : Nat) (p : D), z = tD v ∧ Vw v c ∧ v.length ≤ up ∧ os = [some p, none, none] ∧ Pen (N + 20) p) := by
  refine ok_def (ρ0 := [some d, some (nD lw), some (nD up), none, none, none, none]) (by rfl) ?_
  unfold mb__law_view
  refine ok_seq (ok_set (ok_lst (ok_lc (ok_range1 (ok_cons (ok_bin (ok_var (d := nD lw) rfl (ok_callD (ok_lend (d := d) rfl (ok_cons (ok_bin (ok_bin (ok_var (d := nD up) rfl (ok_var (d := nD lw) rfl ⟨_, gSub_ok, ok_c ⟨_, gAdd_ok, ok_nil ⟨_, rfl, ?_⟩⟩⟩))))))))))))))
  refine (draw_ok h (by omega) (by omega) (by omega)).mono ?_
  rintro z os ⟨x, p, rfl, x0, x1, rfl, hp⟩
  obtain ⟨x, rfl⟩ := Int.eq_ofNat_of_zero_le x0
  refine ⟨_, gAdd_ok, ok_nil ⟨_, rfl, by omega, ?_⟩⟩
  obtain ⟨many, em, h1, h9, hhi⟩ : ∃ many : Nat, ((lw : Nat) : Int) + (x : Int) = (many : Int) ∧ 1 ≤ many ∧ many ≤ 9 ∧ many ≤ up := ⟨lw + x, by omega, by omega, by omega, by omega⟩
  rw [em, Int.toNat_natCast, rangeD_nD]
  refine ok_at (ρ' := [some p, some (nD lw), some (nD up), none, none, none, none]) rfl ?_
  refine comp_list (fun k ys ρ => ∃ (p : D) (raw : List Nat), ρ = [some p, some (nD lw), some (nD up), none, none, none, none] ∧ Pen (N + 1 + k) p ∧ ys = raw.map nD ∧ raw.length = k) ⟨p, [], rfl, pen_le hp (by omega), rfl, rfl⟩ ?_ ?_
  · rintro i hi ys ρ ⟨p, raw, rfl, hp, rfl, hl⟩
    obtain ⟨e, hi⟩ := range_get hi
    refine ⟨_, rfl, ?_⟩
    walk_at "mx"
    refine (draw_ok hp (by omega) (by omega) (by omega)).mono ?_
    rintro z os ⟨x, p, rfl, h4, h5, rfl, hp⟩
    obtain ⟨x, rfl⟩ := Int.eq_ofNat_of_zero_le h4
    exact ⟨p, raw ++ [x], rfl, pen_le hp (by omega), by simp, by simp [hl]⟩
  · rintro ys ρ ⟨p, raw, rfl, hp, rfl, hl⟩
    rw [List.length_range] at hl hp
    refine ok_at (ρ' := [some p, some (nD lw), some (nD up), some (.list (raw.map nD)), none, none, none]) rfl ?_
    walk_at "mx"
    refine ⟨_, rfl, ?_⟩
    refine for_list (fun k ρ => ∃ (names : List Nat) (x5 : Option D), ρ = [some p, some (nD lw), some (nD up), some (.list (raw.map nD)), some (.list (names.map nD)), x5, none] ∧ names.Nodup ∧ (∀ x, x ∈ names ↔ x ∈ raw.take k) ∧ names.length ≤ k) ⟨[], none, rfl, List.nodup_nil, by simp, Nat.le_refl _⟩ ?_ ?_
    · rintro i hi ρ ⟨names, x5, rfl, hn, hm, hk⟩
      refine ⟨_, rfl, ?_⟩
      refine ok_at (ρ' := [some p, some (nD lw), some (nD up), some (.list (raw.map nD)), some (.list (names.map nD)), some (nD raw[i]), none]) rfl ?_
      refine ok_ifS (ok_testOwn ?_)
      walk_at "mx"
      refine ⟨_, bNotIn_nD _ _, ?_⟩
      have ht := fold_app raw i hi
      cases hc : !names.contains raw[i] with
      | false =>
        refine L2.iteF ?_
        refine ok_next ?_
        refine ⟨names, _, rfl, hn, fun x => ?_, by omega⟩
        rw [ht, List.mem_append, List.mem_singleton, hm x]
        refine ⟨.inl, fun z => z.elim id fun z => ?_⟩
        rw [z]
        exact (hm _).mp (List.contains_iff_mem.mp (by simpa using hc))
      | true =>
        refine L2.iteT ?_
        walk_at "mx"
        refine ⟨_, _, _, rfl, fApp_ok (by rw [List.length_map]; omega), ?_⟩
        refine ⟨names ++ [raw[i]], _, by rw [List.map_append]; rfl, ?_, fun x => ?_, by simp; omega⟩
        · refine List.nodup_append.mpr ⟨hn, by simp, fun a ha b hb e => ?_⟩
          rw [List.mem_singleton.mp hb] at e
          rw [e] at ha
          rw [List.contains_iff_mem.mpr ha] at hc
          cases hc
        · rw [ht, List.mem_append, List.mem_append, hm x]
    · rintro ρ ⟨names, x5, rfl, hn, hm, hk⟩
      rw [List.take_length] at hm
      rw [hl] at hk
      have fin : ∀ (p : D) (names : List Nat), Pen (N + many + 2) p → names.Nodup → (∀ x, x ∈ names ↔ x ∈ raw) → names.length ≤ many → Ok (mRet (mCall gTupleOf (mCons (mLst (mLc (mSeqD (mVar 3)) (gN 5) mYes (mIndexO 4 (mCons (mVar 5) mNil)) [5])) mNil)) [some p, some (nD lw), some (nD up), some (.list (raw.map nD)), some (.list (names.map nD)), x5, none])
          (DefK S__law_view fun z os => ∃ (v : List Nat) (c : Nat) (p : D), z = tD v ∧ Vw v c ∧ v.length ≤ up ∧ os = [some p, none, none] ∧ Pen (N + 20) p) := by
        intro p names hp hn hm hk
        walk_at "mx"
        refine ⟨_, rfl, ?_⟩
        refine ok_at (ρ' := [some p, some (nD lw), some (nD up), some (.list (raw.map nD)), some (.list (names.map nD)), none, none]) rfl ?_
        refine (comp_map (fun x => nD (names.idxOf x)) (l := raw) ?_).mono ?_
        · intro x hx
          refine ⟨_, rfl, ?_⟩
          refine ok_indexO rfl ?_
          walk_at "mx"
          exact ⟨_, _, rfl, gIndex_nD ((hm x).mpr hx), rfl, rfl⟩
        · rintro ys ρ ⟨rfl, rfl⟩
          walk_at "mx"
          refine defK_rt rfl ⟨raw.map fun x => names.idxOf x, names.length, p, by simp [tD], names_view hn hm (by omega) (by omega) (by omega), by rw [List.length_map]; omega, rfl, pen_le hp (by omega)⟩
      refine then_nx ?_
      walk_at "mx"
      refine (draw_ok hp (by omega) (by omega) (by omega)).mono ?_
      rintro z os ⟨x, p, rfl, h4, h5, rfl, hp⟩
      walk_at "mx"
      refine ⟨_, bEq_int _ _, ?_⟩
      cases (x == 0) with
      | true =>
        refine L2.iteT ?_
        walk_at "mx"
        refine ok_callOL rfl rfl ?_
        refine then_nx ?_
        rw [← List.map_reverse]
        exact fin p names.reverse (pen_le hp (by omega)) ((List.reverse_perm names).nodup_iff.mpr hn) (fun x => by rw [List.mem_reverse]; exact hm x) (by rw [List.length_reverse]; exact hk)
      | false =>
        refine L2.iteF ?_
        refine ok_next ?_
        refine then_nx ?_
        exact fin p names (pen_le hp (by omega)) hn hm hk
end Pf
namespace Pf
open PySem MW L2 TL
section
variable {ρ : Ev} {P : D → Ev → Prop} {PL : List D → Ev → Prop} {mo me m : Ev → Out D} {ml mh : Ev → Out (Option Int)}
theorem ok_strM {g : Str → D → Option D} (h : Ok (mo ρ) fun d ρ1 => ∃ a, d = .str a ∧ Ok (me ρ1) fun e ρ2 => ∃ z, g a e = some z ∧ P z ρ2) : Ok (mStrM g mo me ρ) P :=
  ok_bind (h.mono fun d ρ1 ⟨a, e, k⟩ => by subst e; exact ok_bind (k.mono fun e ρ2 ⟨z, e1, k2⟩ => ok_of e1 k2))
theorem ok_strML {g : Str → D → Option (List D)} (h : Ok (mo ρ) fun d ρ1 => ∃ a, d = .str a ∧ Ok (me ρ1) fun e ρ2 => ∃ z, g a e = some z ∧ PL z ρ2) : Ok (mStrML g mo me ρ) PL :=
  ok_bind (h.mono fun d ρ1 ⟨a, e, k⟩ => by subst e; exact ok_bind (k.mono fun e ρ2 ⟨z, e1, k2⟩ => ok_of e1 k2))
theorem ok_star {i j : Nat} {PF : Fl → Ev → Prop} (h : Ok (m ρ) fun d ρ1 => ∃ x r, d = .list (x :: r) ∧ PF .nx ((ρ1.set i (some x)).set j (some (.list r)))) : Ok (mStar i j m ρ) PF :=
  ok_bind (h.mono fun d ρ1 ⟨x, r, e, k⟩ => by subst e; exact k)
theorem ok_jN {acc : Str} (h : P (.str acc) ρ) : Ok (mJ [] acc ρ) P := h
theorem ok_jC {acc : Str} {ms : List (Ev → Out D)} (h : Ok (m ρ) fun d ρ1 => ∃ y, d = .str y ∧ (acc ++ y).length ≤ 16777216 ∧ Ok (mJ ms (acc ++ y) ρ1) P) : Ok (mJ (m :: ms) acc ρ) P :=
  ok_bind (h.mono fun d ρ1 ⟨y, e, l, k⟩ => by
    subst e
    show Ok (if (acc ++ y).length ≤ 16777216 then mJ ms (acc ++ y) ρ1 else .bad) P
    rw [if_pos l]; exact k)
end
def dg (i : Nat) : Str := Str.ofString (toString ((i : Nat) : Int))
def wS : Option Nat → Str
  | none => "-"
  | some i => dg i
def Sm10 (r : List (Option Nat)) : Prop := ∀ e ∈ r, ∀ i, e = some i → i < 10
theorem dg_small : ∀ i, i < 10 → tl (dg i) = [48 + i] ∧ intText? (dg i) = some (i : Int) ∧ (!(Builtin.Str.occurrences (Str.ofString "0123456789") (dg i) 0 (Str.ofString "0123456789").length 1).isEmpty) = true := by decide +kernel
theorem wS_tl {e : Option Nat} (h : ∀ i, e = some i → i < 10) : ∃ a, tl (wS e) = [a] ∧ (a = 45 ∨ 48 ≤ a ∧ a < 58) := by
  cases e with
  | none => exact ⟨45, by decide +kernel, .inl rfl⟩
  | some i => exact ⟨48 + i, (dg_small i (h i rfl)).1, .inr ⟨by omega, by have := h i rfl; omega⟩⟩
theorem wS_len {e : Option Nat} (h : ∀ i, e = some i → i < 10) : (wS e).length = 1 := by
  obtain ⟨a, ea, _⟩ := wS_tl h
  rw [len_tl, ea]; rfl
theorem gStrI_ok {i : Nat} (h : i < 10) : gStrI [nD i] = some (.str (dg i)) := by
  have hl : (i : Int).natAbs.log2 < 1920 := by
    rw [Int.natAbs_natCast]
    have := Nat.log2_le_self i
    omega
  show (if (i : Int).natAbs.log2 < 1920 then some (PyData.str (dg i)) else none) = _
  rw [if_pos hl]
theorem strsD_map {α : Type} (f : α → Str) : ∀ l : List α, strsD (l.map fun x => .str (f x)) = some (l.map f)
  | [] => rfl
  | x :: l => by
    show (strsD (l.map fun x => .str (f x))).map (f x :: ·) = _
    rw [strsD_map f l]; rfl
theorem gJoin_ok {α : Type} {a : Str} (f : α → Str) {l : List α} (h : ((l.map f).map (·.length)).sum + (l.map f).length * a.length ≤ 16777216) : gJoin a (.list (l.map fun x => .str (f x))) = some (.str (Txt.join a (l.map f))) := by
  unfold gJoin
  simp only [strsD_map]
  rw [if_pos h]
theorem sum_le {α : Type} (f : α → Nat) {b : Nat} : ∀ {l : List α}, (∀ x ∈ l, f x ≤ b) → (l.map f).sum ≤ l.length * b
  | [], _ => by simp
  | x :: l, h => by
    rw [List.map_cons, List.sum_cons, List.length_cons, Nat.add_mul, Nat.one_mul]
    have := sum_le f (l := l) fun y hy => h y (List.mem_cons_of_mem _ hy)
    have := h x List.mem_cons_self
    omega
theorem joinL_len (S : List Nat) : ∀ ps : List (List Nat), (joinL S ps).length ≤ (ps.map (·.length)).sum + ps.length * S.length
  | [] => by simp [joinL]
  | [p] => by simp [joinL]
  | p :: q :: r => by
    have := joinL_len S (q :: r)
    show (p ++ (S ++ joinL S (q :: r))).length ≤ _
    rw [List.length_append, List.length_append, List.map_cons, List.sum_cons, List.length_cons (a := p), Nat.add_mul, Nat.one_mul]
    omega
def wds (r : List (Option Nat)) : Str := Txt.join " " (r.map wS)
theorem wds_tl (r : List (Option Nat)) : tl (wds r) = joinL [32] (r.map fun e => tl (wS e)) := by
  unfold wds
  rw [join_eq, tl_join, List.map_map]
  rfl
theorem wds_len {r : List (Option Nat)} (h : Sm10 r) : (wds r).length ≤ 2 * r.length := by
  rw [len_tl, wds_tl]
  have h1 := joinL_len [32] (r.map fun e => tl (wS e))
  rw [List.map_map, List.length_map] at h1
  have h2 := sum_le (fun e => (tl (wS e)).length) (b := 1) (l := r) fun e he => by
    have := wS_len (h e he); rw [len_tl] at this; omega
  have h3 : (List.map ((fun x => x.length) ∘ fun e => tl (wS e)) r).sum = (r.map fun e => (tl (wS e)).length).sum := rfl
  rw [h3] at h1
  simp only [List.length_cons, List.length_nil] at h1
  omega
theorem words_ok {r : List (Option Nat)} (h : Sm10 r) (hl : r.length ≤ 9) : Ok (m_words [rD r]) (fun z os => z = .str (wds r) ∧ os = [none]) := by
  refine ok_def (ρ0 := [some (rD r), none]) (by rfl) ?_
  unfold mb_words
  refine ok_ret (ok_strM (ok_c ⟨_, rfl, ok_lst (ok_lc (ok_seqD (ok_var (d := rD r) rfl ⟨_, rfl, ?_⟩)))⟩))
  refine (comp_map (enc := oD) (fun e => .str (wS e)) (l := r) fun e he => ?_).mono ?_
  · refine ⟨_, rfl, ok_if (ok_test (ok_var (d := oD e) rfl (ok_c ?_)))⟩
    cases e with
    | none => exact ⟨true, rfl, L2.iteT (ok_c ⟨rfl, rfl⟩)⟩
    | some i => exact ⟨false, rfl, L2.iteF (ok_call (ok_cons (ok_var (d := nD i) rfl (ok_nil ⟨_, gStrI_ok (h _ he i rfl), rfl, rfl⟩))))⟩
  · rintro ys ρ ⟨rfl, rfl⟩
    refine ⟨.str (wds r), ?_, defK_rt rfl ⟨rfl, rfl⟩⟩
    refine gJoin_ok wS ?_
    rw [List.map_map, List.length_map]
    have h2 := sum_le (fun e => (wS e).length) (b := 1) (l := r) fun e he => Nat.le_of_eq (wS_len (h e he))
    have h3 : (List.map ((fun x => x.length) ∘ wS) r).sum = (r.map fun e => (wS e).length).sum := rfl
    rw [h3]
    have h4 : (Str.ofString " ").length = 1 := by decide +kernel
    rw [h4]
    omega
theorem tD_rD (v : List Nat) : tD v = rD (v.map some) := by
  show PyData.tuple (v.map nD) = .tuple ((v.map some).map oD)
  rw [List.map_map]; rfl
theorem wordsV_ok {v : List Nat} (h : ∀ x ∈ v, x < 10) (hl : v.length ≤ 9) : Ok (m_words [tD v]) (fun z os => z = .str (wds (v.map some)) ∧ os = [none]) := by
  rw [tD_rD]
  refine words_ok (fun e he i hi => ?_) (by rw [List.length_map]; exact hl)
  subst hi
  obtain ⟨x, hx, e⟩ := List.mem_map.mp he
  have e := Option.some.inj e
  subst e
  exact h x hx
end Pf
namespace Pf
open PySem MW L2 TL
theorem app_len (x y : Str) : (x ++ y).length = x.length + y.length := by rw [len_tl, tl_append, List.length_append, ← len_tl, ← len_tl]
theorem joinL_nil : ∀ ps : List (List Nat), joinL [] ps = ps.flatten
  | [] => rfl
  | [p] => by simp [joinL]
  | p :: q :: r => by
    show p ++ ([] ++ joinL [] (q :: r)) = _
    rw [joinL_nil (q :: r)]
    simp
theorem joinL_mem {S : List Nat} {x : Nat} : ∀ {ps : List (List Nat)}, x ∈ joinL S ps → x ∈ S ∨ ∃ p ∈ ps, x ∈ p
  | [], h => by simp [joinL] at h
  | [p], h => .inr ⟨p, List.mem_singleton.mpr rfl, h⟩
  | p :: q :: r, h => by
    have h : x ∈ p ++ (S ++ joinL S (q :: r)) := h
    rcases List.mem_append.mp h with z | z
    · exact .inr ⟨p, List.mem_cons_self, z⟩
    · rcases List.mem_append.mp z with z | z
      · exact .inl z
      · rcases joinL_mem z with z | ⟨p', h1, h2⟩
        · exact .inl z
        · exact .inr ⟨p', List.mem_cons_of_mem _ h1, h2⟩
def line0 (v : List Nat) : Str := Str.empty ++ "view " ++ wds (v.map some)
def lineR (i : Nat) (r : List (Option Nat)) : Str := Str.empty ++ dg i ++ ": " ++ wds r
def rowsFrom : Nat → List (List (Option Nat)) → List Str
  | _, [] => []
  | i, r :: t => lineR i r :: rowsFrom (i + 1) t
theorem rowsFrom_len : ∀ (i : Nat) (t : List (List (Option Nat))), (rowsFrom i t).length = t.length
  | _, [] => rfl
  | i, _ :: t => by rw [rowsFrom, List.length_cons, List.length_cons, rowsFrom_len]
theorem rowsFrom_at : ∀ (i : Nat) (t : List (List (Option Nat))) (k : Nat) (h : k < t.length), (rowsFrom i t)[k]? = some (lineR (i + k) t[k])
  | _, [], k, h => by simp at h
  | i, r :: t, 0, h => rfl
  | i, r :: t, k + 1, h => by
    have := rowsFrom_at (i + 1) t k (by simpa using h)
    rw [rowsFrom, List.getElem?_cons_succ, this, show i + 1 + k = i + (k + 1) by omega]
    rfl
def linesOf (v : List Nat) (t : List (List (Option Nat))) : List Str := line0 v :: rowsFrom 0 t
def TT (v : List Nat) (t : List (List (Option Nat))) : Str := Txt.join "" ((linesOf v t).map fun l => l ++ "\n")
theorem TT_tl (v : List Nat) (t : List (List (Option Nat))) : tl (TT v t) = ((linesOf v t).map fun l => tl l ++ [10]).flatten := by
  have e : tl (Str.ofString "") = [] := by decide +kernel
  have e2 : tl (Str.ofString "\n") = [10] := by decide +kernel
  unfold TT
  rw [join_eq, tl_join, e, joinL_nil, List.map_map]
  congr 1
  refine List.map_congr_left fun l _ => ?_
  show tl (l ++ "\n") = _
  rw [tl_append, e2]
section
variable {v : List Nat} {c : Nat} {t : List (List (Option Nat))}
theorem tab_row10 (hv : Vw v c) (ht : Tab v.length c t) {r : List (Option Nat)} (hr : r ∈ t) : Sm10 r ∧ r.length ≤ 9 ∧ 1 ≤ r.length := by
  obtain ⟨h1, h2⟩ := ht.2 r hr
  obtain ⟨v1, v2, ⟨v3, v3'⟩, v4, v5⟩ := hv
  exact ⟨fun e he i hi => by have := h2 e he i hi; omega, by omega, by omega⟩
theorem vw_x10 (hv : Vw v c) {x : Nat} (hx : x ∈ v) : x < 10 := by
  obtain ⟨v1, v2, v3, v4, v5⟩ := hv
  have := v4 x hx
  omega
theorem view_sm (hv : Vw v c) : Sm10 (v.map some) := fun e he i hi => by
  subst hi
  obtain ⟨x, hx, e⟩ := List.mem_map.mp he
  have e := Option.some.inj e
  subst e
  exact vw_x10 hv hx
theorem len0 : Str.empty.length = 0 := rfl
theorem len_view : (Str.ofString "view ").length = 5 := by decide +kernel
theorem len_colon : (Str.ofString ": ").length = 2 := by decide +kernel
theorem len_nl : (Str.ofString "\n").length = 1 := by decide +kernel
theorem len_none : (Str.ofString "").length = 0 := by decide +kernel
theorem dg_len {i : Nat} (h : i < 10) : (dg i).length = 1 := wS_len (e := some i) fun j e => by cases e; exact h
theorem line0_len (hv : Vw v c) : (line0 v).length ≤ 23 := by
  have := wds_len (view_sm hv)
  rw [List.length_map] at this
  have := hv.2.1
  unfold line0
  rw [app_len, app_len, len0]
  have := len_view
  omega
theorem lineR_len {i : Nat} {r : List (Option Nat)} (hi : i < 10) (h : Sm10 r) (hl : r.length ≤ 9) : (lineR i r).length ≤ 21 := by
  have := wds_len h
  unfold lineR
  rw [app_len, app_len, app_len, len0, dg_len hi]
  have := len_colon
  omega
theorem line_len (hv : Vw v c) (ht : Tab v.length c t) {l : Str} (h : l ∈ linesOf v t) : l.length ≤ 23 := by
  rcases List.mem_cons.mp h with rfl | h
  · exact line0_len hv
  · obtain ⟨k, hk, e⟩ := List.mem_iff_getElem.mp h
    rw [rowsFrom_len] at hk
    have e2 := rowsFrom_at 0 t k hk
    rw [List.getElem?_eq_getElem (by rw [rowsFrom_len]; exact hk), e] at e2
    have e2 := Option.some.inj e2
    obtain ⟨h1, h2, _⟩ := tab_row10 hv ht (List.getElem_mem hk)
    have h3 := lineR_len (i := 0 + k) (r := t[k]) (by have := ht.1; have := hv.2.1; omega) h1 h2
    rw [e2]; omega
theorem lines_len (hv : Vw v c) (ht : Tab v.length c t) : (linesOf v t).length ≤ 10 := by
  unfold linesOf
  rw [List.length_cons, rowsFrom_len, ht.1]
  have := hv.2.1
  omega
theorem gFmt_str {y : Str} (h : y.length ≤ 16777216) : gFmt (.str y) = some (.str y) := if_pos h
theorem gFmt_dg {i : Nat} (h : i < 10) : gFmt (nD i) = some (.str (dg i)) := by
  have := gStrI_ok h
  exact this
theorem gAdd_str {x y : Str} (h : x.length + y.length ≤ 16777216) : gAdd (.str x) (.str y) = some (.str (x ++ y)) := if_pos h
theorem enum_rows : ∀ (i : Nat) (t : List (List (Option Nat))), (List.range' i t.length).zipWith (fun i d => PyData.tuple [.int (i : Nat), d]) (t.map rD) = (t.zipIdx i).map fun p => .tuple [nD p.2, rD p.1]
  | _, [] => rfl
  | i, r :: t => by
    rw [List.length_cons, List.range'_succ, List.map_cons, List.zipWith_cons_cons, enum_rows (i + 1) t]
    rfl
theorem enum_rD (t : List (List (Option Nat))) : enumD (t.map rD) = t.zipIdx.map fun p => .tuple [nD p.2, rD p.1] := by
  unfold enumD
  rw [List.length_map, List.range_eq_range']
  exact enum_rows 0 t
theorem rows_zip : ∀ (i : Nat) (t : List (List (Option Nat))), ((t.zipIdx i).map fun p => lineR p.2 p.1) = rowsFrom i t
  | _, [] => rfl
  | i, r :: t => by
    show lineR i r :: ((t.zipIdx (i + 1)).map fun p => lineR p.2 p.1) = _
    rw [rows_zip (i + 1) t]; rfl
theorem table_text_ok (hv : Vw v c) (ht : Tab v.length c t) : Ok (m_table_text [tD v, tabD t]) (fun z os => z = .str (TT v t) ∧ os = [none, none]) := by
  have hv9 := hv.2.1
  refine ok_def (ρ0 := [some (tD v), some (tabD t), none, none, none, none]) (by rfl) ?_
  unfold mb_table_text
  refine ok_seq (ok_drop (ok_callD (ok_cons (ok_var (d := tD v) rfl (ok_cons (ok_var (d := tabD t) rfl (ok_nil ⟨_, rfl, ?_⟩)))))))
  refine (need_table hv ht).mono ?_
  rintro z os rfl
  refine then_nx ?_
  refine ok_at (ρ' := [some (tD v), some (tabD t), none, none, none, none]) rfl ?_
  refine ok_seq (ok_set (ok_bin (ok_lst (ok_cons (ok_jC (ok_c ⟨_, rfl, by decide +kernel, ok_jC (ok_un (ok_callD (ok_cons (ok_var (d := tD v) rfl (ok_nil ⟨_, rfl, ?_⟩)))))⟩))))))
  refine (wordsV_ok (fun x hx => vw_x10 hv hx) hv9).mono ?_
  rintro z os ⟨rfl, rfl⟩
  have wl := wds_len (view_sm hv)
  rw [List.length_map] at wl
  refine ⟨_, gFmt_str (by omega), _, rfl, ?_, ok_jN (ok_nil ?_)⟩
  · show (line0 v).length ≤ _
    have := line0_len hv
    omega
  refine ok_lst (ok_lc (ok_enum (ok_cons (ok_var (d := tabD t) rfl (ok_nil ⟨_, .inr rfl, ?_⟩)))))
  rw [enum_rD]
  refine ok_at (ρ' := [some (tD v), some (tabD t), none, none, none, none]) rfl ?_
  refine (comp_map (enc := fun p : List (Option Nat) × Nat => PyData.tuple [nD p.2, rD p.1]) (fun p => .str (lineR p.2 p.1)) (l := t.zipIdx) fun p hp => ?_).mono ?_
  · obtain ⟨r, i⟩ := p
    have hp := List.mem_zipIdx_iff_getElem?.mp hp
    have hi : i < t.length := (List.getElem?_eq_some_iff.mp hp).1
    have hr : r ∈ t := List.mem_of_getElem? hp
    obtain ⟨h1, h2, _⟩ := tab_row10 hv ht hr
    have hi10 : i < 10 := by have := ht.1; omega
    have hl := lineR_len hi10 h1 h2
    have hd := dg_len hi10
    refine ⟨[some (tD v), some (tabD t), none, none, some (nD i), some (rD r)], rfl, ?_⟩
    refine ok_jC (ok_un (ok_var (d := nD i) rfl ⟨_, gFmt_dg hi10, _, rfl, ?_, ok_jC (ok_c ⟨_, rfl, ?_, ok_jC (ok_un (ok_callD (ok_cons (ok_var (d := rD r) rfl (ok_nil ⟨_, rfl, ?_⟩)))))⟩)⟩))
    · rw [app_len, len0]; omega
    · rw [app_len, app_len, len0, len_colon]; omega
    refine (words_ok h1 h2).mono ?_
    rintro z os ⟨rfl, rfl⟩
    have wl := wds_len h1
    refine ⟨_, gFmt_str (by omega), _, rfl, ?_, ok_jN ⟨rfl, rfl⟩⟩
    show (lineR i r).length ≤ _
    omega
  rintro ys ρ ⟨rfl, rfl⟩
  have hz := rows_zip 0 t
  have hll := lines_len hv ht
  refine ⟨_, gAddL_ok (by simp only [List.length_cons, List.length_nil, List.length_map, List.length_zipIdx]; have := ht.1; omega), then_nx ?_⟩
  have e : ([PyData.str (line0 v)] ++ t.zipIdx.map fun p => PyData.str (lineR p.2 p.1)) = (linesOf v t).map .str := by
    unfold linesOf
    rw [← hz, List.map_cons, List.map_map]
    rfl
  refine ok_at (ρ' := [some (tD v), some (tabD t), some (.list ((linesOf v t).map .str)), none, none, none]) (by rw [← e]; rfl) ?_
  refine ok_ret (ok_strM (ok_c ⟨_, rfl, ok_lst (ok_lc (ok_seqD (ok_var (d := .list ((linesOf v t).map .str)) rfl ⟨_, rfl, ?_⟩)))⟩))
  refine (comp_map (enc := PyData.str) (fun l => .str (l ++ "\n")) (l := linesOf v t) fun l hl => ?_).mono ?_
  · have := line_len hv ht hl
    exact ⟨_, rfl, ok_bin (ok_var (d := .str l) rfl (ok_c ⟨_, gAdd_str (by have := len_nl; omega), rfl, rfl⟩))⟩
  rintro ys ρ ⟨rfl, rfl⟩
  refine ⟨_, gJoin_ok (fun l => l ++ "\n") ?_, defK_rt rfl ⟨rfl, rfl⟩⟩
  rw [List.map_map, List.length_map, len_none]
  have h2 := sum_le (fun l => (l ++ Str.ofString "\n").length) (b := 24) (l := linesOf v t) fun l hl => by
    have := line_len hv ht hl
    rw [app_len, len_nl]; omega
  have h3 : (List.map ((fun x => x.length) ∘ fun l => l ++ Str.ofString "\n") (linesOf v t)).sum = ((linesOf v t).map fun l => (l ++ Str.ofString "\n").length).sum := rfl
  rw [h3]
  omega
theorem view_dg (v : List Nat) : Txt.join " " (v.map dg) = wds (v.map some) := by
  unfold wds
  rw [List.map_map]; rfl
def flat (ls : List Str) : List Nat := (ls.map fun l => tl l ++ [10]).flatten
theorem lines_at (ht : Tab v.length c t) {k : Nat} (h : k < t.length) : (linesOf v t)[k + 1]? = some (lineR k t[k]) := by
  have := rowsFrom_at 0 t k h
  rw [Nat.zero_add] at this
  exact this
theorem law_text_ok (hv : Vw v c) (ht : Tab v.length c t) : Ok (m__law_text [tD v, tabD t]) (fun z os => z = .str (TT v t) ∧ os = [none, none]) := by
  have hv9 := hv.2.1
  have htl := ht.1
  have wl := wds_len (view_sm hv)
  rw [List.length_map] at wl
  refine ok_def (ρ0 := [some (tD v), some (tabD t), none, none, none, none, none]) (by rfl) ?_
  unfold mb__law_text
  refine ok_seq (ok_set (ok_bin (ok_bin (ok_c (ok_strM (ok_c ⟨_, rfl, ok_lst (ok_lc (ok_seqD (ok_var (d := tD v) rfl ⟨_, rfl, ?_⟩)))⟩))))))
  refine (comp_map (enc := nD) (fun x => .str (dg x)) (l := v) fun x hx => ?_).mono ?_
  · exact ⟨_, rfl, ok_call (ok_cons (ok_var (d := nD x) rfl (ok_nil ⟨_, gStrI_ok (vw_x10 hv hx), rfl, rfl⟩)))⟩
  rintro ys ρ ⟨rfl, rfl⟩
  refine ⟨_, gJoin_ok dg ?_, ?_⟩
  · rw [List.map_map, List.length_map]
    have h2 := sum_le (fun x => (dg x).length) (b := 1) (l := v) fun x hx => Nat.le_of_eq (dg_len (vw_x10 hv hx))
    have h3 : (List.map ((fun x => x.length) ∘ dg) v).sum = (v.map fun x => (dg x).length).sum := rfl
    have h4 : (Str.ofString " ").length = 1 := by decide +kernel
    rw [h3, h4]
    omega
  rw [view_dg]
  refine ⟨_, gAdd_str (by have := len_view; omega), ok_c ⟨_, gAdd_str (by rw [app_len]; have := len_view; have := len_nl; omega), then_nx ?_⟩⟩
  have e0 : tl (Str.ofString "view " ++ wds (v.map some) ++ Str.ofString "\n") = flat ((linesOf v t).take 1) := by
    have e2 : tl (Str.ofString "\n") = [10] := by decide +kernel
    show _ = tl (line0 v) ++ [10] ++ []
    unfold line0
    rw [tl_append, e2, tl_append, tl_append, tl_append, List.append_nil]
    rfl
  have l0 : (Str.ofString "view " ++ wds (v.map some) ++ Str.ofString "\n").length ≤ 30 * (0 + 1) := by
    rw [app_len, app_len, len_view, len_nl]; omega
  generalize Str.ofString "view " ++ wds (v.map some) ++ Str.ofString "\n" = s0 at e0 l0
  refine ok_at (ρ' := [some (tD v), some (tabD t), some (.str s0), none, none, none, none]) rfl ?_
  refine ok_seq (ok_for (ok_range1 (ok_cons (ok_call (ok_cons (ok_var (d := tD v) rfl (ok_nil ⟨_, gLenT_ok, ok_nil ⟨_, rfl, by rw [List.length_map]; omega, ?_⟩⟩)))))))
  rw [List.length_map]
  refine for_inv (fun k ρ => ∃ (s : Str) (x3 x4 : Option D), ρ = [some (tD v), some (tabD t), some (.str s), x3, x4, none, none] ∧ tl s = flat ((linesOf v t).take (k + 1)) ∧ s.length ≤ 30 * (k + 1)) 0 ⟨s0, none, none, rfl, e0, l0⟩ ?_ ?_
  · rintro k d ρ hk0 ⟨s, x3, x4, rfl, es, ls⟩
    obtain ⟨hk, rfl⟩ := rangeD_at hk0
    rw [Int.toNat_natCast] at hk
    rw [Nat.zero_add] at es ls ⊢
    have hkt : k < t.length := by omega
    obtain ⟨h1, h2, _⟩ := tab_row10 hv ht (List.getElem_mem hkt)
    have wr := wds_len h1
    have hd := dg_len (i := k) (by omega)
    refine ⟨_, rfl, ?_⟩
    refine ok_at (ρ' := [some (tD v), some (tabD t), some (.str s), some (nD k), x4, none, none]) rfl ?_
    refine ok_seq (ok_set (ok_lst (ok_lc (ok_seqD (ok_bin (ok_var (d := tabD t) rfl (ok_var (d := nD k) rfl ⟨rD t[k], gIxT_ok (by rw [List.getElem?_map, List.getElem?_eq_getElem hkt]; rfl), _, rfl, ?_⟩)))))))
    refine (comp_map (enc := oD) (fun e => .str (wS e)) (l := t[k]) fun e he => ?_).mono ?_
    · refine ⟨_, rfl, ok_if (ok_test (ok_var (d := oD e) rfl (ok_c ?_)))⟩
      cases e with
      | none => exact ⟨true, rfl, L2.iteT (ok_c ⟨rfl, rfl⟩)⟩
      | some i => exact ⟨false, rfl, L2.iteF (ok_call (ok_cons (ok_var (d := nD i) rfl (ok_nil ⟨_, gStrI_ok (h1 _ he i rfl), rfl, rfl⟩))))⟩
    rintro ys ρ ⟨rfl, rfl⟩
    refine then_nx ?_
    refine ok_at (ρ' := [some (tD v), some (tabD t), some (.str s), some (nD k), some (.list (t[k].map fun e => .str (wS e))), none, none]) rfl ?_
    refine ok_set (ok_bin (ok_bin (ok_bin (ok_bin (ok_var (d := .str s) rfl (ok_call (ok_cons (ok_var (d := nD k) rfl (ok_nil ⟨_, gStrI_ok (by omega), ⟨_, gAdd_str (by omega), ok_c ⟨_, gAdd_str (by rw [app_len]; have := len_colon; omega), ok_strM (ok_c ⟨_, rfl, ok_var (d := .list (t[k].map fun e => .str (wS e))) rfl ⟨_, gJoin_ok wS ?_, ?_⟩⟩)⟩⟩⟩)))))))))
    · rw [List.map_map, List.length_map]
      have h2 := sum_le (fun e => (wS e).length) (b := 1) (l := t[k]) fun e he => Nat.le_of_eq (wS_len (h1 e he))
      have h3 : (List.map ((fun x => x.length) ∘ wS) t[k]).sum = (t[k].map fun e => (wS e).length).sum := rfl
      have h4 : (Str.ofString " ").length = 1 := by decide +kernel
      rw [h3, h4]
      omega
    have hw : Txt.join (Str.ofString " ") (t[k].map wS) = wds t[k] := rfl
    rw [hw]
    refine ⟨_, gAdd_str (by rw [app_len, app_len, len_colon]; omega), ok_c ⟨_, gAdd_str (by rw [app_len, app_len, app_len, len_colon, len_nl]; omega), ?_⟩⟩
    refine ⟨_, some (nD k), _, rfl, ?_, by rw [app_len, app_len, app_len, app_len, len_colon, len_nl]; omega⟩
    have e2 : tl (Str.ofString "\n") = [10] := by decide +kernel
    rw [List.take_add_one, lines_at ht hkt]
    show _ = flat ((linesOf v t).take (k + 1) ++ [lineR k t[k]])
    unfold flat
    rw [List.map_append, List.flatten_append]
    show _ = flat ((linesOf v t).take (k + 1)) ++ (tl (lineR k t[k]) ++ [10] ++ [])
    rw [← es]
    unfold lineR
    simp only [tl_append, e2, List.append_nil, List.append_assoc]
    rfl
  · rintro ρ ⟨s, x3, x4, rfl, es, ls⟩
    rw [rangeD_len, Int.toNat_natCast] at es
    refine then_nx (ok_ret (ok_var (d := .str s) rfl (defK_rt rfl ⟨?_, rfl⟩)))
    refine congrArg PyData.str (ext_tl ?_)
    rw [es, TT_tl, List.take_of_length_le]
    · rfl
    · unfold linesOf
      rw [List.length_cons, rowsFrom_len]; omega
end
end Pf
namespace Pf
open PySem MW
theorem tabD_inj {a b : Tb} (h : tabD a = tabD b) : a = b := by
  have h1 := bEq_tab a b
  rw [h] at h1
  have h2 := bEq_tab b b
  rw [h1] at h2
  simpa using h2
end Pf
namespace Pf
open PySem MW
def kK (tr : List Nat) : List Nat := tr.length :: tr
theorem kK_inj {a b : List Nat} (h : kK a = kK b) : a = b := by
  unfold kK at h
  injection h
theorem lt_cons_nat (a b : Nat) (x y : List Nat) : (a :: x < b :: y) ↔ a < b ∨ (a = b ∧ x < y) := by
  constructor
  · intro h
    cases h with
    | rel h => exact .inl h
    | cons h => exact .inr ⟨rfl, h⟩
  · rintro (h | ⟨rfl, h⟩)
    · exact List.Lex.rel h
    · exact List.Lex.cons h
end Pf
namespace Pf
open PySem MW
theorem lt_app : ∀ {a b x y : List Nat}, a < b → a.length = b.length → a ++ x < b ++ y
  | [], [], _, _, h, _ => absurd h (List.lt_irrefl _)
  | [], _ :: _, _, _, _, e => by simp at e
  | _ :: _, [], _, _, _, e => by simp at e
  | c :: a, d :: b, x, y, h, e => by
    rw [List.cons_append, List.cons_append, lt_cons_nat]
    rw [lt_cons_nat] at h
    exact h.imp id fun ⟨h1, h2⟩ => ⟨h1, lt_app h2 (by simpa using e)⟩
theorem lt_snoc {b c : Nat} (h : b < c) : ∀ t : List Nat, t ++ [b] < t ++ [c]
  | [] => by show [b] < [c]; rw [lt_cons_nat]; exact .inl h
  | x :: t => by rw [List.cons_append, List.cons_append, lt_cons_nat]; exact .inr ⟨rfl, lt_snoc h t⟩
theorem le_snoc {a b : List Nat} (h : a ≤ b) (e : a.length = b.length) (o : Nat) : a ++ [o] ≤ b ++ [o] := by
  rcases Classical.em (a = b) with z | z
  · rw [z]; exact List.le_refl _
  · rcases List.le_iff_lt_or_eq.mp h with z2 | z2
    · exact List.le_of_lt (lt_app z2 e)
    · exact absurd z2 z
theorem kK_le {a b : List Nat} : kK a ≤ kK b ↔ a.length < b.length ∨ (a.length = b.length ∧ a ≤ b) := by
  unfold kK
  rw [List.le_iff_lt_or_eq, lt_cons_nat, List.le_iff_lt_or_eq]
  constructor
  · rintro ((h | ⟨h1, h2⟩) | h)
    · exact .inl h
    · exact .inr ⟨h1, .inl h2⟩
    · injection h with h1 h2
      exact .inr ⟨h1, .inr h2⟩
  · rintro (h | ⟨h1, h2 | h2⟩)
    · exact .inl (.inl h)
    · exact .inl (.inr ⟨h1, h2⟩)
    · exact .inr (by rw [h2])
/-- what the states found last lead to, as it comes -/
def cds (near : List (List Nat)) (L : Fd) : Fd := L.flatMap fun p => (near.getD p.1 []).map fun b => (b, p.2 ++ [b])
theorem cds_mem {near : List (List Nat)} {L : Fd} {q : Nat × List Nat} : q ∈ cds near L ↔ ∃ p ∈ L, q.1 ∈ near.getD p.1 [] ∧ q.2 = p.2 ++ [q.1] := by
  unfold cds
  rw [List.mem_flatMap]
  refine exists_congr fun p => and_congr_right fun _ => ?_
  rw [List.mem_map]
  constructor
  · rintro ⟨b, hb, rfl⟩; exact ⟨hb, rfl⟩
  · rintro ⟨h1, h2⟩; exact ⟨q.1, h1, by rw [← h2]⟩
abbrev Asc2 (L : Fd) : Prop := L.Pairwise fun p q => p.2 < q.2
theorem cds_asc {near : List (List Nat)} (asc : ∀ a, (near.getD a []).Pairwise (· < ·)) {k : Nat} : ∀ {L : Fd}, Asc2 L → (∀ p ∈ L, p.2.length = k) → Asc2 (cds near L)
  | [], _, _ => List.Pairwise.nil
  | p :: L, h, hl => by
    obtain ⟨h1, h2⟩ := List.pairwise_cons.mp h
    show List.Pairwise _ ((near.getD p.1 []).map (fun b => (b, p.2 ++ [b])) ++ cds near L)
    rw [List.pairwise_append]
    refine ⟨List.pairwise_map.mpr ((asc p.1).imp fun h => lt_snoc h _), cds_asc asc h2 fun q hq => hl q (List.mem_cons_of_mem _ hq), fun x hx y hy => ?_⟩
    obtain ⟨b, _, rfl⟩ := List.mem_map.mp hx
    obtain ⟨q, hq, _, e⟩ := cds_mem.mp hy
    rw [e]
    exact lt_app (h1 q hq) (by rw [hl p List.mem_cons_self, hl q (List.mem_cons_of_mem _ hq)])
/-- within a round: what has been looked at, and what was found -/
structure GIn (f D R : Fd) : Prop where
  sub : R.Sublist D
  all : ∀ p ∈ D, p.1 ∈ f.map (·.1) ∨ ∃ t, (p.1, t) ∈ R ∧ t ≤ p.2
theorem GIn.new {f D R : Fd} {c : Nat × List Nat} (h : GIn f D R) : GIn f (D ++ [c]) (R ++ [c]) :=
  ⟨List.Sublist.append h.sub (List.Sublist.refl _), fun p hp => by
    rcases List.mem_append.mp hp with z | z
    · exact (h.all p z).imp id fun ⟨t, h1, h2⟩ => ⟨t, List.mem_append_left _ h1, h2⟩
    · rw [List.mem_singleton.mp z]
      exact .inr ⟨c.2, List.mem_append_right _ (List.mem_singleton.mpr rfl), List.le_refl _⟩⟩
theorem GIn.old {f D R : Fd} {c : Nat × List Nat} (h : GIn f D R) (asc : Asc2 (D ++ [c])) (hc : c.1 ∈ (f ++ R).map (·.1)) : GIn f (D ++ [c]) R :=
  ⟨h.sub.trans (List.sublist_append_left _ _), fun p hp => by
    rcases List.mem_append.mp hp with z | z
    · exact h.all p z
    · rw [List.mem_singleton.mp z]
      rw [List.map_append] at hc
      rcases List.mem_append.mp hc with y | y
      · exact .inl y
      · obtain ⟨q, hq, e⟩ := List.mem_map.mp y
        refine .inr ⟨q.2, by rw [← e]; exact hq, List.le_of_lt ?_⟩
        exact (List.pairwise_append.mp asc).2.2 q (h.sub.subset hq) c (List.mem_singleton.mpr rfl)⟩
/-- between the rounds: all states with ways of at most k states -/
structure RIn (near : List (List Nat)) (s k : Nat) (f L : Fd) : Prop extends BInv near s f where
  last : ∀ p ∈ L, p ∈ f ∧ p.2.length = k
  done : ∀ p ∈ f, p ∉ L → p.2.length < k ∧ ∀ o ∈ near.getD p.1 [], o ∈ f.map (·.1)
  asc : Asc2 L
  low : ∀ w o, Way near s w o → w.length ≤ k → ∃ t, (o, t) ∈ f ∧ kK t ≤ kK w
  once : ∀ p ∈ f, p.2.Nodup ∧ ∀ x ∈ p.2, x ∈ f.map (·.1)
theorem Way.len1 {near : List (List Nat)} {s o : Nat} {w : List Nat} (h : Way near s w o) (hl : w.length ≤ 1) : w = [s] ∧ o = s := by
  cases h with
  | one => exact ⟨rfl, rfl⟩
  | more h _ =>
    have := List.length_pos_iff.mpr h.ne
    simp only [List.length_append, List.length_cons, List.length_nil] at hl
    omega
theorem RIn.start {near : List (List Nat)} {s : Nat} (hs : s < near.length) : RIn near s 1 [(s, [s])] [(s, [s])] := by
  refine ⟨⟨by simp, by simpa using hs, by simp, ?_⟩, ?_, ?_, by simp, ?_, ?_⟩
  · intro p hp
    have : p = (s, [s]) := by simpa using hp
    subst this
    exact ⟨.one, by simp⟩
  · intro p hp
    have : p = (s, [s]) := by simpa using hp
    subst this
    exact ⟨by simp, rfl⟩
  · intro p hp hn
    exact absurd hp hn
  · intro w o hw hl
    obtain ⟨rfl, rfl⟩ := hw.len1 hl
    exact ⟨[o], by simp, List.le_refl _⟩
  · intro p hp
    have : p = (s, [s]) := by simpa using hp
    subst this
    exact ⟨by simp, by simp⟩
theorem RIn.next {near : List (List Nat)} {s k : Nat} {f L R : Fd} (h : RIn near s k f L) (k1 : 1 ≤ k) (asc : ∀ a, (near.getD a []).Pairwise (· < ·)) (hB : BInv near s (f ++ R)) (g : GIn f (cds near L) R) : RIn near s (k + 1) (f ++ R) R := by
  have keys : ∀ x, x ∈ f.map (·.1) → x ∈ (f ++ R).map (·.1) := fun x hx => by rw [List.map_append]; exact List.mem_append_left _ hx
  have flen : ∀ p ∈ f, p.2.length ≤ k := fun p hp => by
    by_cases hL : p ∈ L
    · exact Nat.le_of_eq (h.last p hL).2
    · exact Nat.le_of_lt (h.done p hp hL).1
  have rl : ∀ p ∈ R, ∃ a t, (a, t) ∈ L ∧ p.1 ∈ near.getD a [] ∧ p.2 = t ++ [p.1] := fun p hp => by
    obtain ⟨q, hq, h1, h2⟩ := cds_mem.mp (g.sub.subset hp)
    exact ⟨q.1, q.2, hq, h1, h2⟩
  have rlen : ∀ p ∈ R, p.2.length = k + 1 := fun p hp => by
    obtain ⟨a, t, hL, _, e⟩ := rl p hp
    rw [e, List.length_append, (h.last _ hL).2]; rfl
  have nd := hB.nd
  rw [List.map_append, List.nodup_append] at nd
  refine ⟨hB, fun p hp => ⟨List.mem_append_right _ hp, rlen p hp⟩, fun p hp hn => ?_, (cds_asc asc h.asc fun p hp => (h.last p hp).2).sublist g.sub, fun w o hw hl => ?_, fun p hp => ?_⟩
  · have hp : p ∈ f := (List.mem_append.mp hp).resolve_right hn
    refine ⟨by have := flen p hp; omega, fun o ho => ?_⟩
    by_cases hL : p ∈ L
    · rcases g.all (o, p.2 ++ [o]) (cds_mem.mpr ⟨p, hL, ho, rfl⟩) with z | ⟨t, z, _⟩
      · exact keys o z
      · rw [List.map_append]; exact List.mem_append_right _ (List.mem_map.mpr ⟨_, z, rfl⟩)
    · exact keys o ((h.done p hp hL).2 o ho)
  · by_cases hk : w.length ≤ k
    · obtain ⟨t, h1, h2⟩ := h.low w o hw hk
      exact ⟨t, List.mem_append_left _ h1, h2⟩
    · have hwl : w.length = k + 1 := by omega
      have infd : ∀ o, o ∈ f.map (·.1) → ∃ t, (o, t) ∈ f ++ R ∧ kK t ≤ kK w := fun o ho => by
        obtain ⟨q, hq, e⟩ := List.mem_map.mp ho
        exact ⟨q.2, List.mem_append_left _ (by rw [← e]; exact hq), kK_le.mpr (.inl (by have := flen q hq; omega))⟩
      cases hw with
      | one => simp at hwl; omega
      | more hw' ho =>
        rename_i w' a
        rw [List.length_append] at hwl
        have hwl : w'.length = k := by simpa using hwl
        obtain ⟨t, h1, h2⟩ := h.low w' a hw' (by omega)
        by_cases hL : (a, t) ∈ L
        · rcases g.all (o, t ++ [o]) (cds_mem.mpr ⟨(a, t), hL, ho, rfl⟩) with z | ⟨t2, z, le⟩
          · exact infd o z
          · have tl := (h.last _ hL).2
            refine ⟨t2, List.mem_append_right _ z, kK_le.mpr (.inr ⟨?_, ?_⟩)⟩
            · rw [rlen _ z, List.length_append, hwl]; rfl
            · refine List.le_trans le (le_snoc ?_ (by rw [hwl]; exact tl) o)
              rcases kK_le.mp h2 with y | y
              · have tl : t.length = k := tl
                omega
              · exact y.2
        · exact infd o ((h.done _ h1 hL).2 o ho)
  · rcases List.mem_append.mp hp with z | z
    · exact ⟨(h.once p z).1, fun x hx => keys x ((h.once p z).2 x hx)⟩
    · obtain ⟨a, t, hL, _, e⟩ := rl p z
      obtain ⟨o1, o2⟩ := h.once _ (h.last _ hL).1
      have hpn : p.1 ∉ f.map (·.1) := fun y => nd.2.2 _ y p.1 (List.mem_map.mpr ⟨_, z, rfl⟩) rfl
      rw [e]
      refine ⟨?_, fun x hx => ?_⟩
      · rw [List.nodup_append]
        refine ⟨o1, by simp, fun x hx y hy exy => ?_⟩
        rw [List.mem_singleton.mp hy] at exy
        rw [exy] at hx
        exact hpn (o2 _ hx)
      · rcases List.mem_append.mp hx with y | y
        · exact keys x (o2 x y)
        · rw [List.mem_singleton.mp y, List.map_append]
          exact List.mem_append_right _ (List.mem_map.mpr ⟨_, z, rfl⟩)
/-- what the search ends with: the least of the ways to each state -/
structure BLst (near : List (List Nat)) (s : Nat) (f : Fd) : Prop extends BEnd near s f where
  once : ∀ p ∈ f, p.2.Nodup
  least : ∀ p ∈ f, ∀ w, Way near s w p.1 → kK p.2 ≤ kK w
end Pf
namespace Pf
open PySem MW
structure GQ (f D R : Fd) : Prop where
  sub : ∀ p ∈ R, p ∈ D
  all : ∀ p ∈ D, p.1 ∈ f.map (·.1) ∨ ∃ t, (p.1, t) ∈ R ∧ t ≤ p.2
  nd : (R.map (·.1)).Nodup
  dis : ∀ p ∈ R, p.1 ∉ f.map (·.1)
structure QIn (near : List (List Nat)) (s k : Nat) (f L : Fd) : Prop extends BInv near s f where
  last : ∀ p ∈ L, p ∈ f ∧ p.2.length = k
  done : ∀ p ∈ f, p ∉ L → p.2.length < k ∧ ∀ o ∈ near.getD p.1 [], o ∈ f.map (·.1)
  low : ∀ w o, Way near s w o → w.length ≤ k → ∃ t, (o, t) ∈ f ∧ kK t ≤ kK w
  once : ∀ p ∈ f, p.2.Nodup ∧ ∀ x ∈ p.2, x ∈ f.map (·.1)
theorem QIn.start {near : List (List Nat)} {s : Nat} (hs : s < near.length) : QIn near s 1 [(s, [s])] [(s, [s])] :=
  let r := RIn.start hs
  ⟨r.toBInv, r.last, r.done, r.low, r.once⟩
section
variable {near : List (List Nat)} {s k : Nat} {f L R : Fd}
theorem QIn.next (h : QIn near s k f L) (k1 : 1 ≤ k) (hB : BInv near s (f ++ R)) (g : GQ f (cds near L) R) : QIn near s (k + 1) (f ++ R) R := by
  have keys : ∀ x, x ∈ f.map (·.1) → x ∈ (f ++ R).map (·.1) := fun x hx => by rw [List.map_append]; exact List.mem_append_left _ hx
  have flen : ∀ p ∈ f, p.2.length ≤ k := fun p hp => by
    by_cases hL : p ∈ L
    · exact Nat.le_of_eq (h.last p hL).2
    · exact Nat.le_of_lt (h.done p hp hL).1
  have rl : ∀ p ∈ R, ∃ a t, (a, t) ∈ L ∧ p.1 ∈ near.getD a [] ∧ p.2 = t ++ [p.1] := fun p hp => by
    obtain ⟨q, hq, h1, h2⟩ := cds_mem.mp (g.sub p hp)
    exact ⟨q.1, q.2, hq, h1, h2⟩
  have rlen : ∀ p ∈ R, p.2.length = k + 1 := fun p hp => by
    obtain ⟨a, t, hL, _, e⟩ := rl p hp
    rw [e, List.length_append, (h.last _ hL).2]; rfl
  have nd := hB.nd
  rw [List.map_append, List.nodup_append] at nd
  refine ⟨hB, fun p hp => ⟨List.mem_append_right _ hp, rlen p hp⟩, fun p hp hn => ?_, fun w o hw hl => ?_, fun p hp => ?_⟩
  · have hp : p ∈ f := (List.mem_append.mp hp).resolve_right hn
    refine ⟨by have := flen p hp; omega, fun o ho => ?_⟩
    by_cases hL : p ∈ L
    · rcases g.all (o, p.2 ++ [o]) (cds_mem.mpr ⟨p, hL, ho, rfl⟩) with z | ⟨t, z, _⟩
      · exact keys o z
      · rw [List.map_append]; exact List.mem_append_right _ (List.mem_map.mpr ⟨_, z, rfl⟩)
    · exact keys o ((h.done p hp hL).2 o ho)
  · by_cases hk : w.length ≤ k
    · obtain ⟨t, h1, h2⟩ := h.low w o hw hk
      exact ⟨t, List.mem_append_left _ h1, h2⟩
    · have hwl : w.length = k + 1 := by omega
      have infd : ∀ o, o ∈ f.map (·.1) → ∃ t, (o, t) ∈ f ++ R ∧ kK t ≤ kK w := fun o ho => by
        obtain ⟨q, hq, e⟩ := List.mem_map.mp ho
        exact ⟨q.2, List.mem_append_left _ (by rw [← e]; exact hq), kK_le.mpr (.inl (by have := flen q hq; omega))⟩
      cases hw with
      | one => simp at hwl; omega
      | more hw' ho =>
        rename_i w' a
        rw [List.length_append] at hwl
        have hwl : w'.length = k := by simpa using hwl
        obtain ⟨t, h1, h2⟩ := h.low w' a hw' (by omega)
        by_cases hL : (a, t) ∈ L
        · rcases g.all (o, t ++ [o]) (cds_mem.mpr ⟨(a, t), hL, ho, rfl⟩) with z | ⟨t2, z, le⟩
          · exact infd o z
          · have tl := (h.last _ hL).2
            refine ⟨t2, List.mem_append_right _ z, kK_le.mpr (.inr ⟨?_, ?_⟩)⟩
            · rw [rlen _ z, List.length_append, hwl]; rfl
            · refine List.le_trans le (le_snoc ?_ (by rw [hwl]; exact tl) o)
              rcases kK_le.mp h2 with y | y
              · have tl : t.length = k := tl
                omega
              · exact y.2
        · exact infd o ((h.done _ h1 hL).2 o ho)
  · rcases List.mem_append.mp hp with z | z
    · exact ⟨(h.once p z).1, fun x hx => keys x ((h.once p z).2 x hx)⟩
    · obtain ⟨a, t, hL, _, e⟩ := rl p z
      obtain ⟨o1, o2⟩ := h.once _ (h.last _ hL).1
      have hpn : p.1 ∉ f.map (·.1) := g.dis p z
      rw [e]
      refine ⟨?_, fun x hx => ?_⟩
      · rw [List.nodup_append]
        refine ⟨o1, by simp, fun x hx y hy exy => ?_⟩
        rw [List.mem_singleton.mp hy] at exy
        rw [exy] at hx
        exact hpn (o2 _ hx)
      · rcases List.mem_append.mp hx with y | y
        · exact keys x (o2 x y)
        · rw [List.mem_singleton.mp y, List.map_append]
          exact List.mem_append_right _ (List.mem_map.mpr ⟨_, z, rfl⟩)
end
theorem GQ.old {f D R : Fd} {c : Nat × List Nat} (h : GQ f D R) (hc : c.1 ∈ f.map (·.1)) : GQ f (D ++ [c]) R :=
  ⟨fun p hp => List.mem_append_left _ (h.sub p hp), fun p hp => by
    rcases List.mem_append.mp hp with z | z
    · exact h.all p z
    · rw [List.mem_singleton.mp z]; exact .inl hc, h.nd, h.dis⟩
theorem Way.tr {near near' : List (List Nat)} (h : ∀ a o, o ∈ near.getD a [] → o ∈ near'.getD a []) {s o : Nat} {w : List Nat} (x : Way near s w o) : Way near' s w o := by
  induction x with
  | one => exact .one
  | more w hb ih => exact ih.more (h _ _ hb)
theorem BLst.tr {near near' : List (List Nat)} {s : Nat} {f : Fd} (hl : near.length = near'.length) (h : ∀ a o, o ∈ near.getD a [] ↔ o ∈ near'.getD a []) (x : BLst near s f) : BLst near' s f := by
  have h1 : ∀ a o, o ∈ near.getD a [] → o ∈ near'.getD a [] := fun a o => (h a o).mp
  have h2 : ∀ a o, o ∈ near'.getD a [] → o ∈ near.getD a [] := fun a o => (h a o).mpr
  refine ⟨⟨⟨x.nd, fun p hp => by rw [← hl]; exact x.lt p hp, x.st, fun p hp => ⟨(x.wy p hp).1.tr h1, (x.wy p hp).2⟩⟩, fun o => ?_⟩, x.once, fun p hp w hw => x.least p hp w (hw.tr h2)⟩
  rw [← x.all o]
  exact ⟨fun ⟨t, w⟩ => ⟨t, w.tr h2⟩, fun ⟨t, w⟩ => ⟨t, w.tr h1⟩⟩
/-- two searches find the same -/
theorem BLst.same {near : List (List Nat)} {s : Nat} {f g : Fd} (x : BLst near s f) (y : BLst near s g) : ∀ p, p ∈ f → p ∈ g := fun p hp => by
  have hk : p.1 ∈ g.map (·.1) := (y.all p.1).mp ⟨p.2, (x.wy p hp).1⟩
  obtain ⟨q, hq, e⟩ := List.mem_map.mp hk
  have l1 := x.least p hp q.2 (by rw [← e]; exact (y.wy q hq).1)
  have l2 := y.least q hq p.2 (by rw [e]; exact (x.wy p hp).1)
  have : p.2 = q.2 := kK_inj (List.le_antisymm l1 l2)
  have : p = q := Prod.ext e.symm this
  rw [this]; exact hq
end Pf
namespace Pf
open PySem MW
theorem bEq_strs7 (a b : Str) : bEq (.str a) (.str b) = some (a == b) := by
  unfold bEq
  by_cases z : SeqAt.shaped (.str a) = true ∧ SeqAt.shaped (.str b) = true
  · rw [if_pos z]
    by_cases e : a = b
    · subst e; simp [PyData.eqv]
    · simp [PyData.eqv, e]
  · rw [if_neg z]
    simp [sEq]
    by_cases e : a = b
    · subst e; simp
    · simp [e]
/-- plain things: numbers, None, tuples of such -/
inductive Pl : Nat → D → Prop
  | num (k a : Nat) : Pl k (nD a)
  | non (k : Nat) : Pl k .none
  | tup (k : Nat) (ds : List D) (h : ∀ d ∈ ds, Pl k d) : Pl (k + 1) (.tuple ds)
theorem Pl.lay : ∀ {k : Nat} {d : D}, Pl k d → d.canLay0 = true ∧ d.depth ≤ k + 1
  | _, _, .num k a => ⟨rfl, Nat.zero_le _⟩
  | _, _, .non k => ⟨rfl, Nat.zero_le _⟩
  | _, _, .tup k ds h => by
    have : ∀ l : List D, (∀ d ∈ l, d.canLay0 = true ∧ d.depth ≤ k + 1) → PyData.canLayAll0 l = true ∧ PyData.depthAll l ≤ k + 1 := by
      intro l
      induction l with
      | nil => intro _; exact ⟨rfl, Nat.zero_le _⟩
      | cons x l ih =>
        intro hl
        have h1 := hl x List.mem_cons_self
        have h2 := ih fun d hd => hl d (List.mem_cons_of_mem _ hd)
        refine ⟨by simp [PyData.canLayAll0, h1.1, h2.1], ?_⟩
        simp only [PyData.depthAll]
        omega
    have z := this ds fun d hd => (h d hd).lay
    refine ⟨by simp [PyData.canLay0, z.1], ?_⟩
    simp only [PyData.depth]
    omega
theorem Pl.shaped {k : Nat} {d : D} (h : Pl k d) (hk : k ≤ 20) : SeqAt.shaped d = true := by
  have := h.lay
  simp [SeqAt.shaped, this.1]
  omega
end Pf
namespace Pf
open PySem MW
section
variable {v u : List Nat} {c k : Nat} {t r : Tb}
/-- in one part -/
theorem lt_own (hs : Sound v c t) {s o : Nat} (h : s < v.length) : LT t s o ↔ cell t s (v.getD o 0) = some o := by
  constructor
  · rintro ⟨w, e⟩
    have hw : w < c := by
      by_cases h1 : s < t.length
      · have hr := hs.tab.2 t[s] (List.getElem_mem h1)
        by_cases h2 : w < t[s].length
        · rw [← hr.1]; exact h2
        · unfold cell at e
          simp [List.getD_eq_getElem?_getD, h1, h2] at e
      · exact absurd (by rw [hs.tab.1]; exact h) h1
    rw [hs.shown s w o h hw e]; exact e
  · exact fun h => ⟨_, h⟩
theorem lt_refl (hs : Sound v c t) {s : Nat} (h : s < v.length) : LT t s s := (lt_own hs h).mpr (hs.stay s h)
theorem lt_row (hv : Vw v c) (hs : Sound v c t) {s o : Nat} (h : s < v.length) (e : LT t s o) : o < v.length ∧ ∀ x, x < c → cell t o x = cell t s x := by
  have e := (lt_own hs h).mp e
  have ho := Tab.lt hs.tab e
  exact ⟨ho, hs.forget s _ o h (vw_getD hv ho) e⟩
/-- what two independent parts are -/
structure Ind (n : Nat) (v u : List Nat) (c k : Nat) (t r : Tb) : Prop where
  hv : Vw v c
  hu : Vw u k
  vl : v.length = n
  ul : u.length = n
  st : Sound v c t
  sr : Sound u k r
  ku : ∀ s o, s < n → LT t s o → u.getD o 0 = u.getD s 0
  kv : ∀ s o, s < n → LT r s o → v.getD o 0 = v.getD s 0
  com : ∀ s q o, s < n → LT t s q → LT r q o → ∃ q', LT r s q' ∧ LT t q' o
  moc : ∀ s q o, s < n → LT r s q → LT t q o → ∃ q', LT t s q' ∧ LT r q' o
namespace Ind
variable {n : Nat}
def TR (t r : Tb) (s o : Nat) : Prop := ∃ q, LT t s q ∧ LT r q o
theorem tl (h : Ind n v u c k t r) {s o : Nat} (hs : s < n) (e : LT t s o) : o < n := by
  have := (lt_row h.hv h.st (by rw [h.vl]; exact hs) e).1
  rw [h.vl] at this; exact this
theorem rl (h : Ind n v u c k t r) {s o : Nat} (hs : s < n) (e : LT r s o) : o < n := by
  have := (lt_row h.hu h.sr (by rw [h.ul]; exact hs) e).1
  rw [h.ul] at this; exact this
/-- all the values meet -/
theorem full (h : Ind n v u c k t r) {a b : Nat} (ha : a < n) (e : TR t r a b) : ∃ m, TR t r a m ∧ v.getD m 0 = v.getD a 0 ∧ u.getD m 0 = u.getD b 0 := by
  obtain ⟨q, e1, e2⟩ := e
  obtain ⟨q', f1, f2⟩ := h.com a q b ha e1 e2
  have hq' := h.rl ha f1
  refine ⟨q', ⟨a, lt_refl h.st (by rw [h.vl]; exact ha), f1⟩, h.kv a q' ha f1, ?_⟩
  exact (h.ku q' b hq' f2).symm
theorem two (h : Ind n v u c k t r) {s o : Nat} (hs : s < n) (e : TR t r s o) : ∃ q, q < n ∧ cell t s (v.getD o 0) = some q ∧ cell r q (u.getD o 0) = some o := by
  obtain ⟨q, e1, e2⟩ := e
  have hq := h.tl hs e1
  refine ⟨q, hq, ?_, (lt_own h.sr (by rw [h.ul]; exact hq)).mp e2⟩
  rw [h.kv q o hq e2]
  exact (lt_own h.st (by rw [h.vl]; exact hs)).mp e1
end Ind
end
end Pf
namespace Pf
open PySem MW
variable {v : List Nat} {c : Nat}
theorem Pn.nd {n : Nat} {ps : List (List Nat)} (h : Pn v n ps) : ps.flatten.Nodup := h.all.nodup_iff.mpr List.nodup_range
end Pf
namespace Pf
open PySem MW
section
variable {v : List Nat} {c : Nat}
abbrev Dif (v q : List Nat) : Prop := ∀ a ∈ q, ∀ b ∈ q, v.getD a 0 = v.getD b 0 → a = b
structure Fp (v : List Nat) (s0 : Nat) (r : List Nat) (k : Nat) (F : List (List Nat)) : Prop where
  ok : ∀ q ∈ F, ∃ u, q = s0 :: u ∧ u.Sublist (r.take k) ∧ Dif v q
  wt : sm F (fun q => 6 ^ (k + 1 - q.length)) ≤ 7 ^ k
  nd : F.Nodup
  all : ∀ u, u.Sublist (r.take k) → Dif v (s0 :: u) → (s0 :: u) ∈ F
theorem Fp.len {s0 : Nat} {r : List Nat} {k : Nat} {F : List (List Nat)} (h : Fp v s0 r k F) {q : List Nat} (hq : q ∈ F) : 1 ≤ q.length ∧ q.length ≤ k + 1 := by
  obtain ⟨u, rfl, hs, _⟩ := h.ok q hq
  have := hs.length_le
  rw [List.length_take] at this
  simp; omega
structure Gj (v st : List Nat) (js : List (List Nat)) : Prop where
  perm : js.flatten.Perm st
  sub : ∀ q ∈ js, q ≠ [] ∧ q.Pairwise (· < ·) ∧ Dif v q
  ord : js.Pairwise fun a b => a.headD 0 < b.headD 0
theorem Gj.hd {st : List Nat} {js : List (List Nat)} (h : Gj v st js) {q : List Nat} (hq : q ∈ js) : q.headD 0 ∈ st := by
  refine h.perm.mem_iff.mp (List.mem_flatten.mpr ⟨q, hq, ?_⟩)
  obtain ⟨hne, _⟩ := h.sub q hq
  cases q with
  | nil => exact absurd rfl hne
  | cons a u => exact List.mem_cons_self
theorem Gj.few {st : List Nat} {js : List (List Nat)} (h : Gj v st js) : js.length ≤ st.length := by
  rw [← h.perm.length_eq, List.length_flatten]
  have : ∀ l : List (List Nat), (∀ q ∈ l, q ≠ []) → l.length ≤ (l.map List.length).sum := by
    intro l
    induction l with
    | nil => intro _; exact Nat.le_refl _
    | cons a l ih =>
      intro hne
      have h1 := ih fun q hq => hne q (List.mem_cons_of_mem _ hq)
      have h2 := List.length_pos_iff.mpr (hne a List.mem_cons_self)
      rw [List.map_cons, List.sum_cons, List.length_cons]
      omega
  exact this js fun q hq => (h.sub q hq).1
end
end Pf
namespace Pf
open PySem MW
theorem bNe_strs (a b : Str) : bNe (.str a) (.str b) = some (!(a == b)) := by
  have h := bEq_strs7 a b
  unfold bEq at h
  unfold bNe
  split at h
  · rename_i z
    rw [if_pos z]
    have h := Option.some.inj h
    rw [h]
  · rename_i z
    rw [if_neg z]
    rw [h]; rfl
end Pf
namespace Pf
open PySem MW
theorem cutD_fr (ds : List D) {k : Nat} (h : k ≤ ds.length) : cutD ds (some (k : Int)) none = ds.drop k := by
  unfold cutD
  rw [HT.sIx_nat, HT.sIx_none, Nat.min_eq_left h]
  exact List.take_of_length_le (by rw [List.length_drop]; exact Nat.le_refl _)
theorem cutD_one (ds : List D) : cutD ds none (some 1) = ds.take 1 := by
  cases ds with
  | nil => rfl
  | cons a w => exact cutD_to (k := 1) (a :: w) (by simp)
end Pf
namespace Pf
open PySem MW L2 TL
theorem spl_ne (S : List Nat) : ∀ (k : Nat) (acc L : List Nat), spl S k acc L ≠ []
  | k, acc, [] => by rw [spl_nil]; simp
  | 0, acc, c :: r => by
    unfold spl
    split
    · simp
    · exact spl_ne S 0 _ r
  | k + 1, acc, c :: r => by
    show spl S k acc r ≠ []
    exact spl_ne S k acc r
theorem spl_len (S : List Nat) : ∀ (k : Nat) (acc L : List Nat) (p : List Nat), p ∈ spl S k acc L → p.length ≤ acc.length + L.length
  | k, acc, [], p, h => by
    rw [spl_nil] at h
    rw [List.mem_singleton.mp h]; simp
  | 0, acc, c :: r, p, h => by
    unfold spl at h
    split at h
    · rcases List.mem_cons.mp h with rfl | h
      · omega
      · have := spl_len S _ [] r p h
        simp only [List.length_nil, List.length_cons] at this ⊢
        omega
    · have := spl_len S 0 (acc ++ [c]) r p h
      simp only [List.length_append, List.length_cons, List.length_nil] at this ⊢
      omega
  | k + 1, acc, c :: r, p, h => by
    have h : p ∈ spl S k acc r := h
    have := spl_len S k acc r p h
    rw [List.length_cons]; omega
theorem nl_tl : tl (Str.ofString "\n") = [10] := by decide +kernel
theorem sp_tl : tl (Str.ofString " ") = [32] := by decide +kernel
def lns (x : Str) : List Str := Txt.split x "\n"
def wrds (x : Str) : List Str := Txt.split x " "
theorem lns_tl (x : Str) : (lns x).map tl = spl [10] 0 [] (tl x) := by
  have := split_spl x (Str.ofString "\n") (by rw [nl_tl]; simp) (kind_ok (by decide +kernel))
  rw [nl_tl] at this
  exact this
theorem wrds_tl (x : Str) : (wrds x).map tl = spl [32] 0 [] (tl x) := by
  have := split_spl x (Str.ofString " ") (by rw [sp_tl]; simp) (kind_ok (by decide +kernel))
  rw [sp_tl] at this
  exact this
theorem lns_cons (x : Str) : ∃ l ls, lns x = l :: ls := by
  cases e : lns x with
  | nil => exact absurd (lns_tl x) (by rw [e]; exact fun z => spl_ne _ _ _ _ z.symm)
  | cons l ls => exact ⟨l, ls, rfl⟩
theorem wrds_cons (x : Str) : ∃ l ls, wrds x = l :: ls := by
  cases e : wrds x with
  | nil => exact absurd (wrds_tl x) (by rw [e]; exact fun z => spl_ne _ _ _ _ z.symm)
  | cons l ls => exact ⟨l, ls, rfl⟩
theorem lns_le {x l : Str} (h : l ∈ lns x) : l.length ≤ x.length := by
  have := spl_len [10] 0 [] (tl x) (tl l) (by rw [← lns_tl]; exact List.mem_map_of_mem h)
  rw [len_tl, len_tl]; simpa using this
theorem wrds_le {x l : Str} (h : l ∈ wrds x) : l.length ≤ x.length := by
  have := spl_len [32] 0 [] (tl x) (tl l) (by rw [← wrds_tl]; exact List.mem_map_of_mem h)
  rw [len_tl, len_tl]; simpa using this
def entO (w : Str) : Option Nat := match tl w with
  | [a] => if 48 ≤ a ∧ a < 58 then some (a - 48) else none
  | _ => none
theorem digits_tl : tl (Str.ofString "0123456789") = [48, 49, 50, 51, 52, 53, 54, 55, 56, 57] := by decide +kernel
theorem entry_any {w : Str} (hw : w.length ≤ 16777216) : Ok (m__entry [.str w]) (fun z os => z = oD (entO w) ∧ os = [none]) := by
  refine ok_def (ρ0 := [some (.str w)]) (by rfl) ?_
  unfold mb__entry
  refine ok_ret (ok_if (ok_andB (ok_test (ok_call (ok_cons (ok_var (d := .str w) rfl (ok_nil ⟨.int (w.length : Nat), if_pos hw, ok_c ⟨_, bEq_int _ _, ?_⟩⟩)))))))
  by_cases h1 : w.length = 1
  · rw [show (((w.length : Nat) : Int) == (1 : Int)) = true by rw [h1]; rfl]
    refine L2.iteT (ok_test (ok_var (d := .str w) rfl (ok_c ?_)))
    obtain ⟨a, ea⟩ : ∃ a, tl w = [a] := by
      rw [len_tl] at h1
      exact List.length_eq_one_iff.mp h1
    have hb : bInS (.str w) (.str "0123456789") = some (decide (a ∈ tl (Str.ofString "0123456789"))) := by
      have e : w = ⟨#[a]⟩ := ext_tl (by rw [ea])
      have := PySem.StrLaws.found_one (Str.ofString "0123456789") a
      show some (!(Builtin.Str.occurrences (Str.ofString "0123456789") w 0 (Str.ofString "0123456789").length 1).isEmpty) = _
      rw [e, this]
    refine ⟨_, hb, ?_⟩
    rw [digits_tl]
    by_cases hd : 48 ≤ a ∧ a < 58
    · rw [decide_eq_true (by simp only [List.mem_cons, List.not_mem_nil, or_false]; omega)]
      obtain ⟨g1, g2, g3⟩ := dg_small (a - 48) (by omega)
      have e : w = dg (a - 48) := ext_tl (by rw [ea, g1]; congr 1; omega)
      have eo : entO w = some (a - 48) := by unfold entO; rw [ea]; exact if_pos hd
      rw [eo]
      refine L2.iteT (ok_call (ok_cons (ok_var (d := .str w) rfl (ok_nil ⟨nD (a - 48), ?_, defK_rt rfl ⟨rfl, rfl⟩⟩))))
      show (if w.length ≤ 640 then (intText? w).map PyData.int else none) = _
      rw [if_pos (by omega), e, g2]; rfl
    · rw [decide_eq_false (by simp only [List.mem_cons, List.not_mem_nil, or_false]; omega)]
      have eo : entO w = none := by unfold entO; rw [ea]; exact if_neg hd
      rw [eo]
      exact L2.iteF (ok_c (defK_rt rfl ⟨rfl, rfl⟩))
  · rw [show (((w.length : Nat) : Int) == (1 : Int)) = false by
      rw [beq_eq_false_iff_ne]; intro z; exact h1 (by omega)]
    have eo : entO w = none := by
      unfold entO
      split
      · rename_i a ea
        rw [len_tl, ea] at h1
        exact absurd rfl h1
      · rfl
    rw [eo]
    exact L2.iteF (L2.iteF (ok_c (defK_rt rfl ⟨rfl, rfl⟩)))
def ents (l : Str) : List (Option Nat) := ((wrds l).drop 1).map entO
abbrev wlD (l : Str) : D := .list ((wrds l).map .str)
theorem entries_any {l : Str} (hl : l.length ≤ 16777216) : Ok (m__entries [wlD l]) (fun z os => z = rD (ents l) ∧ os = [none]) := by
  obtain ⟨w, ws, e⟩ := wrds_cons l
  have hm : ∀ x ∈ ws, x.length ≤ 16777216 := fun x hx => Nat.le_trans (wrds_le (x := l) (by rw [e]; exact List.mem_cons_of_mem _ hx)) hl
  have ee : ents l = ws.map entO := by unfold ents; rw [e]; rfl
  rw [ee]
  have ew : wlD l = .list (.str w :: ws.map .str) := by show PyData.list ((wrds l).map .str) = _; rw [e]; rfl
  rw [ew]
  refine ok_def (ρ0 := [some (.list (.str w :: ws.map .str)), none]) (by rfl) ?_
  unfold mb__entries
  refine ok_ret (ok_call (ok_cons (ok_lst (ok_lc (ok_seqD (ok_slL (ok_var (d := .list (.str w :: ws.map .str)) rfl (ok_part (ok_c ⟨1, rfl, ok_noP ⟨_, rfl, _, rfl, ?_⟩⟩)))))))))
  rw [cut_one]
  refine (comp_map (enc := PyData.str) (fun w => oD (entO w)) (l := ws) fun x hx => ?_).mono ?_
  · refine ⟨_, rfl, ok_callD (ok_cons (ok_var (d := .str x) rfl (ok_nil ⟨_, rfl, ?_⟩)))⟩
    refine (entry_any (hm x hx)).mono ?_
    rintro z os ⟨rfl, rfl⟩
    exact ⟨rfl, rfl⟩
  rintro ys ρ ⟨rfl, rfl⟩
  refine ok_nil ⟨_, gTupleOf_ok, defK_rt rfl ⟨?_, rfl⟩⟩
  show PyData.tuple (ws.map fun w => oD (entO w)) = .tuple ((ws.map entO).map oD)
  rw [List.map_map]; rfl
theorem cut_dropLast (ds : List D) : cutD ds none (some (-1 : Int)) = ds.dropLast := by
  unfold cutD
  rw [HT.sIx_none, List.drop_zero, Nat.sub_zero, List.dropLast_eq_take]
  congr 1
  simp only [HT.sIx]
  rw [if_pos (by omega)]
  omega
section
variable {x l0 : Str} {ls : List Str}
abbrev rs2 : Ev → Out Fl := mStar 3 4 (mLst (mLc (mSeqD (mLst (mStrML gSplit (mVar 0) (mC (.str "\n"))))) (gN 5) mYes (mLst (mStrML gSplit (mVar 5) (mC (.str " ")))) [5]))
abbrev rs3 : Ev → Out Fl := mSet 1 (mCallD m__entries [none] (mCons (mVar 3) mNil))
abbrev rs4 : Ev → Out Fl := mSet 2 (mCall gTupleOf (mCons (mLst (mLc (mSeqD (mSl (mVar 4) mNoP (mPart (mUn gNeg (mC (.int 1)))))) (gN 5) mYes (mCallD m__entries [none] (mCons (mVar 5) mNil)) [5])) mNil))
abbrev rst : Ev → Out Bool := mOrB (mNotB (mTru (mCallD m_is_view [none] (mCons (mVar 1) mNil)))) (mOrB (mNotB (mTru (mCallD m_is_table [none, none] (mCons (mVar 1) (mCons (mVar 2) mNil))))) (mTest bNe (mCallD m_table_text [none, none] (mCons (mVar 1) (mCons (mVar 2) mNil))) (mVar 0)))
def Good (x l0 : Str) (ls : List Str) (v : List Nat) (c : Nat) (t : List (List (Option Nat))) : Prop := Vw v c ∧ Tab v.length c t ∧ ents l0 = v.map some ∧ ls.dropLast.map ents = t ∧ TT v t = x
theorem rs2_ok (hx : x.length ≤ 1000000) (e : lns x = l0 :: ls) : Ok (rs2 [some (.str x), none, none, none, none, none]) (fun fl ρ => fl = .nx ∧ ρ = [some (.str x), none, none, some (wlD l0), some (.list (ls.map wlD)), none]) := by
  have hnl := len_nl
  have hs1 : (Str.ofString " ").length = 1 := by decide +kernel
  refine ok_star (ok_lst (ok_lc (ok_seqD (ok_lst (ok_strML (ok_var (d := .str x) rfl ⟨x, rfl, ok_c ⟨(lns x).map .str, ?_, _, rfl, ?_⟩⟩))))))
  · show (if ((Str.ofString "\n").length == 0) = false ∧ x.length + 2 ≤ 16777216 then some ((Txt.split x (Str.ofString "\n")).map PyData.str) else none) = _
    rw [if_pos ⟨by rw [hnl]; rfl, by omega⟩]; rfl
  refine (comp_map (enc := PyData.str) wlD (l := lns x) fun l hl => ?_).mono ?_
  · have := lns_le hl
    refine ⟨_, rfl, ok_lst (ok_strML (ok_var (d := .str l) rfl ⟨l, rfl, ok_c ⟨(wrds l).map .str, ?_, rfl, rfl⟩⟩))⟩
    show (if ((Str.ofString " ").length == 0) = false ∧ l.length + 2 ≤ 16777216 then some ((Txt.split l (Str.ofString " ")).map PyData.str) else none) = _
    rw [if_pos ⟨by rw [hs1]; rfl, by omega⟩]; rfl
  rintro ys ρ ⟨rfl, rfl⟩
  rw [e]
  exact ⟨_, _, rfl, rfl, rfl⟩
theorem rs3_ok (hx : x.length ≤ 1000000) (e : lns x = l0 :: ls) : Ok (rs3 [some (.str x), none, none, some (wlD l0), some (.list (ls.map wlD)), none]) (fun fl ρ => fl = .nx ∧ ρ = [some (.str x), some (rD (ents l0)), none, some (wlD l0), some (.list (ls.map wlD)), none]) := by
  have := lns_le (x := x) (l := l0) (by rw [e]; exact List.mem_cons_self)
  refine ok_set (ok_callD (ok_cons (ok_var (d := wlD l0) rfl (ok_nil ⟨_, rfl, ?_⟩))))
  refine (entries_any (by omega)).mono ?_
  rintro z os ⟨rfl, rfl⟩
  exact ⟨rfl, rfl⟩
theorem rs4_ok (hx : x.length ≤ 1000000) (e : lns x = l0 :: ls) : Ok (rs4 [some (.str x), some (rD (ents l0)), none, some (wlD l0), some (.list (ls.map wlD)), none]) (fun fl ρ => fl = .nx ∧ ρ = [some (.str x), some (rD (ents l0)), some (tabD (ls.dropLast.map ents)), some (wlD l0), some (.list (ls.map wlD)), none]) := by
  refine ok_set (ok_call (ok_cons (ok_lst (ok_lc (ok_seqD (ok_slL (ok_var (d := .list (ls.map wlD)) rfl (ok_noP (ok_part (ok_un (ok_c ⟨.int (-1), rfl, -1, rfl, _, rfl, _, rfl, ?_⟩)))))))))))
  rw [cut_dropLast, ← List.map_dropLast]
  refine (comp_map (enc := wlD) (fun l => rD (ents l)) (l := ls.dropLast) fun l hl => ?_).mono ?_
  · have := lns_le (x := x) (l := l) (by rw [e]; exact List.mem_cons_of_mem _ (List.dropLast_subset _ hl))
    refine ⟨_, rfl, ok_callD (ok_cons (ok_var (d := wlD l) rfl (ok_nil ⟨_, rfl, ?_⟩)))⟩
    refine (entries_any (by omega)).mono ?_
    rintro z os ⟨rfl, rfl⟩
    exact ⟨rfl, rfl⟩
  rintro ys ρ ⟨rfl, rfl⟩
  refine ok_nil ⟨_, gTupleOf_ok, rfl, ?_⟩
  have e2 : tabD (ls.dropLast.map ents) = .tuple (ls.dropLast.map fun l => rD (ents l)) := by
    show PyData.tuple ((ls.dropLast.map ents).map rD) = _
    rw [List.map_map]; rfl
  rw [e2]; rfl
theorem oD_inj {a b : Option Nat} (h : oD a = oD b) : a = b := by
  cases a with
  | none => cases b with
    | none => rfl
    | some j => cases h
  | some i => cases b with
    | none => cases h
    | some j =>
      have h : PyData.int (i : Int) = .int (j : Int) := h
      injection h with h
      rw [Int.ofNat_inj.mp h]
theorem rD_tD {r : List (Option Nat)} {v : List Nat} (h : rD r = tD v) : r = v.map some := by
  rw [tD_rD] at h
  have h : r.map oD = (v.map some).map oD := by injection h
  exact List.map_inj_right (fun a b => oD_inj) |>.mp h
theorem vw_uniqT {v : List Nat} {c k : Nat} (h : Vw v c) (g : Vw v k) : c = k := by
  obtain ⟨a1, a2, a3, a4, a5⟩ := h
  obtain ⟨b1, b2, b3, b4, b5⟩ := g
  have := a4 (k - 1) (b5 (k - 1) (by omega))
  have := b4 (c - 1) (a5 (c - 1) (by omega))
  omega
theorem rst_ok (y3 y4 : Option D) : Ok (rst [some (.str x), some (rD (ents l0)), some (tabD (ls.dropLast.map ents)), y3, y4, none]) (fun b ρ => (b = false ↔ ∃ v c t, Good x l0 ls v c t) ∧ ρ = [some (.str x), some (rD (ents l0)), some (tabD (ls.dropLast.map ents)), y3, y4, none]) := by
  refine ok_orB (ok_notB (ok_tru (ok_callD (ok_cons (ok_var (d := rD (ents l0)) rfl (ok_nil ⟨_, rfl, ?_⟩))))))
  refine (view_any (rD (ents l0))).mono ?_
  rintro z os ⟨⟨b, rfl, hb⟩, rfl⟩
  cases b with
  | false =>
    refine ⟨false, rfl, L2.iteT ⟨⟨fun z => (by cases z), ?_⟩, rfl⟩⟩
    rintro ⟨v, c, t, g1, g2, g3, g4, g5⟩
    have := hb.mpr ⟨v, c, by rw [g3, ← tD_rD], g1⟩
    cases this
  | true =>
    obtain ⟨v, c, ev, hv⟩ := hb.mp rfl
    have ev2 := rD_tD ev
    refine ⟨true, rfl, L2.iteF ?_⟩
    refine ok_at (ρ' := [some (.str x), some (rD (ents l0)), some (tabD (ls.dropLast.map ents)), y3, y4, none]) rfl ?_
    refine ok_orB (ok_notB (ok_tru (ok_callD (ok_cons (ok_var (d := rD (ents l0)) rfl (ok_cons (ok_var (d := tabD (ls.dropLast.map ents)) rfl (ok_nil ⟨_, rfl, ?_⟩))))))))
    rw [ev]
    refine (table_any hv (tabD (ls.dropLast.map ents))).mono ?_
    rintro z os ⟨rfl, rfl⟩
    cases hb2 : tabB v.length c (tabD (ls.dropLast.map ents)) with
    | false =>
      refine ⟨false, rfl, L2.iteT ⟨⟨fun z => (by cases z), ?_⟩, by rw [← ev]; rfl⟩⟩
      rintro ⟨v', c', t, g1, g2, g3, g4, g5⟩
      have e1 : v' = v := List.map_inj_right (fun a b h => Option.some.inj h) |>.mp (g3.symm.trans ev2)
      subst e1
      have e2 := vw_uniqT g1 hv
      subst e2
      obtain ⟨d, zs, q, rfl, _⟩ := (table_is g1 g2).eq
      obtain ⟨d, zs', q', rfl, _⟩ := (table_any g1 (tabD t)).eq
      rw [q] at q'
      injection q' with q' _
      injection q' with q'
      rw [g4, ← q'] at hb2
      cases hb2
    | true =>
      obtain ⟨t, et, ht⟩ := tab_of hb2
      have et2 := tabD_inj et
      refine ⟨true, rfl, L2.iteF ?_⟩
      refine ok_at (ρ' := [some (.str x), some (tD v), some (tabD t), y3, y4, none]) (by rw [← et, ← ev]; rfl) ?_
      refine ok_test (ok_callD (ok_cons (ok_var (d := tD v) rfl (ok_cons (ok_var (d := tabD t) rfl (ok_nil ⟨_, rfl, ?_⟩))))))
      refine (table_text_ok hv ht).mono ?_
      rintro z os ⟨rfl, rfl⟩
      refine ok_var (d := .str x) rfl ⟨_, bNe_strs _ _, ?_, by rw [← et, ← ev]; rfl⟩
      constructor
      · intro z
        refine ⟨v, c, t, hv, ht, ev2, et2, ?_⟩
        rw [Bool.not_eq_false', beq_iff_eq] at z
        exact z
      · rintro ⟨v', c', t', g1, g2, g3, g4, g5⟩
        have e1 : v' = v := List.map_inj_right (fun a b h => Option.some.inj h) |>.mp (g3.symm.trans ev2)
        subst e1
        have e3 : t' = t := g4.symm.trans et2
        subst e3
        rw [g5]
        simp
end
end Pf
namespace Pf
open PySem MW L2 TL
section
variable {x l0 : Str} {ls : List Str} {v : List Nat} {c : Nat} {t : List (List (Option Nat))}
theorem read_no (hx : x.length ≤ 1000000) (e : lns x = l0 :: ls) (g : ¬ ∃ v c t, Good x l0 ls v c t) : Er (m_read_table [.str x]) "NoText" fun os => os = [none] := by
  refine er_def ?_
  unfold mb_read_table
  refine er_seq2 (ok_ifS (ok_notB (ok_tru (ok_isD (ok_var (d := .str x) rfl ⟨true, rfl, L2.iteF (ok_next ⟨rfl, ?_⟩)⟩)))))
  refine er_seq2 ((rs2_ok hx e).mono ?_)
  rintro fl ρ ⟨rfl, rfl⟩
  refine ⟨rfl, er_seq2 ((rs3_ok hx e).mono ?_)⟩
  rintro fl ρ ⟨rfl, rfl⟩
  refine ⟨rfl, er_seq2 ((rs4_ok hx e).mono ?_)⟩
  rintro fl ρ ⟨rfl, rfl⟩
  refine ⟨rfl, er_seq (er_ifY ((rst_ok _ _).mono ?_))⟩
  rintro b ρ ⟨hb, rfl⟩
  cases b with
  | true => exact ⟨rfl, rfl, rfl, rfl⟩
  | false => exact absurd (hb.mp rfl) g
theorem entO_wS {e : Option Nat} (h : ∀ i, e = some i → i < 10) : entO (wS e) = e := by
  cases e with
  | none => decide +kernel
  | some i =>
    have hi := h i rfl
    unfold entO
    show (match tl (dg i) with | [a] => if 48 ≤ a ∧ a < 58 then some (a - 48) else none | _ => none) = some i
    rw [(dg_small i hi).1]
    show (if 48 ≤ 48 + i ∧ 48 + i < 58 then some (48 + i - 48) else none) = some i
    rw [if_pos (by omega)]
    congr 1; omega
theorem free32 {r : List (Option Nat)} (h : Sm10 r) : ∀ p ∈ r.map fun e => tl (wS e), 32 ∉ p := by
  intro p hp
  obtain ⟨e, he, rfl⟩ := List.mem_map.mp hp
  obtain ⟨a, ea, ha⟩ := wS_tl (h e he)
  show 32 ∉ tl (wS e)
  rw [ea, List.mem_singleton]
  omega
theorem join_cons {S p : List Nat} {ps : List (List Nat)} (h : ps ≠ []) : joinL S (p :: ps) = p ++ (S ++ joinL S ps) := by
  cases ps with
  | nil => exact absurd rfl h
  | cons q r => rfl
theorem wrds_of {l w : Str} {p : List Nat} {r : List (Option Nat)} (h : Sm10 r) (hr : 1 ≤ r.length) (ep : tl w = p) (hp : 32 ∉ p) (e : tl l = p ++ (32 :: tl (wds r))) : wrds l = w :: r.map wS := by
  refine map_tl_inj ?_
  rw [wrds_tl, List.map_cons, ep, List.map_map]
  have e2 : tl l = joinL [32] (p :: r.map fun e => tl (wS e)) := by
    rw [join_cons (by intro z; rw [List.map_eq_nil_iff] at z; rw [z] at hr; simp at hr), e, wds_tl]; rfl
  rw [e2]
  refine spl_join (s := 32) (S := []) (by simp) fun q hq => ?_
  rcases List.mem_cons.mp hq with rfl | hq
  · exact hp
  · exact free32 h q hq
theorem ents_of {l w : Str} {r : List (Option Nat)} (h : Sm10 r) (e : wrds l = w :: r.map wS) : ents l = r := by
  unfold ents
  rw [e]
  show (r.map wS).map entO = r
  rw [List.map_map]
  conv => rhs; rw [← List.map_id r]
  exact List.map_congr_left fun e he => entO_wS (h e he)
theorem ents_view (hv : Vw v c) : ents (line0 v) = v.map some := by
  have hl := hv.1
  refine ents_of (view_sm hv) (wrds_of (p := [118, 105, 101, 119]) (w := Str.ofString "view") (view_sm hv) (by rw [List.length_map]; exact hl) (by decide +kernel) (by decide) ?_)
  have e1 : tl (Str.ofString "view ") = [118, 105, 101, 119, 32] := by decide +kernel
  unfold line0
  rw [tl_append, tl_append, e1]; rfl
theorem wds_free {r : List (Option Nat)} (h : Sm10 r) : 10 ∉ tl (wds r) := fun hm => by
  rw [wds_tl] at hm
  rcases joinL_mem hm with z | ⟨p, hp, z⟩
  · simp at z
  · obtain ⟨e, he, rfl⟩ := List.mem_map.mp hp
    obtain ⟨a, ea, ha⟩ := wS_tl (h e he)
    have z : 10 ∈ tl (wS e) := z
    rw [ea, List.mem_singleton] at z
    omega
theorem line_free (hv : Vw v c) (ht : Tab v.length c t) {l : Str} (h : l ∈ linesOf v t) : 10 ∉ tl l := by
  rcases List.mem_cons.mp h with rfl | h
  · have e1 : tl (Str.ofString "view ") = [118, 105, 101, 119, 32] := by decide +kernel
    have := wds_free (view_sm hv)
    unfold line0
    rw [tl_append, tl_append, e1]
    intro z
    rcases List.mem_append.mp z with z | z
    · exact absurd z (by decide)
    · exact this z
  · obtain ⟨k, hk, e⟩ := List.mem_iff_getElem.mp h
    rw [rowsFrom_len] at hk
    have e2 := rowsFrom_at 0 t k hk
    rw [List.getElem?_eq_getElem (by rw [rowsFrom_len]; exact hk), e] at e2
    have e2 := Option.some.inj e2
    obtain ⟨h1, h2, _⟩ := tab_row10 hv ht (List.getElem_mem hk)
    have := wds_free h1
    have ed := (dg_small (0 + k) (by have := ht.1; have := hv.2.1; omega)).1
    have e1 : tl (Str.ofString ": ") = [58, 32] := by decide +kernel
    rw [e2]
    unfold lineR
    rw [tl_append, tl_append, tl_append, ed, e1]
    intro z
    rcases List.mem_append.mp z with z | z
    · have z : 10 ∈ [] ++ [48 + (0 + k)] ++ [58, 32] := z
      simp only [List.nil_append, List.cons_append, List.mem_cons, List.not_mem_nil, or_false] at z
      omega
    · exact this z
theorem spl_lines : ∀ ls : List (List Nat), (∀ l ∈ ls, 10 ∉ l) → spl [10] 0 [] ((ls.map fun l => l ++ [10]).flatten) = ls ++ [[]]
  | [], _ => rfl
  | l :: ls, h => by
    rw [List.map_cons, List.flatten_cons, List.append_assoc]
    have := spl_part1 (s := 10) (S := []) (p := l) (rest := (ls.map fun l => l ++ [10]).flatten) (acc := []) (h l List.mem_cons_self)
    rw [show l ++ ([10] ++ (ls.map fun l => l ++ [10]).flatten) = l ++ (10 :: [] ++ (ls.map fun l => l ++ [10]).flatten) from rfl, this, spl_lines ls fun q hq => h q (List.mem_cons_of_mem _ hq)]
    rfl
theorem lns_TT (hv : Vw v c) (ht : Tab v.length c t) : lns (TT v t) = line0 v :: (rowsFrom 0 t ++ [Str.empty]) := by
  refine map_tl_inj ?_
  rw [lns_tl, TT_tl]
  have e : ((linesOf v t).map fun l => tl l ++ [10]) = ((linesOf v t).map tl).map fun l => l ++ [10] := by rw [List.map_map]; rfl
  rw [e, spl_lines _ fun p hp => by
    obtain ⟨l, hl, rfl⟩ := List.mem_map.mp hp
    exact line_free hv ht hl]
  unfold linesOf
  rw [List.map_cons, List.map_cons, List.map_append]
  rfl
theorem flatT_len {b : Nat} : ∀ {ls : List Str}, (∀ l ∈ ls, l.length ≤ b) → (ls.map fun l => tl l ++ [10]).flatten.length ≤ (b + 1) * ls.length
  | [], _ => by simp
  | l :: ls, h => by
    have := flatT_len (ls := ls) fun q hq => h q (List.mem_cons_of_mem _ hq)
    have h1 := h l List.mem_cons_self
    rw [len_tl] at h1
    rw [List.map_cons, List.flatten_cons, List.length_append, List.length_append, List.length_singleton, List.length_cons, Nat.mul_add, Nat.mul_one]
    omega
theorem TT_len (hv : Vw v c) (ht : Tab v.length c t) : 5 ≤ (TT v t).length ∧ (TT v t).length ≤ 240 := by
  rw [len_tl, TT_tl]
  have h1 := flatT_len (b := 23) fun l hl => line_len hv ht hl
  have h2 := lines_len hv ht
  refine ⟨?_, by omega⟩
  unfold linesOf
  rw [List.map_cons, List.flatten_cons, List.length_append, List.length_append]
  have e1 : tl (Str.ofString "view ") = [118, 105, 101, 119, 32] := by decide +kernel
  unfold line0
  rw [tl_append, tl_append, e1, List.length_append, List.length_append]
  simp only [List.length_cons, List.length_nil]
  omega
theorem lany_ok {N : Int} {d : D} (h : Pen N d) (hN : N ≤ 100000) (hv : Vw v c) : Ok (m__law_any [d, tD v]) (fun z os => ∃ t p, z = tabD t ∧ Tab v.length c t ∧ os = [some p, none] ∧ Pen (N + 100) p) := by
  have hv0 := hv
  obtain ⟨v1, v2, v3, v4, v5⟩ := hv
  refine ok_def (ρ0 := [some d, some (tD v), none, none, none, none, none]) (by rfl) ?_
  unfold mb__law_any
  refine ok_seq (ok_setL (ok_nil (then_nx ?_)))
  refine ok_at (ρ' := [some d, some (tD v), some (.list []), none, none, none, none]) rfl ?_
  refine ok_seq (ok_for (ok_range1 (ok_cons (ok_call (ok_cons (ok_var (d := tD v) rfl (ok_nil ⟨_, gLenT_ok, ok_nil ⟨_, rfl, by rw [List.length_map]; omega, ?_⟩⟩)))))))
  rw [List.length_map]
  refine for_inv (fun k ρ => ∃ (p : D) (t : List (List (Option Nat))) (x3 x4 x5 x6 : Option D), ρ = [some p, some (tD v), some (.list (t.map rD)), x3, x4, none, none] ∧ Pen (N + 10 * k) p ∧ t.length = k ∧ ∀ r ∈ t, RowOk v.length c r) 0 ⟨d, [], none, none, none, none, rfl, pen_le h (by omega), rfl, (fun r hr => by cases hr)⟩ ?_ ?_
  · rintro i e ρ hi0 ⟨p, t, x3, x4, x5, x6, rfl, hp, htl, ht⟩
    obtain ⟨hi, rfl⟩ := rangeD_at hi0
    rw [Int.toNat_natCast] at hi
    refine ⟨_, rfl, ?_⟩
    refine ok_at (ρ' := [some p, some (tD v), some (.list (t.map rD)), some (nD i), x4, none, none]) rfl ?_
    refine ok_seq (ok_set (ok_lst (ok_lc (ok_range1 (ok_cons (ok_bin (ok_call (ok_cons (ok_var (d := tD v) rfl (ok_nil ⟨_, max_view hv0, ok_c ⟨_, gAdd_ok, ok_nil ⟨_, rfl, by omega, ?_⟩⟩⟩))))))))))
    rw [show ((c : Int) - 1 + 1).toNat = c by omega, rangeD_nD]
    refine ok_at (ρ' := [some p, some (tD v), some (.list (t.map rD)), some (nD i), x4, none, none]) rfl ?_
    refine comp_list (fun k ys ρ => ∃ (p : D) (r : List Nat), ρ = [some p, some (tD v), some (.list (t.map rD)), some (nD i), x4, none, none] ∧ Pen (N + 10 * (0 + i : Nat) + k) p ∧ ys = r.map nD ∧ r.length = k ∧ ∀ x ∈ r, x ≤ v.length) ⟨p, [], rfl, pen_le hp (by omega), rfl, rfl, fun x hx => by cases hx⟩ ?_ ?_
    · rintro w hw ys ρ ⟨p, r, rfl, hp, rfl, hrl, hr⟩
      obtain ⟨e, hw⟩ := range_get hw
      refine ⟨_, rfl, ok_yes ?_⟩
      refine L2.iteT ?_
      refine ok_callD (ok_lend (d := p) rfl (ok_cons (ok_bin (ok_call (ok_cons (ok_var (d := tD v) rfl (ok_nil ⟨_, gLenT_ok, ok_c ⟨_, gAdd_ok, ok_nil ⟨_, rfl, ?_⟩⟩⟩)))))))
      rw [List.length_map]
      refine (draw_ok hp (by omega) (by omega) (by omega)).mono ?_
      rintro z os ⟨x, p, rfl, h4, h5, rfl, hp⟩
      obtain ⟨x, rfl⟩ := Int.eq_ofNat_of_zero_le h4
      refine ⟨p, r ++ [x], rfl, pen_le hp (by omega), by simp, by simp [hrl], fun y hy => ?_⟩
      rcases List.mem_append.mp hy with z | z
      · exact hr y z
      · rw [List.mem_singleton.mp z]; omega
    · rintro ys ρ ⟨p, r, rfl, hp, rfl, hrl, hr⟩
      rw [List.length_range] at hrl hp
      refine then_nx ?_
      refine ok_at (ρ' := [some p, some (tD v), some (.list (t.map rD)), some (nD i), some (.list (r.map nD)), none, none]) rfl ?_
      refine ok_drop (ok_upd (d := .list (t.map rD)) rfl (ok_cons (ok_call (ok_cons (ok_lst (ok_lc (ok_seqD (ok_var (d := .list (r.map nD)) rfl ⟨_, rfl, ?_⟩))))))))
      refine (comp_map (enc := nD) (fun x => oD (if x = v.length then none else some x)) (l := r) fun x hx => ?_).mono ?_
      · refine ⟨_, rfl, ok_if (ok_test (ok_var (d := nD x) rfl (ok_call (ok_cons (ok_var (d := tD v) rfl (ok_nil ⟨_, gLenT_ok, _, bEq_int _ _, ?_⟩))))))⟩
        rw [List.length_map]
        by_cases hc : x = v.length
        · rw [if_pos hc, show (((x : Nat) : Int) == ((v.length : Nat) : Int)) = true by rw [hc]; exact beq_self_eq_true _]
          exact L2.iteT (ok_c ⟨rfl, rfl⟩)
        · rw [if_neg hc, show (((x : Nat) : Int) == ((v.length : Nat) : Int)) = false by rw [beq_eq_false_iff_ne]; omega]
          exact L2.iteF (ok_var (d := nD x) rfl ⟨rfl, rfl⟩)
      rintro ys ρ ⟨rfl, rfl⟩
      refine ok_nil ⟨_, gTupleOf_ok, ok_nil ⟨_, _, _, rfl, fApp_ok (by rw [List.length_map]; omega), ?_⟩⟩
      refine ⟨p, t ++ [r.map fun x => if x = v.length then none else some x], some (nD i), some (.list (r.map nD)), x5, x6, ?_, pen_le hp (by omega), by rw [List.length_append]; simp; omega, fun q hq => ?_⟩
      · rw [List.map_append]
        have e3 : rD (r.map fun x => if x = v.length then none else some x) = .tuple (r.map fun x => oD (if x = v.length then none else some x)) := by
          show PyData.tuple ((r.map fun x => if x = v.length then none else some x).map oD) = _
          rw [List.map_map]; rfl
        rw [show [r.map fun x => if x = v.length then none else some x].map rD = [.tuple (r.map fun x => oD (if x = v.length then none else some x))] by rw [← e3]; rfl]
        rfl
      · rcases List.mem_append.mp hq with z | z
        · exact ht q z
        · rw [List.mem_singleton.mp z]
          refine ⟨by rw [List.length_map, hrl], fun e he j hj => ?_⟩
          obtain ⟨x, hx, rfl⟩ := List.mem_map.mp he
          have := hr x hx
          split at hj
          · cases hj
          · cases hj; omega
  · rintro ρ ⟨p, t, x3, x4, x5, x6, rfl, hp, htl, ht⟩
    rw [rangeD_len, Int.toNat_natCast] at htl hp
    refine then_nx (ok_ret (ok_callO (d := .list (t.map rD)) rfl gTupleOf_ok (defK_rt rfl ⟨t, p, rfl, ⟨by omega, ht⟩, rfl, pen_le hp (by omega)⟩)))
end
end Pf
namespace Pf
open PySem MW L2 TL
def dgB (x : Nat) : Bool := decide (48 ≤ x) && decide (x < 58)
def adj (a b : Nat) : Bool :=
  if a = 118 then b == 105 else if a = 105 then b == 101 else if a = 101 then b == 119 else if a = 119 then b == 32 else if a = 32 then dgB b || b == 45
  else if a = 45 then b == 32 || b == 10 else if a = 58 then b == 32 else if a = 10 then dgB b else dgB a && (b == 32 || b == 10 || b == 58)
def chB : List Nat → Bool
  | a :: b :: r => adj a b && chB (b :: r)
  | _ => true
theorem chB_cons {a b : Nat} {r : List Nat} : chB (a :: b :: r) = (adj a b && chB (b :: r)) := rfl
theorem chB_tail {a : Nat} {r : List Nat} (h : chB (a :: r) = true) : chB r = true := by
  cases r with
  | nil => rfl
  | cons b r => rw [chB_cons, Bool.and_eq_true] at h; exact h.2
theorem chB_in {a b : Nat} {q : List Nat} : ∀ {p : List Nat}, chB (p ++ a :: b :: q) = true → adj a b = true
  | [], h => by
    have h : chB (a :: b :: q) = true := h
    rw [chB_cons, Bool.and_eq_true] at h; exact h.1
  | x :: p, h => chB_in (p := p) (chB_tail (a := x) h)
/-- what is so of the text of a table -/
structure Okk (L : List Nat) : Prop where
  ch : chB L = true
  hd : L.head? = some 118
  la : L.getLast? = some 10
  c58 : 58 ∈ L
  c48 : 48 ∈ L
  c32 : 32 ∈ L
theorem no_pair {L p q : List Nat} {a b : Nat} (e : L = p ++ a :: b :: q) (h : adj a b = false) : ¬ Okk L := fun o => by
  have := o.ch
  rw [e] at this
  rw [chB_in this] at h; cases h
def rowsL (i : Nat) (t : List (List (Option Nat))) : List Nat := ((rowsFrom i t).map fun l => tl l ++ [10]).flatten
theorem colon_tl : tl (Str.ofString ": ") = [58, 32] := by decide +kernel
theorem view_tl : tl (Str.ofString "view ") = [118, 105, 101, 119, 32] := by decide +kernel
theorem lineR_tl {i : Nat} (hi : i < 10) (r : List (Option Nat)) : tl (lineR i r) = (48 + i) :: 58 :: 32 :: tl (wds r) := by
  unfold lineR
  rw [tl_append, tl_append, tl_append, (dg_small i hi).1, colon_tl]; rfl
theorem rowsL_cons {i : Nat} (hi : i < 10) (r : List (Option Nat)) (t : List (List (Option Nat))) : rowsL i (r :: t) = (48 + i) :: 58 :: 32 :: (tl (wds r) ++ 10 :: rowsL (i + 1) t) := by
  show (tl (lineR i r) ++ [10]) ++ rowsL (i + 1) t = _
  rw [lineR_tl hi]
  simp
theorem line0_tl (v : List Nat) : tl (line0 v) = 118 :: 105 :: 101 :: 119 :: 32 :: tl (wds (v.map some)) := by
  unfold line0
  rw [tl_append, tl_append, view_tl]; rfl
theorem TT_form (v : List Nat) (t : List (List (Option Nat))) : tl (TT v t) = tl (line0 v) ++ 10 :: rowsL 0 t := by
  rw [TT_tl]
  show (tl (line0 v) ++ [10]) ++ rowsL 0 t = _
  simp
/-- the words of a row -/
theorem wds_one {e : Option Nat} : tl (wds [e]) = tl (wS e) := by rw [wds_tl]; rfl
theorem wds_two {e f : Option Nat} {r : List (Option Nat)} : tl (wds (e :: f :: r)) = tl (wS e) ++ 32 :: tl (wds (f :: r)) := by rw [wds_tl, wds_tl]; rfl
theorem sgn_adj {a b : Nat} (ha : a = 45 ∨ 48 ≤ a ∧ a < 58) (hb : b = 32 ∨ b = 10) : adj a b = true := by
  rcases ha with rfl | ⟨h1, h2⟩
  · rcases hb with rfl | rfl <;> rfl
  · obtain ⟨k, rfl⟩ : ∃ k, a = 48 + k := ⟨a - 48, by omega⟩
    have hk : k < 10 := by omega
    clear h1 h2
    rcases hb with rfl | rfl
    · revert k; decide
    · revert k; decide
theorem dg_adj {k b : Nat} (h : k < 10) (hb : b = 58 ∨ b = 32 ∨ b = 10) : adj (48 + k) b = true := by
  rcases hb with rfl | rfl | rfl <;> (revert k; decide)
theorem adj_sgn {a : Nat} (ha : a = 45 ∨ 48 ≤ a ∧ a < 58) : adj 32 a = true := by
  rcases ha with rfl | ⟨h1, h2⟩
  · rfl
  · show (dgB a || a == 45) = true
    unfold dgB; rw [decide_eq_true h1, decide_eq_true h2]; rfl
theorem ch_wds {rest : List Nat} (hc : chB (10 :: rest) = true) : ∀ {r : List (Option Nat)}, Sm10 r → 1 ≤ r.length → chB (32 :: (tl (wds r) ++ 10 :: rest)) = true
  | [e], h, _ => by
    obtain ⟨a, ea, ha⟩ := wS_tl (h e List.mem_cons_self)
    rw [wds_one, ea]
    show chB (32 :: a :: 10 :: rest) = true
    rw [chB_cons, chB_cons, adj_sgn ha, sgn_adj ha (.inr rfl), hc]; rfl
  | e :: f :: r, h, _ => by
    obtain ⟨a, ea, ha⟩ := wS_tl (h e List.mem_cons_self)
    have ih := ch_wds hc (r := f :: r) (fun x hx => h x (List.mem_cons_of_mem _ hx)) (by simp)
    rw [wds_two, ea]
    show chB (32 :: a :: 32 :: (tl (wds (f :: r)) ++ 10 :: rest)) = true
    rw [chB_cons, chB_cons, adj_sgn ha, sgn_adj ha (.inl rfl), ih]; rfl
theorem ch_rows : ∀ {i : Nat} {t : List (List (Option Nat))}, i + t.length ≤ 10 → (∀ r ∈ t, Sm10 r ∧ 1 ≤ r.length) → chB (10 :: rowsL i t) = true
  | _, [], _, _ => rfl
  | i, r :: t, hi, h => by
    rw [List.length_cons] at hi
    have ih := ch_rows (i := i + 1) (t := t) (by omega) fun q hq => h q (List.mem_cons_of_mem _ hq)
    obtain ⟨h1, h2⟩ := h r List.mem_cons_self
    have hw := ch_wds ih h1 h2
    rw [rowsL_cons (by omega)]
    rw [chB_cons, chB_cons, chB_cons, hw, dg_adj (by omega) (.inl rfl)]
    have : adj 10 (48 + i) = true := by
      have hi2 : i < 10 := by omega
      clear ih hw h hi
      revert i; decide
    rw [this]; rfl
section
variable {v : List Nat} {c : Nat} {t : List (List (Option Nat))}
theorem rows_h (hv : Vw v c) (ht : Tab v.length c t) : ∀ r ∈ t, Sm10 r ∧ 1 ≤ r.length := fun r hr => ⟨(tab_row10 hv ht hr).1, (tab_row10 hv ht hr).2.2⟩
theorem rowsL_last : ∀ {i : Nat} {t : List (List (Option Nat))}, i + t.length ≤ 10 → 1 ≤ t.length → (∀ r ∈ t, Sm10 r ∧ 1 ≤ r.length) → ∃ Q a, rowsL i t = Q ++ [a, 10] ∧ (a = 45 ∨ 48 ≤ a ∧ a < 58)
  | i, [r], hi, _, h => by
    obtain ⟨h1, h2⟩ := h r List.mem_cons_self
    have : ∀ {r : List (Option Nat)}, Sm10 r → 1 ≤ r.length → ∃ Q a, tl (wds r) = Q ++ [a] ∧ (a = 45 ∨ 48 ≤ a ∧ a < 58) := by
      intro r
      induction r with
      | nil => intro _ h; simp at h
      | cons e r ih =>
        intro h _
        cases r with
        | nil =>
          obtain ⟨a, ea, ha⟩ := wS_tl (h e List.mem_cons_self)
          exact ⟨[], a, by rw [wds_one, ea]; rfl, ha⟩
        | cons f r =>
          obtain ⟨Q, a, e1, ha⟩ := ih (fun x hx => h x (List.mem_cons_of_mem _ hx)) (by simp)
          exact ⟨tl (wS e) ++ 32 :: Q, a, by rw [wds_two, e1]; simp, ha⟩
    obtain ⟨Q, a, e1, ha⟩ := this h1 h2
    refine ⟨(48 + i) :: 58 :: 32 :: Q, a, ?_, ha⟩
    rw [List.length_singleton] at hi
    rw [rowsL_cons (by omega), e1]
    show _ = _
    simp [rowsL, rowsFrom]
  | i, r :: q :: t, hi, _, h => by
    rw [List.length_cons] at hi
    obtain ⟨Q, a, e1, ha⟩ := rowsL_last (i := i + 1) (t := q :: t) (by omega) (by simp) fun x hx => h x (List.mem_cons_of_mem _ hx)
    exact ⟨(48 + i) :: 58 :: 32 :: (tl (wds r) ++ 10 :: Q), a, by rw [rowsL_cons (by omega), e1]; simp, ha⟩
theorem rowsL_head {i : Nat} {t : List (List (Option Nat))} (hi : i < 10) (h : 1 ≤ t.length) : ∃ r, rowsL i t = (48 + i) :: 58 :: r := by
  cases t with
  | nil => simp at h
  | cons r t => exact ⟨_, rowsL_cons hi r t⟩
/-- its first signs -/
theorem TT_head (hv : Vw v c) (t : List (List (Option Nat))) : ∃ d r, tl (TT v t) = 118 :: 105 :: 101 :: 119 :: 32 :: d :: r ∧ 48 ≤ d ∧ d < 58 := by
  have h1 := hv.1
  rw [TT_form, line0_tl]
  cases v with
  | nil => simp at h1
  | cons x v =>
    obtain ⟨a, ea, ha⟩ := wS_tl (e := some x) fun i e => by cases e; exact vw_x10 hv List.mem_cons_self
    have hd : 48 ≤ a ∧ a < 58 := by
      have e2 : tl (wS (some x)) = [48 + x] := (dg_small x (vw_x10 hv List.mem_cons_self)).1
      rw [e2] at ea
      have := vw_x10 hv (x := x) List.mem_cons_self
      injection ea with ea _
      omega
    cases v with
    | nil => exact ⟨a, _, by rw [List.map_singleton, wds_one, ea]; rfl, hd⟩
    | cons y v => exact ⟨a, _, by rw [List.map_cons, List.map_cons, wds_two, ea]; rfl, hd⟩
theorem TT_last (hv : Vw v c) (ht : Tab v.length c t) : ∃ Q a, tl (TT v t) = Q ++ [a, 10] ∧ (a = 45 ∨ 48 ≤ a ∧ a < 58) := by
  have := ht.1
  have := hv.1
  have := hv.2.1
  obtain ⟨Q, a, e, ha⟩ := rowsL_last (i := 0) (t := t) (by omega) (by omega) (rows_h hv ht)
  exact ⟨tl (line0 v) ++ 10 :: Q, a, by rw [TT_form, e]; simp, ha⟩
theorem okk_TT (hv : Vw v c) (ht : Tab v.length c t) : Okk (tl (TT v t)) := by
  have h1 := ht.1
  have h2 := hv.1
  have h3 := hv.2.1
  obtain ⟨d, r, eh, _⟩ := TT_head hv t
  obtain ⟨Q, a, el, _⟩ := TT_last hv ht
  obtain ⟨q, eq⟩ := rowsL_head (i := 0) (t := t) (by omega) (by omega)
  have hm : ∀ x, x ∈ rowsL 0 t → x ∈ tl (TT v t) := fun x hx => by rw [TT_form]; exact List.mem_append_right _ (List.mem_cons_of_mem _ hx)
  refine ⟨?_, by rw [eh]; rfl, by rw [el, show Q ++ [a, 10] = (Q ++ [a]) ++ [10] by simp, List.getLast?_append]; rfl, hm _ (by rw [eq]; simp), hm _ (by rw [eq]; simp), by rw [eh]; simp⟩
  have hr := ch_rows (i := 0) (t := t) (by omega) (rows_h hv ht)
  have hw := ch_wds hr (view_sm hv) (by rw [List.length_map]; exact h2)
  rw [TT_form, line0_tl]
  show chB (118 :: 105 :: 101 :: 119 :: 32 :: (tl (wds (v.map some)) ++ 10 :: rowsL 0 t)) = true
  rw [chB_cons, chB_cons, chB_cons, chB_cons, hw]; rfl
end
/-- no text of a table -/
def NoT (x : Str) : Prop := ∀ v c t, Vw v c → Tab v.length c t → TT v t ≠ x
theorem noT_of {x : Str} (h : ¬ Okk (tl x)) : NoT x := fun v c t hv ht e => h (by rw [← e]; exact okk_TT hv ht)
theorem read_noT {x : Str} (h : NoT x) (hx : x.length ≤ 1000000) : Er (m_read_table [.str x]) "NoText" fun os => os = [none] := by
  obtain ⟨l, ls, e⟩ := lns_cons x
  exact read_no hx e fun ⟨v, c, t, g1, g2, _, _, g5⟩ => h v c t g1 g2 g5
theorem read_odd {d : D} (h : isD "str" d = false) : Er (m_read_table [d]) "NoText" fun os => os = [none] := by
  refine er_def ?_
  unfold mb_read_table
  refine er_seq (er_ifY (ok_notB (ok_tru (ok_isD (ok_var (d := d) rfl ⟨false, by rw [h]; rfl, rfl, rfl, rfl, rfl⟩)))))
theorem replL_one {c : Nat} {z : List Nat} : ∀ L : List Nat, StrLaws.replL [c] z L = L.flatMap fun a => if a = c then z else [a]
  | [] => StrLaws.replL_nil
  | a :: L => by
    by_cases h : a = c
    · rw [StrLaws.replL_hit (by simp) (by rw [h]; rfl), List.flatMap_cons, if_pos h, ← replL_one L]; rfl
    · rw [StrLaws.replL_miss (by intro z; exact h (by simpa using z)), List.flatMap_cons, if_neg h, ← replL_one L]; rfl
theorem repl_tl (x y z : Str) (h : 1 ≤ y.length) : tl (Txt.replace x y z) = StrLaws.replL (tl y) (tl z) (tl x) := StrLaws.replace_list h
theorem one_mid {c : Nat} {z p q : List Nat} : StrLaws.replL [c] z (p ++ c :: q) = (p.flatMap fun a => if a = c then z else [a]) ++ (z ++ (q.flatMap fun a => if a = c then z else [a])) := by
  rw [replL_one, List.flatMap_append, List.flatMap_cons, if_pos rfl]
theorem one_gone {c : Nat} {z L : List Nat} (h : c ∉ z) : c ∉ StrLaws.replL [c] z L := by
  rw [replL_one]
  intro m
  obtain ⟨a, _, ha⟩ := List.mem_flatMap.mp m
  split at ha
  · exact h ha
  · next hne => exact hne (List.mem_singleton.mp ha).symm
end Pf
namespace Pf
open PySem MW L2 TL
abbrev Sgn (a : Nat) : Prop := a = 45 ∨ 48 ≤ a ∧ a < 58
structure Fm (T : List Nat) : Prop where
  okk : Okk T
  hd : ∃ d r, T = 118 :: 105 :: 101 :: 119 :: 32 :: d :: r ∧ 48 ≤ d ∧ d < 58
  la : ∃ Q a, T = Q ++ [a, 10] ∧ Sgn a
theorem fm_TT {v : List Nat} {c : Nat} {t : List (List (Option Nat))} (hv : Vw v c) (ht : Tab v.length c t) : Fm (tl (TT v t)) := ⟨okk_TT hv ht, TT_head hv t, TT_last hv ht⟩
section
variable {T : List Nat}
theorem hd_no {L : List Nat} {a : Nat} {r : List Nat} (e : L = a :: r) (h : a ≠ 118) : ¬ Okk L := fun o => by
  have := o.hd
  rw [e] at this
  exact h (Option.some.inj this)
theorem la_no {L Q : List Nat} {a : Nat} (e : L = Q ++ [a]) (h : a ≠ 10) : ¬ Okk L := fun o => by
  have := o.la
  rw [e, List.getLast?_append] at this
  exact h (Option.some.inj this)
theorem k1 (f : Fm T) : ¬ Okk T.dropLast := by
  obtain ⟨Q, a, e, ha⟩ := f.la
  refine la_no (Q := Q) (a := a) ?_ (by rcases ha with h | h <;> omega)
  rw [e, show Q ++ [a, 10] = (Q ++ [a]) ++ [10] by simp, List.dropLast_concat]
theorem k2 (f : Fm T) : ¬ Okk (T ++ [10]) := by
  obtain ⟨Q, a, e, ha⟩ := f.la
  exact no_pair (p := Q ++ [a]) (a := 10) (b := 10) (q := []) (by rw [e]; simp) rfl
theorem k3 : ¬ Okk (10 :: T) := hd_no rfl (by decide)
theorem k4 : ¬ Okk (32 :: T) := hd_no rfl (by decide)
theorem k5 : ¬ Okk (T ++ [32]) := la_no rfl (by decide)
theorem k6 (f : Fm T) : ¬ Okk (T ++ T) := by
  obtain ⟨Q, a, e, ha⟩ := f.la
  obtain ⟨d, r, e2, _⟩ := f.hd
  refine no_pair (p := Q ++ [a]) (a := 10) (b := 118) (q := 105 :: 101 :: 119 :: 32 :: d :: r) ?_ rfl
  calc T ++ T = (Q ++ [a, 10]) ++ (118 :: 105 :: 101 :: 119 :: 32 :: d :: r) := by rw [← e, ← e2]
    _ = _ := by simp
theorem k7 (f : Fm T) : ¬ Okk (T.drop 1) := by
  obtain ⟨d, r, e2, _⟩ := f.hd
  exact hd_no (a := 105) (r := 101 :: 119 :: 32 :: d :: r) (by rw [e2]; rfl) (by decide)
theorem k8 (f : Fm T) : ¬ Okk (T.dropLast ++ [32, 10]) := by
  obtain ⟨Q, a, e, ha⟩ := f.la
  refine no_pair (p := Q ++ [a]) (a := 32) (b := 10) (q := []) ?_ rfl
  rw [e, show Q ++ [a, 10] = (Q ++ [a]) ++ [10] by simp, List.dropLast_concat]
theorem k_one (f : Okk T) {c x y : Nat} {z : List Nat} (hc : c ∈ T) (h : adj x y = false) : ¬ Okk (StrLaws.replL [c] (x :: y :: z) T) := by
  obtain ⟨p, q, e⟩ := List.append_of_mem hc
  rw [e, one_mid]
  exact no_pair (p := _) (a := x) (b := y) (q := z ++ _) rfl h
theorem c10 (f : Fm T) : 10 ∈ T := by
  obtain ⟨Q, a, e, _⟩ := f.la
  rw [e]; simp
theorem k9 (f : Fm T) : ¬ Okk (StrLaws.replL [32] [32, 32] T) := k_one f.okk f.okk.c32 rfl
theorem k10 (f : Fm T) : ¬ Okk (StrLaws.replL [118, 105, 101, 119] [86, 105, 101, 119] T) := by
  obtain ⟨d, r, e2, _⟩ := f.hd
  rw [e2, StrLaws.replL_hit (by simp) rfl]
  exact hd_no rfl (by decide)
theorem k11 (f : Fm T) : ¬ Okk (StrLaws.replL [118, 105, 101, 119] [118, 105, 101, 119, 58] T) := by
  obtain ⟨d, r, e2, _⟩ := f.hd
  rw [e2, StrLaws.replL_hit (by simp) rfl]
  exact no_pair (p := [118, 105, 101]) (a := 119) (b := 58) rfl rfl
theorem k12 : ¬ Okk (StrLaws.replL [58] [] T) := fun o => one_gone (by simp) o.c58
theorem k13 (f : Fm T) : ¬ Okk (StrLaws.replL [58] [32, 58] T) := k_one f.okk f.okk.c58 rfl
theorem k14 : ¬ Okk (StrLaws.replL [58] [59] T) := fun o => one_gone (by simp) o.c58
theorem copy_no {y z : List Nat} {c : Nat} {rest : List Nat} : ∀ {p : List Nat}, c ∉ p → StrLaws.replL (c :: y) z (p ++ rest) = p ++ StrLaws.replL (c :: y) z rest
  | [], _ => rfl
  | a :: p, h => by
    have ha : a ≠ c := fun z => h (by rw [z]; exact List.mem_cons_self)
    rw [List.cons_append, StrLaws.replL_miss (by
      intro z
      rw [List.length_cons, List.take_succ_cons] at z
      injection z with z _
      exact ha z), copy_no fun m => h (List.mem_cons_of_mem _ m)]
    rfl
theorem next_of {L p q : List Nat} {a : Nat} (o : Okk L) (e : L = p ++ a :: q) (ha : a ≠ 10) : ∃ b r, q = b :: r ∧ adj a b = true := by
  cases q with
  | nil => exact absurd o (la_no e ha)
  | cons b r => exact ⟨b, r, rfl, chB_in (p := p) (by rw [← e]; exact o.ch)⟩
theorem adj58 {b : Nat} (h : adj 58 b = true) : b = 32 := by
  have h : (b == 32) = true := h
  simpa using h
theorem adj32 {b : Nat} (h : adj 32 b = true) : b ≠ 58 ∧ b ≠ 32 := by
  have h : (dgB b || b == 45) = true := h
  unfold dgB at h
  simp only [Bool.or_eq_true, Bool.and_eq_true, decide_eq_true_eq, beq_iff_eq] at h
  omega
theorem k15 (f : Fm T) : ¬ Okk (StrLaws.replL [58, 32] [58] T) := by
  obtain ⟨p, q, e, hp⟩ := List.eq_append_cons_of_mem f.okk.c58
  obtain ⟨b, r, rfl, hb⟩ := next_of f.okk e (by decide)
  have hb := adj58 hb
  subst hb
  obtain ⟨x, s, rfl, hx⟩ := next_of (p := p ++ [58]) (q := r) (a := 32) f.okk (by rw [e]; simp) (by decide)
  obtain ⟨x1, x2⟩ := adj32 hx
  rw [e, copy_no hp, StrLaws.replL_hit (by simp) rfl]
  show ¬ Okk (p ++ ([58] ++ StrLaws.replL [58, 32] [58] (x :: s)))
  rw [StrLaws.replL_miss (by
    intro z
    have z : x :: s.take 1 = [58, 32] := z
    injection z with z _
    exact x1 z)]
  refine no_pair (p := p) (a := 58) (b := x) rfl ?_
  show (x == 32) = false
  simpa using x2
theorem k16 (f : Fm T) : ¬ Okk (StrLaws.replL [10] [10, 10] T) := k_one f.okk (c10 f) rfl
theorem k17 : ¬ Okk (StrLaws.replL [10] [] T) := fun o => one_gone (by simp) (List.mem_of_getLast? o.la)
theorem k18 (f : Fm T) : ¬ Okk (StrLaws.replL [10] [32, 10] T) := k_one f.okk (c10 f) rfl
theorem k19 (f : Fm T) : ¬ Okk (StrLaws.replL [48] [48, 48] T) := k_one f.okk f.okk.c48 rfl
theorem k20 (f : Fm T) : ¬ Okk (StrLaws.replL [48] [43, 48] T) := k_one f.okk f.okk.c48 rfl
theorem k21 (f : Fm T) : ¬ Okk (StrLaws.replL [48] [45, 48] T) := k_one f.okk f.okk.c48 rfl
theorem k22 : ¬ Okk (StrLaws.replL [48] [79] T) := fun o => one_gone (by simp) o.c48
theorem k23 : ¬ Okk (StrLaws.replL [32] [95] T) := fun o => one_gone (by simp) o.c32
theorem k24 (f : Fm T) : ¬ Okk (StrLaws.replL [118, 105, 101, 119, 32] [] T) := by
  obtain ⟨d, r, e2, d1, d2⟩ := f.hd
  rw [e2, StrLaws.replL_hit (by simp) rfl]
  show ¬ Okk (StrLaws.replL [118, 105, 101, 119, 32] [] (d :: r))
  rw [StrLaws.replL_miss (by
    intro z
    have z : d :: r.take 4 = [118, 105, 101, 119, 32] := z
    injection z with z _
    omega)]
  exact hd_no rfl (by omega)
theorem k25 (f : Fm T) : ¬ Okk (T ++ [118, 105, 101, 119, 32, 48, 10]) := by
  obtain ⟨Q, a, e, ha⟩ := f.la
  exact no_pair (p := Q ++ [a]) (a := 10) (b := 118) (q := [105, 101, 119, 32, 48, 10]) (by rw [e]; simp) rfl
/-- a word at the end of the last line -/
theorem k_word {P w : List Nat} {x y : Nat} (h : adj x y = false) (p w2 : List Nat) (e : 32 :: (w ++ [10]) = p ++ x :: y :: w2) : ¬ Okk (P ++ 32 :: (w ++ [10])) :=
  no_pair (p := P ++ p) (a := x) (b := y) (q := w2) (by rw [e]; simp) h
end
theorem cut_eq {c : Nat} : ∀ {p p' q q' : List Nat}, c ∉ p → c ∉ p' → p ++ c :: q = p' ++ c :: q' → p = p' ∧ q = q'
  | [], [], _, _, _, _, e => ⟨rfl, by injection e⟩
  | [], a :: p', _, _, _, h, e => by
    injection e with e _
    exact absurd (by rw [e]; exact List.mem_cons_self) h
  | a :: p, [], _, _, h, _, e => by
    injection e with e _
    exact absurd (by rw [← e]; exact List.mem_cons_self) h
  | a :: p, b :: p', _, _, h, h', e => by
    injection e with e1 e2
    obtain ⟨z1, z2⟩ := cut_eq (fun m => h (List.mem_cons_of_mem _ m)) (fun m => h' (List.mem_cons_of_mem _ m)) e2
    exact ⟨by rw [e1, z1], z2⟩
section
variable {v v' : List Nat} {c c' : Nat} {t t' : List (List (Option Nat))}
theorem line0_free (hv : Vw v c) : 10 ∉ tl (line0 v) := by
  have := wds_free (view_sm hv)
  rw [line0_tl]
  simp only [List.mem_cons, not_or]
  exact ⟨by decide, by decide, by decide, by decide, by decide, this⟩
theorem first_line (hv : Vw v c) (hv' : Vw v' c') {R : List Nat} (e : tl (TT v' t') = tl (line0 v) ++ 10 :: R) : v' = v ∧ rowsL 0 t' = R := by
  rw [TT_form] at e
  obtain ⟨e1, e2⟩ := cut_eq (line0_free hv') (line0_free hv) e
  have e3 := ext_tl e1
  have e4 := ents_view hv'
  rw [e3, ents_view hv] at e4
  exact ⟨(List.map_inj_right (fun a b h => Option.some.inj h) |>.mp e4).symm, e2⟩
theorem cnt_rows : ∀ {i : Nat} {t : List (List (Option Nat))}, i + t.length ≤ 10 → (∀ r ∈ t, Sm10 r) → (rowsL i t).count 10 = t.length
  | _, [], _, _ => rfl
  | i, r :: t, hi, h => by
    rw [List.length_cons] at hi
    have ih := cnt_rows (i := i + 1) (t := t) (by omega) fun q hq => h q (List.mem_cons_of_mem _ hq)
    have hw := List.count_eq_zero.mpr (wds_free (h r List.mem_cons_self))
    rw [rowsL_cons (by omega), List.count_cons_of_ne (by omega), List.count_cons_of_ne (by decide), List.count_cons_of_ne (by decide), List.count_append, hw, List.count_cons_self, ih, List.length_cons]
    omega
theorem rows_no {n : Nat} (hn : n ≤ 9) : ∀ {i : Nat} {t : List (List (Option Nat))}, i + t.length ≤ n → (∀ r ∈ t, ∀ e ∈ r, ∀ j, e = some j → j < n) → 48 + n ∉ rowsL i t
  | _, [], _, _ => by simp [rowsL, rowsFrom]
  | i, r :: t, hi, h => by
    rw [List.length_cons] at hi
    have ih := rows_no hn (i := i + 1) (t := t) (by omega) fun q hq => h q (List.mem_cons_of_mem _ hq)
    have hw : 48 + n ∉ tl (wds r) := fun m => by
      rw [wds_tl] at m
      rcases joinL_mem m with z | ⟨p, hp, z⟩
      · simp at z; omega
      · obtain ⟨e, he, rfl⟩ := List.mem_map.mp hp
        have z : 48 + n ∈ tl (wS e) := z
        cases e with
        | none =>
          have e1 : tl (wS none) = [45] := by decide +kernel
          rw [e1] at z
          simp at z; omega
        | some j =>
          have hj := h r List.mem_cons_self _ he j rfl
          have e1 : tl (wS (some j)) = [48 + j] := (dg_small j (by omega)).1
          rw [e1] at z
          simp at z; omega
    rw [rowsL_cons (by omega)]
    simp only [List.mem_cons, List.mem_append, not_or]
    exact ⟨by omega, by omega, by omega, hw, by omega, ih⟩
/-- another number of lines -/
theorem lines_no (hv : Vw v c) {x : Str} {R : List Nat} (e : tl x = tl (line0 v) ++ 10 :: R) (h : R.count 10 ≠ v.length) : NoT x := fun v' c' t' hv' ht' ex => by
  rw [← ex] at e
  obtain ⟨rfl, e2⟩ := first_line hv hv' e
  have := ht'.1
  have := hv'.2.1
  have hc := cnt_rows (i := 0) (t := t') (by omega) fun r hr => (tab_row10 hv' ht' hr).1
  rw [e2] at hc
  omega
/-- the first row of another state -/
theorem first_no (hv : Vw v c) {x : Str} {R : List Nat} {a : Nat} (e : tl x = tl (line0 v) ++ 10 :: a :: R) (h : a ≠ 48) : NoT x := fun v' c' t' hv' ht' ex => by
  rw [← ex] at e
  obtain ⟨rfl, e2⟩ := first_line hv hv' e
  have := ht'.1
  have := hv'.1
  obtain ⟨r, er⟩ := rowsL_head (i := 0) (t := t') (by omega) (by omega)
  rw [er] at e2
  injection e2 with e2 _
  omega
/-- a number too great -/
theorem great_no (hv : Vw v c) {x : Str} {R : List Nat} (e : tl x = tl (line0 v) ++ 10 :: R) (h : 48 + v.length ∈ R) : NoT x := fun v' c' t' hv' ht' ex => by
  rw [← ex] at e
  obtain ⟨rfl, e2⟩ := first_line hv hv' e
  rw [← e2] at h
  have := ht'.1
  exact rows_no hv'.2.1 (i := 0) (t := t') (by omega) (fun r hr e he j hj => (ht'.2 r hr).2 e he j hj) h
end
end Pf
namespace Pf
open PySem MW L2 TL
theorem ok_slS {ma : Ev → Out D} {ml mh : Ev → Out (Option Int)} {ρ : Ev} {P : D → Ev → Prop} (h : Ok (ma ρ) fun d ρ1 => Ok (ml ρ1) fun lo ρ2 => Ok (mh ρ2) fun hi ρ3 => ∃ z, d = .str z ∧ z.length ≤ 16777216 ∧ P (.str (cutS z lo hi)) ρ3) : Ok (mSlS ma ml mh ρ) P :=
  ok_bind (h.mono fun d ρ1 k => ok_bind (k.mono fun lo ρ2 k => ok_bind (k.mono fun hi ρ3 ⟨z, e, l, k3⟩ => by subst e; exact ok_of (if_pos l) k3)))
end Pf
namespace Pf
open PySem MW
def Zs (v : List Nat) : List Nat := (List.range v.length).filter fun s => v.getD s 0 == 0
def Os (v : List Nat) : List Nat := (List.range v.length).filter fun s => !(v.getD s 0 == 0)
structure Sd (v : List Nat) (k : Nat) (js : List (List Nat)) : Prop where
  len : js.length = (Zs v).length
  perm : js.flatten.Perm (Zs v ++ (Os v).take k)
  dif : ∀ q ∈ js, Dif v q
  seed : ∀ i (h : i < js.length) (hz : i < (Zs v).length), ∃ u, js[i] = (Zs v)[i] :: u ∧ u.Sublist ((Os v).take k)
section
variable {v : List Nat} {k : Nat} {js : List (List Nat)}
/-- the last state taken out again -/
def out (x : Nat) (js : List (List Nat)) : List (List Nat) := js.map fun q => q.filter fun y => !(y == x)
end
end Pf
namespace Pf
open PySem MW
section
variable {v : List Nat} {c : Nat} {js ks : List (List Nat)}
abbrev Fl (v : List Nat) (js : List (List Nat)) : Prop := Sd v (Os v).length js
end
end Pf
namespace Pf
open PySem MW
theorem lAddL_ok {xs ys : List D} (h : xs.length + ys.length ≤ 16777216) : lAdd (.list xs) (.list ys) = some (xs ++ ys) := if_pos h
end Pf
namespace Pf
open PySem MW L2 TL
abbrev En := D × Str
def WOk (e : En) : Prop := (e.1 = .none ∧ e.2 = wS none) ∨ (∃ i, i < 10 ∧ e.1 = nD i ∧ e.2 = dg i) ∨ (e.1 = .str e.2 ∧ e.2.length ≤ 4)
abbrev rowE (r : List En) : D := .tuple (r.map (·.1))
abbrev jE (r : List En) : Str := Txt.join " " (r.map (·.2))
def rowsW : Nat → List (List En) → List Nat
  | _, [] => []
  | i, r :: R => (48 + i) :: 58 :: 32 :: (tl (jE r) ++ 10 :: rowsW (i + 1) R)
theorem rowsW_app {r : List En} : ∀ {i : Nat} {A : List (List En)}, rowsW i (A ++ [r]) = rowsW i A ++ (48 + (i + A.length)) :: 58 :: 32 :: (tl (jE r) ++ [10])
  | i, [] => by simp [rowsW]
  | i, a :: A => by
    have := rowsW_app (r := r) (i := i + 1) (A := A)
    rw [List.cons_append, rowsW, this, rowsW, List.length_cons, show i + 1 + A.length = i + (A.length + 1) by omega]
    simp
theorem wok_len {e : En} (h : WOk e) : e.2.length ≤ 4 := by
  rcases h with ⟨_, h⟩ | ⟨i, hi, _, h⟩ | ⟨_, h⟩
  · rw [h, show (wS none).length = 1 from by decide +kernel]; omega
  · rw [h, dg_len hi]; omega
  · exact h
theorem jE_len {r : List En} (h : ∀ e ∈ r, WOk e) (hr : r.length ≤ 9) : (jE r).length ≤ 60 := by
  have h1 : (Str.ofString " ").length = 1 := by decide +kernel
  have e : tl (jE r) = joinL [32] (r.map fun e => tl e.2) := by
    show tl (Txt.join " " (r.map (·.2))) = _
    rw [join_eq, tl_join, List.map_map]; rfl
  rw [len_tl, e]
  have h2 := joinL_len [32] (r.map fun e => tl e.2)
  have h3 : ((r.map fun e => tl e.2).map (·.length)).sum ≤ r.length * 4 := by
    rw [List.map_map]
    exact sum_le (fun e : En => (tl e.2).length) (b := 4) fun e he => by rw [← len_tl]; exact wok_len (h e he)
  rw [List.length_map] at h2
  simp only [List.length_singleton] at h2
  omega
section
variable {v : List Nat} {c : Nat} {Rs : List (List En)}
theorem law_textE_ok (hv : Vw v c) (hn : Rs.length = v.length) (hr : ∀ r ∈ Rs, r.length ≤ 9 ∧ ∀ e ∈ r, WOk e) : Ok (m__law_text [tD v, .tuple (Rs.map rowE)]) (fun z os => (∃ s : Str, z = .str s ∧ tl s = tl (line0 v) ++ 10 :: rowsW 0 Rs ∧ s.length ≤ 1000) ∧ os = [none, none]) := by
  have hv9 := hv.2.1
  have wl := wds_len (view_sm hv)
  rw [List.length_map] at wl
  refine ok_def (ρ0 := [some (tD v), some (.tuple (Rs.map rowE)), none, none, none, none, none]) (by rfl) ?_
  unfold mb__law_text
  refine ok_seq (ok_set (ok_bin (ok_bin (ok_c (ok_strM (ok_c ⟨_, rfl, ok_lst (ok_lc (ok_seqD (ok_var (d := tD v) rfl ⟨_, rfl, ?_⟩)))⟩))))))
  refine (comp_map (enc := nD) (fun x => .str (dg x)) (l := v) fun x hx => ?_).mono ?_
  · exact ⟨_, rfl, ok_call (ok_cons (ok_var (d := nD x) rfl (ok_nil ⟨_, gStrI_ok (vw_x10 hv hx), rfl, rfl⟩)))⟩
  rintro ys ρ ⟨rfl, rfl⟩
  refine ⟨_, gJoin_ok dg ?_, ?_⟩
  · rw [List.map_map, List.length_map]
    have h2 := sum_le (fun x => (dg x).length) (b := 1) (l := v) fun x hx => Nat.le_of_eq (dg_len (vw_x10 hv hx))
    have h3 : (List.map ((fun x => x.length) ∘ dg) v).sum = (v.map fun x => (dg x).length).sum := rfl
    have h4 : (Str.ofString " ").length = 1 := by decide +kernel
    rw [h3, h4]
    omega
  rw [view_dg]
  refine ⟨_, gAdd_str (by have := len_view; omega), ok_c ⟨_, gAdd_str (by rw [app_len]; have := len_view; have := len_nl; omega), then_nx ?_⟩⟩
  have e2 : tl (Str.ofString "\n") = [10] := by decide +kernel
  have e0 : tl (Str.ofString "view " ++ wds (v.map some) ++ Str.ofString "\n") = tl (line0 v) ++ 10 :: rowsW 0 (Rs.take 0) := by
    show _ = tl (line0 v) ++ [10]
    unfold line0
    rw [tl_append, e2, tl_append, tl_append, tl_append]
    rfl
  have l0 : (Str.ofString "view " ++ wds (v.map some) ++ Str.ofString "\n").length ≤ 90 * (0 + 1) := by
    rw [app_len, app_len, len_view, len_nl]; omega
  generalize Str.ofString "view " ++ wds (v.map some) ++ Str.ofString "\n" = s0 at e0 l0
  refine ok_at (ρ' := [some (tD v), some (.tuple (Rs.map rowE)), some (.str s0), none, none, none, none]) rfl ?_
  refine ok_seq (ok_for (ok_range1 (ok_cons (ok_call (ok_cons (ok_var (d := tD v) rfl (ok_nil ⟨_, gLenT_ok, ok_nil ⟨_, rfl, by rw [List.length_map]; omega, ?_⟩⟩)))))))
  rw [List.length_map]
  refine for_inv (fun k ρ => ∃ (s : Str) (x3 x4 : Option D), ρ = [some (tD v), some (.tuple (Rs.map rowE)), some (.str s), x3, x4, none, none] ∧ tl s = tl (line0 v) ++ 10 :: rowsW 0 (Rs.take k) ∧ s.length ≤ 90 * (k + 1)) 0 ⟨s0, none, none, rfl, e0, l0⟩ ?_ ?_
  · rintro k d ρ hk0 ⟨s, x3, x4, rfl, es, ls⟩
    obtain ⟨hk, rfl⟩ := rangeD_at hk0
    rw [Int.toNat_natCast] at hk
    rw [Nat.zero_add] at es ls ⊢
    have hkt : k < Rs.length := by omega
    obtain ⟨h2, h1⟩ := hr _ (List.getElem_mem hkt)
    have wr := jE_len h1 h2
    have hd := dg_len (i := k) (by omega)
    refine ⟨_, rfl, ?_⟩
    refine ok_at (ρ' := [some (tD v), some (.tuple (Rs.map rowE)), some (.str s), some (nD k), x4, none, none]) rfl ?_
    refine ok_seq (ok_set (ok_lst (ok_lc (ok_seqD (ok_bin (ok_var (d := .tuple (Rs.map rowE)) rfl (ok_var (d := nD k) rfl ⟨rowE Rs[k], gIxT_ok (by rw [List.getElem?_map, List.getElem?_eq_getElem hkt]; rfl), _, rfl, ?_⟩)))))))
    refine (comp_map (enc := fun e : En => e.1) (fun e => .str e.2) (l := Rs[k]) fun e he => ?_).mono ?_
    · refine ⟨_, rfl, ok_if (ok_test (ok_var (d := e.1) rfl (ok_c ?_)))⟩
      rcases h1 e he with ⟨a1, a2⟩ | ⟨i, hi, a1, a2⟩ | ⟨a1, a2⟩
      · exact ⟨true, by rw [a1]; rfl, L2.iteT (ok_c ⟨by rw [a2]; rfl, rfl⟩)⟩
      · exact ⟨false, by rw [a1]; rfl, L2.iteF (ok_call (ok_cons (ok_var (d := e.1) rfl (ok_nil ⟨_, by rw [a1]; exact gStrI_ok hi, by rw [a2], rfl⟩))))⟩
      · exact ⟨false, by rw [a1]; rfl, L2.iteF (ok_call (ok_cons (ok_var (d := e.1) rfl (ok_nil ⟨.str e.2, by rw [a1]; rfl, rfl, rfl⟩))))⟩
    rintro ys ρ ⟨rfl, rfl⟩
    refine then_nx ?_
    refine ok_at (ρ' := [some (tD v), some (.tuple (Rs.map rowE)), some (.str s), some (nD k), some (.list (Rs[k].map fun e => .str e.2)), none, none]) rfl ?_
    refine ok_set (ok_bin (ok_bin (ok_bin (ok_bin (ok_var (d := .str s) rfl (ok_call (ok_cons (ok_var (d := nD k) rfl (ok_nil ⟨_, gStrI_ok (by omega), ⟨_, gAdd_str (by omega), ok_c ⟨_, gAdd_str (by rw [app_len]; have := len_colon; omega), ok_strM (ok_c ⟨_, rfl, ok_var (d := .list (Rs[k].map fun e => .str e.2)) rfl ⟨_, gJoin_ok (fun e : En => e.2) ?_, ?_⟩⟩)⟩⟩⟩)))))))))
    · rw [List.map_map, List.length_map]
      have h3 := sum_le (fun e : En => e.2.length) (b := 4) (l := Rs[k]) fun e he => wok_len (h1 e he)
      have h4 : (List.map ((fun x => x.length) ∘ fun e : En => e.2) Rs[k]).sum = (Rs[k].map fun e => e.2.length).sum := rfl
      have h5 : (Str.ofString " ").length = 1 := by decide +kernel
      rw [h4, h5]
      omega
    have hw : Txt.join (Str.ofString " ") (Rs[k].map fun e => e.2) = jE Rs[k] := rfl
    rw [hw]
    refine ⟨_, gAdd_str (by rw [app_len, app_len, len_colon]; omega), ok_c ⟨_, gAdd_str (by rw [app_len, app_len, app_len, len_colon, len_nl]; omega), ?_⟩⟩
    refine ⟨_, some (nD k), _, rfl, ?_, by rw [app_len, app_len, app_len, app_len, len_colon, len_nl]; omega⟩
    rw [List.take_add_one, List.getElem?_eq_getElem hkt]
    show _ = tl (line0 v) ++ 10 :: rowsW 0 (Rs.take k ++ [Rs[k]])
    rw [rowsW_app, List.length_take, Nat.min_eq_left (Nat.le_of_lt hkt), Nat.zero_add]
    have ed := (dg_small k (by omega)).1
    rw [tl_append, tl_append, tl_append, tl_append, es, ed, e2, colon_tl]
    simp
  · rintro ρ ⟨s, x3, x4, rfl, es, ls⟩
    rw [rangeD_len, Int.toNat_natCast] at es ls
    rw [Nat.zero_add, ← hn, List.take_length] at es
    exact then_nx (ok_ret (ok_var (d := .str s) rfl (defK_rt rfl ⟨⟨s, rfl, es, by omega⟩, rfl⟩)))
end
section
variable {n c : Nat} {t : List (List (Option Nat))}
theorem with_ok (ht : Tab n c t) (h1 : 1 ≤ n) (hn : n ≤ 9) (c1 : 1 ≤ c) (c9 : c ≤ 9) (e : D) : Ok (m__law_with [tabD t, nD (n - 1), nD (c - 1), e]) (fun z os => z = .tuple ((t.take (n - 1)).map rD ++ [.tuple (((t.getD (n - 1) []).take (c - 1)).map oD ++ [e])]) ∧ os = [none, none, none, none]) := by
  have htl := ht.1
  have hs : n - 1 < t.length := by omega
  have hrow : t.getD (n - 1) [] = t[n - 1] := by rw [List.getD_eq_getElem?_getD, List.getElem?_eq_getElem hs]; rfl
  have hrl : (t[n - 1]).length = c := (ht.2 _ (List.getElem_mem hs)).1
  rw [hrow]
  refine ok_def (ρ0 := [some (tabD t), some (nD (n - 1)), some (nD (c - 1)), some e, none]) (by rfl) ?_
  unfold mb__law_with
  have gix : gIx (tabD t) (nD (n - 1)) = some (rD t[n - 1]) := gIxT_ok (map_at hs)
  have cutA : cutD (t[n - 1].map oD) none (some ((c - 1 : Nat) : Int)) = (t[n - 1].take (c - 1)).map oD := by
    rw [cutD_to _ (by rw [List.length_map]; omega), List.map_take]
  have cutB : cutD (t[n - 1].map oD) (some (((c - 1 : Nat) : Int) + 1)) none = [] := by
    rw [show ((c - 1 : Nat) : Int) + 1 = ((c : Nat) : Int) by omega, cutD_fr _ (by rw [List.length_map]; omega), List.drop_of_length_le (by rw [List.length_map]; omega)]
  have cutC : cutD (t.map rD) none (some ((n - 1 : Nat) : Int)) = (t.take (n - 1)).map rD := by
    rw [cutD_to _ (by rw [List.length_map]; omega), List.map_take]
  have cutE : cutD (t.map rD) (some (((n - 1 : Nat) : Int) + 1)) none = [] := by
    rw [show ((n - 1 : Nat) : Int) + 1 = ((n : Nat) : Int) by omega, cutD_fr _ (by rw [List.length_map]; omega), List.drop_of_length_le (by rw [List.length_map]; omega)]
  refine ok_seq (ok_set (ok_bin (ok_bin (ok_slT (ok_bin (ok_var (d := tabD t) rfl (ok_var (d := nD (n - 1)) rfl ⟨_, gix, ok_noP (ok_part (ok_var (d := nD (c - 1)) rfl ⟨_, rfl, _, rfl, ?_⟩))⟩)))))))
  rw [cutA]
  refine ok_tup (ok_cons (ok_var (d := e) rfl (ok_nil ⟨_, gAddT_ok (by simp; omega), ?_⟩)))
  refine ok_slT (ok_bin (ok_var (d := tabD t) rfl (ok_var (d := nD (n - 1)) rfl ⟨_, gix, ok_part (ok_bin (ok_var (d := nD (c - 1)) rfl (ok_c ⟨_, gAdd_ok, _, rfl, ok_noP ⟨_, rfl, ?_⟩⟩)))⟩)))
  rw [cutB]
  refine ⟨_, gAddT_ok (by simp; omega), then_nx ?_⟩
  rw [List.append_nil]
  refine ok_at (ρ' := [some (tabD t), some (nD (n - 1)), some (nD (c - 1)), some e, some (.tuple ((t[n - 1].take (c - 1)).map oD ++ [e]))]) rfl ?_
  refine ok_ret (ok_bin (ok_bin (ok_slT (ok_var (d := tabD t) rfl (ok_noP (ok_part (ok_var (d := nD (n - 1)) rfl ⟨_, rfl, _, rfl, ?_⟩)))))))
  rw [cutC]
  refine ok_tup (ok_cons (ok_var rfl (ok_nil ⟨_, gAddT_ok (by simp; omega), ?_⟩)))
  refine ok_slT (ok_var (d := tabD t) rfl (ok_part (ok_bin (ok_var (d := nD (n - 1)) rfl (ok_c ⟨_, gAdd_ok, _, rfl, ok_noP ⟨_, rfl, ?_⟩⟩)))))
  rw [cutE]
  refine ⟨_, gAddT_ok (by simp; omega), ?_⟩
  rw [List.append_nil]
  exact defK_rt rfl ⟨rfl, rfl⟩
end
end Pf
namespace Pf
open PySem MW L2 TL
def RN (d : D) : Prop := Er (m_read_table [d]) "NoText" fun os => os = [none]
theorem rn_n {x : Str} (h : NoT x) (hx : x.length ≤ 1000000) : RN (.str x) := read_noT h hx
theorem rn_s {x : Str} (h : ¬ Okk (tl x)) (hx : x.length ≤ 1000000) : RN (.str x) := read_noT (noT_of h) hx
theorem cutS_tl (z : Str) (lo hi : Option Int) : tl (cutS z lo hi) = ((tl z).drop (HT.sIx z.length 0 lo)).take (HT.sIx z.length z.length hi - HT.sIx z.length 0 lo) := rfl
theorem sIx_neg {n k : Nat} (hk : 1 ≤ k) (h : k ≤ n) : HT.sIx n n (some (-(k : Int))) = n - k := by
  simp only [HT.sIx]
  split <;> omega
theorem cutS_up {z : Str} (h : 1 ≤ z.length) : tl (cutS z none (some (-1))) = (tl z).dropLast := by
  have e : HT.sIx z.length z.length (some (-1 : Int)) = z.length - 1 := sIx_neg (k := 1) (by omega) h
  rw [cutS_tl, HT.sIx_none, e, List.drop_zero, Nat.sub_zero, List.dropLast_eq_take, ← len_tl]
theorem cutS_dn {z : Str} (h : 1 ≤ z.length) : tl (cutS z (some 1) none) = (tl z).drop 1 := by
  have e : HT.sIx z.length 0 (some ((1 : Nat) : Int)) = min 1 z.length := HT.sIx_nat _ _ _
  have e : HT.sIx z.length 0 (some (1 : Int)) = 1 := by rw [show (some (1 : Int)) = some ((1 : Nat) : Int) from rfl, e]; omega
  rw [cutS_tl, HT.sIx_none, e, List.take_of_length_le]
  rw [List.length_drop, ← len_tl]
  omega
theorem lrP {ρ : Ev} {m : Ev → Out D} {d : D} (e : Ok (m ρ) fun z ρ1 => ρ1 = ρ ∧ z = d) (h : RN d) : Ok (m ρ) fun z ρ1 => ρ1 = ρ ∧ RN z := e.mono fun z ρ1 ⟨a, b⟩ => ⟨a, by rw [b]; exact h⟩
section
variable {ρ : Ev} {X : Str}
theorem e_addr (h2 : rd ρ 2 = some (.str X)) (lx : X.length ≤ 240) {y : Str} (ly : y.length ≤ 10) : Ok (mBin gAdd (mVar 2) (mC (.str y)) ρ) fun z ρ1 => ρ1 = ρ ∧ z = .str (X ++ y) := ok_bin (ok_var h2 (ok_c ⟨_, gAdd_str (by omega), rfl, rfl⟩))
theorem e_addl (h2 : rd ρ 2 = some (.str X)) (lx : X.length ≤ 240) {y : Str} (ly : y.length ≤ 10) : Ok (mBin gAdd (mC (.str y)) (mVar 2) ρ) fun z ρ1 => ρ1 = ρ ∧ z = .str (y ++ X) := ok_bin (ok_c (ok_var h2 ⟨_, gAdd_str (by omega), rfl, rfl⟩))
theorem e_up (h2 : rd ρ 2 = some (.str X)) (lx : X.length ≤ 240) : Ok (mSlS (mVar 2) mNoP (mPart (mUn gNeg (mC (.int 1)))) ρ) fun z ρ1 => ρ1 = ρ ∧ z = .str (cutS X none (some (-1))) :=
  ok_slS (ok_var h2 (ok_noP (ok_part (ok_un (ok_c ⟨.int (-1), rfl, -1, rfl, X, rfl, by omega, rfl, rfl⟩)))))
theorem e_dn (h2 : rd ρ 2 = some (.str X)) (lx : X.length ≤ 240) : Ok (mSlS (mVar 2) (mPart (mC (.int 1))) mNoP ρ) fun z ρ1 => ρ1 = ρ ∧ z = .str (cutS X (some 1) none) :=
  ok_slS (ok_var h2 (ok_part (ok_c ⟨1, rfl, ok_noP ⟨X, rfl, by omega, rfl, rfl⟩⟩)))
theorem e_repl (h2 : rd ρ 2 = some (.str X)) (lx : X.length ≤ 240) {y z : Str} {yl zl : List Nat} (hy : tl y = yl) (hz : tl z = zl) (y1 : 1 ≤ yl.length) (z5 : zl.length ≤ 5) (h : ¬ Okk (StrLaws.replL yl zl (tl X))) :
    Ok (mUn (gRepl y z) (mVar 2) ρ) fun d ρ1 => ρ1 = ρ ∧ RN d := by
  have l1 : z.length ≤ 5 := by rw [len_tl, hz]; exact z5
  have l2 : X.length + (X.length + 1) * z.length ≤ 240 + 241 * 5 := Nat.add_le_add lx (Nat.mul_le_mul (by omega) l1)
  refine ok_un (ok_var h2 ⟨.str (Txt.replace X y z), if_pos (by omega), rfl, rn_s ?_ ?_⟩)
  · rw [repl_tl X y z (by rw [len_tl, hy]; exact y1), hy, hz]; exact h
  · have := TK.replace_len X y z
    omega
theorem add_ok {ds : List D} {ms : Ev → Out (List D)} {k : Nat} {PF : MW.Fl → Ev → Prop} (h4 : rd ρ 4 = some (.list ds)) (hm : Ok (ms (ρ.set 4 none)) (LR RN k (ρ.set 4 none))) (hl : ds.length + k ≤ 1000) (hd : ∀ d ∈ ds, RN d)
    (next : ∀ es : List D, es.length = ds.length + k → (∀ d ∈ es, RN d) → PF .nx ((ρ.set 4 none).set 4 (some (.list es)))) : Ok (mSetL 4 (mBinL lAdd (mMove 4) (mLst ms)) ρ) PF := by
  refine ok_setL (ok_binL (ok_move h4 (ok_lst (hm.mono ?_))))
  rintro es ρ1 ⟨rfl, les, hes⟩
  refine ⟨_, lAddL_ok (by omega), next _ (by rw [List.length_append]; omega) fun d hd2 => ?_⟩
  rcases List.mem_append.mp hd2 with z | z
  · exact hd d z
  · exact hes d z
end
theorem join_nl : ∀ (a : List Nat) (ps : List (List Nat)), joinL [10] (a :: ps) ++ [10] = a ++ 10 :: (ps.map fun p => p ++ [10]).flatten
  | a, [] => by simp [joinL]
  | a, b :: ps => by
    have := join_nl b ps
    rw [join_cons (by simp), List.append_assoc, List.append_assoc, this]
    simp
theorem joinL_hd (S b : List Nat) (ps : List (List Nat)) : ∃ r, joinL S (b :: ps) = b ++ r := by
  cases ps with
  | nil => exact ⟨[], by simp [joinL]⟩
  | cons c ps => exact ⟨_, join_cons (by simp)⟩
theorem rows_up : ∀ (i : Nat) (t : List (List (Option Nat))), (rowsFrom i t).dropLast = rowsFrom i t.dropLast
  | _, [] => rfl
  | _, [_] => rfl
  | i, r :: q :: t => by
    have := rows_up (i + 1) (q :: t)
    show (lineR i r :: rowsFrom (i + 1) (q :: t)).dropLast = lineR i r :: rowsFrom (i + 1) (q :: t).dropLast
    rw [← this]
    rfl
theorem jl (b : List Nat) : ∀ ps : List (List Nat), ∃ P, 32 :: joinL [32] (ps ++ [b]) = P ++ 32 :: b
  | [] => ⟨[], rfl⟩
  | p :: ps => by
    obtain ⟨P, e⟩ := jl b ps
    refine ⟨32 :: (p ++ P), ?_⟩
    rw [List.cons_append, join_cons (by simp), show ([32] : List Nat) ++ joinL [32] (ps ++ [b]) = 32 :: joinL [32] (ps ++ [b]) from rfl, e]
    simp
theorem nl10 : tl (Str.ofString "\n") = [10] := by decide +kernel
theorem join_tlN (L : List Str) : tl (Txt.join (Str.ofString "\n") L) = joinL [10] (L.map tl) := by rw [join_eq, tl_join, nl10]
section
variable {v : List Nat} {c : Nat} {t : List (List (Option Nat))}
def Bw (v : List Nat) (b : Str) : Prop := b.length ≤ 4 ∧ ∀ (s : Str) (R P : List Nat), tl s = tl (line0 v) ++ 10 :: R → (∀ x ∈ tl b, x ∈ R) → tl s = P ++ 32 :: (tl b ++ [10]) → NoT s
theorem bw_pair {b : Str} {w : List Nat} {x y : Nat} (e : tl b = w) (hl : w.length ≤ 4) (h : adj x y = false) (p w2 : List Nat) (e2 : 32 :: (w ++ [10]) = p ++ x :: y :: w2) : Bw v b :=
  ⟨by rw [len_tl, e]; exact hl, fun s R P _ _ e3 => noT_of (by rw [e3, e]; exact k_word h p w2 e2)⟩
theorem bw_num (hv : Vw v c) : Bw v (dg v.length) := by
  have h9 := hv.2.1
  have e := (dg_small v.length (by omega)).1
  exact ⟨by rw [dg_len (by omega)]; omega, fun s R P e1 e2 _ => great_no hv e1 (e2 _ (by rw [e]; simp))⟩
abbrev enO (e : Option Nat) : En := (oD e, wS e)
theorem enO_ok {e : Option Nat} (h : ∀ i, e = some i → i < 10) : WOk (enO e) := by
  cases e with
  | none => exact .inl ⟨rfl, rfl⟩
  | some i => exact .inr (.inl ⟨i, h i rfl, rfl, rfl⟩)
theorem enO_row (r : List (Option Nat)) : rowE (r.map enO) = rD r := by
  show PyData.tuple ((r.map enO).map (·.1)) = .tuple (r.map oD)
  rw [List.map_map]; rfl
theorem bad_text (hv : Vw v c) (ht : Tab v.length c t) {b : Str} (hb : Bw v b) : Ok (m__law_text [tD v, .tuple ((t.take (v.length - 1)).map rD ++ [.tuple (((t.getD (v.length - 1) []).take (c - 1)).map oD ++ [.str b])])]) (fun z os => RN z ∧ os = [none, none]) := by
  have htl := ht.1
  have h1 := hv.1
  have h9 := hv.2.1
  have hc := hv.2.2.1
  have hs : v.length - 1 < t.length := by omega
  have hrow : t.getD (v.length - 1) [] = t[v.length - 1] := by rw [List.getD_eq_getElem?_getD, List.getElem?_eq_getElem hs]; rfl
  rw [hrow]
  obtain ⟨g1, g2, _⟩ := tab_row10 hv ht (List.getElem_mem hs)
  generalize t[v.length - 1] = w at g1 g2
  have ed : PyData.tuple ((t.take (v.length - 1)).map rD ++ [.tuple ((w.take (c - 1)).map oD ++ [.str b])]) = .tuple ((((t.take (v.length - 1)).map (fun r : List (Option Nat) => r.map enO) ++ [(w.take (c - 1)).map enO ++ [((PyData.str b, b) : En)]] : List (List En))).map rowE) := by
    rw [List.map_append, List.map_map, List.map_singleton]
    congr 2
    · exact List.map_congr_left fun r _ => (enO_row r).symm
    · show [PyData.tuple _] = [PyData.tuple (((w.take (c - 1)).map enO ++ [((PyData.str b, b) : En)]).map (·.1))]
      rw [List.map_append, List.map_map]; rfl
  rw [ed]
  refine (law_textE_ok hv ?_ ?_).mono ?_
  · rw [List.length_append, List.length_map, List.length_take]
    simp
    omega
  · intro r hr
    rcases List.mem_append.mp hr with hr | hr
    · obtain ⟨q, hq, rfl⟩ := List.mem_map.mp hr
      obtain ⟨f1, f2, _⟩ := tab_row10 hv ht (List.mem_of_mem_take hq)
      refine ⟨by rw [List.length_map]; exact f2, fun e he => ?_⟩
      obtain ⟨o, ho, rfl⟩ := List.mem_map.mp he
      exact enO_ok (f1 o ho)
    · rw [List.mem_singleton.mp hr]
      refine ⟨?_, fun e he => ?_⟩
      · have : (w.take (c - 1)).length ≤ c - 1 := by rw [List.length_take]; omega
        rw [List.length_append, List.length_map, List.length_singleton]
        omega
      · rcases List.mem_append.mp he with he | he
        · obtain ⟨o, ho, rfl⟩ := List.mem_map.mp he
          exact enO_ok (g1 o (List.mem_of_mem_take ho))
        · rw [List.mem_singleton.mp he]
          exact .inr (.inr ⟨rfl, hb.1⟩)
  rintro z os ⟨⟨s, rfl, es, ls⟩, rfl⟩
  refine ⟨rn_n ?_ (by omega), rfl⟩
  rw [rowsW_app] at es
  have ej : tl (jE ((w.take (c - 1)).map enO ++ [((PyData.str b, b) : En)])) = joinL [32] (((w.take (c - 1)).map fun e => tl (wS e)) ++ [tl b]) := by
    show tl (Txt.join " " (((w.take (c - 1)).map enO ++ [((PyData.str b, b) : En)]).map (·.2))) = _
    rw [join_eq, tl_join, List.map_map, List.map_append, List.map_map]; rfl
  obtain ⟨P, eP⟩ := jl (tl b) ((w.take (c - 1)).map fun e => tl (wS e))
  rw [ej] at es
  generalize rowsW 0 ((t.take (v.length - 1)).map fun r : List (Option Nat) => r.map enO) = A at es
  generalize 48 + (0 + ((t.take (v.length - 1)).map fun r : List (Option Nat) => r.map enO).length) = m at es
  have es2 : tl s = tl (line0 v) ++ 10 :: (A ++ m :: 58 :: (P ++ 32 :: (tl b ++ [10]))) := by
    rw [es, show (32 :: (joinL [32] (((w.take (c - 1)).map fun e => tl (wS e)) ++ [tl b]) ++ [10])) = (32 :: joinL [32] (((w.take (c - 1)).map fun e => tl (wS e)) ++ [tl b])) ++ [10] from rfl, eP]
    simp
  exact hb.2 s _ (tl (line0 v) ++ 10 :: (A ++ m :: 58 :: P)) es2 (fun x hx => by simp [hx]) (by rw [es2]; simp)
end
end Pf
namespace Pf
open PySem MW L2 TL
section
variable {v : List Nat} {c : Nat} {t : List (List (Option Nat))}
theorem sp32 : tl (Str.ofString " ") = [32] := by decide +kernel
theorem spnl : tl (Str.ofString " \n") = [32, 10] := by decide +kernel
theorem view0 : tl (Str.ofString "view 0\n") = [118, 105, 101, 119, 32, 48, 10] := by decide +kernel
theorem rn_read {d : D} (h : isD "str" d = false) : RN d := read_odd h
theorem bads : ∀ b ∈ ([Str.ofString "-1", Str.ofString "--", Str.ofString "None", Str.ofString "", Str.ofString "0-", Str.ofString "~"] : List Str), Bw v b := by
  intro b hb
  simp only [List.mem_cons, List.not_mem_nil, or_false] at hb
  rcases hb with rfl | rfl | rfl | rfl | rfl | rfl
  · exact bw_pair (w := [45, 49]) (by decide +kernel) (by decide) (x := 45) (y := 49) rfl [32] [10] rfl
  · exact bw_pair (w := [45, 45]) (by decide +kernel) (by decide) (x := 45) (y := 45) rfl [32] [10] rfl
  · exact bw_pair (w := [78, 111, 110, 101]) (by decide +kernel) (by decide) (x := 32) (y := 78) rfl [] [111, 110, 101, 10] rfl
  · exact bw_pair (w := []) (by decide +kernel) (by decide) (x := 32) (y := 10) rfl [] [] rfl
  · exact bw_pair (w := [48, 45]) (by decide +kernel) (by decide) (x := 48) (y := 45) rfl [32] [10] rfl
  · exact bw_pair (w := [126]) (by decide +kernel) (by decide) (x := 32) (y := 126) rfl [] [10] rfl
set_option maxHeartbeats 4000000 in
theorem no_texts_ok (hv : Vw v c) (ht : Tab v.length c t) : Ok (m__law_no_texts [tD v, tabD t]) (fun z os => (∃ ds, z = .list ds ∧ ∀ d ∈ ds, RN d) ∧ os = [none, none]) := by
  have htl := ht.1
  have h1 := hv.1
  have h9 := hv.2.1
  have hc := hv.2.2.1
  have f := fm_TT hv ht
  have hlns := lns_TT hv ht
  obtain ⟨x5, lx⟩ := TT_len hv ht
  have eform := TT_form v t
  have hlf : ∀ l ∈ linesOf v t, 10 ∉ tl l ∧ l.length ≤ 23 := fun l hl => ⟨line_free hv ht hl, line_len hv ht hl⟩
  refine ok_def (ρ0 := [some (tD v), some (tabD t), none, none, none, none]) (by rfl) ?_
  unfold mb__law_no_texts
  refine ok_seq (ok_set (ok_callD (ok_cons (ok_var (d := tD v) rfl (ok_cons (ok_var (d := tabD t) rfl (ok_nil ⟨_, rfl, (law_text_ok hv ht).mono ?_⟩)))))))
  rintro z os ⟨rfl, rfl⟩
  refine then_nx ?_
  generalize TT v t = X at f hlns x5 lx eform
  refine ok_at (ρ' := [some (tD v), some (tabD t), some (.str X), none, none, none]) rfl ?_
  refine ok_seq (ok_set (ok_lst (ok_strML (ok_var (d := .str X) rfl ⟨X, rfl, ok_c ⟨(lns X).map .str, ?_, then_nx ?_⟩⟩))))
  · show (if ((Str.ofString "\n").length == 0) = false ∧ X.length + 2 ≤ 16777216 then some ((Txt.split X (Str.ofString "\n")).map PyData.str) else none) = _
    rw [if_pos ⟨by rw [len_nl]; rfl, by omega⟩]; rfl
  rw [hlns]
  obtain ⟨Ls, hLs⟩ : ∃ Ls, Ls = (line0 v :: (rowsFrom 0 t ++ [Str.empty])).map PyData.str := ⟨_, rfl⟩
  rw [← hLs]
  have lLs : Ls.length = v.length + 2 := by rw [hLs, List.length_map, List.length_cons, List.length_append, rowsFrom_len, htl]; rfl
  refine ok_at (ρ' := [some (tD v), some (tabD t), some (.str X), some (.list Ls), none, none]) rfl ?_
  -- the first list
  refine ok_seq (ok_setL (Ok.mono (P := LR RN 8 [some (tD v), some (tabD t), some (.str X), some (.list Ls), none, none]) ?_ ?_))
  · have up : ∀ {ρ : Ev}, rd ρ 2 = some (.str X) → Ok (mSlS (mVar 2) mNoP (mPart (mUn gNeg (mC (.int 1)))) ρ) fun z ρ1 => ρ1 = ρ ∧ z = .str (cutS X none (some (-1))) := fun h => e_up h lx
    have eu := cutS_up (z := X) (by omega)
    have lu : (cutS X none (some (-1))).length ≤ 240 := by rw [len_tl, eu, List.length_dropLast, ← len_tl]; omega
    refine lr_cons (lrP (up rfl) (rn_s (by rw [eu]; exact k1 f) (by omega))) ?_
    refine lr_cons (lrP (e_addr rfl lx (y := Str.ofString "\n") (by decide +kernel)) (rn_s (by rw [tl_append, nl10]; exact k2 f) (by rw [app_len, len_nl]; omega))) ?_
    refine lr_cons (lrP (e_addl rfl lx (y := Str.ofString "\n") (by decide +kernel)) (rn_s (by rw [tl_append, nl10]; exact k3) (by rw [app_len, len_nl]; omega))) ?_
    refine lr_cons (lrP (e_addl rfl lx (y := Str.ofString " ") (by decide +kernel)) (rn_s (by rw [tl_append, sp32]; exact k4) (by rw [app_len, show (Str.ofString " ").length = 1 from by decide +kernel]; omega))) ?_
    refine lr_cons (lrP (e_addr rfl lx (y := Str.ofString " ") (by decide +kernel)) (rn_s (by rw [tl_append, sp32]; exact k5) (by rw [app_len, show (Str.ofString " ").length = 1 from by decide +kernel]; omega))) ?_
    refine lr_cons (ok_bin (ok_var (d := .str X) rfl (ok_var (d := .str X) rfl ⟨_, gAdd_str (by omega), rfl, rn_s (by rw [tl_append]; exact k6 f) (by rw [app_len]; omega)⟩))) ?_
    refine lr_cons (lrP (e_dn rfl lx) (rn_s (by rw [cutS_dn (by omega)]; exact k7 f) (by rw [len_tl, cutS_dn (by omega), List.length_drop, ← len_tl]; omega))) ?_
    refine lr_cons (ok_bin ((up rfl).mono ?_)) lr_nil
    rintro z ρ ⟨rfl, rfl⟩
    exact ok_c ⟨_, gAdd_str (by rw [show (Str.ofString " \n").length = 2 from by decide +kernel]; omega), rfl, rn_s (by rw [tl_append, eu, spnl]; exact k8 f) (by rw [app_len, show (Str.ofString " \n").length = 2 from by decide +kernel]; omega)⟩
  rintro ds ρ ⟨rfl, lds, hds⟩
  refine then_nx ?_
  refine ok_at (ρ' := [some (tD v), some (tabD t), some (.str X), some (.list Ls), some (.list ds), none]) rfl ?_
  -- replaced
  refine ok_seq (add_ok (k := 3) (ds := ds) rfl ?_ (by omega) hds fun es les hes => then_nx ?_)
  · refine lr_cons (e_repl rfl lx (yl := [32]) (zl := [32, 32]) (by decide +kernel) (by decide +kernel) (by decide) (by decide) (k9 f)) ?_
    refine lr_cons (e_repl rfl lx (yl := [118, 105, 101, 119]) (zl := [86, 105, 101, 119]) (by decide +kernel) (by decide +kernel) (by decide) (by decide) (k10 f)) ?_
    exact lr_cons (e_repl rfl lx (yl := [118, 105, 101, 119]) (zl := [118, 105, 101, 119, 58]) (by decide +kernel) (by decide +kernel) (by decide) (by decide) (k11 f)) lr_nil
  clear hds
  rw [lds] at les
  refine ok_at (ρ' := [some (tD v), some (tabD t), some (.str X), some (.list Ls), some (.list es), none]) rfl ?_
  refine ok_seq (add_ok (k := 4) (ds := es) rfl ?_ (by omega) hes fun ds lds hds => then_nx ?_)
  · refine lr_cons (e_repl rfl lx (yl := [58]) (zl := []) (by decide +kernel) (by decide +kernel) (by decide) (by decide) k12) ?_
    refine lr_cons (e_repl rfl lx (yl := [58]) (zl := [32, 58]) (by decide +kernel) (by decide +kernel) (by decide) (by decide) (k13 f)) ?_
    refine lr_cons (e_repl rfl lx (yl := [58]) (zl := [59]) (by decide +kernel) (by decide +kernel) (by decide) (by decide) k14) ?_
    exact lr_cons (e_repl rfl lx (yl := [58, 32]) (zl := [58]) (by decide +kernel) (by decide +kernel) (by decide) (by decide) (k15 f)) lr_nil
  clear hes
  rw [les] at lds
  refine ok_at (ρ' := [some (tD v), some (tabD t), some (.str X), some (.list Ls), some (.list ds), none]) rfl ?_
  refine ok_seq (add_ok (k := 3) (ds := ds) rfl ?_ (by omega) hds fun es les hes => then_nx ?_)
  · refine lr_cons (e_repl rfl lx (yl := [10]) (zl := [10, 10]) (by decide +kernel) (by decide +kernel) (by decide) (by decide) (k16 f)) ?_
    refine lr_cons (e_repl rfl lx (yl := [10]) (zl := []) (by decide +kernel) (by decide +kernel) (by decide) (by decide) k17) ?_
    exact lr_cons (e_repl rfl lx (yl := [10]) (zl := [32, 10]) (by decide +kernel) (by decide +kernel) (by decide) (by decide) (k18 f)) lr_nil
  clear hds
  rw [lds] at les
  refine ok_at (ρ' := [some (tD v), some (tabD t), some (.str X), some (.list Ls), some (.list es), none]) rfl ?_
  refine ok_seq (add_ok (k := 4) (ds := es) rfl ?_ (by omega) hes fun ds lds hds => then_nx ?_)
  · refine lr_cons (e_repl rfl lx (yl := [48]) (zl := [48, 48]) (by decide +kernel) (by decide +kernel) (by decide) (by decide) (k19 f)) ?_
    refine lr_cons (e_repl rfl lx (yl := [48]) (zl := [43, 48]) (by decide +kernel) (by decide +kernel) (by decide) (by decide) (k20 f)) ?_
    refine lr_cons (e_repl rfl lx (yl := [48]) (zl := [45, 48]) (by decide +kernel) (by decide +kernel) (by decide) (by decide) (k21 f)) ?_
    exact lr_cons (e_repl rfl lx (yl := [48]) (zl := [79]) (by decide +kernel) (by decide +kernel) (by decide) (by decide) k22) lr_nil
  clear hes
  rw [les] at lds
  refine ok_at (ρ' := [some (tD v), some (tabD t), some (.str X), some (.list Ls), some (.list ds), none]) rfl ?_
  have i0 : Ls[0]? = some (.str (line0 v)) := by rw [hLs]; rfl
  have irow : ∀ k (h : k < t.length), Ls[k + 1]? = some (.str (lineR k t[k])) := fun k h => by
    rw [hLs, List.getElem?_map, List.getElem?_cons_succ, List.getElem?_append_left (by rw [rowsFrom_len]; exact h), rowsFrom_at 0 t k h, Nat.zero_add]; rfl
  have hrow : ∀ k (h : k < t.length), 10 ∉ tl (lineR k t[k]) ∧ (lineR k t[k]).length ≤ 23 := fun k h => by
    refine hlf _ (List.mem_cons_of_mem _ ?_)
    refine List.mem_of_getElem? (i := k) ?_
    rw [rowsFrom_at 0 t k h, Nat.zero_add]
  have hcnt := cnt_rows (i := 0) (t := t) (by omega) fun r hr => (tab_row10 hv ht hr).1
  refine ok_seq (add_ok (k := 4) (ds := ds) rfl ?_ (by omega) hds fun es les hes => then_nx ?_)
  · refine lr_cons (e_repl rfl lx (yl := [32]) (zl := [95]) (by decide +kernel) (by decide +kernel) (by decide) (by decide) k23) ?_
    refine lr_cons (e_repl rfl lx (yl := [118, 105, 101, 119, 32]) (zl := []) (by decide +kernel) (by decide +kernel) (by decide) (by decide) (k24 f)) ?_
    refine lr_cons (lrP (e_addr rfl lx (y := Str.ofString "view 0\n") (by decide +kernel)) (rn_s (by rw [tl_append, view0]; exact k25 f) (by rw [app_len, show (Str.ofString "view 0\n").length = 7 from by decide +kernel]; omega))) ?_
    obtain ⟨n1, n2⟩ := hrow 0 (by omega)
    refine lr_cons (ok_bin (ok_bin (ok_var (d := .str X) rfl (ok_bin (ok_var (d := .list Ls) rfl (ok_c ⟨_, gIx_ok (i := 1) (irow 0 (by omega)), _, gAdd_str (by omega), ?_⟩)))))) lr_nil
    refine ok_c ⟨_, gAdd_str (by rw [app_len, len_nl]; omega), rfl, rn_n ?_ (by rw [app_len, app_len, len_nl]; omega)⟩
    refine lines_no hv (R := rowsL 0 t ++ (tl (lineR 0 t[0]) ++ [10])) (by rw [tl_append, tl_append, eform, nl10]; simp) ?_
    rw [List.count_append, List.count_append, hcnt, List.count_eq_zero.mpr n1]
    simp
    omega
  clear hds
  rw [lds] at les
  refine ok_at (ρ' := [some (tD v), some (tabD t), some (.str X), some (.list Ls), some (.list es), none]) rfl ?_
  -- without the last line
  have cut2 : cutD Ls none (some (-2 : Int)) = (line0 v :: rowsFrom 0 t.dropLast).map PyData.str := by
    have e : HT.sIx Ls.length Ls.length (some (-2 : Int)) = Ls.length - 2 := sIx_neg (k := 2) (by omega) (by omega)
    unfold cutD
    rw [HT.sIx_none, e, List.drop_zero, Nat.sub_zero, lLs, hLs, ← List.map_take]
    congr 1
    rw [show v.length + 2 - 2 = (v.length - 1) + 1 by omega, List.take_succ_cons]
    congr 1
    rw [List.take_append_of_le_length (by rw [rowsFrom_len]; omega), ← rows_up, List.dropLast_eq_take, rowsFrom_len, htl]
  have lrw : ∀ L : List Str, (∀ l ∈ L, l.length ≤ 23) → L.length ≤ 20 → ((L.map fun x => x).map (·.length)).sum + (L.map fun x => x).length * (Str.ofString "\n").length ≤ 16777216 ∧ (Txt.join (Str.ofString "\n") L).length ≤ 1000 := fun L h hl => by
    have e := sum_le (fun x : Str => x.length) (b := 23) (l := L) h
    have e1 : ((L.map fun x => x).map (·.length)).sum = (L.map fun x => x.length).sum := by rw [List.map_map]; rfl
    refine ⟨by rw [e1, List.length_map, len_nl]; omega, ?_⟩
    have e2 := joinL_len [10] (L.map tl)
    have e3 : ((L.map tl).map (·.length)).sum = (L.map fun x => x.length).sum := by
      rw [List.map_map]
      congr 1
    rw [len_tl, join_tlN]
    rw [e3, List.length_map, List.length_singleton] at e2
    omega
  have rws : ∀ l ∈ line0 v :: rowsFrom 0 t.dropLast, l.length ≤ 23 := fun l hl => by
    rcases List.mem_cons.mp hl with rfl | hl
    · exact (hlf _ List.mem_cons_self).2
    · rw [← rows_up] at hl
      exact (hlf _ (List.mem_cons_of_mem _ (List.dropLast_subset _ hl))).2
  obtain ⟨j1, j2⟩ := lrw (line0 v :: rowsFrom 0 t.dropLast) rws (by rw [List.length_cons, rowsFrom_len, List.length_dropLast]; omega)
  refine ok_seq (ok_drop (ok_upd (d := .list es) rfl (ok_cons (ok_bin (ok_strM (ok_c ⟨_, rfl, ok_slL (ok_var (d := .list Ls) rfl (ok_noP (ok_part (ok_un (ok_c ⟨.int (-2), rfl, -2, rfl, _, rfl, ?_⟩)))))⟩))))))
  rw [cut2]
  refine ⟨_, gJoin_ok (fun x : Str => x) j1, ok_c ⟨_, gAdd_str (by rw [List.map_id', len_nl]; omega), ok_nil ⟨es, _, _, rfl, fApp_ok (by omega), then_nx ?_⟩⟩⟩
  rw [List.map_id']
  have hes2 : ∀ d ∈ es ++ [PyData.str (Txt.join (Str.ofString "\n") (line0 v :: rowsFrom 0 t.dropLast) ++ Str.ofString "\n")], RN d := fun d hd => by
    rcases List.mem_append.mp hd with hd | hd
    · exact hes d hd
    · rw [List.mem_singleton.mp hd]
      refine rn_n (lines_no hv (R := rowsL 0 t.dropLast) ?_ ?_) (by rw [app_len, len_nl]; omega)
      · rw [tl_append, join_tlN, nl10, List.map_cons, join_nl, List.map_map]; rfl
      · have := cnt_rows (i := 0) (t := t.dropLast) (by rw [List.length_dropLast]; omega) fun r hr => (tab_row10 hv ht (List.dropLast_subset _ hr)).1
        rw [this, List.length_dropLast]
        omega
  have les2 : (es ++ [PyData.str (Txt.join (Str.ofString "\n") (line0 v :: rowsFrom 0 t.dropLast) ++ Str.ofString "\n")]).length ≤ 30 := by rw [List.length_append]; simp; omega
  generalize es ++ [PyData.str (Txt.join (Str.ofString "\n") (line0 v :: rowsFrom 0 t.dropLast) ++ Str.ofString "\n")] = fs at hes2 les2
  clear cut2 j1 j2 rws
  refine ok_at (ρ' := [some (tD v), some (tabD t), some (.str X), some (.list Ls), some (.list fs), none]) rfl ?_
  -- two lines turned
  refine ok_seq (Ok.mono (P := fun fl ρ => fl = MW.Fl.nx ∧ ∃ gs : List D, ρ = [some (tD v), some (tabD t), some (.str X), some (.list Ls), some (.list gs), none] ∧ gs.length ≤ 31 ∧ ∀ d ∈ gs, RN d) ?_ ?_)
  · refine ok_ifS (ok_test (ok_call (ok_cons (ok_var (d := tD v) rfl (ok_nil ⟨_, gLenT_ok, ok_c ⟨_, bGt_ok, ?_⟩⟩)))))
    rw [List.length_map]
    by_cases hn : 1 < v.length
    · rw [decide_eq_true (by omega : (1 : Int) < ((v.length : Nat) : Int))]
      refine L2.iteT ?_
      have cut3 : cutD Ls (some (3 : Int)) none = ((rowsFrom 0 t ++ [Str.empty]).drop 2).map PyData.str := by
        have e := cutD_fr Ls (k := 3) (by omega)
        rw [show (some (3 : Int)) = some ((3 : Nat) : Int) from rfl, e, hLs, ← List.map_drop]; rfl
      have l3 : ∀ l ∈ [line0 v, lineR 1 (t[1]'(by omega)), lineR 0 (t[0]'(by omega))] ++ (rowsFrom 0 t ++ [Str.empty]).drop 2, l.length ≤ 23 := fun l hl => by
        rcases List.mem_append.mp hl with hl | hl
        · simp only [List.mem_cons, List.not_mem_nil, or_false] at hl
          rcases hl with rfl | rfl | rfl
          · exact (hlf _ List.mem_cons_self).2
          · exact (hrow 1 (by omega)).2
          · exact (hrow 0 (by omega)).2
        · rcases List.mem_append.mp (List.mem_of_mem_drop hl) with hl | hl
          · exact (hlf _ (List.mem_cons_of_mem _ hl)).2
          · rw [List.mem_singleton.mp hl]; exact Nat.zero_le _
      obtain ⟨j1, j2⟩ := lrw _ l3 (by rw [List.length_append, List.length_drop, List.length_append, rowsFrom_len]; simp; omega)
      refine ok_drop (ok_upd (d := .list fs) rfl (ok_cons (ok_strM (ok_c ⟨_, rfl, ok_bin (ok_lst (ok_cons (ok_bin (ok_var (d := .list Ls) rfl (ok_c ⟨_, gIx_ok (i := 0) i0, ?_⟩)))))⟩))))
      refine ok_cons (ok_bin (ok_var (d := .list Ls) rfl (ok_c ⟨_, gIx_ok (i := 2) (irow 1 (by omega)), ?_⟩)))
      refine ok_cons (ok_bin (ok_var (d := .list Ls) rfl (ok_c ⟨_, gIx_ok (i := 1) (irow 0 (by omega)), ?_⟩)))
      refine ok_nil (ok_slL (ok_var (d := .list Ls) rfl (ok_part (ok_c ⟨3, rfl, ok_noP ⟨_, rfl, ?_⟩⟩))))
      rw [cut3]
      refine ⟨.list (([line0 v, lineR 1 (t[1]'(by omega)), lineR 0 (t[0]'(by omega))] ++ (rowsFrom 0 t ++ [Str.empty]).drop 2).map PyData.str), ?_, _, gJoin_ok (fun x : Str => x) j1, ok_nil ⟨fs, _, _, rfl, fApp_ok (by omega), ?_⟩⟩
      · rw [List.map_append]
        refine gAddL_ok ?_
        simp only [List.length_map, List.length_drop, List.length_append, rowsFrom_len, List.length_cons, List.length_nil]
        omega
      refine ⟨rfl, _, rfl, by rw [List.length_append]; simp; omega, fun d hd => ?_⟩
      rcases List.mem_append.mp hd with hd | hd
      · exact hes2 d hd
      · rw [List.mem_singleton.mp hd, List.map_id']
        obtain ⟨r, er⟩ := joinL_hd [10] (tl (lineR 1 (t[1]'(by omega)))) ((lineR 0 (t[0]'(by omega)) :: (rowsFrom 0 t ++ [Str.empty]).drop 2).map tl)
        refine rn_n (first_no hv (a := 49) (R := 58 :: 32 :: tl (wds (t[1]'(by omega))) ++ r) ?_ (by decide)) (by omega)
        rw [join_tlN]
        show joinL [10] (tl (line0 v) :: tl (lineR 1 (t[1]'(by omega))) :: (lineR 0 (t[0]'(by omega)) :: (rowsFrom 0 t ++ [Str.empty]).drop 2).map tl) = _
        rw [join_cons (by simp), er, lineR_tl (by omega)]
        simp
    · rw [decide_eq_false (by omega : ¬ (1 : Int) < ((v.length : Nat) : Int))]
      exact L2.iteF (ok_next ⟨rfl, fs, rfl, by omega, hes2⟩)
  rintro fl ρ ⟨rfl, gs, rfl, lgs, hgs⟩

  refine then_nx ?_
  -- other words
  refine ok_seq (ok_for (ok_seqD (ok_lst (ok_cons (ok_call (ok_cons (ok_call (ok_cons (ok_var (d := tD v) rfl (ok_nil ⟨_, gLenT_ok, ok_nil ⟨.str (dg v.length), ?_, ?_⟩⟩)))))))))) 
  · rw [List.length_map]; exact gStrI_ok (by omega)
  refine ok_cons (ok_c (ok_cons (ok_c (ok_cons (ok_c (ok_cons (ok_c (ok_cons (ok_c (ok_cons (ok_c (ok_nil ⟨_, rfl, ?_⟩))))))))))))
  refine for_inv (fun k ρ => ∃ (gs : List D) (x5 : Option D), ρ = [some (tD v), some (tabD t), some (.str X), some (.list Ls), some (.list gs), x5] ∧ gs.length ≤ 31 + k ∧ k ≤ 7 ∧ ∀ d ∈ gs, RN d) 0 ⟨gs, none, rfl, by omega, by omega, hgs⟩ ?_ ?_
  · rintro i e ρ hi ⟨gs, x5, rfl, lgs, hi7, hgs⟩
    have hi6 : i < 7 := (List.getElem?_eq_some_iff.mp hi).1
    obtain ⟨b, rfl, hb⟩ : ∃ b, e = .str b ∧ Bw v b := by
      have hm := List.mem_of_getElem? hi
      rcases List.mem_cons.mp hm with rfl | hm
      · exact ⟨_, rfl, bw_num hv⟩
      · have hm : e ∈ ([Str.ofString "-1", Str.ofString "--", Str.ofString "None", Str.ofString "", Str.ofString "0-", Str.ofString "~"] : List Str).map PyData.str := hm
        obtain ⟨b, hb, rfl⟩ := List.mem_map.mp hm
        exact ⟨b, rfl, bads b hb⟩
    refine ⟨_, rfl, ?_⟩
    refine ok_at (ρ' := [some (tD v), some (tabD t), some (.str X), some (.list Ls), some (.list gs), some (.str b)]) rfl ?_
    refine ok_drop (ok_upd (d := .list gs) rfl (ok_cons (ok_callD (ok_cons (ok_var (d := tD v) rfl (ok_cons (ok_callD (ok_cons (ok_var (d := tabD t) rfl (ok_cons (ok_bin (ok_call (ok_cons (ok_var (d := tD v) rfl (ok_nil ⟨_, gLenT_ok, ok_c ⟨nD (v.length - 1), ?_, ?_⟩⟩)))))))))))))))
    · rw [List.length_map, gSub_ok]; congr 2; omega
    refine ok_cons (ok_call (ok_cons (ok_var (d := tD v) rfl (ok_nil ⟨nD (c - 1), by rw [max_view hv]; congr 2; omega, ?_⟩))))
    refine ok_cons (ok_var (d := .str b) rfl (ok_nil ⟨_, rfl, (with_ok ht h1 h9 hc.1 (by omega) (.str b)).mono ?_⟩))
    rintro z os ⟨rfl, rfl⟩
    refine ok_nil ⟨_, rfl, (bad_text hv ht hb).mono ?_⟩
    rintro z os ⟨hz, rfl⟩
    refine ok_nil ⟨gs, _, _, rfl, fApp_ok (by omega), ?_⟩
    refine ⟨gs ++ [z], _, rfl, by rw [List.length_append, List.length_singleton]; omega, by omega, fun d hd => ?_⟩
    rcases List.mem_append.mp hd with hd | hd
    · exact hgs d hd
    · rw [List.mem_singleton.mp hd]; exact hz
  rintro ρ ⟨gs, x5, rfl, lgs, h7, hgs⟩
  refine then_nx ?_
  refine ok_ret (ok_bin (ok_move (d := .list gs) rfl (ok_lst (ok_cons (ok_lst (ok_cons (ok_var (d := .str X) rfl (ok_nil (ok_cons (ok_tup (ok_cons (ok_var (d := .str X) rfl (ok_nil (ok_cons (ok_tup (ok_cons (ok_var (d := tD v) rfl (ok_cons (ok_var (d := tabD t) rfl (ok_nil (ok_nil ⟨_, gAddL_ok (by simp; omega), defK_rt rfl ⟨⟨_, rfl, fun d hd => ?_⟩, rfl⟩⟩)))))))))))))))))))))
  rcases List.mem_append.mp hd with hd | hd
  · exact hgs d hd
  · simp only [List.mem_cons, List.not_mem_nil, or_false] at hd
    rcases hd with rfl | rfl | rfl <;> exact rn_read rfl
end
end Pf
namespace Pf
open PySem MW L2 TL
theorem head64 (ns : List Int) (hl : ns.length ≤ 63) {rest : Ev} {P : List D → Ev → Prop} (h : ∀ items : List D, (∀ d ∈ items, ∃ i : Int, d = .int i) → P items (some (.list (ns.map .int)) :: rest)) :
    Ok (mSeqD (mBin gAdd (mLst (mCons (mCallD m__law_cell_at [none, none] (mCons (mVar 0) (mCons (mC (.int 0)) mNil))) mNil)) (mSl (mVar 0) (mPart (mC (.int 1))) (mPart (mC (.int 3))))) (some (.list (ns.map .int)) :: rest)) P := by
  refine ok_seqD (ok_bin (ok_lst (ok_cons (ok_callD (ok_cons (ok_var (d := .list (ns.map .int)) rfl (ok_cons (ok_c (ok_nil ⟨_, rfl, ?_⟩)))))))))
  refine (cell_ok ns 0).mono ?_
  rintro z os ⟨i0, rfl, rfl⟩
  refine ok_nil (ok_slL (ok_var (d := .list (ns.map .int)) rfl (ok_part (ok_c ⟨1, rfl, ok_part (ok_c ⟨3, rfl, _, rfl, _, gAddL_ok ?_, _, rfl, ?_⟩)⟩))))
  · have := cut_len' (ns.map PyData.int) (some 1) (some 3)
    rw [List.length_map] at this
    simp only [List.length_cons, List.length_nil]
    omega
  refine h _ fun d hd => ?_
  rcases List.mem_append.mp hd with z | z
  · exact ⟨i0, List.mem_singleton.mp z⟩
  · obtain ⟨i, _, e⟩ := List.mem_map.mp (cut_mem z)
    exact ⟨i, e.symm⟩
end Pf
namespace Pf
open PySem MW L2 TL
abbrev W3 : List (Str × Str) := [("NoTable", "table"), ("NoText", "text"), ("NoView", "view")]
theorem ok_said3E {ws : List (Str × Str)} {mb : Ev → Out D} {ρ : Ev} {c w : Str} {P : D → Ev → Prop} (h : Er (mb ρ) c fun ρ1 => P (.str ("! " ++ w ++ "")) ρ1) (hc : wordOf ws c = some w) : Ok (mSaid3 ws mb ρ) P := by
  obtain ⟨ρ1, e, k⟩ := h.eq
  unfold mSaid3
  rw [e]
  show Ok (match wordOf ws c with | some w => Out.ok (PyData.str ("! " ++ w ++ "")) ρ1 | none => Out.bad) P
  rw [hc]
  exact k
theorem w_text : wordOf W3 "NoText" = some "text" := by decide +kernel
theorem w_view : wordOf W3 "NoView" = some "view" := by decide +kernel
theorem w_table : wordOf W3 "NoTable" = some "table" := by decide +kernel
theorem law_read_ok {d : D} (h : RN d) : Ok (m__law_read [d]) (fun z os => z = .str ("! " ++ "text" ++ "") ∧ os = [none]) := by
  refine ok_def (ρ0 := [some d]) (by rfl) ?_
  unfold mb__law_read
  refine ok_ret (ok_said3E (er_callD (ok_cons (ok_var (d := d) rfl (ok_nil ⟨_, rfl, Er.mono h ?_⟩)))) w_text)
  rintro os rfl
  exact defK_rt rfl ⟨rfl, rfl⟩
theorem table_text_no {d e : D} {x : Str} (h : Er (m_need_table [d, e]) x fun os => os = [none, none]) : Er (m_table_text [d, e]) x fun os => os = [none, none] := by
  refine er_def ?_
  unfold mb_table_text
  refine er_seq (er_drop (er_callD (ok_cons (ok_var (d := d) rfl (ok_cons (ok_var (d := e) rfl (ok_nil ⟨_, rfl, ?_⟩)))))))
  refine h.mono ?_
  rintro os rfl
  exact ⟨rfl, rfl⟩
theorem told65 {d e : D} {x w : Str} (h : Er (m_need_table [d, e]) x fun os => os = [none, none]) (hw : wordOf W3 x = some w) : Ok (m__law_told [d, e]) (fun z os => z = .str ("! " ++ w ++ "") ∧ os = [none, none]) := by
  refine ok_def (ρ0 := [some d, some e]) (by rfl) ?_
  unfold mb__law_told
  refine ok_ret (ok_said3E (er_callD (ok_cons (ok_var (d := d) rfl (ok_cons (ok_var (d := e) rfl (ok_nil ⟨_, rfl, (table_text_no h).mono ?_⟩)))))) hw)
  rintro os rfl
  exact defK_rt rfl ⟨rfl, rfl⟩
def isNoB (d : D) : Bool := match m_read_table [d] with
  | .err c os => c == "NoText" && (match os with | [none] => true | _ => false)
  | _ => false
theorem isNoB_rn {d : D} (h : isNoB d = true) : RN d := by
  unfold isNoB at h
  unfold RN
  split at h
  · next c os e =>
    rw [Bool.and_eq_true, beq_iff_eq] at h
    rw [e]
    obtain ⟨h1, h2⟩ := h
    split at h2
    · exact ⟨h1, rfl⟩
    · cases h2
  · cases h
def fewB : Bool := match m__law_few_texts [] with
  | .ok (.list ds) [] => ds.all isNoB
  | _ => false
theorem few_ok : Ok (m__law_few_texts []) (fun z os => (∃ ds, z = .list ds ∧ ∀ d ∈ ds, RN d) ∧ os = []) := by
  have h : fewB = true := by decide +kernel
  unfold fewB at h
  split at h
  · next ds e =>
    rw [e]
    exact ⟨⟨ds, rfl, fun d hd => isNoB_rn (List.all_eq_true.mp h d hd)⟩, rfl⟩
  · cases h
def vBq : D → Bool
  | .tuple ds => decide (1 ≤ ds.length) && decide (ds.length ≤ 9) && ds.all (belowB ds.length)
  | _ => false
theorem vBq_of {d : D} (h : IsV d) : vBq d = true := by
  obtain ⟨v, c, rfl, hv⟩ := h
  show (decide (1 ≤ (v.map nD).length) && decide ((v.map nD).length ≤ 9) && (v.map nD).all (belowB (v.map nD).length)) = true
  rw [List.length_map, decide_eq_true hv.1, decide_eq_true hv.2.1]
  exact below_all fun x hx => by have := hv.2.2.2.1 x hx; have := hv.2.2.1; omega
def viewsB : Bool := match m__law_no_views_v2 [] with
  | .ok (.list ds) [] => ds.all fun d => !vBq d
  | _ => false
theorem views_ok : Ok (m__law_no_views_v2 []) (fun z os => (∃ ds, z = .list ds ∧ ∀ d ∈ ds, ¬ IsV d) ∧ os = []) := by
  have h : viewsB = true := by decide +kernel
  unfold viewsB at h
  split at h
  · next ds e =>
    rw [e]
    refine ⟨⟨ds, rfl, fun d hd z => ?_⟩, rfl⟩
    have := List.all_eq_true.mp h d hd
    rw [vBq_of z] at this
    cases this
  · cases h
section
variable {n c : Nat} {t : List (List (Option Nat))}
theorem tbl_len {ds : List D} (h : ds.length ≠ n) : tabB n c (.tuple ds) = false := by
  show (decide (ds.length = n) && _) = false
  rw [decide_eq_false h]; rfl
theorem tbl_row {ds : List D} {d : D} (hd : d ∈ ds) (h : rowB n c d = false) : tabB n c (.tuple ds) = false := by
  show (_ && ds.all (rowB n c)) = false
  rw [show ds.all (rowB n c) = false from by
    cases e : ds.all (rowB n c) with
    | false => rfl
    | true => rw [List.all_eq_true.mp e d hd] at h; cases h]
  rw [Bool.and_false]
theorem rw_len {ds : List D} (h : ds.length ≠ c) : rowB n c (.tuple ds) = false := by
  show (decide (ds.length = c) && _) = false
  rw [decide_eq_false h]; rfl
theorem rw_in {ds : List D} {d : D} (hd : d ∈ ds) (h : entryB n d = false) : rowB n c (.tuple ds) = false := by
  show (_ && ds.all (entryB n)) = false
  rw [show ds.all (entryB n) = false from by
    cases e : ds.all (entryB n) with
    | false => rfl
    | true => rw [List.all_eq_true.mp e d hd] at h; cases h]
  rw [Bool.and_false]
theorem gIxT_last {ds : List D} {d : D} (h : ds.getLast? = some d) : gIx (.tuple ds) (.int (-1)) = some d := by
  have hl : 1 ≤ ds.length := by
    cases ds with
    | nil => simp at h
    | cons _ _ => simp
  have hp : 0 < ds.length := hl
  show L2.atI ds (-1) = _
  unfold L2.atI L2.ixN
  rw [if_neg (by omega), if_pos (by omega)]
  show ds[((-1 : Int) + (ds.length : Int)).toNat]? = _
  rw [show ((-1 : Int) + (ds.length : Int)).toNat = ds.length - 1 by omega]
  rw [List.getLast?_eq_getElem?] at h
  exact h
def Nt (n c : Nat) (x : D) : Prop := tabB n c x = false ∧ Shw x
theorem nt_c {d : D} (h : tabB n c d = false) (h2 : fitsR d = true) : Nt n c d := ⟨h, h2⟩
theorem lr_q {ρ : Ev} {P : D → Prop} {m : Ev → Out D} {d : D} (e : m ρ = .ok d ρ) (h : P d) : Ok (m ρ) fun z ρ1 => ρ1 = ρ ∧ P z := by rw [e]; exact ⟨rfl, h⟩
def Oe (n : Nat) (e : D) : Prop := entryB n e = false ∧ Rb 60 2 e
set_option maxHeartbeats 4000000 in
theorem no_tables65 {v : List Nat} (hv : Vw v c) (ht : Tab v.length c t) : Ok (m__law_no_tables_v2 [tD v, tabD t]) (fun z os => (∃ ds, z = .list ds ∧ ∀ d ∈ ds, Nt v.length c d) ∧ os = [none, none]) := by
  have h9 := hv.2.1
  have h1 := hv.1
  have hc := hv.2.2.1
  have htl := ht.1
  have hmx := mix_tab ht h9 (by omega)
  have hs : v.length - 1 < t.length := by omega
  have hlast : (t.map rD).getLast? = some (rD t[v.length - 1]) := by
    rw [List.getLast?_eq_getElem?, List.length_map, htl, List.getElem?_map, List.getElem?_eq_getElem hs]; rfl
  have hrow := ht.2 _ (List.getElem_mem hs)
  have ixl : gIx (tabD t) (.int (-1)) = some (rD t[v.length - 1]) := gIxT_last hlast
  have hmr := mix_row hrow (by omega) (show c ≤ 9 by omega)
  refine ok_def (ρ0 := [some (tD v), some (tabD t), none, none]) (by rfl) ?_
  unfold mb__law_no_tables_v2
  refine ok_seq (ok_setL (Ok.mono (P := LR (Nt v.length c) 11 [some (tD v), some (tabD t), none, none]) ?_ ?_))
  · refine lr_cons (lr_c (nt_c rfl (by decide +kernel))) ?_
    refine lr_cons (lr_q (d := .tuple []) rfl (nt_c (tbl_len (by simp; omega)) (by decide +kernel))) ?_
    refine lr_cons (lr_q (d := .list []) rfl (nt_c rfl (by decide +kernel))) ?_
    refine lr_cons (lr_c (nt_c rfl (by decide +kernel))) ?_
    refine lr_cons (lr_c (nt_c rfl (by decide +kernel))) ?_
    refine lr_cons (lr_c (nt_c rfl (by decide +kernel))) ?_
    refine lr_cons (lr_c (nt_c rfl (by decide +kernel))) ?_
    refine lr_cons (lr_q (d := .list (t.map rD)) rfl ⟨rfl, shw_rb hmx.lst (by omega) (by omega)⟩) ?_
    refine lr_cons (ok_slT (ok_var (d := tabD t) rfl (ok_noP (ok_part (ok_un (ok_c ⟨.int (-1), rfl, -1, rfl, _, rfl, rfl, ?_, ?_⟩)))))) ?_
    · rw [cut_dropLast]
      exact tbl_len (by rw [List.length_dropLast, List.length_map]; omega)
    · exact shw_rb (hmx.cut _ _).tup (by omega) (by omega)
    refine lr_cons (ok_bin (ok_var (d := tabD t) rfl (ok_slT (ok_var (d := tabD t) rfl (ok_noP (ok_part (ok_c ⟨1, rfl, _, rfl, ?_⟩))))))) ?_
    · rw [cutD_one]
      refine ⟨_, gAddT_ok (by simp; omega), rfl, tbl_len (by simp; omega), ?_⟩
      have m2 : Mix 1200 3 9 ((t.map rD).take 1) := ⟨by rw [List.length_take]; omega, fun d hd => hmx.all d (List.mem_of_mem_take hd)⟩
      exact shw_rb (hmx.app m2).tup (by omega) (by omega)
    refine lr_cons (lr_q (d := .tuple [tabD t]) rfl ⟨tbl_row (d := tabD t) (by simp) (rw_in (d := rD t[v.length - 1]) (List.mem_map.mpr ⟨_, List.getElem_mem hs, rfl⟩) rfl), ?_⟩) lr_nil
    exact shw_rb (rb_tuple (L := 12000) (k := 4) (n := 1) (fun d hd => by rw [List.mem_singleton.mp hd]; exact hmx.tup.up (by omega) (by omega)) (Nat.le_refl _)) (by omega) (by omega)
  rintro ds ρ ⟨rfl, lds, hds⟩
  refine then_nx ?_
  refine ok_at (ρ' := [some (tD v), some (tabD t), some (.list ds), none]) rfl ?_
  refine ok_seq (ok_for (ok_seqD (ok_lst (Ok.mono (P := LR (Oe v.length) 7 [some (tD v), some (tabD t), some (.list ds), none]) ?_ ?_))))
  · refine lr_cons (ok_call (ok_cons (ok_var (d := tD v) rfl (ok_nil ⟨_, gLenT_ok, rfl, ?_⟩)))) ?_
    · rw [List.length_map]
      refine ⟨?_, (rb_nD (n := v.length) (m := 50) (by omega) (by omega)).up (by omega) (by omega)⟩
      show (decide ((0 : Int) ≤ (v.length : Int)) && decide ((v.length : Int) < (v.length : Int))) = false
      rw [decide_eq_false (by omega : ¬ (v.length : Int) < (v.length : Int)), Bool.and_false]
    refine lr_cons (ok_un (ok_c ⟨.int (-1), rfl, rfl, rfl, rb_c (by decide +kernel)⟩)) ?_
    refine lr_cons (lr_c ⟨rfl, rb_c (by decide +kernel)⟩) ?_
    refine lr_cons (lr_c ⟨rfl, rb_c (by decide +kernel)⟩) ?_
    refine lr_cons (ok_bin (ok_c (ok_c ⟨.int 1000000000000, rfl, rfl, ?_, rb_c (by decide +kernel)⟩))) ?_
    · show (decide ((0 : Int) ≤ 1000000000000) && decide ((1000000000000 : Int) < (v.length : Int))) = false
      rw [decide_eq_false (by omega : ¬ (1000000000000 : Int) < (v.length : Int)), Bool.and_false]
    refine lr_cons (lr_q (d := .tuple [.int 0]) rfl ⟨rfl, rb_c (by decide +kernel)⟩) ?_
    exact lr_cons (lr_q (d := .list [.int 0]) rfl ⟨rfl, rb_c (by decide +kernel)⟩) lr_nil
  rintro es ρ ⟨rfl, les, hes⟩
  refine ⟨_, rfl, ?_⟩
  refine for_inv (fun k ρ => ∃ (gs : List D) (x3 : Option D), ρ = [some (tD v), some (tabD t), some (.list gs), x3] ∧ gs.length = 11 + k ∧ k ≤ 7 ∧ ∀ d ∈ gs, Nt v.length c d) 0 ⟨ds, none, rfl, by omega, by omega, hds⟩ ?_ ?_
  · rintro i e ρ hi ⟨gs, x3, rfl, lgs, hi7, hgs⟩
    have hi6 : i < 7 := by have := (List.getElem?_eq_some_iff.mp hi).1; omega
    obtain ⟨o1, o2⟩ := hes e (List.mem_of_getElem? hi)
    refine ⟨_, rfl, ?_⟩
    refine ok_at (ρ' := [some (tD v), some (tabD t), some (.list gs), some e]) rfl ?_
    refine ok_drop (ok_upd (d := .list gs) rfl (ok_cons (ok_callD (ok_cons (ok_var (d := tabD t) rfl (ok_cons (ok_bin (ok_call (ok_cons (ok_var (d := tD v) rfl (ok_nil ⟨_, gLenT_ok, ok_c ⟨nD (v.length - 1), ?_, ?_⟩⟩)))))))))))
    · rw [List.length_map, gSub_ok]; congr 2; omega
    refine ok_cons (ok_call (ok_cons (ok_var (d := tD v) rfl (ok_nil ⟨nD (c - 1), by rw [max_view hv]; congr 2; omega, ?_⟩))))
    refine ok_cons (ok_var (d := e) rfl (ok_nil ⟨_, rfl, (with_ok ht h1 h9 hc.1 (by omega) e).mono ?_⟩))
    rintro z os ⟨rfl, rfl⟩
    refine ok_nil ⟨gs, _, _, rfl, fApp_ok (by omega), ?_⟩
    refine ⟨_, _, rfl, by rw [List.length_append, List.length_singleton]; omega, by omega, fun d hd => ?_⟩
    rcases List.mem_append.mp hd with hd | hd
    · exact hgs d hd
    · rw [List.mem_singleton.mp hd]
      refine ⟨tbl_row (List.mem_append_right _ (List.mem_singleton.mpr rfl)) (rw_in (List.mem_append_right _ (List.mem_singleton.mpr rfl)) o1), ?_⟩
      have hg : t.getD (v.length - 1) [] = t[v.length - 1] := by rw [List.getD_eq_getElem?_getD, List.getElem?_eq_getElem hs]; rfl
      rw [hg]
      have m1 : Mix 60 2 9 ((t[v.length - 1].take (c - 1)).map oD) := ⟨by rw [List.length_map, List.length_take]; omega, fun d hd => by
        obtain ⟨o, ho, rfl⟩ := List.mem_map.mp hd
        exact hmr.all _ (List.mem_map.mpr ⟨o, List.mem_of_mem_take ho, rfl⟩)⟩
      have m2 : Mix 60 2 1 [e] := ⟨Nat.le_refl _, fun d hd => by rw [List.mem_singleton.mp hd]; exact o2⟩
      have m3 := ((m1.app m2).tup).up (L' := 1200) (k' := 3) (by omega) (by omega)
      have m4 : Mix 1200 3 9 ((t.take (v.length - 1)).map rD) := ⟨by rw [List.length_map, List.length_take]; omega, fun d hd => by
        obtain ⟨o, ho, rfl⟩ := List.mem_map.mp hd
        exact hmx.all _ (List.mem_map.mpr ⟨o, List.mem_of_mem_take ho, rfl⟩)⟩
      have m5 : Mix 1200 3 1 [PyData.tuple ((t[v.length - 1].take (c - 1)).map oD ++ [e])] := ⟨Nat.le_refl _, fun d hd => by rw [List.mem_singleton.mp hd]; exact m3⟩
      exact shw_rb (m4.app m5).tup (by omega) (by omega)
  rintro ρ ⟨gs, x3, rfl, lgs, h7, hgs⟩
  refine then_nx ?_
  have mdl : Mix 1200 3 9 ((t.map rD).dropLast) := ⟨by rw [List.length_dropLast, List.length_map]; omega, fun d hd => hmx.all _ (List.dropLast_subset _ hd)⟩
  have fin : ∀ {x : D}, rowB v.length c x = false → Rb 1200 3 x → Nt v.length c (.tuple ((t.map rD).dropLast ++ [x])) := fun {x} hx hr => ⟨tbl_row (List.mem_append_right _ (List.mem_singleton.mpr rfl)) hx, shw_rb (mdl.app (⟨Nat.le_refl _, fun d hd => by rw [List.mem_singleton.mp hd]; exact hr⟩ : Mix 1200 3 1 [x])).tup (by omega) (by omega)⟩
  have lr1 : (t[v.length - 1]).length = c := hrow.1
  refine ok_ret (ok_bin (ok_move (d := .list gs) rfl (ok_lst (Ok.mono (P := LR (Nt v.length c) 3 [some (tD v), some (tabD t), none, x3]) ?_ ?_))))
  · have dl : ∀ {ρ : Ev} {P : D → Ev → Prop}, rd ρ 1 = some (tabD t) → P (.tuple ((t.map rD).dropLast)) ρ → Ok (mSl (mVar 1) mNoP (mPart (mUn gNeg (mC (.int 1)))) ρ) P := fun h k => ok_slT (ok_var h (ok_noP (ok_part (ok_un (ok_c ⟨.int (-1), rfl, -1, rfl, _, rfl, by rw [cut_dropLast]; exact k⟩)))))
    have il : ∀ {ρ : Ev} {P : D → Ev → Prop}, rd ρ 1 = some (tabD t) → P (rD t[v.length - 1]) ρ → Ok (mBin gIx (mVar 1) (mUn gNeg (mC (.int 1))) ρ) P := fun h k => ok_bin (ok_var h (ok_un (ok_c ⟨.int (-1), rfl, _, ixl, k⟩)))
    refine lr_cons (ok_bin (dl rfl (ok_tup (ok_cons (ok_lst (ok_callL (ok_cons (il rfl (ok_nil ⟨_, rfl, ok_nil ⟨_, gAddT_ok ?_, rfl, fin rfl (hmr.lst.up (by omega) (by omega))⟩⟩))))))))) ?_
    · rw [List.length_dropLast, List.length_map, List.length_singleton]; omega
    refine lr_cons (ok_bin (dl rfl (ok_tup (ok_cons (ok_bin (il rfl (ok_tup (ok_cons (ok_c (ok_nil ⟨_, gAddT_ok ?_, ok_nil ⟨_, gAddT_ok ?_, rfl, fin (rw_len ?_) ?_⟩⟩)))))))))) ?_
    · rw [List.length_map, List.length_singleton]; omega
    · rw [List.length_dropLast, List.length_map, List.length_singleton]; omega
    · rw [List.length_append, List.length_map, List.length_singleton]; omega
    · exact ((hmr.app (⟨Nat.le_refl _, fun d hd => by rw [List.mem_singleton.mp hd]; exact rb_c (by decide +kernel)⟩ : Mix 60 2 1 [PyData.none])).tup).up (by omega) (by omega)
    refine lr_cons (ok_bin (dl rfl (ok_tup (ok_cons (ok_slT (il rfl (ok_part (ok_c ⟨1, rfl, ok_noP ⟨_, rfl, ok_nil ⟨_, gAddT_ok ?_, rfl, fin (rw_len ?_) ?_⟩⟩⟩)))))))) lr_nil
    · rw [List.length_dropLast, List.length_map, List.length_singleton]; omega
    · rw [show (some (1 : Int)) = some ((1 : Nat) : Int) from rfl, cutD_fr _ (by rw [List.length_map]; omega), List.length_drop, List.length_map]; omega
    · exact ((hmr.cut _ _).tup).up (by omega) (by omega)
  rintro es2 ρ ⟨rfl, les2, hes2⟩
  refine ⟨_, gAddL_ok (by omega), defK_rt rfl ⟨⟨_, rfl, fun d hd => ?_⟩, rfl⟩⟩
  rcases List.mem_append.mp hd with hd | hd
  · exact hgs d hd
  · exact hes2 d hd
end
theorem none_left {g : Ev → D → Option Ev} {mt : Ev → Out Bool} {me : Ev → Out D} {vs : List Nat} {ρ0 : Ev} {ds : List D} (h : ∀ x ∈ ds, ∃ ρ1, g ρ0 x = some ρ1 ∧ Ok (mt ρ1) fun b ρ2 => b = false ∧ wipeE ρ2 vs = ρ0) : Ok (compM g mt me vs ds ρ0) fun ys ρ => ys = [] ∧ ρ = ρ0 := by
  have := comp_filter (enc := fun x : D => x) (fun _ => false) (fun _ => .none) (l := ds) (g := g) (mt := mt) (me := me) (vs := vs) (ρ0 := ρ0) fun x hx => by
    obtain ⟨ρ1, e, k⟩ := h x hx
    exact ⟨ρ1, e, k.mono fun b ρ2 ⟨a, w⟩ => ⟨a, by rw [a]; exact L2.iteF w⟩⟩
  rw [List.map_id'] at this
  exact this.mono fun ys ρ ⟨a, b⟩ => ⟨by rw [a, List.filter_eq_nil_iff.mpr (fun _ _ => by simp)]; rfl, b⟩
theorem neT3 : bNe (.str ("! " ++ "text" ++ "")) (.str "! text") = some false := by decide +kernel
theorem neV3 : bNe (.str ("! " ++ "view" ++ "")) (.str "! view") = some false := by decide +kernel
theorem neB3 : bNe (.str ("! " ++ "table" ++ "")) (.str "! table") = some false := by decide +kernel
theorem ne00 : bNe (.list []) (.list []) = some false := by decide +kernel
theorem law_ok65 (ns : List Int) (hl : ns.length ≤ 63) : Ok (m_law_k65 [.list (ns.map .int)]) (fun z _ => z = .bool true) := by
  refine ok_def (ρ0 := [some (.list (ns.map .int)), none, none, none, none, none, none]) (by rfl) ?_
  unfold mb_law_k65
  refine ok_seq (ok_ifS (ok_test (ok_lst (ok_lc (ok_seqD (ok_callD (ok_nil ⟨_, rfl, few_ok.mono ?_⟩)))))))
  rintro z os ⟨⟨ds, rfl, hds⟩, rfl⟩
  refine ⟨_, rfl, ?_⟩
  refine (none_left fun x hx => ⟨_, rfl, ok_test (ok_callD (ok_cons (ok_var (d := x) rfl (ok_nil ⟨_, rfl, (law_read_ok (hds x hx)).mono ?_⟩))))⟩).mono ?_
  · rintro z os ⟨rfl, rfl⟩
    exact ok_c ⟨false, neT3, rfl, rfl⟩
  rintro ys ρ ⟨rfl, rfl⟩
  refine ok_lst (ok_nil ⟨false, ne00, L2.iteF (ok_next (then_nx ?_))⟩)
  refine ok_at (ρ' := [some (.list (ns.map .int)), none, none, none, none, none, none]) rfl ?_
  refine ok_seq (ok_ifS (ok_test (ok_lst (ok_lc (ok_seqD (ok_callD (ok_nil ⟨_, rfl, views_ok.mono ?_⟩)))))))
  rintro z os ⟨⟨es, rfl, hes⟩, rfl⟩
  refine ⟨_, rfl, ?_⟩
  refine (none_left fun x hx => ⟨_, rfl, ok_test (ok_callD (ok_cons (ok_var (d := x) rfl (ok_cons (ok_c (ok_nil ⟨_, rfl, (told65 (need_table_noV (hes x hx)) w_view).mono ?_⟩))))))⟩).mono ?_
  · rintro z os ⟨rfl, rfl⟩
    exact ok_c ⟨false, neV3, rfl, rfl⟩
  rintro ys ρ ⟨rfl, rfl⟩
  refine ok_lst (ok_nil ⟨false, ne00, L2.iteF (ok_next (then_nx ?_))⟩)
  refine ok_at (ρ' := [some (.list (ns.map .int)), none, none, none, none, none, none]) rfl ?_
  refine ok_seq (ok_for (head64 ns hl fun items hit => ?_))
  refine for_inv (fun _ ρ => ∃ x1 x2 x3 x4 x5 x6, ρ = [some (.list (ns.map .int)), x1, x2, x3, x4, x5, x6]) 0 ⟨_, _, _, _, _, _, rfl⟩ ?_ ?_
  · rintro i e ρ hi ⟨x1, x2, x3, x4, x5, x6, rfl⟩
    obtain ⟨cell, rfl⟩ := hit e (List.mem_of_getElem? hi)
    refine ⟨_, rfl, ?_⟩
    refine ok_at (ρ' := [some (.list (ns.map .int)), some (.int cell), x2, x3, x4, x5, x6]) rfl ?_
    refine ok_seq (ok_setL (ok_callDL (ok_cons (ok_var (d := .int cell) rfl (ok_nil ⟨_, rfl, ?_⟩)))))
    refine (pen_ok cell).mono ?_
    rintro ds os ⟨hp, rfl⟩
    refine then_nx ?_
    generalize PyData.list ds = p at hp
    refine ok_at (ρ' := [some (.list (ns.map .int)), some (.int cell), some p, x3, x4, x5, x6]) rfl ?_
    refine ok_seq (ok_set (ok_callD (ok_lend (d := p) rfl (ok_cons (ok_c (ok_cons (ok_c (ok_nil ⟨_, rfl, ?_⟩))))))))
    refine (viewLH_ok (lw := 1) (up := 9) hp (by omega) (by omega) (by omega) (by omega)).mono ?_
    rintro z os ⟨v, c, p, rfl, hv, _, rfl, hp⟩
    refine then_nx ?_
    refine ok_at (ρ' := [some (.list (ns.map .int)), some (.int cell), some p, some (tD v), x4, x5, x6]) rfl ?_
    refine ok_seq (ok_set (ok_callD (ok_lend (d := p) rfl (ok_cons (ok_var (d := tD v) rfl (ok_nil ⟨_, rfl, ?_⟩))))))
    refine (lany_ok hp (by omega) hv).mono ?_
    rintro z os ⟨t, p, rfl, ht, rfl, hp⟩
    refine then_nx ?_
    refine ok_at (ρ' := [some (.list (ns.map .int)), some (.int cell), some p, some (tD v), some (tabD t), x5, x6]) rfl ?_
    refine ok_seq (ok_ifS (ok_test (ok_lst (ok_lc (ok_seqD (ok_callD (ok_cons (ok_var (d := tD v) rfl (ok_cons (ok_var (d := tabD t) rfl (ok_nil ⟨_, rfl, (no_texts_ok hv ht).mono ?_⟩)))))))))))
    rintro z os ⟨⟨ds, rfl, hds⟩, rfl⟩
    refine ⟨_, rfl, ?_⟩
    refine (none_left fun x hx => ⟨_, rfl, ok_test (ok_callD (ok_cons (ok_var (d := x) rfl (ok_nil ⟨_, rfl, (law_read_ok (hds x hx)).mono ?_⟩))))⟩).mono ?_
    · rintro z os ⟨rfl, rfl⟩
      exact ok_c ⟨false, neT3, rfl, rfl⟩
    rintro ys ρ ⟨rfl, rfl⟩
    refine ok_lst (ok_nil ⟨false, ne00, L2.iteF (ok_next (then_nx ?_))⟩)
    refine ok_at (ρ' := [some (.list (ns.map .int)), some (.int cell), some p, some (tD v), some (tabD t), x5, x6]) rfl ?_
    refine ok_for (ok_seqD (ok_callD (ok_cons (ok_var (d := tD v) rfl (ok_cons (ok_var (d := tabD t) rfl (ok_nil ⟨_, rfl, (no_tables65 hv ht).mono ?_⟩)))))))
    rintro z os ⟨⟨es, rfl, hes⟩, rfl⟩
    refine ⟨_, rfl, ?_⟩
    refine for_inv (fun _ ρ => ∃ x5 x6, ρ = [some (.list (ns.map .int)), some (.int cell), some p, some (tD v), some (tabD t), x5, x6]) 0 ⟨x5, x6, rfl⟩ ?_ ?_
    · rintro j e ρ hj ⟨x5, x6, rfl⟩
      obtain ⟨n1, n2⟩ := hes e (List.mem_of_getElem? hj)
      refine ⟨_, rfl, ?_⟩
      refine ok_at (ρ' := [some (.list (ns.map .int)), some (.int cell), some p, some (tD v), some (tabD t), some e, x6]) rfl ?_
      refine ok_seq (ok_set (ok_call (ok_cons (ok_var (d := e) rfl (ok_nil ⟨_, gRepr_shw n2, then_nx ?_⟩)))))
      refine ok_at (ρ' := [some (.list (ns.map .int)), some (.int cell), some p, some (tD v), some (tabD t), some e, some (.str e.shown)]) rfl ?_
      refine ok_ifS (ok_orB (ok_test (ok_callD (ok_cons (ok_var (d := tD v) rfl (ok_cons (ok_var (d := e) rfl (ok_nil ⟨_, rfl, (told65 (need_table_no hv n1) w_table).mono ?_⟩)))))))) 
      rintro z os ⟨rfl, rfl⟩
      refine ok_c ⟨false, neB3, L2.iteF ?_⟩
      exact ok_test (ok_call (ok_cons (ok_var (d := e) rfl (ok_nil ⟨_, gRepr_shw n2, ok_var (d := .str e.shown) rfl ⟨false, bNe_str _, L2.iteF (ok_next ⟨_, _, rfl⟩)⟩⟩))))
    · rintro ρ ⟨x5, x6, rfl⟩
      exact ⟨_, _, _, _, _, _, rfl⟩
  · rintro ρ ⟨x1, x2, x3, x4, x5, x6, rfl⟩
    exact then_nx (ok_ret (ok_c (defK_rt rfl rfl)))
theorem law_holds : ∀ ns : List Int, ns.length ≤ 63 → ∃ zs, m_law_k65 [.list (ns.map PyData.int)] = .ok (.bool true) zs := fun ns hl => by
  obtain ⟨d, zs, e, rfl⟩ := (law_ok65 ns hl).eq
  exact ⟨zs, e⟩
end Pf
namespace Pf
open PySem PySem.Spec PyProof.Rows L2 MW
abbrev topS (i : Nat) : Stmt := PySem.Challenge.pw_writebacks_k65_texts_refused.main.body.getD i (.Pass ⟨0, 0, 0, 0⟩)
structure Txt (K : Fg) (mg : Str → Option Value) (adr : Nat → Addr) (fds : Nat → FuncData) : Prop where
  F_is_whole : L2.Fun K "is_whole" "is_whole" (topS 22) (adr 22) (fds 22)
  b_is_whole : Binds K (fds 22) ["thing"] []
  g_is_whole : mg "is_whole" = some (.ref (adr 22))
  F_is_below : L2.Fun K "is_below" "is_below" (topS 23) (adr 23) (fds 23)
  b_is_below : Binds K (fds 23) ["thing", "limit"] []
  g_is_below : mg "is_below" = some (.ref (adr 23))
  F_is_view : L2.Fun K "is_view" "is_view" (topS 26) (adr 26) (fds 26)
  b_is_view : Binds K (fds 26) ["thing"] []
  g_is_view : mg "is_view" = some (.ref (adr 26))
  F_need_view : L2.Fun K "need_view" "need_view" (topS 27) (adr 27) (fds 27)
  b_need_view : Binds K (fds 27) ["view"] []
  g_need_view : mg "need_view" = some (.ref (adr 27))
  F_count_values : L2.Fun K "count_values" "count_values" (topS 28) (adr 28) (fds 28)
  b_count_values : Binds K (fds 28) ["view"] []
  g_count_values : mg "count_values" = some (.ref (adr 28))
  F__is_row : L2.Fun K "_is_row" "_is_row" (topS 30) (adr 30) (fds 30)
  b__is_row : Binds K (fds 30) ["view", "thing"] []
  g__is_row : mg "_is_row" = some (.ref (adr 30))
  F_is_table : L2.Fun K "is_table" "is_table" (topS 29) (adr 29) (fds 29)
  b_is_table : Binds K (fds 29) ["view", "thing"] []
  g_is_table : mg "is_table" = some (.ref (adr 29))
  F_need_table : L2.Fun K "need_table" "need_table" (topS 31) (adr 31) (fds 31)
  b_need_table : Binds K (fds 31) ["view", "table"] []
  g_need_table : mg "need_table" = some (.ref (adr 31))
  F_words : L2.Fun K "words" "words" (topS 34) (adr 34) (fds 34)
  b_words : Binds K (fds 34) ["entries"] []
  g_words : mg "words" = some (.ref (adr 34))
  F_table_text : L2.Fun K "table_text" "table_text" (topS 35) (adr 35) (fds 35)
  b_table_text : Binds K (fds 35) ["view", "table"] []
  g_table_text : mg "table_text" = some (.ref (adr 35))
  F__entry : L2.Fun K "_entry" "_entry" (topS 38) (adr 38) (fds 38)
  b__entry : Binds K (fds 38) ["word"] []
  g__entry : mg "_entry" = some (.ref (adr 38))
  F__entries : L2.Fun K "_entries" "_entries" (topS 37) (adr 37) (fds 37)
  b__entries : Binds K (fds 37) ["line"] []
  g__entries : mg "_entries" = some (.ref (adr 37))
  F_read_table : L2.Fun K "read_table" "read_table" (topS 36) (adr 36) (fds 36)
  b_read_table : Binds K (fds 36) ["text"] []
  g_read_table : mg "read_table" = some (.ref (adr 36))
  F__law_cell_at : L2.Fun K "_law_cell_at" "_law_cell_at" (topS 40) (adr 40) (fds 40)
  b__law_cell_at : Binds K (fds 40) ["_law_script", "_law_k"] []
  g__law_cell_at : mg "_law_cell_at" = some (.ref (adr 40))
  F__law_pen : L2.Fun K "_law_pen" "_law_pen" (topS 41) (adr 41) (fds 41)
  b__law_pen : Binds K (fds 41) ["_law_cell"] []
  g__law_pen : mg "_law_pen" = some (.ref (adr 41))
  F__law_draw : L2.Fun K "_law_draw" "_law_draw" (topS 42) (adr 42) (fds 42)
  b__law_draw : Binds K (fds 42) ["_law_pen_here", "_law_many"] []
  g__law_draw : mg "_law_draw" = some (.ref (adr 42))
  F__law_view : L2.Fun K "_law_view" "_law_view" (topS 43) (adr 43) (fds 43)
  b__law_view : Binds K (fds 43) ["_law_pen_here", "_law_low", "_law_high"] []
  g__law_view : mg "_law_view" = some (.ref (adr 43))
  F__law_any : L2.Fun K "_law_any" "_law_any" (topS 44) (adr 44) (fds 44)
  b__law_any : Binds K (fds 44) ["_law_pen_here", "_law_view_here"] []
  g__law_any : mg "_law_any" = some (.ref (adr 44))
  F__law_text : L2.Fun K "_law_text" "_law_text" (topS 45) (adr 45) (fds 45)
  b__law_text : Binds K (fds 45) ["_law_view_here", "_law_table"] []
  g__law_text : mg "_law_text" = some (.ref (adr 45))
  F__law_kind : L2.Fun K "_law_kind" "_law_kind" (topS 46) (adr 46) (fds 46)
  b__law_kind : Binds K (fds 46) ["_law_e"] []
  g__law_kind : mg "_law_kind" = some (.ref (adr 46))
  F__law_said : L2.Fun K "_law_said" "_law_said" (topS 47) (adr 47) (fds 47)
  b__law_said : Binds K (fds 47) ["_law_call"] []
  g__law_said : mg "_law_said" = some (.ref (adr 47))
  F__law_with : L2.Fun K "_law_with" "_law_with" (topS 48) (adr 48) (fds 48)
  b__law_with : Binds K (fds 48) ["_law_table", "_law_state", "_law_value", "_law_entry"] []
  g__law_with : mg "_law_with" = some (.ref (adr 48))
  F__law_no_views : L2.Fun K "_law_no_views" "_law_no_views" (topS 49) (adr 49) (fds 49)
  b__law_no_views : Binds K (fds 49) [] []
  g__law_no_views : mg "_law_no_views" = some (.ref (adr 49))
  F__law_no_tables : L2.Fun K "_law_no_tables" "_law_no_tables" (topS 50) (adr 50) (fds 50)
  b__law_no_tables : Binds K (fds 50) ["_law_view_here", "_law_table"] []
  g__law_no_tables : mg "_law_no_tables" = some (.ref (adr 50))
  F__law_read : L2.Fun K "_law_read" "_law_read" (topS 51) (adr 51) (fds 51)
  b__law_read : Binds K (fds 51) ["_law_thing"] []
  g__law_read : mg "_law_read" = some (.ref (adr 51))
  F__law_told : L2.Fun K "_law_told" "_law_told" (topS 52) (adr 52) (fds 52)
  b__law_told : Binds K (fds 52) ["_law_view_here", "_law_table"] []
  g__law_told : mg "_law_told" = some (.ref (adr 52))
  F__law_few_texts : L2.Fun K "_law_few_texts" "_law_few_texts" (topS 53) (adr 53) (fds 53)
  b__law_few_texts : Binds K (fds 53) [] []
  g__law_few_texts : mg "_law_few_texts" = some (.ref (adr 53))
  F__law_no_texts : L2.Fun K "_law_no_texts" "_law_no_texts" (topS 54) (adr 54) (fds 54)
  b__law_no_texts : Binds K (fds 54) ["_law_view_here", "_law_table"] []
  g__law_no_texts : mg "_law_no_texts" = some (.ref (adr 54))
  F_law : L2.Fun K "law" "law" (topS 55) (adr 55) (fds 55)
  b_law : Binds K (fds 55) ["_law_script"] []
  g_law : mg "law" = some (.ref (adr 55))
  d_WriteError : PySem.W.hasDictIn K (adr 1) = true
  e_WriteError : mg "WriteError" = some (.ref (adr 1))
  s_WriteError : PySem.W.subIn K (.ref (adr 1)) (.type "BaseException") = some true
  t_WriteError : PySem.W.typeIn K (.ref (adr 1)) = some (.type "type")
  u_NoTable_WriteError : PySem.W.subIn K (.ref (adr 3)) (.ref (adr 1)) = some true
  u_NoText_WriteError : PySem.W.subIn K (.ref (adr 19)) (.ref (adr 1)) = some true
  u_NoView_WriteError : PySem.W.subIn K (.ref (adr 2)) (.ref (adr 1)) = some true
  c_MOST_STATES : ∃ t, mg "MOST_STATES" = some (.int 9 t)
  c_REFUSED : ∃ t, mg "REFUSED" = some (.str "-" t)
  e_NoTable : mg "NoTable" = some (.ref (adr 3))
  x_NoTable : PySem.W.excIn K (adr 3) [.type "ValueError", .type "Exception", .type "BaseException", .type "object"] "ValueError.__new__" = true
  k_NoTable : PySem.W.keepIn K (.ref (adr 3)) = true
  s_NoTable : PySem.W.subIn K (.ref (adr 3)) (.type "BaseException") = some true
  t_NoTable : PySem.W.typeIn K (.ref (adr 3)) = some (.type "type")
  e_NoText : mg "NoText" = some (.ref (adr 19))
  x_NoText : PySem.W.excIn K (adr 19) [.type "ValueError", .type "Exception", .type "BaseException", .type "object"] "ValueError.__new__" = true
  k_NoText : PySem.W.keepIn K (.ref (adr 19)) = true
  s_NoText : PySem.W.subIn K (.ref (adr 19)) (.type "BaseException") = some true
  t_NoText : PySem.W.typeIn K (.ref (adr 19)) = some (.type "type")
  e_NoView : mg "NoView" = some (.ref (adr 2))
  x_NoView : PySem.W.excIn K (adr 2) [.type "ValueError", .type "Exception", .type "BaseException", .type "object"] "ValueError.__new__" = true
  k_NoView : PySem.W.keepIn K (.ref (adr 2)) = true
  s_NoView : PySem.W.subIn K (.ref (adr 2)) (.type "BaseException") = some true
  t_NoView : PySem.W.typeIn K (.ref (adr 2)) = some (.type "type")
  z_ValueError : mg "ValueError" = none
  z_all : mg "all" = none
  z_bool : mg "bool" = none
  z_enumerate : mg "enumerate" = none
  z_int : mg "int" = none
  z_isinstance : mg "isinstance" = none
  z_len : mg "len" = none
  z_list : mg "list" = none
  z_max : mg "max" = none
  z_range : mg "range" = none
  z_repr : mg "repr" = none
  z_set : mg "set" = none
  z_str : mg "str" = none
  z_tuple : mg "tuple" = none
  hg_NoTable : PySem.W.findIn K (.ref (adr 3)) "__getattribute__" = some (some (.builtin "BaseException.__getattribute__"))
  hk_NoTable : PySem.W.findIn K (.ref (adr 3)) "__getattr__" = some none
  hd_NoTable : PySem.W.hasDictIn K (adr 3) = true
  ha_NoTable : PySem.W.findIn K (.ref (adr 3)) "__class__" = some (some (.builtin "object.__class__"))
  hm_NoTable : PySem.W.mroIn K (adr 3) (.type "object") = some true
  qv_NoTable : PySem.W.kitOne K (.ref (adr 3)) (.type "ValueError") = some true
  q_NoTable_NoView : PySem.W.kitOne K (.ref (adr 3)) (.ref (adr 2)) = some false
  q_NoTable_NoTable : PySem.W.kitOne K (.ref (adr 3)) (.ref (adr 3)) = some true
  q_NoTable_NotSound : PySem.W.kitOne K (.ref (adr 3)) (.ref (adr 4)) = some false
  q_NoTable_Alike : PySem.W.kitOne K (.ref (adr 3)) (.ref (adr 6)) = some false
  q_NoTable_NoWishes : PySem.W.kitOne K (.ref (adr 3)) (.ref (adr 8)) = some false
  q_NoTable_NoState : PySem.W.kitOne K (.ref (adr 3)) (.ref (adr 11)) = some false
  q_NoTable_NoValue : PySem.W.kitOne K (.ref (adr 3)) (.ref (adr 12)) = some false
  q_NoTable_NoViews : PySem.W.kitOne K (.ref (adr 3)) (.ref (adr 14)) = some false
  q_NoTable_Refused : PySem.W.kitOne K (.ref (adr 3)) (.ref (adr 16)) = some false
  q_NoTable_Full : PySem.W.kitOne K (.ref (adr 3)) (.ref (adr 17)) = some false
  q_NoTable_Clash : PySem.W.kitOne K (.ref (adr 3)) (.ref (adr 20)) = some false
  q_NoTable_NoText : PySem.W.kitOne K (.ref (adr 3)) (.ref (adr 19)) = some false
  q_NoTable_NoParts : PySem.W.kitOne K (.ref (adr 3)) (.ref (adr 5)) = some false
  q_NoTable_TooLarge : PySem.W.kitOne K (.ref (adr 3)) (.ref (adr 7)) = some false
  q_NoTable_NoPairs : PySem.W.kitOne K (.ref (adr 3)) (.ref (adr 9)) = some false
  q_NoTable_NoStep : PySem.W.kitOne K (.ref (adr 3)) (.ref (adr 13)) = some false
  q_NoTable_NotIndependent : PySem.W.kitOne K (.ref (adr 3)) (.ref (adr 10)) = some false
  q_NoTable_NoCell : PySem.W.kitOne K (.ref (adr 3)) (.ref (adr 15)) = some false
  q_NoTable_NothingDone : PySem.W.kitOne K (.ref (adr 3)) (.ref (adr 18)) = some false
  hg_NoText : PySem.W.findIn K (.ref (adr 19)) "__getattribute__" = some (some (.builtin "BaseException.__getattribute__"))
  hk_NoText : PySem.W.findIn K (.ref (adr 19)) "__getattr__" = some none
  hd_NoText : PySem.W.hasDictIn K (adr 19) = true
  ha_NoText : PySem.W.findIn K (.ref (adr 19)) "__class__" = some (some (.builtin "object.__class__"))
  hm_NoText : PySem.W.mroIn K (adr 19) (.type "object") = some true
  qv_NoText : PySem.W.kitOne K (.ref (adr 19)) (.type "ValueError") = some true
  q_NoText_NoView : PySem.W.kitOne K (.ref (adr 19)) (.ref (adr 2)) = some false
  q_NoText_NoTable : PySem.W.kitOne K (.ref (adr 19)) (.ref (adr 3)) = some false
  q_NoText_NotSound : PySem.W.kitOne K (.ref (adr 19)) (.ref (adr 4)) = some false
  q_NoText_Alike : PySem.W.kitOne K (.ref (adr 19)) (.ref (adr 6)) = some false
  q_NoText_NoWishes : PySem.W.kitOne K (.ref (adr 19)) (.ref (adr 8)) = some false
  q_NoText_NoState : PySem.W.kitOne K (.ref (adr 19)) (.ref (adr 11)) = some false
  q_NoText_NoValue : PySem.W.kitOne K (.ref (adr 19)) (.ref (adr 12)) = some false
  q_NoText_NoViews : PySem.W.kitOne K (.ref (adr 19)) (.ref (adr 14)) = some false
  q_NoText_Refused : PySem.W.kitOne K (.ref (adr 19)) (.ref (adr 16)) = some false
  q_NoText_Full : PySem.W.kitOne K (.ref (adr 19)) (.ref (adr 17)) = some false
  q_NoText_Clash : PySem.W.kitOne K (.ref (adr 19)) (.ref (adr 20)) = some false
  q_NoText_NoText : PySem.W.kitOne K (.ref (adr 19)) (.ref (adr 19)) = some true
  q_NoText_NoParts : PySem.W.kitOne K (.ref (adr 19)) (.ref (adr 5)) = some false
  q_NoText_TooLarge : PySem.W.kitOne K (.ref (adr 19)) (.ref (adr 7)) = some false
  q_NoText_NoPairs : PySem.W.kitOne K (.ref (adr 19)) (.ref (adr 9)) = some false
  q_NoText_NoStep : PySem.W.kitOne K (.ref (adr 19)) (.ref (adr 13)) = some false
  q_NoText_NotIndependent : PySem.W.kitOne K (.ref (adr 19)) (.ref (adr 10)) = some false
  q_NoText_NoCell : PySem.W.kitOne K (.ref (adr 19)) (.ref (adr 15)) = some false
  q_NoText_NothingDone : PySem.W.kitOne K (.ref (adr 19)) (.ref (adr 18)) = some false
  hg_NoView : PySem.W.findIn K (.ref (adr 2)) "__getattribute__" = some (some (.builtin "BaseException.__getattribute__"))
  hk_NoView : PySem.W.findIn K (.ref (adr 2)) "__getattr__" = some none
  hd_NoView : PySem.W.hasDictIn K (adr 2) = true
  ha_NoView : PySem.W.findIn K (.ref (adr 2)) "__class__" = some (some (.builtin "object.__class__"))
  hm_NoView : PySem.W.mroIn K (adr 2) (.type "object") = some true
  qv_NoView : PySem.W.kitOne K (.ref (adr 2)) (.type "ValueError") = some true
  q_NoView_NoView : PySem.W.kitOne K (.ref (adr 2)) (.ref (adr 2)) = some true
  q_NoView_NoTable : PySem.W.kitOne K (.ref (adr 2)) (.ref (adr 3)) = some false
  q_NoView_NotSound : PySem.W.kitOne K (.ref (adr 2)) (.ref (adr 4)) = some false
  q_NoView_Alike : PySem.W.kitOne K (.ref (adr 2)) (.ref (adr 6)) = some false
  q_NoView_NoWishes : PySem.W.kitOne K (.ref (adr 2)) (.ref (adr 8)) = some false
  q_NoView_NoState : PySem.W.kitOne K (.ref (adr 2)) (.ref (adr 11)) = some false
  q_NoView_NoValue : PySem.W.kitOne K (.ref (adr 2)) (.ref (adr 12)) = some false
  q_NoView_NoViews : PySem.W.kitOne K (.ref (adr 2)) (.ref (adr 14)) = some false
  q_NoView_Refused : PySem.W.kitOne K (.ref (adr 2)) (.ref (adr 16)) = some false
  q_NoView_Full : PySem.W.kitOne K (.ref (adr 2)) (.ref (adr 17)) = some false
  q_NoView_Clash : PySem.W.kitOne K (.ref (adr 2)) (.ref (adr 20)) = some false
  q_NoView_NoText : PySem.W.kitOne K (.ref (adr 2)) (.ref (adr 19)) = some false
  q_NoView_NoParts : PySem.W.kitOne K (.ref (adr 2)) (.ref (adr 5)) = some false
  q_NoView_TooLarge : PySem.W.kitOne K (.ref (adr 2)) (.ref (adr 7)) = some false
  q_NoView_NoPairs : PySem.W.kitOne K (.ref (adr 2)) (.ref (adr 9)) = some false
  q_NoView_NoStep : PySem.W.kitOne K (.ref (adr 2)) (.ref (adr 13)) = some false
  q_NoView_NotIndependent : PySem.W.kitOne K (.ref (adr 2)) (.ref (adr 10)) = some false
  q_NoView_NoCell : PySem.W.kitOne K (.ref (adr 2)) (.ref (adr 15)) = some false
  q_NoView_NothingDone : PySem.W.kitOne K (.ref (adr 2)) (.ref (adr 18)) = some false
  e_NotSound : mg "NotSound" = some (.ref (adr 4))
  e_Alike : mg "Alike" = some (.ref (adr 6))
  e_NoWishes : mg "NoWishes" = some (.ref (adr 8))
  e_NoState : mg "NoState" = some (.ref (adr 11))
  e_NoValue : mg "NoValue" = some (.ref (adr 12))
  e_NoViews : mg "NoViews" = some (.ref (adr 14))
  e_Refused : mg "Refused" = some (.ref (adr 16))
  e_Full : mg "Full" = some (.ref (adr 17))
  e_Clash : mg "Clash" = some (.ref (adr 20))
  e_NoParts : mg "NoParts" = some (.ref (adr 5))
  e_TooLarge : mg "TooLarge" = some (.ref (adr 7))
  e_NoPairs : mg "NoPairs" = some (.ref (adr 9))
  e_NoStep : mg "NoStep" = some (.ref (adr 13))
  e_NotIndependent : mg "NotIndependent" = some (.ref (adr 10))
  e_NoCell : mg "NoCell" = some (.ref (adr 15))
  e_NothingDone : mg "NothingDone" = some (.ref (adr 18))
  on : PySem.W.specialIn K (.builtin "object.__class__") "__get__" = some (some (.builtin "getset_descriptor.__get__"))
  ot : PySem.W.takesIn K (.builtin "object.__class__") = some true
def nmL : Nat → Nat → Str := fun l _ => if Nat.ble l 162 = true then (("_law_read" : Str) ++ ".<locals>.") ++ "<lambda>" else (("_law_told" : Str) ++ ".<locals>.") ++ "<lambda>"
def CodesL (fds : Nat → FuncData) (C : Str → Addr × Addr) : Prop := (fds 51).code = .ref (C "_law_read").1 ∧ (fds 52).code = .ref (C "_law_told").1 ∧ (fds 55).code = .ref (C "law").1 ∧ True
section
variable {P : Program} {w : World} {K : PySem.W.Frag} {mg : Str → Option Value} {base : Heap} {adr : Nat → Addr} {fds : Nat → FuncData}
abbrev s_is_whole : Stmt := topS 22
theorem sc_is_whole : FnScope N_is_whole ["thing"] (defScope s_is_whole) := ⟨rfl, rfl, rfl, by decide +kernel, rfl, by decide +kernel, by decide +kernel⟩
theorem ok_is_whole {gq : Bool} (T : Txt K mg adr fds) : FnQ gq P w K mg base 1 (adr 22) (fds 22) ["thing"] (spM K mg [false] m_is_whole) := by
  refine def_ok S_is_whole [false] T.F_is_whole sc_is_whole rfl rfl rfl fun cdv A outer s H E hr => ?_
  have tk : Takes (cxOf (L2.CX P w) P w K mg base N_is_whole "is_whole" (defScope s_is_whole) (adr 22) cdv A outer s H E) (fun c d _ H => E c d H) := takes_of rfl rfl rfl rfl
  exact (mss_one (ms_ret (me_and (me_isinst rfl T.z_isinstance (me_var 0) rfl T.z_int (by decide +kernel) isD_int) (me_one (me_not (me_isinst rfl T.z_isinstance (me_var 0) rfl T.z_bool (by decide +kernel) isD_bool))))))
abbrev s_is_below : Stmt := topS 23
theorem sc_is_below : FnScope N_is_below ["thing", "limit"] (defScope s_is_below) := ⟨rfl, rfl, rfl, by decide +kernel, rfl, by decide +kernel, by decide +kernel⟩
theorem ok_is_below {gq : Bool} (T : Txt K mg adr fds) : FnQ gq P w K mg base 2 (adr 23) (fds 23) ["thing", "limit"] (spM K mg [false, false] m_is_below) := by
  refine def_ok S_is_below [false, false] T.F_is_below sc_is_below rfl rfl rfl fun cdv A outer s H E hr => ?_
  have tk : Takes (cxOf (L2.CX P w) P w K mg base N_is_below "is_below" (defScope s_is_below) (adr 23) cdv A outer s H E) (fun c d _ H => E c d H) := takes_of rfl rfl rfl rfl
  exact (mss_one (ms_ret (me_and (me_call (ks := [none]) (ok_is_whole T) (hr.mono (by decide)) rfl T.g_is_whole T.F_is_whole.kp T.b_is_whole tk (mac_cons (me_var 0) mac_nil) rfl rfl (by decide)) (me_one (me_leLt me_int (me_var 0) (me_var 1))))))
abbrev s_is_view : Stmt := topS 26
theorem sc_is_view : FnScope N_is_view ["thing"] (defScope s_is_view) := ⟨rfl, rfl, rfl, by decide +kernel, rfl, by decide +kernel, by decide +kernel⟩
theorem ok_is_view {gq : Bool} (T : Txt K mg adr fds) : FnQ gq P w K mg base 3 (adr 26) (fds 26) ["thing"] (spM K mg [false] m_is_view) := by
  refine def_ok S_is_view [false] T.F_is_view sc_is_view rfl rfl rfl fun cdv A outer s H E hr => ?_
  have tk : Takes (cxOf (L2.CX P w) P w K mg base N_is_view "is_view" (defScope s_is_view) (adr 26) cdv A outer s H E) (fun c d _ H => E c d H) := takes_of rfl rfl rfl rfl
  exact (mss_cons (ms_if (MTw.mt (mtw_or (mt_not (mt_val (me_isinst rfl T.z_isinstance (me_var 0) rfl T.z_tuple (by decide +kernel) isD_tuple))) (mtw_one (mt_not (mt_leLe me_int (me_len rfl T.z_len (ma_cons (me_var 0) ma_nil)) (me_glob (v := .int 9) rfl (T.c_MOST_STATES).choose_spec ⟨_, rfl⟩ (fun _ => .int _)))))))
    (mss_one (ms_ret me_bl))
    mss_nil)
  (mss_cons (ms_if (mt_not (mt_val (me_all rfl rfl T.z_all (ma_cons (ML.me (ml_lc (oS := [("number", 1)]) rfl sc_is_view.nd (mi_seq (me_var 0)) (by first | decide +kernel | rfl) rfl (fun _ _ _ _ _ => (mg_name 1 rfl sc_is_view.nd rfl (by first | exact Or.inl rfl | exact Or.inr rfl) (by first | exact .inl rfl | exact .inr rfl))) (fun _ _ _ _ _ => mts_nil) (fun _ _ _ _ _ => (me_call (ks := [none, none]) (ok_is_below T) (hr.mono (by decide)) rfl T.g_is_below T.F_is_below.kp T.b_is_below takes0 (mac_cons (me_var 1) (mac_cons (me_len rfl T.z_len (ma_cons (me_var 0) ma_nil)) mac_nil)) rfl rfl (by decide))))) ma_nil))))
    (mss_one (ms_ret me_bl))
    mss_nil)
  (mss_one (ms_ret (me_eq hr.units (me_lenSet rfl rfl T.z_len rfl T.z_set (me_var 0)) (me_add (me_max rfl rfl T.z_max (ma_cons (me_var 0) ma_nil)) me_int))))))
abbrev s_need_view : Stmt := topS 27
theorem sc_need_view : FnScope N_need_view ["view"] (defScope s_need_view) := ⟨rfl, rfl, rfl, by decide +kernel, rfl, by decide +kernel, by decide +kernel⟩
theorem ok_need_view {gq : Bool} (T : Txt K mg adr fds) : FnQ gq P w K mg base 4 (adr 27) (fds 27) ["view"] (spM K mg [false] m_need_view) := by
  refine def_ok S_need_view [false] T.F_need_view sc_need_view rfl rfl rfl fun cdv A outer s H E hr => ?_
  have tk : Takes (cxOf (L2.CX P w) P w K mg base N_need_view "need_view" (defScope s_need_view) (adr 27) cdv A outer s H E) (fun c d _ H => E c d H) := takes_of rfl rfl rfl rfl
  exact (mss_one (ms_if (mt_not (mt_val (me_call (ks := [none]) (ok_is_view T) (hr.mono (by decide)) rfl T.g_is_view T.F_is_view.kp T.b_is_view tk (mac_cons (me_var 0) mac_nil) rfl rfl (by decide))))
    (mss_one (ms_raise rfl tk PySem.F.excBase_ValueError T.x_NoView T.e_NoView T.k_NoView (raises_own T.s_NoView T.t_NoView) rfl))
    mss_nil))
abbrev s_count_values : Stmt := topS 28
theorem sc_count_values : FnScope N_count_values ["view"] (defScope s_count_values) := ⟨rfl, rfl, rfl, by decide +kernel, rfl, by decide +kernel, by decide +kernel⟩
theorem ok_count_values {gq : Bool} (T : Txt K mg adr fds) : FnQ gq P w K mg base 1 (adr 28) (fds 28) ["view"] (spM K mg [false] m_count_values) := by
  refine def_ok S_count_values [false] T.F_count_values sc_count_values rfl rfl rfl fun cdv A outer s H E hr => ?_
  have tk : Takes (cxOf (L2.CX P w) P w K mg base N_count_values "count_values" (defScope s_count_values) (adr 28) cdv A outer s H E) (fun c d _ H => E c d H) := takes_of rfl rfl rfl rfl
  exact (mss_one (ms_ret (me_add (me_max rfl rfl T.z_max (ma_cons (me_var 0) ma_nil)) me_int)))
abbrev s__is_row : Stmt := topS 30
theorem sc__is_row : FnScope N__is_row ["view", "thing"] (defScope s__is_row) := ⟨rfl, rfl, rfl, by decide +kernel, rfl, by decide +kernel, by decide +kernel⟩
theorem ok__is_row {gq : Bool} (T : Txt K mg adr fds) : FnQ gq P w K mg base 3 (adr 30) (fds 30) ["view", "thing"] (spM K mg [false, false] m__is_row) := by
  refine def_ok S__is_row [false, false] T.F__is_row sc__is_row rfl rfl rfl fun cdv A outer s H E hr => ?_
  have tk : Takes (cxOf (L2.CX P w) P w K mg base N__is_row "_is_row" (defScope s__is_row) (adr 30) cdv A outer s H E) (fun c d _ H => E c d H) := takes_of rfl rfl rfl rfl
  exact (mss_cons (ms_if (MTw.mt (mtw_or (mt_not (mt_val (me_isinst rfl T.z_isinstance (me_var 1) rfl T.z_tuple (by decide +kernel) isD_tuple))) (mtw_one (mt_ne hr.units (me_len rfl T.z_len (ma_cons (me_var 1) ma_nil)) (me_call (ks := [none]) (ok_count_values T) (hr.mono (by decide)) rfl T.g_count_values T.F_count_values.kp T.b_count_values tk (mac_cons (me_var 0) mac_nil) rfl rfl (by decide))))))
    (mss_one (ms_ret me_bl))
    mss_nil)
  (mss_one (ms_ret (me_all rfl rfl T.z_all (ma_cons (ML.me (ml_lc (oS := [("entry", 2)]) rfl sc__is_row.nd (mi_seq (me_var 1)) (by first | decide +kernel | rfl) rfl (fun _ _ _ _ _ => (mg_name 2 rfl sc__is_row.nd rfl (by first | exact Or.inl rfl | exact Or.inr rfl) (by first | exact .inl rfl | exact .inr rfl))) (fun _ _ _ _ _ => mts_nil) (fun _ _ _ _ _ => (me_or (me_is (me_var 2) me_non) (me_one (me_call (ks := [none, none]) (ok_is_below T) (hr.mono (by decide)) rfl T.g_is_below T.F_is_below.kp T.b_is_below takes0 (mac_cons (me_var 2) (mac_cons (me_len rfl T.z_len (ma_cons (me_var 0) ma_nil)) mac_nil)) rfl rfl (by decide))))))) ma_nil)))))
abbrev s_is_table : Stmt := topS 29
theorem sc_is_table : FnScope N_is_table ["view", "thing"] (defScope s_is_table) := ⟨rfl, rfl, rfl, by decide +kernel, rfl, by decide +kernel, by decide +kernel⟩
theorem ok_is_table {gq : Bool} (T : Txt K mg adr fds) : FnQ gq P w K mg base 5 (adr 29) (fds 29) ["view", "thing"] (spM K mg [false, false] m_is_table) := by
  refine def_ok S_is_table [false, false] T.F_is_table sc_is_table rfl rfl rfl fun cdv A outer s H E hr => ?_
  have tk : Takes (cxOf (L2.CX P w) P w K mg base N_is_table "is_table" (defScope s_is_table) (adr 29) cdv A outer s H E) (fun c d _ H => E c d H) := takes_of rfl rfl rfl rfl
  exact (mss_cons (ms_expr (me_call (ks := [none]) (ok_need_view T) (hr.mono (by decide)) rfl T.g_need_view T.F_need_view.kp T.b_need_view tk (mac_cons (me_var 0) mac_nil) rfl rfl (by decide)))
  (mss_cons (ms_if (MTw.mt (mtw_or (mt_not (mt_val (me_isinst rfl T.z_isinstance (me_var 1) rfl T.z_tuple (by decide +kernel) isD_tuple))) (mtw_one (mt_ne hr.units (me_len rfl T.z_len (ma_cons (me_var 1) ma_nil)) (me_len rfl T.z_len (ma_cons (me_var 0) ma_nil))))))
    (mss_one (ms_ret me_bl))
    mss_nil)
  (mss_one (ms_ret (me_all rfl rfl T.z_all (ma_cons (ML.me (ml_lc (oS := [("row", 2)]) rfl sc_is_table.nd (mi_seq (me_var 1)) (by first | decide +kernel | rfl) rfl (fun _ _ _ _ _ => (mg_name 2 rfl sc_is_table.nd rfl (by first | exact Or.inl rfl | exact Or.inr rfl) (by first | exact .inl rfl | exact .inr rfl))) (fun _ _ _ _ _ => mts_nil) (fun _ _ _ _ _ => (me_call (ks := [none, none]) (ok__is_row T) (hr.mono (by decide)) rfl T.g__is_row T.F__is_row.kp T.b__is_row takes0 (mac_cons (me_var 0) (mac_cons (me_var 2) mac_nil)) rfl rfl (by decide))))) ma_nil))))))
abbrev s_need_table : Stmt := topS 31
theorem sc_need_table : FnScope N_need_table ["view", "table"] (defScope s_need_table) := ⟨rfl, rfl, rfl, by decide +kernel, rfl, by decide +kernel, by decide +kernel⟩
theorem ok_need_table {gq : Bool} (T : Txt K mg adr fds) : FnQ gq P w K mg base 6 (adr 31) (fds 31) ["view", "table"] (spM K mg [false, false] m_need_table) := by
  refine def_ok S_need_table [false, false] T.F_need_table sc_need_table rfl rfl rfl fun cdv A outer s H E hr => ?_
  have tk : Takes (cxOf (L2.CX P w) P w K mg base N_need_table "need_table" (defScope s_need_table) (adr 31) cdv A outer s H E) (fun c d _ H => E c d H) := takes_of rfl rfl rfl rfl
  exact (mss_one (ms_if (mt_not (mt_val (me_call (ks := [none, none]) (ok_is_table T) (hr.mono (by decide)) rfl T.g_is_table T.F_is_table.kp T.b_is_table tk (mac_cons (me_var 0) (mac_cons (me_var 1) mac_nil)) rfl rfl (by decide))))
    (mss_one (ms_raise rfl tk PySem.F.excBase_ValueError T.x_NoTable T.e_NoTable T.k_NoTable (raises_own T.s_NoTable T.t_NoTable) rfl))
    mss_nil))
abbrev s_words : Stmt := topS 34
theorem sc_words : FnScope N_words ["entries"] (defScope s_words) := ⟨rfl, rfl, rfl, by decide +kernel, rfl, by decide +kernel, by decide +kernel⟩
theorem ok_words {gq : Bool} (T : Txt K mg adr fds) : FnQ gq P w K mg base 1 (adr 34) (fds 34) ["entries"] (spM K mg [false] m_words) := by
  refine def_ok S_words [false] T.F_words sc_words rfl rfl rfl fun cdv A outer s H E hr => ?_
  have tk : Takes (cxOf (L2.CX P w) P w K mg base N_words "words" (defScope s_words) (adr 34) cdv A outer s H E) (fun c d _ H => E c d H) := takes_of rfl rfl rfl rfl
  exact (mss_one (ms_ret (me_join me_str (ML.me (ml_lc (oS := [("entry", 1)]) rfl sc_words.nd (mi_seq (me_var 0)) (by first | decide +kernel | rfl) rfl (fun _ _ _ _ _ => (mg_name 1 rfl sc_words.nd rfl (by first | exact Or.inl rfl | exact Or.inr rfl) (by first | exact .inl rfl | exact .inr rfl))) (fun _ _ _ _ _ => mts_nil) (fun _ _ _ _ _ => (me_ifExp (mt_is (me_var 1) me_non) (me_glob (v := .str "-") rfl (T.c_REFUSED).choose_spec ⟨_, rfl⟩ (fun _ => .str _)) (me_strI rfl T.z_str (ma_cons (me_var 1) ma_nil)))))))))
abbrev s_table_text : Stmt := topS 35
theorem sc_table_text : FnScope N_table_text ["view", "table"] (defScope s_table_text) := ⟨rfl, rfl, rfl, by decide +kernel, rfl, by decide +kernel, by decide +kernel⟩
theorem ok_table_text {gq : Bool} (T : Txt K mg adr fds) : FnQ gq P w K mg base 7 (adr 35) (fds 35) ["view", "table"] (spM K mg [false, false] m_table_text) := by
  refine def_ok S_table_text [false, false] T.F_table_text sc_table_text rfl rfl rfl fun cdv A outer s H E hr => ?_
  have tk : Takes (cxOf (L2.CX P w) P w K mg base N_table_text "table_text" (defScope s_table_text) (adr 35) cdv A outer s H E) (fun c d _ H => E c d H) := takes_of rfl rfl rfl rfl
  exact (mss_cons (ms_expr (me_call (ks := [none, none]) (ok_need_table T) (hr.mono (by decide)) rfl T.g_need_table T.F_need_table.kp T.b_need_table tk (mac_cons (me_var 0) (mac_cons (me_var 1) mac_nil)) rfl rfl (by decide)))
  (mss_cons (ms_set 2 rfl sc_table_text.nd rfl (by first | exact Or.inl rfl | exact Or.inr rfl) (me_add (ML.me (ml_lst (ma_cons (me_joined (MJ.cons me_str (MJ.cons (me_fmt (me_call (ks := [none]) (ok_words T) (hr.mono (by decide)) rfl T.g_words T.F_words.kp T.b_words tk (mac_cons (me_var 0) mac_nil) rfl rfl (by decide))) MJ.nil))) ma_nil))) (ML.me (ml_lc (oS := [("state", 4), ("row", 5)]) rfl sc_table_text.nd (mi_enum rfl T.z_enumerate (ma_cons (me_var 1) ma_nil)) (by first | decide +kernel | rfl) rfl (fun _ _ _ _ _ => (mg_twoK (K0 := K) 4 5 rfl rfl rfl rfl (pg_name (i := 4) sc_table_text.nd rfl (by first | exact Or.inl rfl | exact Or.inr rfl) (by first | exact .inl rfl | exact .inr rfl)) (pg_name (i := 5) sc_table_text.nd rfl (by first | exact Or.inl rfl | exact Or.inr rfl) (by first | exact .inl rfl | exact .inr rfl)))) (fun _ _ _ _ _ => mts_nil) (fun _ _ _ _ _ => (me_joined (MJ.cons (me_fmt (me_var 4)) (MJ.cons me_str (MJ.cons (me_fmt (me_call (ks := [none]) (ok_words T) (hr.mono (by decide)) rfl T.g_words T.F_words.kp T.b_words takes0 (mac_cons (me_var 5) mac_nil) rfl rfl (by decide))) MJ.nil)))))))))
  (mss_one (ms_ret (me_join me_str (ML.me (ml_lc (oS := [("line", 3)]) rfl sc_table_text.nd (mi_seq (me_var 2)) (by first | decide +kernel | rfl) rfl (fun _ _ _ _ _ => (mg_name 3 rfl sc_table_text.nd rfl (by first | exact Or.inl rfl | exact Or.inr rfl) (by first | exact .inl rfl | exact .inr rfl))) (fun _ _ _ _ _ => mts_nil) (fun _ _ _ _ _ => (me_add (me_var 3) me_str)))))))))
abbrev s__entry : Stmt := topS 38
theorem sc__entry : FnScope N__entry ["word"] (defScope s__entry) := ⟨rfl, rfl, rfl, by decide +kernel, rfl, by decide +kernel, by decide +kernel⟩
theorem ok__entry {gq : Bool} (T : Txt K mg adr fds) : FnQ gq P w K mg base 1 (adr 38) (fds 38) ["word"] (spM K mg [false] m__entry) := by
  refine def_ok S__entry [false] T.F__entry sc__entry rfl rfl rfl fun cdv A outer s H E hr => ?_
  have tk : Takes (cxOf (L2.CX P w) P w K mg base N__entry "_entry" (defScope s__entry) (adr 38) cdv A outer s H E) (fun c d _ H => E c d H) := takes_of rfl rfl rfl rfl
  exact (mss_one (ms_ret (me_ifExp (MTw.mt (mtw_and (mt_eq hr.units (me_len rfl T.z_len (ma_cons (me_var 0) ma_nil)) me_int) (mtw_one (mt_inS (me_var 0) me_str rfl)))) (me_intS rfl T.z_int (ma_cons (me_var 0) ma_nil)) me_non)))
abbrev s__entries : Stmt := topS 37
theorem sc__entries : FnScope N__entries ["line"] (defScope s__entries) := ⟨rfl, rfl, rfl, by decide +kernel, rfl, by decide +kernel, by decide +kernel⟩
theorem ok__entries {gq : Bool} (T : Txt K mg adr fds) : FnQ gq P w K mg base 2 (adr 37) (fds 37) ["line"] (spM K mg [false] m__entries) := by
  refine def_ok S__entries [false] T.F__entries sc__entries rfl rfl rfl fun cdv A outer s H E hr => ?_
  have tk : Takes (cxOf (L2.CX P w) P w K mg base N__entries "_entries" (defScope s__entries) (adr 37) cdv A outer s H E) (fun c d _ H => E c d H) := takes_of rfl rfl rfl rfl
  exact (mss_one (ms_ret (me_tuple rfl T.z_tuple (ma_cons (ML.me (ml_lc (oS := [("word", 1)]) rfl sc__entries.nd (mi_seq (me_sl (me_var 0) (mo_some me_int) mo_none)) (by first | decide +kernel | rfl) rfl (fun _ _ _ _ _ => (mg_name 1 rfl sc__entries.nd rfl (by first | exact Or.inl rfl | exact Or.inr rfl) (by first | exact .inl rfl | exact .inr rfl))) (fun _ _ _ _ _ => mts_nil) (fun _ _ _ _ _ => (me_call (ks := [none]) (ok__entry T) (hr.mono (by decide)) rfl T.g__entry T.F__entry.kp T.b__entry takes0 (mac_cons (me_var 1) mac_nil) rfl rfl (by decide))))) ma_nil))))
abbrev s_read_table : Stmt := topS 36
theorem sc_read_table : FnScope N_read_table ["text"] (defScope s_read_table) := ⟨rfl, rfl, rfl, by decide +kernel, rfl, by decide +kernel, by decide +kernel⟩
theorem ok_read_table {gq : Bool} (T : Txt K mg adr fds) : FnQ gq P w K mg base 8 (adr 36) (fds 36) ["text"] (spM K mg [false] m_read_table) := by
  refine def_ok S_read_table [false] T.F_read_table sc_read_table rfl rfl rfl fun cdv A outer s H E hr => ?_
  have tk : Takes (cxOf (L2.CX P w) P w K mg base N_read_table "read_table" (defScope s_read_table) (adr 36) cdv A outer s H E) (fun c d _ H => E c d H) := takes_of rfl rfl rfl rfl
  exact (mss_cons (ms_if (mt_not (mt_val (me_isinst rfl T.z_isinstance (me_var 0) rfl T.z_str (by decide +kernel) isD_str)))
    (mss_one (ms_raise rfl tk PySem.F.excBase_ValueError T.x_NoText T.e_NoText T.k_NoText (raises_own T.s_NoText T.t_NoText) rfl))
    mss_nil)
  (mss_cons (ms_star 3 4 rfl rfl rfl (ML.me (ml_lc (oS := [("line", 5)]) rfl sc_read_table.nd (mi_seq (ML.me (ml_split (me_var 0) me_str))) (by first | decide +kernel | rfl) rfl (fun _ _ _ _ _ => (mg_name 5 rfl sc_read_table.nd rfl (by first | exact Or.inl rfl | exact Or.inr rfl) (by first | exact .inl rfl | exact .inr rfl))) (fun _ _ _ _ _ => mts_nil) (fun _ _ _ _ _ => (ML.me (ml_split (me_var 5) me_str))))) (pg_name (i := 3) sc_read_table.nd rfl (by first | exact Or.inl rfl | exact Or.inr rfl) (by first | exact .inl rfl | exact .inr rfl)) (pg_name (i := 4) sc_read_table.nd rfl (by first | exact Or.inl rfl | exact Or.inr rfl) (by first | exact .inl rfl | exact .inr rfl)))
  (mss_cons (ms_set 1 rfl sc_read_table.nd rfl (by first | exact Or.inl rfl | exact Or.inr rfl) (me_call (ks := [none]) (ok__entries T) (hr.mono (by decide)) rfl T.g__entries T.F__entries.kp T.b__entries tk (mac_cons (me_var 3) mac_nil) rfl rfl (by decide)))
  (mss_cons (ms_set 2 rfl sc_read_table.nd rfl (by first | exact Or.inl rfl | exact Or.inr rfl) (me_tuple rfl T.z_tuple (ma_cons (ML.me (ml_lc (oS := [("line", 5)]) rfl sc_read_table.nd (mi_seq (me_sl (me_var 4) mo_none (mo_some (me_neg me_int)))) (by first | decide +kernel | rfl) rfl (fun _ _ _ _ _ => (mg_name 5 rfl sc_read_table.nd rfl (by first | exact Or.inl rfl | exact Or.inr rfl) (by first | exact .inl rfl | exact .inr rfl))) (fun _ _ _ _ _ => mts_nil) (fun _ _ _ _ _ => (me_call (ks := [none]) (ok__entries T) (hr.mono (by decide)) rfl T.g__entries T.F__entries.kp T.b__entries takes0 (mac_cons (me_var 5) mac_nil) rfl rfl (by decide))))) ma_nil)))
  (mss_cons (ms_if (MTw.mt (mtw_or (mt_not (mt_val (me_call (ks := [none]) (ok_is_view T) (hr.mono (by decide)) rfl T.g_is_view T.F_is_view.kp T.b_is_view tk (mac_cons (me_var 1) mac_nil) rfl rfl (by decide)))) (mtw_or (mt_not (mt_val (me_call (ks := [none, none]) (ok_is_table T) (hr.mono (by decide)) rfl T.g_is_table T.F_is_table.kp T.b_is_table tk (mac_cons (me_var 1) (mac_cons (me_var 2) mac_nil)) rfl rfl (by decide)))) (mtw_one (mt_ne hr.units (me_call (ks := [none, none]) (ok_table_text T) (hr.mono (by decide)) rfl T.g_table_text T.F_table_text.kp T.b_table_text tk (mac_cons (me_var 1) (mac_cons (me_var 2) mac_nil)) rfl rfl (by decide)) (me_var 0))))))
    (mss_one (ms_raise rfl tk PySem.F.excBase_ValueError T.x_NoText T.e_NoText T.k_NoText (raises_own T.s_NoText T.t_NoText) rfl))
    mss_nil)
  (mss_one (ms_ret (me_tup (ma_cons (me_var 1) (ma_cons (me_var 2) ma_nil))))))))))
abbrev s__law_cell_at : Stmt := topS 40
theorem sc__law_cell_at : FnScope N__law_cell_at ["_law_script", "_law_k"] (defScope s__law_cell_at) := ⟨rfl, rfl, rfl, by decide +kernel, rfl, by decide +kernel, by decide +kernel⟩
theorem ok__law_cell_at {gq : Bool} (T : Txt K mg adr fds) : FnQ gq P w K mg base 1 (adr 40) (fds 40) ["_law_script", "_law_k"] (spM K mg [false, false] m__law_cell_at) := by
  refine def_ok S__law_cell_at [false, false] T.F__law_cell_at sc__law_cell_at rfl rfl rfl fun cdv A outer s H E hr => ?_
  have tk : Takes (cxOf (L2.CX P w) P w K mg base N__law_cell_at "_law_cell_at" (defScope s__law_cell_at) (adr 40) cdv A outer s H E) (fun c d _ H => E c d H) := takes_of rfl rfl rfl rfl
  exact (mss_cons (ms_if (mt_lt (me_var 1) (me_len rfl T.z_len (ma_cons (me_var 0) ma_nil)))
    (mss_one (ms_ret (me_at (me_var 0) (me_var 1) (fun _ _ => rfl))))
    mss_nil)
  (mss_one (ms_ret me_int)))
abbrev s__law_pen : Stmt := topS 41
theorem sc__law_pen : FnScope N__law_pen ["_law_cell"] (defScope s__law_pen) := ⟨rfl, rfl, rfl, by decide +kernel, rfl, by decide +kernel, by decide +kernel⟩
theorem ok__law_pen {gq : Bool} (T : Txt K mg adr fds) : FnQ gq P w K mg base 1 (adr 41) (fds 41) ["_law_cell"] (spML K mg [false] m__law_pen) := by
  refine def_okL S__law_pen [false] T.F__law_pen sc__law_pen rfl rfl rfl rfl rfl fun cdv A outer s H E hr => ?_
  have tk : Takes (cxOf (L2.CX P w) P w K mg base N__law_pen "_law_pen" (defScope s__law_pen) (adr 41) cdv A outer s H E) (fun c d _ H => E c d H) := takes_of rfl rfl rfl rfl
  exact (ml_lst (ma_cons (me_max rfl rfl T.z_max (ma_cons me_int (ma_cons (me_sub (me_var 0) (me_pow me_int me_int)) ma_nil))) (ma_cons (me_mod (me_var 0) me_int) (ma_cons me_int ma_nil))))
abbrev s__law_draw : Stmt := topS 42
theorem sc__law_draw : FnScope N__law_draw ["_law_pen_here", "_law_many"] (defScope s__law_draw) := ⟨rfl, rfl, rfl, by decide +kernel, rfl, by decide +kernel, by decide +kernel⟩
theorem ok__law_draw {gq : Bool} (T : Txt K mg adr fds) : FnQ gq P w K mg base 1 (adr 42) (fds 42) ["_law_pen_here", "_law_many"] (spM K mg [true, false] m__law_draw) := by
  refine def_ok S__law_draw [true, false] T.F__law_draw sc__law_draw rfl rfl rfl fun cdv A outer s H E hr => ?_
  have tk : Takes (cxOf (L2.CX P w) P w K mg base N__law_draw "_law_draw" (defScope s__law_draw) (adr 42) cdv A outer s H E) (fun c d _ H => E c d H) := takes_of rfl rfl rfl rfl
  exact (mss_cons (ms_if (mt_gt (me_atO 0 rfl me_int (fun _ _ => rfl) (pv 0)) me_int)
    (mss_cons (ms_set 3 rfl sc__law_draw.nd rfl (by first | exact Or.inl rfl | exact Or.inr rfl) (me_mod (me_atO 0 rfl me_int (fun _ _ => rfl) (pv 0)) (me_var 1)))
  (mss_cons (ms_store 0 rfl (pv 0) (me_div (me_atO 0 rfl me_int (fun _ _ => rfl) (pv 0)) (me_var 1)) me_int)
  (mss_one (ms_ret (me_var 3)))))
    mss_nil)
  (mss_cons (ms_store 0 rfl (pv 0) (me_add (me_atO 0 rfl me_int (fun _ _ => rfl) (pv 0)) me_int) me_int)
  (mss_cons (ms_set 2 rfl sc__law_draw.nd rfl (by first | exact Or.inl rfl | exact Or.inr rfl) (me_mod (me_mul (me_add (me_atO 0 rfl me_int (fun _ _ => rfl) (pv 0)) (me_mul me_int (me_atO 0 rfl me_int (fun _ _ => rfl) (pv 0)))) (me_add me_int (me_mul me_int (me_atO 0 rfl me_int (fun _ _ => rfl) (pv 0))))) me_int))
  (mss_cons (ms_set 2 rfl sc__law_draw.nd rfl (by first | exact Or.inl rfl | exact Or.inr rfl) (me_mod (me_add (me_add (me_mul (me_var 2) (me_var 2)) (me_mul me_int (me_atO 0 rfl me_int (fun _ _ => rfl) (pv 0)))) me_int) me_int))
  (mss_one (ms_ret (me_mod (me_div (me_mod (me_mul (me_var 2) me_int) me_int) me_int) (me_var 1))))))))
abbrev s__law_view : Stmt := topS 43
theorem sc__law_view : FnScope N__law_view ["_law_pen_here", "_law_low", "_law_high"] (defScope s__law_view) := ⟨rfl, rfl, rfl, by decide +kernel, rfl, by decide +kernel, by decide +kernel⟩
theorem ok__law_view {gq : Bool} (T : Txt K mg adr fds) : FnQ gq P w K mg base 2 (adr 43) (fds 43) ["_law_pen_here", "_law_low", "_law_high"] (spM K mg [true, false, false] m__law_view) := by
  refine def_ok S__law_view [true, false, false] T.F__law_view sc__law_view rfl rfl rfl fun cdv A outer s H E hr => ?_
  have tk : Takes (cxOf (L2.CX P w) P w K mg base N__law_view "_law_view" (defScope s__law_view) (adr 43) cdv A outer s H E) (fun c d _ H => E c d H) := takes_of rfl rfl rfl rfl
  exact (mss_cons (ms_setLc 3 rfl rfl sc__law_view.nd rfl rfl (sw_true rfl rfl rfl (by decide +kernel)) (oS := [("_law_turn", 6)]) (mi_range1 rfl T.z_range (ma_cons (me_add (me_var 1) (me_call (ks := [some 0, none]) (ok__law_draw T) (hr.mono (by decide)) rfl T.g__law_draw T.F__law_draw.kp T.b__law_draw tk (mac_lend 0 rfl (pv 0) (mac_cons (me_add (me_sub (me_var 2) (me_var 1)) me_int) mac_nil)) rfl rfl (by decide))) ma_nil)) (by first | decide +kernel | rfl) rfl (fun _ _ _ _ _ => (mg_name 6 rfl sc__law_view.nd rfl (by first | exact Or.inl rfl | exact Or.inr rfl) (by first | exact .inl rfl | exact .inr rfl))) (fun _ _ _ _ _ => mts_nil) (fun _ _ _ _ _ => (me_call (ks := [some 0, none]) (ok__law_draw T) (hr.mono (by decide)) rfl T.g__law_draw T.F__law_draw.kp T.b__law_draw takes0 (mac_lend 0 rfl (pv 0) (mac_cons me_int mac_nil)) rfl rfl (by decide))))
  (mss_cons (ms_setL 4 rfl rfl sc__law_view.nd rfl (by first | exact Or.inl rfl | exact Or.inr rfl) (ml_lst ma_nil))
  (mss_cons (ms_for (passes_of rfl) rfl (mi_seq (me_var 3)) (mg_name 5 rfl sc__law_view.nd rfl (by first | exact Or.inl rfl | exact Or.inr rfl) (by first | exact .inl rfl | exact .inr rfl))
    (mss_one (ms_if (mt_cmpO 4 (op_notInM (hu65 hr) ) opb_notIn rfl (me_var 5) rfl (pv 4))
    (mss_one (ms_expr (me_append 4 rfl (pv 4) (ma_cons (me_var 5) ma_nil) (fun _ pt => pe_bm PySem.F.plainAttrs_list PySem.F.slot_list_append PySem.F.type_list_append mt_append (pv 4) pt))))
    mss_nil)))
  (mss_cons (ms_if (mt_eq hr.units (me_call (ks := [some 0, none]) (ok__law_draw T) (hr.mono (by decide)) rfl T.g__law_draw T.F__law_draw.kp T.b__law_draw tk (mac_lend 0 rfl (pv 0) (mac_cons me_int mac_nil)) rfl rfl (by decide)) me_int)
    (mss_one (ms_setL 4 rfl rfl sc__law_view.nd rfl (by first | exact Or.inl rfl | exact Or.inr rfl) (ml_revO 4 rfl (pv 4))))
    mss_nil)
  (mss_one (ms_ret (me_tuple rfl T.z_tuple (ma_cons (ML.me (ml_lc (oS := [("_law_value", 5)]) rfl sc__law_view.nd (mi_seq (me_var 3)) (by first | decide +kernel | rfl) rfl (fun _ _ _ _ _ => (mg_name 5 rfl sc__law_view.nd rfl (by first | exact Or.inl rfl | exact Or.inr rfl) (by first | exact .inl rfl | exact .inr rfl))) (fun _ _ _ _ _ => mts_nil) (fun _ _ _ _ _ => (me_indexO 4 rfl (pv 4) (hu65 hr) (ma_cons (me_var 5) ma_nil))))) ma_nil))))))))
abbrev s__law_any : Stmt := topS 44
theorem sc__law_any : FnScope N__law_any ["_law_pen_here", "_law_view_here"] (defScope s__law_any) := ⟨rfl, rfl, rfl, by decide +kernel, rfl, by decide +kernel, by decide +kernel⟩
theorem ok__law_any {gq : Bool} (T : Txt K mg adr fds) : FnQ gq P w K mg base 2 (adr 44) (fds 44) ["_law_pen_here", "_law_view_here"] (spM K mg [true, false] m__law_any) := by
  refine def_ok S__law_any [true, false] T.F__law_any sc__law_any rfl rfl rfl fun cdv A outer s H E hr => ?_
  have tk : Takes (cxOf (L2.CX P w) P w K mg base N__law_any "_law_any" (defScope s__law_any) (adr 44) cdv A outer s H E) (fun c d _ H => E c d H) := takes_of rfl rfl rfl rfl
  exact (mss_cons (ms_setL 2 rfl rfl sc__law_any.nd rfl (by first | exact Or.inl rfl | exact Or.inr rfl) (ml_lst ma_nil))
  (mss_cons (ms_for (passes_of rfl) rfl (mi_range1 rfl T.z_range (ma_cons (me_len rfl T.z_len (ma_cons (me_var 1) ma_nil)) ma_nil)) (mg_name 3 rfl sc__law_any.nd rfl (by first | exact Or.inl rfl | exact Or.inr rfl) (by first | exact .inl rfl | exact .inr rfl))
    (mss_cons (ms_setLc 4 rfl rfl sc__law_any.nd rfl rfl (sw_true rfl rfl rfl (by decide +kernel)) (oS := [("_law_value", 5)]) (mi_range1 rfl T.z_range (ma_cons (me_add (me_max rfl rfl T.z_max (ma_cons (me_var 1) ma_nil)) me_int) ma_nil)) (by first | decide +kernel | rfl) rfl (fun _ _ _ _ _ => (mg_name 5 rfl sc__law_any.nd rfl (by first | exact Or.inl rfl | exact Or.inr rfl) (by first | exact .inl rfl | exact .inr rfl))) (fun _ _ _ _ _ => mts_nil) (fun _ _ _ _ _ => (me_call (ks := [some 0, none]) (ok__law_draw T) (hr.mono (by decide)) rfl T.g__law_draw T.F__law_draw.kp T.b__law_draw takes0 (mac_lend 0 rfl (pv 0) (mac_cons (me_add (me_len rfl T.z_len (ma_cons (me_var 1) ma_nil)) me_int) mac_nil)) rfl rfl (by decide))))
  (mss_one (ms_expr (me_append 2 rfl (pv 2) (ma_cons (me_tuple rfl T.z_tuple (ma_cons (ML.me (ml_lc (oS := [("_law_entry", 6)]) rfl sc__law_any.nd (mi_seq (me_var 4)) (by first | decide +kernel | rfl) rfl (fun _ _ _ _ _ => (mg_name 6 rfl sc__law_any.nd rfl (by first | exact Or.inl rfl | exact Or.inr rfl) (by first | exact .inl rfl | exact .inr rfl))) (fun _ _ _ _ _ => mts_nil) (fun _ _ _ _ _ => (me_ifExp (mt_eq hr.units (me_var 6) (me_len rfl T.z_len (ma_cons (me_var 1) ma_nil))) me_non (me_var 6))))) ma_nil)) ma_nil) (fun _ pt => pe_bm PySem.F.plainAttrs_list PySem.F.slot_list_append PySem.F.type_list_append mt_append (pv 2) pt))))))
  (mss_one (ms_ret (me_tupleO 2 rfl (pv 2) rfl T.z_tuple)))))
abbrev s__law_text : Stmt := topS 45
theorem sc__law_text : FnScope N__law_text ["_law_view_here", "_law_table"] (defScope s__law_text) := ⟨rfl, rfl, rfl, by decide +kernel, rfl, by decide +kernel, by decide +kernel⟩
theorem ok__law_text {gq : Bool} (T : Txt K mg adr fds) : FnQ gq P w K mg base 1 (adr 45) (fds 45) ["_law_view_here", "_law_table"] (spM K mg [false, false] m__law_text) := by
  refine def_ok S__law_text [false, false] T.F__law_text sc__law_text rfl rfl rfl fun cdv A outer s H E hr => ?_
  have tk : Takes (cxOf (L2.CX P w) P w K mg base N__law_text "_law_text" (defScope s__law_text) (adr 45) cdv A outer s H E) (fun c d _ H => E c d H) := takes_of rfl rfl rfl rfl
  exact (mss_cons (ms_set 2 rfl sc__law_text.nd rfl (by first | exact Or.inl rfl | exact Or.inr rfl) (me_add (me_add me_str (me_join me_str (ML.me (ml_lc (oS := [("_law_value", 6)]) rfl sc__law_text.nd (mi_seq (me_var 0)) (by first | decide +kernel | rfl) rfl (fun _ _ _ _ _ => (mg_name 6 rfl sc__law_text.nd rfl (by first | exact Or.inl rfl | exact Or.inr rfl) (by first | exact .inl rfl | exact .inr rfl))) (fun _ _ _ _ _ => mts_nil) (fun _ _ _ _ _ => (me_strI rfl T.z_str (ma_cons (me_var 6) ma_nil))))))) me_str))
  (mss_cons (ms_for (passes_of rfl) rfl (mi_range1 rfl T.z_range (ma_cons (me_len rfl T.z_len (ma_cons (me_var 0) ma_nil)) ma_nil)) (mg_name 3 rfl sc__law_text.nd rfl (by first | exact Or.inl rfl | exact Or.inr rfl) (by first | exact .inl rfl | exact .inr rfl))
    (mss_cons (ms_setLc 4 rfl rfl sc__law_text.nd rfl rfl (sw_true rfl rfl rfl (by decide +kernel)) (oS := [("_law_entry", 5)]) (mi_seq (me_at (me_var 1) (me_var 3) (fun _ _ => rfl))) (by first | decide +kernel | rfl) rfl (fun _ _ _ _ _ => (mg_name 5 rfl sc__law_text.nd rfl (by first | exact Or.inl rfl | exact Or.inr rfl) (by first | exact .inl rfl | exact .inr rfl))) (fun _ _ _ _ _ => mts_nil) (fun _ _ _ _ _ => (me_ifExp (mt_is (me_var 5) me_non) me_str (me_strI rfl T.z_str (ma_cons (me_var 5) ma_nil)))))
  (mss_one (ms_set 2 rfl sc__law_text.nd rfl (by first | exact Or.inl rfl | exact Or.inr rfl) (me_add (me_add (me_add (me_add (me_var 2) (me_strI rfl T.z_str (ma_cons (me_var 3) ma_nil))) me_str) (me_join me_str (me_var 4))) me_str)))))
  (mss_one (ms_ret (me_var 2)))))
abbrev s__law_kind : Stmt := topS 46
abbrev Nx__law_kind : List Str := ["_law_e", "_law_marks", "_law_names"]
theorem sc__law_kind : FnScope Nx__law_kind ["_law_e"] (defScope s__law_kind) := ⟨rfl, rfl, rfl, by decide +kernel, rfl, by decide +kernel, by decide +kernel⟩
theorem aw_all (T : Txt K mg adr fds) : AllW K mg ["NoView", "NoTable", "NotSound", "Alike", "NoWishes", "NoState", "NoValue", "NoViews", "Refused", "Full", "Clash", "NoText", "NoParts", "TooLarge", "NoPairs", "NoStep", "NotIndependent", "NoCell", "NothingDone"] (adr 1) ["NoTable", "NoText", "NoView"] :=
  (aw_cons T.e_NoTable ⟨⟨T.hg_NoTable, T.hk_NoTable, T.s_NoTable, T.hd_NoTable, T.ha_NoTable, T.on, T.ot, T.hm_NoTable⟩, (is_cons T.e_NoView T.q_NoTable_NoView (is_cons T.e_NoTable T.q_NoTable_NoTable (is_cons T.e_NotSound T.q_NoTable_NotSound (is_cons T.e_Alike T.q_NoTable_Alike (is_cons T.e_NoWishes T.q_NoTable_NoWishes (is_cons T.e_NoState T.q_NoTable_NoState (is_cons T.e_NoValue T.q_NoTable_NoValue (is_cons T.e_NoViews T.q_NoTable_NoViews (is_cons T.e_Refused T.q_NoTable_Refused (is_cons T.e_Full T.q_NoTable_Full (is_cons T.e_Clash T.q_NoTable_Clash (is_cons T.e_NoText T.q_NoTable_NoText (is_cons T.e_NoParts T.q_NoTable_NoParts (is_cons T.e_TooLarge T.q_NoTable_TooLarge (is_cons T.e_NoPairs T.q_NoTable_NoPairs (is_cons T.e_NoStep T.q_NoTable_NoStep (is_cons T.e_NotIndependent T.q_NoTable_NotIndependent (is_cons T.e_NoCell T.q_NoTable_NoCell (is_cons T.e_NothingDone T.q_NoTable_NothingDone is_nil))))))))))))))))))), T.qv_NoTable, PySem.W.exm_ref T.s_WriteError T.d_WriteError T.t_WriteError T.u_NoTable_WriteError⟩
  (aw_cons T.e_NoText ⟨⟨T.hg_NoText, T.hk_NoText, T.s_NoText, T.hd_NoText, T.ha_NoText, T.on, T.ot, T.hm_NoText⟩, (is_cons T.e_NoView T.q_NoText_NoView (is_cons T.e_NoTable T.q_NoText_NoTable (is_cons T.e_NotSound T.q_NoText_NotSound (is_cons T.e_Alike T.q_NoText_Alike (is_cons T.e_NoWishes T.q_NoText_NoWishes (is_cons T.e_NoState T.q_NoText_NoState (is_cons T.e_NoValue T.q_NoText_NoValue (is_cons T.e_NoViews T.q_NoText_NoViews (is_cons T.e_Refused T.q_NoText_Refused (is_cons T.e_Full T.q_NoText_Full (is_cons T.e_Clash T.q_NoText_Clash (is_cons T.e_NoText T.q_NoText_NoText (is_cons T.e_NoParts T.q_NoText_NoParts (is_cons T.e_TooLarge T.q_NoText_TooLarge (is_cons T.e_NoPairs T.q_NoText_NoPairs (is_cons T.e_NoStep T.q_NoText_NoStep (is_cons T.e_NotIndependent T.q_NoText_NotIndependent (is_cons T.e_NoCell T.q_NoText_NoCell (is_cons T.e_NothingDone T.q_NoText_NothingDone is_nil))))))))))))))))))), T.qv_NoText, PySem.W.exm_ref T.s_WriteError T.d_WriteError T.t_WriteError T.u_NoText_WriteError⟩
  (aw_cons T.e_NoView ⟨⟨T.hg_NoView, T.hk_NoView, T.s_NoView, T.hd_NoView, T.ha_NoView, T.on, T.ot, T.hm_NoView⟩, (is_cons T.e_NoView T.q_NoView_NoView (is_cons T.e_NoTable T.q_NoView_NoTable (is_cons T.e_NotSound T.q_NoView_NotSound (is_cons T.e_Alike T.q_NoView_Alike (is_cons T.e_NoWishes T.q_NoView_NoWishes (is_cons T.e_NoState T.q_NoView_NoState (is_cons T.e_NoValue T.q_NoView_NoValue (is_cons T.e_NoViews T.q_NoView_NoViews (is_cons T.e_Refused T.q_NoView_Refused (is_cons T.e_Full T.q_NoView_Full (is_cons T.e_Clash T.q_NoView_Clash (is_cons T.e_NoText T.q_NoView_NoText (is_cons T.e_NoParts T.q_NoView_NoParts (is_cons T.e_TooLarge T.q_NoView_TooLarge (is_cons T.e_NoPairs T.q_NoView_NoPairs (is_cons T.e_NoStep T.q_NoView_NoStep (is_cons T.e_NotIndependent T.q_NoView_NotIndependent (is_cons T.e_NoCell T.q_NoView_NoCell (is_cons T.e_NothingDone T.q_NoView_NothingDone is_nil))))))))))))))))))), T.qv_NoView, PySem.W.exm_ref T.s_WriteError T.d_WriteError T.t_WriteError T.u_NoView_WriteError⟩
  aw_nil)))
theorem pw_mem : ∀ p ∈ ([("NoTable", "table"), ("NoText", "text"), ("NoView", "view")] : List (Str × Str)), p.1 ∈ (["NoTable", "NoText", "NoView"] : List Str) := by decide +kernel
theorem ok__law_kind (T : Txt K mg adr fds) {p : Str × Str} (hc : p ∈ ([("NoTable", "table"), ("NoText", "text"), ("NoView", "view")] : List (Str × Str))) {a D : Addr} (w : ExcW K mg ["NoView", "NoTable", "NotSound", "Alike", "NoWishes", "NoState", "NoValue", "NoViews", "Refused", "Full", "Clash", "NoText", "NoParts", "TooLarge", "NoPairs", "NoStep", "NotIndependent", "NoCell", "NothingDone"] (adr 1) p.1 D) (cdv : Value) (Pg : Program) (wd : World) (A : Around) (outer : List Env) (s : Shared) (H : Hp) (E : XK) (q : Addr × Obj) (hp : PinE (L2H.cxH C8.CX0 Pg wd K mg base Nx__law_kind "_law_kind" (defScope s__law_kind) (adr 46) cdv A outer s H E q) a D) (hr : L2H.RoomH 0 (A.deeper (envOfC "_law_kind" (defScope s__law_kind) s.heap.objs.size (adr 46) cdv))) :
    WSs (L2H.cxH C8.CX0 Pg wd K mg base Nx__law_kind "_law_kind" (defScope s__law_kind) (adr 46) cdv A outer s H E q) a (defBody s__law_kind) none none p.2 := by
  have hu : (L2H.cxH C8.CX0 Pg wd K mg base Nx__law_kind "_law_kind" (defScope s__law_kind) (adr 46) cdv A outer s H E q).A.units + 64 < cLine := by have := hr.un; show (A.deeper _).units + 64 < _; omega
  have hu5 : (L2H.cxH C8.CX0 Pg wd K mg base Nx__law_kind "_law_kind" (defScope s__law_kind) (adr 46) cdv A outer s H E q).A.units + 65 < cLine := by have := hr.un; show (A.deeper _).units + 65 < _; omega
  refine (ws_cons (ws_set1 sc__law_kind.nd rfl (.inl rfl) (vl_be (be_is hp w rfl T.z_isinstance rfl (.inl rfl) rfl T.e_NoView (by decide)) (vl_be (be_is hp w rfl T.z_isinstance rfl (.inl rfl) rfl T.e_NoTable (by decide)) (vl_be (be_is hp w rfl T.z_isinstance rfl (.inl rfl) rfl T.e_NotSound (by decide)) (vl_be (be_is hp w rfl T.z_isinstance rfl (.inl rfl) rfl T.e_Alike (by decide)) vl_nil)))))
  (ws_cons (ws_add1 sc__law_kind.nd rfl (.inl rfl) (.inl rfl) (vl_be (be_is hp w rfl T.z_isinstance rfl (.inl rfl) rfl T.e_NoWishes (by decide)) (vl_be (be_is hp w rfl T.z_isinstance rfl (.inl rfl) rfl T.e_NoState (by decide)) (vl_be (be_is hp w rfl T.z_isinstance rfl (.inl rfl) rfl T.e_NoValue (by decide)) (vl_be (be_is hp w rfl T.z_isinstance rfl (.inl rfl) rfl T.e_NoViews (by decide)) vl_nil)))))
  (ws_cons (ws_add1 sc__law_kind.nd rfl (.inl rfl) (.inl rfl) (vl_be (be_is hp w rfl T.z_isinstance rfl (.inl rfl) rfl T.e_Refused (by decide)) (vl_be (be_is hp w rfl T.z_isinstance rfl (.inl rfl) rfl T.e_Full (by decide)) (vl_be (be_is hp w rfl T.z_isinstance rfl (.inl rfl) rfl T.e_Clash (by decide)) (vl_be (be_is hp w rfl T.z_isinstance rfl (.inl rfl) rfl T.e_NoText (by decide)) vl_nil)))))
  (ws_cons (ws_add1 sc__law_kind.nd rfl (.inl rfl) (.inl rfl) (vl_be (be_is hp w rfl T.z_isinstance rfl (.inl rfl) rfl T.e_NoParts (by decide)) (vl_be (be_is hp w rfl T.z_isinstance rfl (.inl rfl) rfl T.e_TooLarge (by decide)) (vl_be (be_is hp w rfl T.z_isinstance rfl (.inl rfl) rfl T.e_NoPairs (by decide)) (vl_be (be_is hp w rfl T.z_isinstance rfl (.inl rfl) rfl T.e_NoStep (by decide)) vl_nil)))))
  (ws_cons (ws_add1 sc__law_kind.nd rfl (.inl rfl) (.inl rfl) (vl_be (be_is hp w rfl T.z_isinstance rfl (.inl rfl) rfl T.e_NotIndependent (by decide)) (vl_be (be_is hp w rfl T.z_isinstance rfl (.inl rfl) rfl T.e_NoCell (by decide)) (vl_be (be_is hp w rfl T.z_isinstance rfl (.inl rfl) rfl T.e_NothingDone (by decide)) vl_nil))))
  (ws_cons (ws_set2 sc__law_kind.nd rfl (.inl rfl) (vl_str (vl_str (vl_str (vl_str (vl_str (vl_str (vl_str (vl_str (vl_str (vl_str (vl_str (vl_str vl_nil)))))))))))))
  (ws_cons (ws_add2 sc__law_kind.nd rfl (.inl rfl) (.inl rfl) (vl_str (vl_str (vl_str (vl_str (vl_str (vl_str (vl_str vl_nil))))))))
  (ws_end (bs := [("NoView" : Str) == p.1, ("NoTable" : Str) == p.1, ("NotSound" : Str) == p.1, ("Alike" : Str) == p.1, ("NoWishes" : Str) == p.1, ("NoState" : Str) == p.1, ("NoValue" : Str) == p.1, ("NoViews" : Str) == p.1, ("Refused" : Str) == p.1, ("Full" : Str) == p.1, ("Clash" : Str) == p.1, ("NoText" : Str) == p.1, ("NoParts" : Str) == p.1, ("TooLarge" : Str) == p.1, ("NoPairs" : Str) == p.1, ("NoStep" : Str) == p.1, ("NotIndependent" : Str) == p.1, ("NoCell" : Str) == p.1, ("NothingDone" : Str) == p.1]) (ws := ["view", "table", "sound", "alike", "wishes", "state", "value", "views", "refused", "full", "clash", "text", "parts", "large", "pairs", "step", "independent", "cell", "nothing"]) (fun _ => rfl) (mt_ne hu (me_lcountF (me_var 1) (ma_cons me_bl ma_nil)) me_int) (be_ve hp w rfl T.z_isinstance rfl (.inl rfl) rfl T.z_ValueError) ⟨_, pe_str⟩ (me_at (me_var 2) (me_index hu5 (me_var 1) (ma_cons me_bl ma_nil)) (fun _ _ => rfl)) ?_))))))))
  simp only [List.mem_cons, List.not_mem_nil, or_false] at hc
  rcases hc with rfl | rfl | rfl <;> exact ⟨rfl, rfl⟩
abbrev s__law_said : Stmt := topS 47
abbrev Nx__law_said : List Str := ["_law_call", "_law_e", "_law_label"]
theorem sc__law_said : FnScope Nx__law_said ["_law_call"] (defScope s__law_said) := ⟨rfl, rfl, rfl, by decide +kernel, rfl, by decide +kernel, by decide +kernel⟩
theorem gv__law_said {X : Cx} {adr : Nat → Addr} {fds : Nat → FuncData} (T : Txt X.K X.mg adr fds) {cdv : Value} {q : Str} {k : Nat} (hr : Room (k + 2) X.A) (hgd : X.A.guards = some []) : LamX.GivesTo X Nx__law_said "_law_said" (defScope s__law_said) (adr 47) cdv (defBody s__law_said) "_law_call" q (TSaid3 X.K X.mg [("NoTable", "table"), ("NoText", "text"), ("NoView", "view")]) := by
  have h1 : ∀ L : Addr, L2H.RoomH 1 (X.A.deeper (envOfC "_law_said" (defScope s__law_said) L (adr 47) cdv)) := fun L => (L2H.roomH_of (hr.mono (show 2 ≤ k + 2 by omega))).deeper _
  exact said3_gives (k := 0) (ns := ["NoView", "NoTable", "NotSound", "Alike", "NoWishes", "NoState", "NoValue", "NoViews", "Refused", "Full", "Clash", "NoText", "NoParts", "TooLarge", "NoPairs", "NoStep", "NotIndependent", "NoCell", "NothingDone"]) rfl T.e_WriteError (by decide) (fun _ => rfl) sc__law_said.nd rfl rfl rfl rfl rfl (by decide) (by decide) rfl T.z_repr (fun _ => hgd) (fun L => by have := (h1 L).un; omega) (by decide +kernel) (fun p hp D hD => aw_all T p.1 (pw_mem p hp) D hD) h1 (fun p hp D hD s H b oe pn z1 z2 => pe_wordF (i := 1) (k := 0) List.mem_cons_self z1 z2 rfl T.g__law_kind T.F__law_kind T.b__law_kind sc__law_kind rfl ⟨(h1 s.heap.objs.size).dp, (h1 s.heap.objs.size).un⟩ (fun cdv A outer s H E q hp2 hr => ok__law_kind T hp (aw_all T p.1 (pw_mem p hp) D hD) cdv _ _ A outer s H E q hp2 hr) rfl (.inl rfl))
abbrev s__law_with : Stmt := topS 48
theorem sc__law_with : FnScope N__law_with ["_law_table", "_law_state", "_law_value", "_law_entry"] (defScope s__law_with) := ⟨rfl, rfl, rfl, by decide +kernel, rfl, by decide +kernel, by decide +kernel⟩
theorem ok__law_with {gq : Bool} (T : Txt K mg adr fds) : FnQ gq P w K mg base 1 (adr 48) (fds 48) ["_law_table", "_law_state", "_law_value", "_law_entry"] (spM K mg [false, false, false, false] m__law_with) := by
  refine def_ok S__law_with [false, false, false, false] T.F__law_with sc__law_with rfl rfl rfl fun cdv A outer s H E hr => ?_
  have tk : Takes (cxOf (L2.CX P w) P w K mg base N__law_with "_law_with" (defScope s__law_with) (adr 48) cdv A outer s H E) (fun c d _ H => E c d H) := takes_of rfl rfl rfl rfl
  exact (mss_cons (ms_set 4 rfl sc__law_with.nd rfl (by first | exact Or.inl rfl | exact Or.inr rfl) (me_add (me_add (me_sl (me_at (me_var 0) (me_var 1) (fun _ _ => rfl)) mo_none (mo_some (me_var 2))) (me_tup (ma_cons (me_var 3) ma_nil))) (me_sl (me_at (me_var 0) (me_var 1) (fun _ _ => rfl)) (mo_some (me_add (me_var 2) me_int)) mo_none)))
  (mss_one (ms_ret (me_add (me_add (me_sl (me_var 0) mo_none (mo_some (me_var 1))) (me_tup (ma_cons (me_var 4) ma_nil))) (me_sl (me_var 0) (mo_some (me_add (me_var 1) me_int)) mo_none)))))
abbrev s__law_no_views : Stmt := topS 49
theorem sc__law_no_views : FnScope N__law_no_views_v2 [] (defScope s__law_no_views) := ⟨rfl, rfl, rfl, by decide +kernel, rfl, by decide +kernel, by decide +kernel⟩
theorem ok__law_no_views {gq : Bool} (T : Txt K mg adr fds) : FnQ gq P w K mg base 1 (adr 49) (fds 49) [] (spM K mg [] m__law_no_views_v2) := by
  refine def_ok S__law_no_views_v2 [] T.F__law_no_views sc__law_no_views rfl rfl rfl fun cdv A outer s H E hr => ?_
  have tk : Takes (cxOf (L2.CX P w) P w K mg base N__law_no_views_v2 "_law_no_views" (defScope s__law_no_views) (adr 49) cdv A outer s H E) (fun c d _ H => E c d H) := takes_of rfl rfl rfl rfl
  exact (mss_cons (ms_set 0 rfl sc__law_no_views.nd rfl (by first | exact Or.inl rfl | exact Or.inr rfl) (ML.me (ml_lst (ma_cons me_non (ma_cons me_bl (ma_cons me_int (ma_cons me_str (ma_cons (me_tup ma_nil) (ma_cons (ML.me (ml_lst ma_nil)) (ma_cons me_dict0 (ma_cons (ML.me (ml_lst (ma_cons me_int ma_nil))) (ma_cons (me_tup (ma_cons me_int ma_nil)) (ma_cons (me_tup (ma_cons me_int (ma_cons me_int ma_nil))) (ma_cons (me_tup (ma_cons me_bl ma_nil)) (ma_cons (me_tup (ma_cons me_int (ma_cons me_bl ma_nil))) (ma_cons (me_tup (ma_cons me_int (ma_cons me_bl ma_nil))) (ma_cons (me_tup (ma_cons me_bl (ma_cons me_int (ma_cons me_int ma_nil)))) (ma_cons (me_tup (ma_cons me_int (ma_cons (me_neg me_int) ma_nil))) ma_nil))))))))))))))))))
  (mss_cons (ms_set 0 rfl sc__law_no_views.nd rfl (by first | exact Or.inl rfl | exact Or.inr rfl) (me_add (me_var 0) (ML.me (ml_lst (ma_cons (me_tup (ma_cons me_int (ma_cons me_non ma_nil))) (ma_cons (me_tup (ma_cons me_int (ma_cons me_str ma_nil))) (ma_cons (me_tup (ma_cons (me_tup (ma_cons me_int ma_nil)) ma_nil)) (ma_cons (me_mulT (me_tup (ma_cons me_int ma_nil)) me_int) (ma_cons (me_tup (ma_cons me_int (ma_cons me_int (ma_cons me_int (ma_cons me_int (ma_cons me_int (ma_cons me_int (ma_cons me_int (ma_cons me_int (ma_cons me_int (ma_cons me_int ma_nil))))))))))) (ma_cons (me_tup (ma_cons me_int (ma_cons (me_pow me_int me_int) ma_nil))) (ma_cons (ML.me (ml_lst (ma_cons me_int (ma_cons me_int ma_nil)))) ma_nil)))))))))))
  (mss_one (ms_ret (me_add (me_var 0) (ML.me (ml_lst (ma_cons (me_tup (ma_cons me_int (ma_cons (ML.me (ml_lst (ma_cons me_int ma_nil))) ma_nil))) ma_nil))))))))
abbrev s__law_no_tables : Stmt := topS 50
theorem sc__law_no_tables : FnScope N__law_no_tables_v2 ["_law_view_here", "_law_table"] (defScope s__law_no_tables) := ⟨rfl, rfl, rfl, by decide +kernel, rfl, by decide +kernel, by decide +kernel⟩
theorem ok__law_no_tables {gq : Bool} (T : Txt K mg adr fds) : FnQ gq P w K mg base 2 (adr 50) (fds 50) ["_law_view_here", "_law_table"] (spM K mg [false, false] m__law_no_tables_v2) := by
  refine def_ok S__law_no_tables_v2 [false, false] T.F__law_no_tables sc__law_no_tables rfl rfl rfl fun cdv A outer s H E hr => ?_
  have tk : Takes (cxOf (L2.CX P w) P w K mg base N__law_no_tables_v2 "_law_no_tables" (defScope s__law_no_tables) (adr 50) cdv A outer s H E) (fun c d _ H => E c d H) := takes_of rfl rfl rfl rfl
  exact (mss_cons (ms_setL 2 rfl rfl sc__law_no_tables.nd rfl (by first | exact Or.inl rfl | exact Or.inr rfl) (ml_lst (ma_cons me_non (ma_cons (me_tup ma_nil) (ma_cons (ML.me (ml_lst ma_nil)) (ma_cons me_int (ma_cons me_bl (ma_cons me_str (ma_cons me_dict0 (ma_cons (ML.me (ml_list rfl T.z_list (ma_cons (me_var 1) ma_nil))) (ma_cons (me_sl (me_var 1) mo_none (mo_some (me_neg me_int))) (ma_cons (me_add (me_var 1) (me_sl (me_var 1) mo_none (mo_some me_int))) (ma_cons (me_tup (ma_cons (me_var 1) ma_nil)) ma_nil)))))))))))))
  (mss_cons (ms_for (passes_of rfl) rfl (mi_seq (ML.me (ml_lst (ma_cons (me_len rfl T.z_len (ma_cons (me_var 0) ma_nil)) (ma_cons (me_neg me_int) (ma_cons me_bl (ma_cons me_str (ma_cons (me_pow me_int me_int) (ma_cons (me_tup (ma_cons me_int ma_nil)) (ma_cons (ML.me (ml_lst (ma_cons me_int ma_nil))) ma_nil)))))))))) (mg_name 3 rfl sc__law_no_tables.nd rfl (by first | exact Or.inl rfl | exact Or.inr rfl) (by first | exact .inl rfl | exact .inr rfl))
    (mss_one (ms_expr (me_append 2 rfl (pv 2) (ma_cons (me_call (ks := [none, none, none, none]) (ok__law_with T) (hr.mono (by decide)) rfl T.g__law_with T.F__law_with.kp T.b__law_with tk (mac_cons (me_var 1) (mac_cons (me_sub (me_len rfl T.z_len (ma_cons (me_var 0) ma_nil)) me_int) (mac_cons (me_max rfl rfl T.z_max (ma_cons (me_var 0) ma_nil)) (mac_cons (me_var 3) mac_nil)))) rfl rfl (by decide)) ma_nil) (fun _ pt => pe_bm PySem.F.plainAttrs_list PySem.F.slot_list_append PySem.F.type_list_append mt_append (pv 2) pt)))))
  (mss_one (ms_ret (me_add (me_move 2 rfl rfl (pv 2)) (ML.me (ml_lst (ma_cons (me_add (me_sl (me_var 1) mo_none (mo_some (me_neg me_int))) (me_tup (ma_cons (ML.me (ml_list rfl T.z_list (ma_cons (me_at (me_var 1) (me_neg me_int) (fun _ _ => rfl)) ma_nil))) ma_nil))) (ma_cons (me_add (me_sl (me_var 1) mo_none (mo_some (me_neg me_int))) (me_tup (ma_cons (me_add (me_at (me_var 1) (me_neg me_int) (fun _ _ => rfl)) (me_tup (ma_cons me_non ma_nil))) ma_nil))) (ma_cons (me_add (me_sl (me_var 1) mo_none (mo_some (me_neg me_int))) (me_tup (ma_cons (me_sl (me_at (me_var 1) (me_neg me_int) (fun _ _ => rfl)) (mo_some me_int) mo_none) ma_nil))) ma_nil))))))))))
abbrev s__law_read : Stmt := topS 51
theorem sc__law_read : FnScope N__law_read ["_law_thing"] (defScope s__law_read) := ⟨rfl, rfl, rfl, by decide +kernel, rfl, by decide +kernel, by decide +kernel⟩
abbrev SL__law_read (C : Str → Addr × Addr) : Sg := ⟨[0], 1, [], tabsOf (["_law_read", "_law_told", "law"] : List Str) nmL C⟩
theorem ok__law_read {C : Str → Addr × Addr} (T : Txt K mg adr fds) (hcs : CodesL fds C) (TBs : ∀ y ∈ (["_law_read", "_law_told", "law"] : List Str), LamX.TabB base mg (C y).1 (C y).2) : FnG P w K mg base 11 (adr 51) (fds 51) ["_law_thing"] (spMT K mg [false] (tabsOf (["_law_read", "_law_told", "law"] : List Str) nmL C) m__law_read) := by
  have TB := TBs "_law_read" (by decide)
  refine def_okT (SL__law_read C) [false] T.F__law_read sc__law_read hcs.1 rfl rfl rfl (fun A outer s H E hr => ?_)
  have tk : Takes (cxOf (L2.CX P w) P w K mg base N__law_read "_law_read" (defScope s__law_read) (adr 51) (.ref (C "_law_read").1) A outer s H E) (fun c d _ H => E c d H) := takes_of rfl rfl rfl rfl
  exact (mss_one (ms_ret (me_said3F 8 rfl T.g__law_said T.F__law_said T.b__law_said sc__law_said rfl (.inl rfl) (fun cdv hr2 => gv__law_said T hr2 (hr.gd rfl)) (by first | rfl | decide +kernel) TB rfl (tabsOf_mem (by decide)) tabsOf_nm (hr.mono (by decide)) (LamX.lamS_by rfl) rfl (fun _ _ _ _ _ => rfl)
    (fun _ _ _ _ _ _ _ tk hr => (me_call (ks := [none]) (ok_read_table T) (hr.mono (by decide)) rfl T.g_read_table T.F_read_table.kp T.b_read_table tk (mac_cons (me_var 0) mac_nil) rfl rfl (by decide))))))
abbrev s__law_told : Stmt := topS 52
theorem sc__law_told : FnScope N__law_told ["_law_view_here", "_law_table"] (defScope s__law_told) := ⟨rfl, rfl, rfl, by decide +kernel, rfl, by decide +kernel, by decide +kernel⟩
abbrev SL__law_told (C : Str → Addr × Addr) : Sg := ⟨[0, 0], 2, [], tabsOf (["_law_read", "_law_told", "law"] : List Str) nmL C⟩
theorem ok__law_told {C : Str → Addr × Addr} (T : Txt K mg adr fds) (hcs : CodesL fds C) (TBs : ∀ y ∈ (["_law_read", "_law_told", "law"] : List Str), LamX.TabB base mg (C y).1 (C y).2) : FnG P w K mg base 10 (adr 52) (fds 52) ["_law_view_here", "_law_table"] (spMT K mg [false, false] (tabsOf (["_law_read", "_law_told", "law"] : List Str) nmL C) m__law_told) := by
  have TB := TBs "_law_told" (by decide)
  refine def_okT (SL__law_told C) [false, false] T.F__law_told sc__law_told hcs.2.1 rfl rfl rfl (fun A outer s H E hr => ?_)
  have tk : Takes (cxOf (L2.CX P w) P w K mg base N__law_told "_law_told" (defScope s__law_told) (adr 52) (.ref (C "_law_told").1) A outer s H E) (fun c d _ H => E c d H) := takes_of rfl rfl rfl rfl
  exact (mss_one (ms_ret (me_said3F 7 rfl T.g__law_said T.F__law_said T.b__law_said sc__law_said rfl (.inl rfl) (fun cdv hr2 => gv__law_said T hr2 (hr.gd rfl)) (by first | rfl | decide +kernel) TB rfl (tabsOf_mem (by decide)) tabsOf_nm (hr.mono (by decide)) (LamX.lamS_by rfl) rfl (fun _ _ _ _ _ => rfl)
    (fun _ _ _ _ _ _ _ tk hr => (me_call (ks := [none, none]) (ok_table_text T) (hr.mono (by decide)) rfl T.g_table_text T.F_table_text.kp T.b_table_text tk (mac_cons (me_var 0) (mac_cons (me_var 1) mac_nil)) rfl rfl (by decide))))))
abbrev s__law_few_texts : Stmt := topS 53
theorem sc__law_few_texts : FnScope N__law_few_texts [] (defScope s__law_few_texts) := ⟨rfl, rfl, rfl, by decide +kernel, rfl, by decide +kernel, by decide +kernel⟩
theorem ok__law_few_texts {gq : Bool} (T : Txt K mg adr fds) : FnQ gq P w K mg base 1 (adr 53) (fds 53) [] (spM K mg [] m__law_few_texts) := by
  refine def_ok S__law_few_texts [] T.F__law_few_texts sc__law_few_texts rfl rfl rfl fun cdv A outer s H E hr => ?_
  have tk : Takes (cxOf (L2.CX P w) P w K mg base N__law_few_texts "_law_few_texts" (defScope s__law_few_texts) (adr 53) cdv A outer s H E) (fun c d _ H => E c d H) := takes_of rfl rfl rfl rfl
  exact (mss_cons (ms_set 0 rfl sc__law_few_texts.nd rfl (by first | exact Or.inl rfl | exact Or.inr rfl) (ML.me (ml_lst (ma_cons me_non (ma_cons me_bl (ma_cons me_int (ma_cons (me_tup ma_nil) (ma_cons (ML.me (ml_lst ma_nil)) (ma_cons me_dict0 (ma_cons me_str (ma_cons me_str (ma_cons me_str (ma_cons me_str (ma_cons me_str (ma_cons me_str (ma_cons me_str (ma_cons me_str ma_nil)))))))))))))))))
  (mss_cons (ms_set 0 rfl sc__law_few_texts.nd rfl (by first | exact Or.inl rfl | exact Or.inr rfl) (me_add (me_var 0) (ML.me (ml_lst (ma_cons me_str (ma_cons me_str (ma_cons me_str (ma_cons me_str (ma_cons me_str ma_nil)))))))))
  (mss_one (ms_ret (me_add (me_var 0) (ML.me (ml_lst (ma_cons me_str (ma_cons me_str (ma_cons me_str (ma_cons me_str (ma_cons me_str ma_nil))))))))))))
abbrev s__law_no_texts : Stmt := topS 54
theorem sc__law_no_texts : FnScope N__law_no_texts ["_law_view_here", "_law_table"] (defScope s__law_no_texts) := ⟨rfl, rfl, rfl, by decide +kernel, rfl, by decide +kernel, by decide +kernel⟩
theorem ok__law_no_texts {gq : Bool} (T : Txt K mg adr fds) : FnQ gq P w K mg base 2 (adr 54) (fds 54) ["_law_view_here", "_law_table"] (spM K mg [false, false] m__law_no_texts) := by
  refine def_okRp S__law_no_texts [false, false] T.F__law_no_texts sc__law_no_texts (by decide +kernel) (by decide) rfl rfl rfl fun cdv A outer s H E hr => ?_
  have tk : Takes (cxOf (L2.CX P w) P w K mg base N__law_no_texts "_law_no_texts" (defScope s__law_no_texts) (adr 54) cdv A outer s H E) (fun c d _ H => E c d H) := takes_of rfl rfl rfl rfl
  exact (msst_cons (MS.toT (ms_set 2 rfl sc__law_no_texts.nd rfl (by first | exact Or.inl rfl | exact Or.inr rfl) (me_call (ks := [none, none]) (ok__law_text T) (hr.mono (by decide)) rfl T.g__law_text T.F__law_text.kp T.b__law_text tk (mac_cons (me_var 0) (mac_cons (me_var 1) mac_nil)) rfl rfl (by decide))))
  (msst_cons (MS.toT (ms_set 3 rfl sc__law_no_texts.nd rfl (by first | exact Or.inl rfl | exact Or.inr rfl) (ML.me (ml_split (me_var 2) me_str))))
  (msst_cons (MS.toT (ms_setL 4 rfl rfl sc__law_no_texts.nd rfl (by first | exact Or.inl rfl | exact Or.inr rfl) (ml_lst (ma_cons (me_slS (me_var 2) mo_none (mo_some (me_neg me_int))) (ma_cons (me_add (me_var 2) me_str) (ma_cons (me_add me_str (me_var 2)) (ma_cons (me_add me_str (me_var 2)) (ma_cons (me_add (me_var 2) me_str) (ma_cons (me_add (me_var 2) (me_var 2)) (ma_cons (me_slS (me_var 2) (mo_some me_int) mo_none) (ma_cons (me_add (me_slS (me_var 2) mo_none (mo_some (me_neg me_int))) me_str) ma_nil)))))))))))
  (msst_cons (mst_setL 4 rfl rfl sc__law_no_texts.nd rfl (.inl rfl) (mlt_add (me_move 4 rfl rfl (pv 4)) (met_lst (mat_cons (met_replace (me_var 2)) (mat_cons (met_replace (me_var 2)) (mat_cons (met_replace (me_var 2)) mat_nil))))))
  (msst_cons (mst_setL 4 rfl rfl sc__law_no_texts.nd rfl (.inl rfl) (mlt_add (me_move 4 rfl rfl (pv 4)) (met_lst (mat_cons (met_replace (me_var 2)) (mat_cons (met_replace (me_var 2)) (mat_cons (met_replace (me_var 2)) (mat_cons (met_replace (me_var 2)) mat_nil)))))))
  (msst_cons (mst_setL 4 rfl rfl sc__law_no_texts.nd rfl (.inl rfl) (mlt_add (me_move 4 rfl rfl (pv 4)) (met_lst (mat_cons (met_replace (me_var 2)) (mat_cons (met_replace (me_var 2)) (mat_cons (met_replace (me_var 2)) mat_nil))))))
  (msst_cons (mst_setL 4 rfl rfl sc__law_no_texts.nd rfl (.inl rfl) (mlt_add (me_move 4 rfl rfl (pv 4)) (met_lst (mat_cons (met_replace (me_var 2)) (mat_cons (met_replace (me_var 2)) (mat_cons (met_replace (me_var 2)) (mat_cons (met_replace (me_var 2)) mat_nil)))))))
  (msst_cons (mst_setL 4 rfl rfl sc__law_no_texts.nd rfl (.inl rfl) (mlt_add (me_move 4 rfl rfl (pv 4)) (met_lst (mat_cons (met_replace (me_var 2)) (mat_cons (met_replace (me_var 2)) (mat_cons (ME.toT (me_add (me_var 2) me_str)) (mat_cons (ME.toT (me_add (me_add (me_var 2) (me_at (me_var 3) me_int (fun _ _ => rfl))) me_str)) mat_nil)))))))
  (msst_cons (MS.toT (ms_expr (me_append 4 rfl (pv 4) (ma_cons (me_add (me_join me_str (me_sl (me_var 3) mo_none (mo_some (me_neg me_int)))) me_str) ma_nil) (fun _ pt => pe_bm PySem.F.plainAttrs_list PySem.F.slot_list_append PySem.F.type_list_append mt_append (pv 4) pt))))
  (msst_cons (MS.toT (ms_if (mt_gt (me_len rfl T.z_len (ma_cons (me_var 0) ma_nil)) me_int)
    (mss_one (ms_expr (me_append 4 rfl (pv 4) (ma_cons (me_join me_str (me_add (ML.me (ml_lst (ma_cons (me_at (me_var 3) me_int (fun _ _ => rfl)) (ma_cons (me_at (me_var 3) me_int (fun _ _ => rfl)) (ma_cons (me_at (me_var 3) me_int (fun _ _ => rfl)) ma_nil))))) (me_sl (me_var 3) (mo_some me_int) mo_none))) ma_nil) (fun _ pt => pe_bm PySem.F.plainAttrs_list PySem.F.slot_list_append PySem.F.type_list_append mt_append (pv 4) pt))))
    mss_nil))
  (msst_cons (MS.toT (ms_for (passes_of rfl) rfl (mi_seq (ML.me (ml_lst (ma_cons (me_strI rfl T.z_str (ma_cons (me_len rfl T.z_len (ma_cons (me_var 0) ma_nil)) ma_nil)) (ma_cons me_str (ma_cons me_str (ma_cons me_str (ma_cons me_str (ma_cons me_str (ma_cons me_str ma_nil)))))))))) (mg_name 5 rfl sc__law_no_texts.nd rfl (by first | exact Or.inl rfl | exact Or.inr rfl) (by first | exact .inl rfl | exact .inr rfl))
    (mss_one (ms_expr (me_append 4 rfl (pv 4) (ma_cons (me_call (ks := [none, none]) (ok__law_text T) (hr.mono (by decide)) rfl T.g__law_text T.F__law_text.kp T.b__law_text tk (mac_cons (me_var 0) (mac_cons (me_call (ks := [none, none, none, none]) (ok__law_with T) (hr.mono (by decide)) rfl T.g__law_with T.F__law_with.kp T.b__law_with tk (mac_cons (me_var 1) (mac_cons (me_sub (me_len rfl T.z_len (ma_cons (me_var 0) ma_nil)) me_int) (mac_cons (me_max rfl rfl T.z_max (ma_cons (me_var 0) ma_nil)) (mac_cons (me_var 5) mac_nil)))) rfl rfl (by decide)) mac_nil)) rfl rfl (by decide)) ma_nil) (fun _ pt => pe_bm PySem.F.plainAttrs_list PySem.F.slot_list_append PySem.F.type_list_append mt_append (pv 4) pt))))))
  (msst_one (ms_ret (me_add (me_move 4 rfl rfl (pv 4)) (ML.me (ml_lst (ma_cons (ML.me (ml_lst (ma_cons (me_var 2) ma_nil))) (ma_cons (me_tup (ma_cons (me_var 2) ma_nil)) (ma_cons (me_tup (ma_cons (me_var 0) (ma_cons (me_var 1) ma_nil))) ma_nil)))))))))))))))))))
abbrev s_law : Stmt := topS 55
theorem sc_law : FnScope N_law_k65 ["_law_script"] (defScope s_law) := ⟨rfl, rfl, rfl, by decide +kernel, rfl, by decide +kernel, by decide +kernel⟩
abbrev SL_law (C : Str → Addr × Addr) : Sg := ⟨[0, 0, 1, 0, 0, 0, 0], 1, [], tabsOf (["_law_read", "_law_told", "law"] : List Str) nmL C⟩
theorem ok_law {C : Str → Addr × Addr} (noL : noLst K = true) (T : Txt K mg adr fds) (hcs : CodesL fds C) (TBs : ∀ y ∈ (["_law_read", "_law_told", "law"] : List Str), LamX.TabB base mg (C y).1 (C y).2) (hm : ∀ ns : List Int, ns.length ≤ 63 → ∃ zs, m_law_k65 [.list (ns.map PyData.int)] = .ok (.bool true) zs) : FnG P w K mg base 12 (adr 55) (fds 55) ["_law_script"] (spTopT K ((["_law_read", "_law_told", "law"] : List Str).map fun y => (C y).2)) := by
  have TB := TBs "law" (by decide)
  refine law_okT (nm := nmL) (SL_law C) noL T.F_law sc_law rfl rfl rfl hcs.2.2.1 (fun A outer s H E hr => ?_) hm S_law_k65 rfl
  have tk : Takes (cxOf (L2.CX P w) P w K mg base N_law_k65 "law" (defScope s_law) (adr 55) (.ref (C "law").1) A outer s H E) (fun c d _ H => E c d H) := takes_of rfl rfl rfl rfl
  exact (mss_cons (ms_if (mt_ne hr.units (ML.me (ml_lc (oS := [("_law_bad", 5)]) rfl sc_law.nd (mi_seq (me_call0 (ok__law_few_texts T) (hr.mono (by decide)) rfl T.g__law_few_texts T.F__law_few_texts.kp T.b__law_few_texts tk)) (by first | decide +kernel | rfl) rfl (fun _ _ _ _ _ => (mg_name 5 rfl sc_law.nd rfl (by first | exact Or.inl rfl | exact Or.inr rfl) (by first | exact .inl rfl | exact .inr rfl))) (fun _ _ _ _ _ => (mts_one (mt_ne hr.units (me_callT (ks := [none]) (ok__law_read T hcs TBs) (hr.mono (by decide)) rfl T.g__law_read T.F__law_read.kp T.b__law_read takes0 (mac_cons (me_var 5) mac_nil) rfl rfl (by decide)) me_str))) (fun _ _ _ _ _ => me_int))) (ML.me (ml_lst ma_nil)))
    (mss_one (ms_ret me_bl))
    mss_nil)
  (mss_cons (ms_if (mt_ne hr.units (ML.me (ml_lc (oS := [("_law_bad", 5)]) rfl sc_law.nd (mi_seq (me_call0 (ok__law_no_views T) (hr.mono (by decide)) rfl T.g__law_no_views T.F__law_no_views.kp T.b__law_no_views tk)) (by first | decide +kernel | rfl) rfl (fun _ _ _ _ _ => (mg_name 5 rfl sc_law.nd rfl (by first | exact Or.inl rfl | exact Or.inr rfl) (by first | exact .inl rfl | exact .inr rfl))) (fun _ _ _ _ _ => (mts_one (mt_ne hr.units (me_callT (ks := [none, none]) (ok__law_told T hcs TBs) (hr.mono (by decide)) rfl T.g__law_told T.F__law_told.kp T.b__law_told takes0 (mac_cons (me_var 5) (mac_cons me_non mac_nil)) rfl rfl (by decide)) me_str))) (fun _ _ _ _ _ => me_int))) (ML.me (ml_lst ma_nil)))
    (mss_one (ms_ret me_bl))
    mss_nil)
  (mss_cons (ms_for (passes_of rfl) rfl (mi_seq (me_add (ML.me (ml_lst (ma_cons (me_call (ks := [none, none]) (ok__law_cell_at T) (hr.mono (by decide)) rfl T.g__law_cell_at T.F__law_cell_at.kp T.b__law_cell_at tk (mac_cons (me_var 0) (mac_cons me_int mac_nil)) rfl rfl (by decide)) ma_nil))) (me_sl (me_var 0) (mo_some me_int) (mo_some me_int)))) (mg_name 1 rfl sc_law.nd rfl (by first | exact Or.inl rfl | exact Or.inr rfl) (by first | exact .inl rfl | exact .inr rfl))
    (mss_cons (ms_setL 2 rfl rfl sc_law.nd rfl (by first | exact Or.inl rfl | exact Or.inr rfl) (ml_call (ks := [none]) (ok__law_pen T) (hr.mono (by decide)) rfl T.g__law_pen T.F__law_pen.kp T.b__law_pen tk (mac_cons (me_var 1) mac_nil) rfl rfl (by decide)))
  (mss_cons (ms_set 3 rfl sc_law.nd rfl (by first | exact Or.inl rfl | exact Or.inr rfl) (me_call (ks := [some 2, none, none]) (ok__law_view T) (hr.mono (by decide)) rfl T.g__law_view T.F__law_view.kp T.b__law_view tk (mac_lend 2 rfl (pv 2) (mac_cons me_int (mac_cons me_int mac_nil))) rfl rfl (by decide)))
  (mss_cons (ms_set 4 rfl sc_law.nd rfl (by first | exact Or.inl rfl | exact Or.inr rfl) (me_call (ks := [some 2, none]) (ok__law_any T) (hr.mono (by decide)) rfl T.g__law_any T.F__law_any.kp T.b__law_any tk (mac_lend 2 rfl (pv 2) (mac_cons (me_var 3) mac_nil)) rfl rfl (by decide)))
  (mss_cons (ms_if (mt_ne hr.units (ML.me (ml_lc (oS := [("_law_bad", 5)]) rfl sc_law.nd (mi_seq (me_call (ks := [none, none]) (ok__law_no_texts T) (hr.mono (by decide)) rfl T.g__law_no_texts T.F__law_no_texts.kp T.b__law_no_texts tk (mac_cons (me_var 3) (mac_cons (me_var 4) mac_nil)) rfl rfl (by decide))) (by first | decide +kernel | rfl) rfl (fun _ _ _ _ _ => (mg_name 5 rfl sc_law.nd rfl (by first | exact Or.inl rfl | exact Or.inr rfl) (by first | exact .inl rfl | exact .inr rfl))) (fun _ _ _ _ _ => (mts_one (mt_ne hr.units (me_callT (ks := [none]) (ok__law_read T hcs TBs) (hr.mono (by decide)) rfl T.g__law_read T.F__law_read.kp T.b__law_read takes0 (mac_cons (me_var 5) mac_nil) rfl rfl (by decide)) me_str))) (fun _ _ _ _ _ => me_int))) (ML.me (ml_lst ma_nil)))
    (mss_one (ms_ret me_bl))
    mss_nil)
  (mss_one (ms_for (passes_of rfl) rfl (mi_seq (me_call (ks := [none, none]) (ok__law_no_tables T) (hr.mono (by decide)) rfl T.g__law_no_tables T.F__law_no_tables.kp T.b__law_no_tables tk (mac_cons (me_var 3) (mac_cons (me_var 4) mac_nil)) rfl rfl (by decide))) (mg_name 5 rfl sc_law.nd rfl (by first | exact Or.inl rfl | exact Or.inr rfl) (by first | exact .inl rfl | exact .inr rfl))
    (mss_cons (ms_set 6 rfl sc_law.nd rfl (by first | exact Or.inl rfl | exact Or.inr rfl) (me_repr (hr.gd rfl) (hu62 hr) rfl T.z_repr (ma_cons (me_var 5) ma_nil)))
  (mss_one (ms_if (MTw.mt (mtw_or (mt_ne hr.units (me_callT (ks := [none, none]) (ok__law_told T hcs TBs) (hr.mono (by decide)) rfl T.g__law_told T.F__law_told.kp T.b__law_told tk (mac_cons (me_var 3) (mac_cons (me_var 5) mac_nil)) rfl rfl (by decide)) me_str) (mtw_one (mt_ne hr.units (me_repr (hr.gd rfl) (hu62 hr) rfl T.z_repr (ma_cons (me_var 5) ma_nil)) (me_var 6)))))
    (mss_one (ms_ret me_bl))
    mss_nil))))))))))
  (mss_one (ms_ret me_bl)))))
end
set_option maxHeartbeats 0 in
theorem all_mk {l : PySem.W.OpenLaw} {w : World} {K : PySem.W.Frag} {h : Heap} {mg : Str → Option Value} (X : K.In h) (G : h.Ns mainGlobals mg) {fa : Addr} (hfa : mg "law" = some (.ref fa)) (noL : noLst K = true) (hm : ∀ ns : List Int, ns.length ≤ 63 → ∃ zs, m_law_k65 [.list (ns.map PyData.int)] = .ok (.bool true) zs)
    {f22 f23 f26 f27 f28 f30 f29 f31 f34 f35 f38 f37 f36 f40 f41 f42 f43 f44 f45 f46 f47 f48 f49 f50 f51 f52 f53 f54 f55 C3 C19 C2 C1 C4 C6 C8 C11 C12 C14 C16 C17 C20 C5 C7 C9 C13 C10 C15 C18 : Addr}
    {od22 an22 od23 an23 od26 an26 od27 an27 od28 an28 od30 an30 od29 an29 od31 an31 od34 an34 od35 an35 od38 an38 od37 an37 od36 an36 od40 an40 od41 an41 od42 an42 od43 an43 od44 an44 od45 an45 od46 an46 od47 an47 od48 an48 od49 an49 od50 an50 od51 an51 od52 an52 od53 an53 od54 an54 od55 an55 : Option Addr} {sl22 sl23 sl26 sl27 sl28 sl30 sl29 sl31 sl34 sl35 sl38 sl37 sl36 sl40 sl41 sl42 sl43 sl44 sl45 sl46 sl47 sl48 sl49 sl50 sl51 sl52 sl53 sl54 sl55 : Array (Option Value)} {oc22 kV22 dc22 pm22 cd22 ct22 oc23 kV23 dc23 pm23 cd23 ct23 oc26 kV26 dc26 pm26 cd26 ct26 oc27 kV27 dc27 pm27 cd27 ct27 oc28 kV28 dc28 pm28 cd28 ct28 oc30 kV30 dc30 pm30 cd30 ct30 oc29 kV29 dc29 pm29 cd29 ct29 oc31 kV31 dc31 pm31 cd31 ct31 oc34 kV34 dc34 pm34 cd34 ct34 oc35 kV35 dc35 pm35 cd35 ct35 oc38 kV38 dc38 pm38 cd38 ct38 oc37 kV37 dc37 pm37 cd37 ct37 oc36 kV36 dc36 pm36 cd36 ct36 oc40 kV40 dc40 pm40 cd40 ct40 oc41 kV41 dc41 pm41 cd41 ct41 oc42 kV42 dc42 pm42 cd42 ct42 oc43 kV43 dc43 pm43 cd43 ct43 oc44 kV44 dc44 pm44 cd44 ct44 oc45 kV45 dc45 pm45 cd45 ct45 oc46 kV46 dc46 pm46 cd46 ct46 oc47 kV47 dc47 pm47 cd47 ct47 oc48 kV48 dc48 pm48 cd48 ct48 oc49 kV49 dc49 pm49 cd49 ct49 oc50 kV50 dc50 pm50 cd50 ct50 oc51 kV51 dc51 pm51 cd51 ct51 oc52 kV52 dc52 pm52 cd52 ct52 oc53 kV53 dc53 pm53 cd53 ct53 oc54 kV54 dc54 pm54 cd54 ct54 oc55 kV55 dc55 pm55 cd55 ct55 : Value}
    {t_MOST_STATES t_REFUSED : Tok}
    (a22 : PySem.W.nsIn K mainGlobals "is_whole" = some (some (.ref f22))) (l22 : K.lookup f22 = some ⟨oc22, od22, .func (PySem.W.fnOf "is_whole" "is_whole" (defArgs (topS 22)) (defBody (topS 22)) (defScope (topS 22)) .none kV22 dc22 pm22 an22 cd22 ct22), sl22⟩) (c22 : PySem.W.codeIn K cd22 "is_whole" = true) (k22 : PySem.W.keepIn K (.ref f22) = true)
    (a23 : PySem.W.nsIn K mainGlobals "is_below" = some (some (.ref f23))) (l23 : K.lookup f23 = some ⟨oc23, od23, .func (PySem.W.fnOf "is_below" "is_below" (defArgs (topS 23)) (defBody (topS 23)) (defScope (topS 23)) .none kV23 dc23 pm23 an23 cd23 ct23), sl23⟩) (c23 : PySem.W.codeIn K cd23 "is_below" = true) (k23 : PySem.W.keepIn K (.ref f23) = true)
    (a26 : PySem.W.nsIn K mainGlobals "is_view" = some (some (.ref f26))) (l26 : K.lookup f26 = some ⟨oc26, od26, .func (PySem.W.fnOf "is_view" "is_view" (defArgs (topS 26)) (defBody (topS 26)) (defScope (topS 26)) .none kV26 dc26 pm26 an26 cd26 ct26), sl26⟩) (c26 : PySem.W.codeIn K cd26 "is_view" = true) (k26 : PySem.W.keepIn K (.ref f26) = true)
    (a27 : PySem.W.nsIn K mainGlobals "need_view" = some (some (.ref f27))) (l27 : K.lookup f27 = some ⟨oc27, od27, .func (PySem.W.fnOf "need_view" "need_view" (defArgs (topS 27)) (defBody (topS 27)) (defScope (topS 27)) .none kV27 dc27 pm27 an27 cd27 ct27), sl27⟩) (c27 : PySem.W.codeIn K cd27 "need_view" = true) (k27 : PySem.W.keepIn K (.ref f27) = true)
    (a28 : PySem.W.nsIn K mainGlobals "count_values" = some (some (.ref f28))) (l28 : K.lookup f28 = some ⟨oc28, od28, .func (PySem.W.fnOf "count_values" "count_values" (defArgs (topS 28)) (defBody (topS 28)) (defScope (topS 28)) .none kV28 dc28 pm28 an28 cd28 ct28), sl28⟩) (c28 : PySem.W.codeIn K cd28 "count_values" = true) (k28 : PySem.W.keepIn K (.ref f28) = true)
    (a30 : PySem.W.nsIn K mainGlobals "_is_row" = some (some (.ref f30))) (l30 : K.lookup f30 = some ⟨oc30, od30, .func (PySem.W.fnOf "_is_row" "_is_row" (defArgs (topS 30)) (defBody (topS 30)) (defScope (topS 30)) .none kV30 dc30 pm30 an30 cd30 ct30), sl30⟩) (c30 : PySem.W.codeIn K cd30 "_is_row" = true) (k30 : PySem.W.keepIn K (.ref f30) = true)
    (a29 : PySem.W.nsIn K mainGlobals "is_table" = some (some (.ref f29))) (l29 : K.lookup f29 = some ⟨oc29, od29, .func (PySem.W.fnOf "is_table" "is_table" (defArgs (topS 29)) (defBody (topS 29)) (defScope (topS 29)) .none kV29 dc29 pm29 an29 cd29 ct29), sl29⟩) (c29 : PySem.W.codeIn K cd29 "is_table" = true) (k29 : PySem.W.keepIn K (.ref f29) = true)
    (a31 : PySem.W.nsIn K mainGlobals "need_table" = some (some (.ref f31))) (l31 : K.lookup f31 = some ⟨oc31, od31, .func (PySem.W.fnOf "need_table" "need_table" (defArgs (topS 31)) (defBody (topS 31)) (defScope (topS 31)) .none kV31 dc31 pm31 an31 cd31 ct31), sl31⟩) (c31 : PySem.W.codeIn K cd31 "need_table" = true) (k31 : PySem.W.keepIn K (.ref f31) = true)
    (a34 : PySem.W.nsIn K mainGlobals "words" = some (some (.ref f34))) (l34 : K.lookup f34 = some ⟨oc34, od34, .func (PySem.W.fnOf "words" "words" (defArgs (topS 34)) (defBody (topS 34)) (defScope (topS 34)) .none kV34 dc34 pm34 an34 cd34 ct34), sl34⟩) (c34 : PySem.W.codeIn K cd34 "words" = true) (k34 : PySem.W.keepIn K (.ref f34) = true)
    (a35 : PySem.W.nsIn K mainGlobals "table_text" = some (some (.ref f35))) (l35 : K.lookup f35 = some ⟨oc35, od35, .func (PySem.W.fnOf "table_text" "table_text" (defArgs (topS 35)) (defBody (topS 35)) (defScope (topS 35)) .none kV35 dc35 pm35 an35 cd35 ct35), sl35⟩) (c35 : PySem.W.codeIn K cd35 "table_text" = true) (k35 : PySem.W.keepIn K (.ref f35) = true)
    (a38 : PySem.W.nsIn K mainGlobals "_entry" = some (some (.ref f38))) (l38 : K.lookup f38 = some ⟨oc38, od38, .func (PySem.W.fnOf "_entry" "_entry" (defArgs (topS 38)) (defBody (topS 38)) (defScope (topS 38)) .none kV38 dc38 pm38 an38 cd38 ct38), sl38⟩) (c38 : PySem.W.codeIn K cd38 "_entry" = true) (k38 : PySem.W.keepIn K (.ref f38) = true)
    (a37 : PySem.W.nsIn K mainGlobals "_entries" = some (some (.ref f37))) (l37 : K.lookup f37 = some ⟨oc37, od37, .func (PySem.W.fnOf "_entries" "_entries" (defArgs (topS 37)) (defBody (topS 37)) (defScope (topS 37)) .none kV37 dc37 pm37 an37 cd37 ct37), sl37⟩) (c37 : PySem.W.codeIn K cd37 "_entries" = true) (k37 : PySem.W.keepIn K (.ref f37) = true)
    (a36 : PySem.W.nsIn K mainGlobals "read_table" = some (some (.ref f36))) (l36 : K.lookup f36 = some ⟨oc36, od36, .func (PySem.W.fnOf "read_table" "read_table" (defArgs (topS 36)) (defBody (topS 36)) (defScope (topS 36)) .none kV36 dc36 pm36 an36 cd36 ct36), sl36⟩) (c36 : PySem.W.codeIn K cd36 "read_table" = true) (k36 : PySem.W.keepIn K (.ref f36) = true)
    (a40 : PySem.W.nsIn K mainGlobals "_law_cell_at" = some (some (.ref f40))) (l40 : K.lookup f40 = some ⟨oc40, od40, .func (PySem.W.fnOf "_law_cell_at" "_law_cell_at" (defArgs (topS 40)) (defBody (topS 40)) (defScope (topS 40)) .none kV40 dc40 pm40 an40 cd40 ct40), sl40⟩) (c40 : PySem.W.codeIn K cd40 "_law_cell_at" = true) (k40 : PySem.W.keepIn K (.ref f40) = true)
    (a41 : PySem.W.nsIn K mainGlobals "_law_pen" = some (some (.ref f41))) (l41 : K.lookup f41 = some ⟨oc41, od41, .func (PySem.W.fnOf "_law_pen" "_law_pen" (defArgs (topS 41)) (defBody (topS 41)) (defScope (topS 41)) .none kV41 dc41 pm41 an41 cd41 ct41), sl41⟩) (c41 : PySem.W.codeIn K cd41 "_law_pen" = true) (k41 : PySem.W.keepIn K (.ref f41) = true)
    (a42 : PySem.W.nsIn K mainGlobals "_law_draw" = some (some (.ref f42))) (l42 : K.lookup f42 = some ⟨oc42, od42, .func (PySem.W.fnOf "_law_draw" "_law_draw" (defArgs (topS 42)) (defBody (topS 42)) (defScope (topS 42)) .none kV42 dc42 pm42 an42 cd42 ct42), sl42⟩) (c42 : PySem.W.codeIn K cd42 "_law_draw" = true) (k42 : PySem.W.keepIn K (.ref f42) = true)
    (a43 : PySem.W.nsIn K mainGlobals "_law_view" = some (some (.ref f43))) (l43 : K.lookup f43 = some ⟨oc43, od43, .func (PySem.W.fnOf "_law_view" "_law_view" (defArgs (topS 43)) (defBody (topS 43)) (defScope (topS 43)) .none kV43 dc43 pm43 an43 cd43 ct43), sl43⟩) (c43 : PySem.W.codeIn K cd43 "_law_view" = true) (k43 : PySem.W.keepIn K (.ref f43) = true)
    (a44 : PySem.W.nsIn K mainGlobals "_law_any" = some (some (.ref f44))) (l44 : K.lookup f44 = some ⟨oc44, od44, .func (PySem.W.fnOf "_law_any" "_law_any" (defArgs (topS 44)) (defBody (topS 44)) (defScope (topS 44)) .none kV44 dc44 pm44 an44 cd44 ct44), sl44⟩) (c44 : PySem.W.codeIn K cd44 "_law_any" = true) (k44 : PySem.W.keepIn K (.ref f44) = true)
    (a45 : PySem.W.nsIn K mainGlobals "_law_text" = some (some (.ref f45))) (l45 : K.lookup f45 = some ⟨oc45, od45, .func (PySem.W.fnOf "_law_text" "_law_text" (defArgs (topS 45)) (defBody (topS 45)) (defScope (topS 45)) .none kV45 dc45 pm45 an45 cd45 ct45), sl45⟩) (c45 : PySem.W.codeIn K cd45 "_law_text" = true) (k45 : PySem.W.keepIn K (.ref f45) = true)
    (a46 : PySem.W.nsIn K mainGlobals "_law_kind" = some (some (.ref f46))) (l46 : K.lookup f46 = some ⟨oc46, od46, .func (PySem.W.fnOf "_law_kind" "_law_kind" (defArgs (topS 46)) (defBody (topS 46)) (defScope (topS 46)) .none kV46 dc46 pm46 an46 cd46 ct46), sl46⟩) (c46 : PySem.W.codeIn K cd46 "_law_kind" = true) (k46 : PySem.W.keepIn K (.ref f46) = true)
    (a47 : PySem.W.nsIn K mainGlobals "_law_said" = some (some (.ref f47))) (l47 : K.lookup f47 = some ⟨oc47, od47, .func (PySem.W.fnOf "_law_said" "_law_said" (defArgs (topS 47)) (defBody (topS 47)) (defScope (topS 47)) .none kV47 dc47 pm47 an47 cd47 ct47), sl47⟩) (c47 : PySem.W.codeIn K cd47 "_law_said" = true) (k47 : PySem.W.keepIn K (.ref f47) = true)
    (a48 : PySem.W.nsIn K mainGlobals "_law_with" = some (some (.ref f48))) (l48 : K.lookup f48 = some ⟨oc48, od48, .func (PySem.W.fnOf "_law_with" "_law_with" (defArgs (topS 48)) (defBody (topS 48)) (defScope (topS 48)) .none kV48 dc48 pm48 an48 cd48 ct48), sl48⟩) (c48 : PySem.W.codeIn K cd48 "_law_with" = true) (k48 : PySem.W.keepIn K (.ref f48) = true)
    (a49 : PySem.W.nsIn K mainGlobals "_law_no_views" = some (some (.ref f49))) (l49 : K.lookup f49 = some ⟨oc49, od49, .func (PySem.W.fnOf "_law_no_views" "_law_no_views" (defArgs (topS 49)) (defBody (topS 49)) (defScope (topS 49)) .none kV49 dc49 pm49 an49 cd49 ct49), sl49⟩) (c49 : PySem.W.codeIn K cd49 "_law_no_views" = true) (k49 : PySem.W.keepIn K (.ref f49) = true)
    (a50 : PySem.W.nsIn K mainGlobals "_law_no_tables" = some (some (.ref f50))) (l50 : K.lookup f50 = some ⟨oc50, od50, .func (PySem.W.fnOf "_law_no_tables" "_law_no_tables" (defArgs (topS 50)) (defBody (topS 50)) (defScope (topS 50)) .none kV50 dc50 pm50 an50 cd50 ct50), sl50⟩) (c50 : PySem.W.codeIn K cd50 "_law_no_tables" = true) (k50 : PySem.W.keepIn K (.ref f50) = true)
    (a51 : PySem.W.nsIn K mainGlobals "_law_read" = some (some (.ref f51))) (l51 : K.lookup f51 = some ⟨oc51, od51, .func (PySem.W.fnOf "_law_read" "_law_read" (defArgs (topS 51)) (defBody (topS 51)) (defScope (topS 51)) .none kV51 dc51 pm51 an51 cd51 ct51), sl51⟩) (c51 : PySem.W.codeIn K cd51 "_law_read" = true) (k51 : PySem.W.keepIn K (.ref f51) = true)
    (a52 : PySem.W.nsIn K mainGlobals "_law_told" = some (some (.ref f52))) (l52 : K.lookup f52 = some ⟨oc52, od52, .func (PySem.W.fnOf "_law_told" "_law_told" (defArgs (topS 52)) (defBody (topS 52)) (defScope (topS 52)) .none kV52 dc52 pm52 an52 cd52 ct52), sl52⟩) (c52 : PySem.W.codeIn K cd52 "_law_told" = true) (k52 : PySem.W.keepIn K (.ref f52) = true)
    (a53 : PySem.W.nsIn K mainGlobals "_law_few_texts" = some (some (.ref f53))) (l53 : K.lookup f53 = some ⟨oc53, od53, .func (PySem.W.fnOf "_law_few_texts" "_law_few_texts" (defArgs (topS 53)) (defBody (topS 53)) (defScope (topS 53)) .none kV53 dc53 pm53 an53 cd53 ct53), sl53⟩) (c53 : PySem.W.codeIn K cd53 "_law_few_texts" = true) (k53 : PySem.W.keepIn K (.ref f53) = true)
    (a54 : PySem.W.nsIn K mainGlobals "_law_no_texts" = some (some (.ref f54))) (l54 : K.lookup f54 = some ⟨oc54, od54, .func (PySem.W.fnOf "_law_no_texts" "_law_no_texts" (defArgs (topS 54)) (defBody (topS 54)) (defScope (topS 54)) .none kV54 dc54 pm54 an54 cd54 ct54), sl54⟩) (c54 : PySem.W.codeIn K cd54 "_law_no_texts" = true) (k54 : PySem.W.keepIn K (.ref f54) = true)
    (a55 : PySem.W.nsIn K mainGlobals "law" = some (some (.ref f55))) (l55 : K.lookup f55 = some ⟨oc55, od55, .func (PySem.W.fnOf "law" "law" (defArgs (topS 55)) (defBody (topS 55)) (defScope (topS 55)) .none kV55 dc55 pm55 an55 cd55 ct55), sl55⟩) (c55 : PySem.W.codeIn K cd55 "law" = true) (k55 : PySem.W.keepIn K (.ref f55) = true)
    (a3 : PySem.W.nsIn K mainGlobals "NoTable" = some (some (.ref C3))) (x3 : PySem.W.excIn K C3 [.type "ValueError", .type "Exception", .type "BaseException", .type "object"] "ValueError.__new__" = true) (k3 : PySem.W.keepIn K (.ref C3) = true) (s3 : PySem.W.subIn K (.ref C3) (.type "BaseException") = some true) (t3 : PySem.W.typeIn K (.ref C3) = some (.type "type"))
    (a19 : PySem.W.nsIn K mainGlobals "NoText" = some (some (.ref C19))) (x19 : PySem.W.excIn K C19 [.type "ValueError", .type "Exception", .type "BaseException", .type "object"] "ValueError.__new__" = true) (k19 : PySem.W.keepIn K (.ref C19) = true) (s19 : PySem.W.subIn K (.ref C19) (.type "BaseException") = some true) (t19 : PySem.W.typeIn K (.ref C19) = some (.type "type"))
    (a2 : PySem.W.nsIn K mainGlobals "NoView" = some (some (.ref C2))) (x2 : PySem.W.excIn K C2 [.type "ValueError", .type "Exception", .type "BaseException", .type "object"] "ValueError.__new__" = true) (k2 : PySem.W.keepIn K (.ref C2) = true) (s2 : PySem.W.subIn K (.ref C2) (.type "BaseException") = some true) (t2 : PySem.W.typeIn K (.ref C2) = some (.type "type"))
    (a1 : PySem.W.nsIn K mainGlobals "WriteError" = some (some (.ref C1))) (s1 : PySem.W.subIn K (.ref C1) (.type "BaseException") = some true) (t1 : PySem.W.typeIn K (.ref C1) = some (.type "type"))
    (d1 : PySem.W.hasDictIn K C1 = true)
    (u3_1 : PySem.W.subIn K (.ref C3) (.ref C1) = some true)
    (u19_1 : PySem.W.subIn K (.ref C19) (.ref C1) = some true)
    (u2_1 : PySem.W.subIn K (.ref C2) (.ref C1) = some true)
    (a4 : PySem.W.nsIn K mainGlobals "NotSound" = some (some (.ref C4)))
    (a6 : PySem.W.nsIn K mainGlobals "Alike" = some (some (.ref C6)))
    (a8 : PySem.W.nsIn K mainGlobals "NoWishes" = some (some (.ref C8)))
    (a11 : PySem.W.nsIn K mainGlobals "NoState" = some (some (.ref C11)))
    (a12 : PySem.W.nsIn K mainGlobals "NoValue" = some (some (.ref C12)))
    (a14 : PySem.W.nsIn K mainGlobals "NoViews" = some (some (.ref C14)))
    (a16 : PySem.W.nsIn K mainGlobals "Refused" = some (some (.ref C16)))
    (a17 : PySem.W.nsIn K mainGlobals "Full" = some (some (.ref C17)))
    (a20 : PySem.W.nsIn K mainGlobals "Clash" = some (some (.ref C20)))
    (a5 : PySem.W.nsIn K mainGlobals "NoParts" = some (some (.ref C5)))
    (a7 : PySem.W.nsIn K mainGlobals "TooLarge" = some (some (.ref C7)))
    (a9 : PySem.W.nsIn K mainGlobals "NoPairs" = some (some (.ref C9)))
    (a13 : PySem.W.nsIn K mainGlobals "NoStep" = some (some (.ref C13)))
    (a10 : PySem.W.nsIn K mainGlobals "NotIndependent" = some (some (.ref C10)))
    (a15 : PySem.W.nsIn K mainGlobals "NoCell" = some (some (.ref C15)))
    (a18 : PySem.W.nsIn K mainGlobals "NothingDone" = some (some (.ref C18)))
    (hg3 : PySem.W.findIn K (.ref C3) "__getattribute__" = some (some (.builtin "BaseException.__getattribute__"))) (hk3 : PySem.W.findIn K (.ref C3) "__getattr__" = some none) (hd3 : PySem.W.hasDictIn K C3 = true) (ha3 : PySem.W.findIn K (.ref C3) "__class__" = some (some (.builtin "object.__class__"))) (hm3 : PySem.W.mroIn K C3 (.type "object") = some true) (qv3 : PySem.W.kitOne K (.ref C3) (.type "ValueError") = some true)
    (q3_2 : PySem.W.kitOne K (.ref C3) (.ref C2) = some false)
    (q3_3 : PySem.W.kitOne K (.ref C3) (.ref C3) = some true)
    (q3_4 : PySem.W.kitOne K (.ref C3) (.ref C4) = some false)
    (q3_6 : PySem.W.kitOne K (.ref C3) (.ref C6) = some false)
    (q3_8 : PySem.W.kitOne K (.ref C3) (.ref C8) = some false)
    (q3_11 : PySem.W.kitOne K (.ref C3) (.ref C11) = some false)
    (q3_12 : PySem.W.kitOne K (.ref C3) (.ref C12) = some false)
    (q3_14 : PySem.W.kitOne K (.ref C3) (.ref C14) = some false)
    (q3_16 : PySem.W.kitOne K (.ref C3) (.ref C16) = some false)
    (q3_17 : PySem.W.kitOne K (.ref C3) (.ref C17) = some false)
    (q3_20 : PySem.W.kitOne K (.ref C3) (.ref C20) = some false)
    (q3_19 : PySem.W.kitOne K (.ref C3) (.ref C19) = some false)
    (q3_5 : PySem.W.kitOne K (.ref C3) (.ref C5) = some false)
    (q3_7 : PySem.W.kitOne K (.ref C3) (.ref C7) = some false)
    (q3_9 : PySem.W.kitOne K (.ref C3) (.ref C9) = some false)
    (q3_13 : PySem.W.kitOne K (.ref C3) (.ref C13) = some false)
    (q3_10 : PySem.W.kitOne K (.ref C3) (.ref C10) = some false)
    (q3_15 : PySem.W.kitOne K (.ref C3) (.ref C15) = some false)
    (q3_18 : PySem.W.kitOne K (.ref C3) (.ref C18) = some false)
    (hg19 : PySem.W.findIn K (.ref C19) "__getattribute__" = some (some (.builtin "BaseException.__getattribute__"))) (hk19 : PySem.W.findIn K (.ref C19) "__getattr__" = some none) (hd19 : PySem.W.hasDictIn K C19 = true) (ha19 : PySem.W.findIn K (.ref C19) "__class__" = some (some (.builtin "object.__class__"))) (hm19 : PySem.W.mroIn K C19 (.type "object") = some true) (qv19 : PySem.W.kitOne K (.ref C19) (.type "ValueError") = some true)
    (q19_2 : PySem.W.kitOne K (.ref C19) (.ref C2) = some false)
    (q19_3 : PySem.W.kitOne K (.ref C19) (.ref C3) = some false)
    (q19_4 : PySem.W.kitOne K (.ref C19) (.ref C4) = some false)
    (q19_6 : PySem.W.kitOne K (.ref C19) (.ref C6) = some false)
    (q19_8 : PySem.W.kitOne K (.ref C19) (.ref C8) = some false)
    (q19_11 : PySem.W.kitOne K (.ref C19) (.ref C11) = some false)
    (q19_12 : PySem.W.kitOne K (.ref C19) (.ref C12) = some false)
    (q19_14 : PySem.W.kitOne K (.ref C19) (.ref C14) = some false)
    (q19_16 : PySem.W.kitOne K (.ref C19) (.ref C16) = some false)
    (q19_17 : PySem.W.kitOne K (.ref C19) (.ref C17) = some false)
    (q19_20 : PySem.W.kitOne K (.ref C19) (.ref C20) = some false)
    (q19_19 : PySem.W.kitOne K (.ref C19) (.ref C19) = some true)
    (q19_5 : PySem.W.kitOne K (.ref C19) (.ref C5) = some false)
    (q19_7 : PySem.W.kitOne K (.ref C19) (.ref C7) = some false)
    (q19_9 : PySem.W.kitOne K (.ref C19) (.ref C9) = some false)
    (q19_13 : PySem.W.kitOne K (.ref C19) (.ref C13) = some false)
    (q19_10 : PySem.W.kitOne K (.ref C19) (.ref C10) = some false)
    (q19_15 : PySem.W.kitOne K (.ref C19) (.ref C15) = some false)
    (q19_18 : PySem.W.kitOne K (.ref C19) (.ref C18) = some false)
    (hg2 : PySem.W.findIn K (.ref C2) "__getattribute__" = some (some (.builtin "BaseException.__getattribute__"))) (hk2 : PySem.W.findIn K (.ref C2) "__getattr__" = some none) (hd2 : PySem.W.hasDictIn K C2 = true) (ha2 : PySem.W.findIn K (.ref C2) "__class__" = some (some (.builtin "object.__class__"))) (hm2 : PySem.W.mroIn K C2 (.type "object") = some true) (qv2 : PySem.W.kitOne K (.ref C2) (.type "ValueError") = some true)
    (q2_2 : PySem.W.kitOne K (.ref C2) (.ref C2) = some true)
    (q2_3 : PySem.W.kitOne K (.ref C2) (.ref C3) = some false)
    (q2_4 : PySem.W.kitOne K (.ref C2) (.ref C4) = some false)
    (q2_6 : PySem.W.kitOne K (.ref C2) (.ref C6) = some false)
    (q2_8 : PySem.W.kitOne K (.ref C2) (.ref C8) = some false)
    (q2_11 : PySem.W.kitOne K (.ref C2) (.ref C11) = some false)
    (q2_12 : PySem.W.kitOne K (.ref C2) (.ref C12) = some false)
    (q2_14 : PySem.W.kitOne K (.ref C2) (.ref C14) = some false)
    (q2_16 : PySem.W.kitOne K (.ref C2) (.ref C16) = some false)
    (q2_17 : PySem.W.kitOne K (.ref C2) (.ref C17) = some false)
    (q2_20 : PySem.W.kitOne K (.ref C2) (.ref C20) = some false)
    (q2_19 : PySem.W.kitOne K (.ref C2) (.ref C19) = some false)
    (q2_5 : PySem.W.kitOne K (.ref C2) (.ref C5) = some false)
    (q2_7 : PySem.W.kitOne K (.ref C2) (.ref C7) = some false)
    (q2_9 : PySem.W.kitOne K (.ref C2) (.ref C9) = some false)
    (q2_13 : PySem.W.kitOne K (.ref C2) (.ref C13) = some false)
    (q2_10 : PySem.W.kitOne K (.ref C2) (.ref C10) = some false)
    (q2_15 : PySem.W.kitOne K (.ref C2) (.ref C15) = some false)
    (q2_18 : PySem.W.kitOne K (.ref C2) (.ref C18) = some false)
    (on : PySem.W.specialIn K (.builtin "object.__class__") "__get__" = some (some (.builtin "getset_descriptor.__get__"))) (ot : PySem.W.takesIn K (.builtin "object.__class__") = some true)
    (z_ValueError : PySem.W.nsIn K mainGlobals "ValueError" = some none)
    (z_all : PySem.W.nsIn K mainGlobals "all" = some none)
    (z_bool : PySem.W.nsIn K mainGlobals "bool" = some none)
    (z_enumerate : PySem.W.nsIn K mainGlobals "enumerate" = some none)
    (z_int : PySem.W.nsIn K mainGlobals "int" = some none)
    (z_isinstance : PySem.W.nsIn K mainGlobals "isinstance" = some none)
    (z_len : PySem.W.nsIn K mainGlobals "len" = some none)
    (z_list : PySem.W.nsIn K mainGlobals "list" = some none)
    (z_max : PySem.W.nsIn K mainGlobals "max" = some none)
    (z_range : PySem.W.nsIn K mainGlobals "range" = some none)
    (z_repr : PySem.W.nsIn K mainGlobals "repr" = some none)
    (z_set : PySem.W.nsIn K mainGlobals "set" = some none)
    (z_str : PySem.W.nsIn K mainGlobals "str" = some none)
    (z_tuple : PySem.W.nsIn K mainGlobals "tuple" = some none)
    (v_MOST_STATES : PySem.W.nsIn K mainGlobals "MOST_STATES" = some (some (.int 9 t_MOST_STATES)))
    (v_REFUSED : PySem.W.nsIn K mainGlobals "REFUSED" = some (some (.str "-" t_REFUSED)))
    : ∀ (C : Str → Addr × Addr), (∀ y ∈ (["_law_read", "_law_told", "law"] : List Str), ∀ fb : Addr, mg y = some (.ref fb) → ∀ (o : Obj) (fd : FuncData), h.get? fb = some o → o.data = .func fd → fd.code = .ref (C y).1) → ∃ fd : FuncData, (∀ (s : Shared) (v : Value), BindsTo s fd ⟨[v], []⟩ [("_law_script", v)]) ∧ ∀ base : Heap, K.In base → base.Ns mainGlobals mg → (∀ y ∈ (["_law_read", "_law_told", "law"] : List Str), LamX.TabB base mg (C y).1 (C y).2) → FnG l.prog w K mg base 12 fa fd ["_law_script"] (spTopT K ((["_law_read", "_law_told", "law"] : List Str).map fun y => (C y).2)) := by
  intro C hcode
  have e := hfa.symm.trans (PySem.W.mg_of X G a55)
  cases e
  let adr : Nat → Addr := fun i => ([0, C1, C2, C3, C4, C5, C6, C7, C8, C9, C10, C11, C12, C13, C14, C15, C16, C17, C18, C19, C20, 0, f22, f23, 0, 0, f26, f27, f28, f29, f30, f31, 0, 0, f34, f35, f36, f37, f38, 0, f40, f41, f42, f43, f44, f45, f46, f47, f48, f49, f50, f51, f52, f53, f54, fa] : List Addr).getD i 0
  let fds : Nat → FuncData := fun i => ([(PySem.W.fnOf "law" "law" (defArgs (topS 55)) (defBody (topS 55)) (defScope (topS 55)) .none kV55 dc55 pm55 an55 cd55 ct55), (PySem.W.fnOf "law" "law" (defArgs (topS 55)) (defBody (topS 55)) (defScope (topS 55)) .none kV55 dc55 pm55 an55 cd55 ct55), (PySem.W.fnOf "law" "law" (defArgs (topS 55)) (defBody (topS 55)) (defScope (topS 55)) .none kV55 dc55 pm55 an55 cd55 ct55), (PySem.W.fnOf "law" "law" (defArgs (topS 55)) (defBody (topS 55)) (defScope (topS 55)) .none kV55 dc55 pm55 an55 cd55 ct55), (PySem.W.fnOf "law" "law" (defArgs (topS 55)) (defBody (topS 55)) (defScope (topS 55)) .none kV55 dc55 pm55 an55 cd55 ct55), (PySem.W.fnOf "law" "law" (defArgs (topS 55)) (defBody (topS 55)) (defScope (topS 55)) .none kV55 dc55 pm55 an55 cd55 ct55), (PySem.W.fnOf "law" "law" (defArgs (topS 55)) (defBody (topS 55)) (defScope (topS 55)) .none kV55 dc55 pm55 an55 cd55 ct55), (PySem.W.fnOf "law" "law" (defArgs (topS 55)) (defBody (topS 55)) (defScope (topS 55)) .none kV55 dc55 pm55 an55 cd55 ct55), (PySem.W.fnOf "law" "law" (defArgs (topS 55)) (defBody (topS 55)) (defScope (topS 55)) .none kV55 dc55 pm55 an55 cd55 ct55), (PySem.W.fnOf "law" "law" (defArgs (topS 55)) (defBody (topS 55)) (defScope (topS 55)) .none kV55 dc55 pm55 an55 cd55 ct55), (PySem.W.fnOf "law" "law" (defArgs (topS 55)) (defBody (topS 55)) (defScope (topS 55)) .none kV55 dc55 pm55 an55 cd55 ct55), (PySem.W.fnOf "law" "law" (defArgs (topS 55)) (defBody (topS 55)) (defScope (topS 55)) .none kV55 dc55 pm55 an55 cd55 ct55), (PySem.W.fnOf "law" "law" (defArgs (topS 55)) (defBody (topS 55)) (defScope (topS 55)) .none kV55 dc55 pm55 an55 cd55 ct55), (PySem.W.fnOf "law" "law" (defArgs (topS 55)) (defBody (topS 55)) (defScope (topS 55)) .none kV55 dc55 pm55 an55 cd55 ct55), (PySem.W.fnOf "law" "law" (defArgs (topS 55)) (defBody (topS 55)) (defScope (topS 55)) .none kV55 dc55 pm55 an55 cd55 ct55), (PySem.W.fnOf "law" "law" (defArgs (topS 55)) (defBody (topS 55)) (defScope (topS 55)) .none kV55 dc55 pm55 an55 cd55 ct55), (PySem.W.fnOf "law" "law" (defArgs (topS 55)) (defBody (topS 55)) (defScope (topS 55)) .none kV55 dc55 pm55 an55 cd55 ct55), (PySem.W.fnOf "law" "law" (defArgs (topS 55)) (defBody (topS 55)) (defScope (topS 55)) .none kV55 dc55 pm55 an55 cd55 ct55), (PySem.W.fnOf "law" "law" (defArgs (topS 55)) (defBody (topS 55)) (defScope (topS 55)) .none kV55 dc55 pm55 an55 cd55 ct55), (PySem.W.fnOf "law" "law" (defArgs (topS 55)) (defBody (topS 55)) (defScope (topS 55)) .none kV55 dc55 pm55 an55 cd55 ct55), (PySem.W.fnOf "law" "law" (defArgs (topS 55)) (defBody (topS 55)) (defScope (topS 55)) .none kV55 dc55 pm55 an55 cd55 ct55), (PySem.W.fnOf "law" "law" (defArgs (topS 55)) (defBody (topS 55)) (defScope (topS 55)) .none kV55 dc55 pm55 an55 cd55 ct55), (PySem.W.fnOf "is_whole" "is_whole" (defArgs (topS 22)) (defBody (topS 22)) (defScope (topS 22)) .none kV22 dc22 pm22 an22 cd22 ct22), (PySem.W.fnOf "is_below" "is_below" (defArgs (topS 23)) (defBody (topS 23)) (defScope (topS 23)) .none kV23 dc23 pm23 an23 cd23 ct23), (PySem.W.fnOf "law" "law" (defArgs (topS 55)) (defBody (topS 55)) (defScope (topS 55)) .none kV55 dc55 pm55 an55 cd55 ct55), (PySem.W.fnOf "law" "law" (defArgs (topS 55)) (defBody (topS 55)) (defScope (topS 55)) .none kV55 dc55 pm55 an55 cd55 ct55), (PySem.W.fnOf "is_view" "is_view" (defArgs (topS 26)) (defBody (topS 26)) (defScope (topS 26)) .none kV26 dc26 pm26 an26 cd26 ct26), (PySem.W.fnOf "need_view" "need_view" (defArgs (topS 27)) (defBody (topS 27)) (defScope (topS 27)) .none kV27 dc27 pm27 an27 cd27 ct27), (PySem.W.fnOf "count_values" "count_values" (defArgs (topS 28)) (defBody (topS 28)) (defScope (topS 28)) .none kV28 dc28 pm28 an28 cd28 ct28), (PySem.W.fnOf "is_table" "is_table" (defArgs (topS 29)) (defBody (topS 29)) (defScope (topS 29)) .none kV29 dc29 pm29 an29 cd29 ct29), (PySem.W.fnOf "_is_row" "_is_row" (defArgs (topS 30)) (defBody (topS 30)) (defScope (topS 30)) .none kV30 dc30 pm30 an30 cd30 ct30), (PySem.W.fnOf "need_table" "need_table" (defArgs (topS 31)) (defBody (topS 31)) (defScope (topS 31)) .none kV31 dc31 pm31 an31 cd31 ct31), (PySem.W.fnOf "law" "law" (defArgs (topS 55)) (defBody (topS 55)) (defScope (topS 55)) .none kV55 dc55 pm55 an55 cd55 ct55), (PySem.W.fnOf "law" "law" (defArgs (topS 55)) (defBody (topS 55)) (defScope (topS 55)) .none kV55 dc55 pm55 an55 cd55 ct55), (PySem.W.fnOf "words" "words" (defArgs (topS 34)) (defBody (topS 34)) (defScope (topS 34)) .none kV34 dc34 pm34 an34 cd34 ct34), (PySem.W.fnOf "table_text" "table_text" (defArgs (topS 35)) (defBody (topS 35)) (defScope (topS 35)) .none kV35 dc35 pm35 an35 cd35 ct35), (PySem.W.fnOf "read_table" "read_table" (defArgs (topS 36)) (defBody (topS 36)) (defScope (topS 36)) .none kV36 dc36 pm36 an36 cd36 ct36), (PySem.W.fnOf "_entries" "_entries" (defArgs (topS 37)) (defBody (topS 37)) (defScope (topS 37)) .none kV37 dc37 pm37 an37 cd37 ct37), (PySem.W.fnOf "_entry" "_entry" (defArgs (topS 38)) (defBody (topS 38)) (defScope (topS 38)) .none kV38 dc38 pm38 an38 cd38 ct38), (PySem.W.fnOf "law" "law" (defArgs (topS 55)) (defBody (topS 55)) (defScope (topS 55)) .none kV55 dc55 pm55 an55 cd55 ct55), (PySem.W.fnOf "_law_cell_at" "_law_cell_at" (defArgs (topS 40)) (defBody (topS 40)) (defScope (topS 40)) .none kV40 dc40 pm40 an40 cd40 ct40), (PySem.W.fnOf "_law_pen" "_law_pen" (defArgs (topS 41)) (defBody (topS 41)) (defScope (topS 41)) .none kV41 dc41 pm41 an41 cd41 ct41), (PySem.W.fnOf "_law_draw" "_law_draw" (defArgs (topS 42)) (defBody (topS 42)) (defScope (topS 42)) .none kV42 dc42 pm42 an42 cd42 ct42), (PySem.W.fnOf "_law_view" "_law_view" (defArgs (topS 43)) (defBody (topS 43)) (defScope (topS 43)) .none kV43 dc43 pm43 an43 cd43 ct43), (PySem.W.fnOf "_law_any" "_law_any" (defArgs (topS 44)) (defBody (topS 44)) (defScope (topS 44)) .none kV44 dc44 pm44 an44 cd44 ct44), (PySem.W.fnOf "_law_text" "_law_text" (defArgs (topS 45)) (defBody (topS 45)) (defScope (topS 45)) .none kV45 dc45 pm45 an45 cd45 ct45), (PySem.W.fnOf "_law_kind" "_law_kind" (defArgs (topS 46)) (defBody (topS 46)) (defScope (topS 46)) .none kV46 dc46 pm46 an46 cd46 ct46), (PySem.W.fnOf "_law_said" "_law_said" (defArgs (topS 47)) (defBody (topS 47)) (defScope (topS 47)) .none kV47 dc47 pm47 an47 cd47 ct47), (PySem.W.fnOf "_law_with" "_law_with" (defArgs (topS 48)) (defBody (topS 48)) (defScope (topS 48)) .none kV48 dc48 pm48 an48 cd48 ct48), (PySem.W.fnOf "_law_no_views" "_law_no_views" (defArgs (topS 49)) (defBody (topS 49)) (defScope (topS 49)) .none kV49 dc49 pm49 an49 cd49 ct49), (PySem.W.fnOf "_law_no_tables" "_law_no_tables" (defArgs (topS 50)) (defBody (topS 50)) (defScope (topS 50)) .none kV50 dc50 pm50 an50 cd50 ct50), (PySem.W.fnOf "_law_read" "_law_read" (defArgs (topS 51)) (defBody (topS 51)) (defScope (topS 51)) .none kV51 dc51 pm51 an51 cd51 ct51), (PySem.W.fnOf "_law_told" "_law_told" (defArgs (topS 52)) (defBody (topS 52)) (defScope (topS 52)) .none kV52 dc52 pm52 an52 cd52 ct52), (PySem.W.fnOf "_law_few_texts" "_law_few_texts" (defArgs (topS 53)) (defBody (topS 53)) (defScope (topS 53)) .none kV53 dc53 pm53 an53 cd53 ct53), (PySem.W.fnOf "_law_no_texts" "_law_no_texts" (defArgs (topS 54)) (defBody (topS 54)) (defScope (topS 54)) .none kV54 dc54 pm54 an54 cd54 ct54), (PySem.W.fnOf "law" "law" (defArgs (topS 55)) (defBody (topS 55)) (defScope (topS 55)) .none kV55 dc55 pm55 an55 cd55 ct55)] : List FuncData).getD i (PySem.W.fnOf "law" "law" (defArgs (topS 55)) (defBody (topS 55)) (defScope (topS 55)) .none kV55 dc55 pm55 an55 cd55 ct55)
  have F22 := fun_mk (st := topS 22) l22 c22 k22
  have b22 := F22.binds (ps := ["thing"]) fun _ _ _ _ _ _ us hl => match us, hl with | [_], _ => rfl
  have F23 := fun_mk (st := topS 23) l23 c23 k23
  have b23 := F23.binds (ps := ["thing", "limit"]) fun _ _ _ _ _ _ us hl => match us, hl with | [_, _], _ => rfl
  have F26 := fun_mk (st := topS 26) l26 c26 k26
  have b26 := F26.binds (ps := ["thing"]) fun _ _ _ _ _ _ us hl => match us, hl with | [_], _ => rfl
  have F27 := fun_mk (st := topS 27) l27 c27 k27
  have b27 := F27.binds (ps := ["view"]) fun _ _ _ _ _ _ us hl => match us, hl with | [_], _ => rfl
  have F28 := fun_mk (st := topS 28) l28 c28 k28
  have b28 := F28.binds (ps := ["view"]) fun _ _ _ _ _ _ us hl => match us, hl with | [_], _ => rfl
  have F30 := fun_mk (st := topS 30) l30 c30 k30
  have b30 := F30.binds (ps := ["view", "thing"]) fun _ _ _ _ _ _ us hl => match us, hl with | [_, _], _ => rfl
  have F29 := fun_mk (st := topS 29) l29 c29 k29
  have b29 := F29.binds (ps := ["view", "thing"]) fun _ _ _ _ _ _ us hl => match us, hl with | [_, _], _ => rfl
  have F31 := fun_mk (st := topS 31) l31 c31 k31
  have b31 := F31.binds (ps := ["view", "table"]) fun _ _ _ _ _ _ us hl => match us, hl with | [_, _], _ => rfl
  have F34 := fun_mk (st := topS 34) l34 c34 k34
  have b34 := F34.binds (ps := ["entries"]) fun _ _ _ _ _ _ us hl => match us, hl with | [_], _ => rfl
  have F35 := fun_mk (st := topS 35) l35 c35 k35
  have b35 := F35.binds (ps := ["view", "table"]) fun _ _ _ _ _ _ us hl => match us, hl with | [_, _], _ => rfl
  have F38 := fun_mk (st := topS 38) l38 c38 k38
  have b38 := F38.binds (ps := ["word"]) fun _ _ _ _ _ _ us hl => match us, hl with | [_], _ => rfl
  have F37 := fun_mk (st := topS 37) l37 c37 k37
  have b37 := F37.binds (ps := ["line"]) fun _ _ _ _ _ _ us hl => match us, hl with | [_], _ => rfl
  have F36 := fun_mk (st := topS 36) l36 c36 k36
  have b36 := F36.binds (ps := ["text"]) fun _ _ _ _ _ _ us hl => match us, hl with | [_], _ => rfl
  have F40 := fun_mk (st := topS 40) l40 c40 k40
  have b40 := F40.binds (ps := ["_law_script", "_law_k"]) fun _ _ _ _ _ _ us hl => match us, hl with | [_, _], _ => rfl
  have F41 := fun_mk (st := topS 41) l41 c41 k41
  have b41 := F41.binds (ps := ["_law_cell"]) fun _ _ _ _ _ _ us hl => match us, hl with | [_], _ => rfl
  have F42 := fun_mk (st := topS 42) l42 c42 k42
  have b42 := F42.binds (ps := ["_law_pen_here", "_law_many"]) fun _ _ _ _ _ _ us hl => match us, hl with | [_, _], _ => rfl
  have F43 := fun_mk (st := topS 43) l43 c43 k43
  have b43 := F43.binds (ps := ["_law_pen_here", "_law_low", "_law_high"]) fun _ _ _ _ _ _ us hl => match us, hl with | [_, _, _], _ => rfl
  have F44 := fun_mk (st := topS 44) l44 c44 k44
  have b44 := F44.binds (ps := ["_law_pen_here", "_law_view_here"]) fun _ _ _ _ _ _ us hl => match us, hl with | [_, _], _ => rfl
  have F45 := fun_mk (st := topS 45) l45 c45 k45
  have b45 := F45.binds (ps := ["_law_view_here", "_law_table"]) fun _ _ _ _ _ _ us hl => match us, hl with | [_, _], _ => rfl
  have F46 := fun_mk (st := topS 46) l46 c46 k46
  have b46 := F46.binds (ps := ["_law_e"]) fun _ _ _ _ _ _ us hl => match us, hl with | [_], _ => rfl
  have F47 := fun_mk (st := topS 47) l47 c47 k47
  have b47 := F47.binds (ps := ["_law_call"]) fun _ _ _ _ _ _ us hl => match us, hl with | [_], _ => rfl
  have F48 := fun_mk (st := topS 48) l48 c48 k48
  have b48 := F48.binds (ps := ["_law_table", "_law_state", "_law_value", "_law_entry"]) fun _ _ _ _ _ _ us hl => match us, hl with | [_, _, _, _], _ => rfl
  have F49 := fun_mk (st := topS 49) l49 c49 k49
  have b49 := F49.binds (ps := []) fun _ _ _ _ _ _ us hl => match us, hl with | [], _ => rfl
  have F50 := fun_mk (st := topS 50) l50 c50 k50
  have b50 := F50.binds (ps := ["_law_view_here", "_law_table"]) fun _ _ _ _ _ _ us hl => match us, hl with | [_, _], _ => rfl
  have F51 := fun_mk (st := topS 51) l51 c51 k51
  have b51 := F51.binds (ps := ["_law_thing"]) fun _ _ _ _ _ _ us hl => match us, hl with | [_], _ => rfl
  have F52 := fun_mk (st := topS 52) l52 c52 k52
  have b52 := F52.binds (ps := ["_law_view_here", "_law_table"]) fun _ _ _ _ _ _ us hl => match us, hl with | [_, _], _ => rfl
  have F53 := fun_mk (st := topS 53) l53 c53 k53
  have b53 := F53.binds (ps := []) fun _ _ _ _ _ _ us hl => match us, hl with | [], _ => rfl
  have F54 := fun_mk (st := topS 54) l54 c54 k54
  have b54 := F54.binds (ps := ["_law_view_here", "_law_table"]) fun _ _ _ _ _ _ us hl => match us, hl with | [_, _], _ => rfl
  have F55 := fun_mk (st := topS 55) l55 c55 k55
  have b55 := F55.binds (ps := ["_law_script"]) fun _ _ _ _ _ _ us hl => match us, hl with | [_], _ => rfl
  have T : Txt K mg adr fds := {
F_is_whole := F22,
    b_is_whole := b22,
    g_is_whole := PySem.W.mg_of X G a22,
    F_is_below := F23,
    b_is_below := b23,
    g_is_below := PySem.W.mg_of X G a23,
    F_is_view := F26,
    b_is_view := b26,
    g_is_view := PySem.W.mg_of X G a26,
    F_need_view := F27,
    b_need_view := b27,
    g_need_view := PySem.W.mg_of X G a27,
    F_count_values := F28,
    b_count_values := b28,
    g_count_values := PySem.W.mg_of X G a28,
    F__is_row := F30,
    b__is_row := b30,
    g__is_row := PySem.W.mg_of X G a30,
    F_is_table := F29,
    b_is_table := b29,
    g_is_table := PySem.W.mg_of X G a29,
    F_need_table := F31,
    b_need_table := b31,
    g_need_table := PySem.W.mg_of X G a31,
    F_words := F34,
    b_words := b34,
    g_words := PySem.W.mg_of X G a34,
    F_table_text := F35,
    b_table_text := b35,
    g_table_text := PySem.W.mg_of X G a35,
    F__entry := F38,
    b__entry := b38,
    g__entry := PySem.W.mg_of X G a38,
    F__entries := F37,
    b__entries := b37,
    g__entries := PySem.W.mg_of X G a37,
    F_read_table := F36,
    b_read_table := b36,
    g_read_table := PySem.W.mg_of X G a36,
    F__law_cell_at := F40,
    b__law_cell_at := b40,
    g__law_cell_at := PySem.W.mg_of X G a40,
    F__law_pen := F41,
    b__law_pen := b41,
    g__law_pen := PySem.W.mg_of X G a41,
    F__law_draw := F42,
    b__law_draw := b42,
    g__law_draw := PySem.W.mg_of X G a42,
    F__law_view := F43,
    b__law_view := b43,
    g__law_view := PySem.W.mg_of X G a43,
    F__law_any := F44,
    b__law_any := b44,
    g__law_any := PySem.W.mg_of X G a44,
    F__law_text := F45,
    b__law_text := b45,
    g__law_text := PySem.W.mg_of X G a45,
    F__law_kind := F46,
    b__law_kind := b46,
    g__law_kind := PySem.W.mg_of X G a46,
    F__law_said := F47,
    b__law_said := b47,
    g__law_said := PySem.W.mg_of X G a47,
    F__law_with := F48,
    b__law_with := b48,
    g__law_with := PySem.W.mg_of X G a48,
    F__law_no_views := F49,
    b__law_no_views := b49,
    g__law_no_views := PySem.W.mg_of X G a49,
    F__law_no_tables := F50,
    b__law_no_tables := b50,
    g__law_no_tables := PySem.W.mg_of X G a50,
    F__law_read := F51,
    b__law_read := b51,
    g__law_read := PySem.W.mg_of X G a51,
    F__law_told := F52,
    b__law_told := b52,
    g__law_told := PySem.W.mg_of X G a52,
    F__law_few_texts := F53,
    b__law_few_texts := b53,
    g__law_few_texts := PySem.W.mg_of X G a53,
    F__law_no_texts := F54,
    b__law_no_texts := b54,
    g__law_no_texts := PySem.W.mg_of X G a54,
    F_law := F55,
    b_law := b55,
    g_law := PySem.W.mg_of X G a55,
    e_NoTable := PySem.W.mg_of X G a3,
    x_NoTable := x3,
    k_NoTable := k3,
    s_NoTable := s3,
    t_NoTable := t3,
    e_NoText := PySem.W.mg_of X G a19,
    x_NoText := x19,
    k_NoText := k19,
    s_NoText := s19,
    t_NoText := t19,
    e_NoView := PySem.W.mg_of X G a2,
    x_NoView := x2,
    k_NoView := k2,
    s_NoView := s2,
    t_NoView := t2,
    e_WriteError := PySem.W.mg_of X G a1,
    s_WriteError := s1,
    t_WriteError := t1,
    d_WriteError := d1,
    u_NoTable_WriteError := u3_1,
    u_NoText_WriteError := u19_1,
    u_NoView_WriteError := u2_1,
    hg_NoTable := hg3,
    hk_NoTable := hk3,
    hd_NoTable := hd3,
    ha_NoTable := ha3,
    hm_NoTable := hm3,
    qv_NoTable := qv3,
    q_NoTable_NoView := q3_2,
    q_NoTable_NoTable := q3_3,
    q_NoTable_NotSound := q3_4,
    q_NoTable_Alike := q3_6,
    q_NoTable_NoWishes := q3_8,
    q_NoTable_NoState := q3_11,
    q_NoTable_NoValue := q3_12,
    q_NoTable_NoViews := q3_14,
    q_NoTable_Refused := q3_16,
    q_NoTable_Full := q3_17,
    q_NoTable_Clash := q3_20,
    q_NoTable_NoText := q3_19,
    q_NoTable_NoParts := q3_5,
    q_NoTable_TooLarge := q3_7,
    q_NoTable_NoPairs := q3_9,
    q_NoTable_NoStep := q3_13,
    q_NoTable_NotIndependent := q3_10,
    q_NoTable_NoCell := q3_15,
    q_NoTable_NothingDone := q3_18,
    hg_NoText := hg19,
    hk_NoText := hk19,
    hd_NoText := hd19,
    ha_NoText := ha19,
    hm_NoText := hm19,
    qv_NoText := qv19,
    q_NoText_NoView := q19_2,
    q_NoText_NoTable := q19_3,
    q_NoText_NotSound := q19_4,
    q_NoText_Alike := q19_6,
    q_NoText_NoWishes := q19_8,
    q_NoText_NoState := q19_11,
    q_NoText_NoValue := q19_12,
    q_NoText_NoViews := q19_14,
    q_NoText_Refused := q19_16,
    q_NoText_Full := q19_17,
    q_NoText_Clash := q19_20,
    q_NoText_NoText := q19_19,
    q_NoText_NoParts := q19_5,
    q_NoText_TooLarge := q19_7,
    q_NoText_NoPairs := q19_9,
    q_NoText_NoStep := q19_13,
    q_NoText_NotIndependent := q19_10,
    q_NoText_NoCell := q19_15,
    q_NoText_NothingDone := q19_18,
    hg_NoView := hg2,
    hk_NoView := hk2,
    hd_NoView := hd2,
    ha_NoView := ha2,
    hm_NoView := hm2,
    qv_NoView := qv2,
    q_NoView_NoView := q2_2,
    q_NoView_NoTable := q2_3,
    q_NoView_NotSound := q2_4,
    q_NoView_Alike := q2_6,
    q_NoView_NoWishes := q2_8,
    q_NoView_NoState := q2_11,
    q_NoView_NoValue := q2_12,
    q_NoView_NoViews := q2_14,
    q_NoView_Refused := q2_16,
    q_NoView_Full := q2_17,
    q_NoView_Clash := q2_20,
    q_NoView_NoText := q2_19,
    q_NoView_NoParts := q2_5,
    q_NoView_TooLarge := q2_7,
    q_NoView_NoPairs := q2_9,
    q_NoView_NoStep := q2_13,
    q_NoView_NotIndependent := q2_10,
    q_NoView_NoCell := q2_15,
    q_NoView_NothingDone := q2_18,
    e_NotSound := PySem.W.mg_of X G a4,
    e_Alike := PySem.W.mg_of X G a6,
    e_NoWishes := PySem.W.mg_of X G a8,
    e_NoState := PySem.W.mg_of X G a11,
    e_NoValue := PySem.W.mg_of X G a12,
    e_NoViews := PySem.W.mg_of X G a14,
    e_Refused := PySem.W.mg_of X G a16,
    e_Full := PySem.W.mg_of X G a17,
    e_Clash := PySem.W.mg_of X G a20,
    e_NoParts := PySem.W.mg_of X G a5,
    e_TooLarge := PySem.W.mg_of X G a7,
    e_NoPairs := PySem.W.mg_of X G a9,
    e_NoStep := PySem.W.mg_of X G a13,
    e_NotIndependent := PySem.W.mg_of X G a10,
    e_NoCell := PySem.W.mg_of X G a15,
    e_NothingDone := PySem.W.mg_of X G a18,
    on := on,
    ot := ot,
    z_ValueError := PySem.W.mg_none_of X G z_ValueError,
    z_all := PySem.W.mg_none_of X G z_all,
    z_bool := PySem.W.mg_none_of X G z_bool,
    z_enumerate := PySem.W.mg_none_of X G z_enumerate,
    z_int := PySem.W.mg_none_of X G z_int,
    z_isinstance := PySem.W.mg_none_of X G z_isinstance,
    z_len := PySem.W.mg_none_of X G z_len,
    z_list := PySem.W.mg_none_of X G z_list,
    z_max := PySem.W.mg_none_of X G z_max,
    z_range := PySem.W.mg_none_of X G z_range,
    z_repr := PySem.W.mg_none_of X G z_repr,
    z_set := PySem.W.mg_none_of X G z_set,
    z_str := PySem.W.mg_none_of X G z_str,
    z_tuple := PySem.W.mg_none_of X G z_tuple,
    c_MOST_STATES := ⟨_, PySem.W.mg_of X G v_MOST_STATES⟩,
    c_REFUSED := ⟨_, PySem.W.mg_of X G v_REFUSED⟩ }
  exact ⟨(PySem.W.fnOf "law" "law" (defArgs (topS 55)) (defBody (topS 55)) (defScope (topS 55)) .none kV55 dc55 pm55 an55 cd55 ct55), fun s v => .of_eq rfl, fun base _ _ TB => ok_law noL T ⟨hcode "_law_read" (by decide) _ (PySem.W.mg_of X G a51) _ _ (X _ _ l51) rfl, hcode "_law_told" (by decide) _ (PySem.W.mg_of X G a52) _ _ (X _ _ l52) rfl, hcode "law" (by decide) _ (PySem.W.mg_of X G a55) _ _ (X _ _ l55) rfl, trivial⟩ TB hm⟩
end Pf
open PySem PySem.W PyProof.Rows
set_option maxHeartbeats 0 in
theorem PySem.Challenge.cw_writebacks_k65_texts_refused_holds : PySem.Challenge.rw_writebacks_k65_texts_refused.Holds := by
  w_on; o_law; k_head; (case hw => w_witness2)
  k_fill
  refine MW.walk_GT (l := PySem.Challenge.rw_writebacks_k65_texts_refused) (k := 12) (x := "_law_script") rfl rfl ⟨rfl, by decide, by decide⟩ (["_law_read", "_law_told", "law"] : List Str) (MW.recs_cons rfl (MW.recs_cons rfl (MW.recs_cons rfl MW.recs_nil))) (fun w h Y => PySem.W.km_in_of Y) (fun w => ?noLL) (fun w => ?noTT) ?F
  case noLL => rfl
  case noTT => rfl
  case F =>
    intro w mg fa h KX G hmg
    refine' Pf.all_mk KX G hmg ?noL ?hm ?a22 ?l22 ?c22 ?k22 ?a23 ?l23 ?c23 ?k23 ?a26 ?l26 ?c26 ?k26 ?a27 ?l27 ?c27 ?k27 ?a28 ?l28 ?c28 ?k28 ?a30 ?l30 ?c30 ?k30 ?a29 ?l29 ?c29 ?k29 ?a31 ?l31 ?c31 ?k31 ?a34 ?l34 ?c34 ?k34 ?a35 ?l35 ?c35 ?k35 ?a38 ?l38 ?c38 ?k38 ?a37 ?l37 ?c37 ?k37 ?a36 ?l36 ?c36 ?k36 ?a40 ?l40 ?c40 ?k40 ?a41 ?l41 ?c41 ?k41 ?a42 ?l42 ?c42 ?k42 ?a43 ?l43 ?c43 ?k43 ?a44 ?l44 ?c44 ?k44 ?a45 ?l45 ?c45 ?k45 ?a46 ?l46 ?c46 ?k46 ?a47 ?l47 ?c47 ?k47 ?a48 ?l48 ?c48 ?k48 ?a49 ?l49 ?c49 ?k49 ?a50 ?l50 ?c50 ?k50 ?a51 ?l51 ?c51 ?k51 ?a52 ?l52 ?c52 ?k52 ?a53 ?l53 ?c53 ?k53 ?a54 ?l54 ?c54 ?k54 ?a55 ?l55 ?c55 ?k55 ?a3 ?x3 ?k3 ?s3 ?t3 ?a19 ?x19 ?k19 ?s19 ?t19 ?a2 ?x2 ?k2 ?s2 ?t2 ?a1 ?s1 ?t1 ?d1 ?u3_1 ?u19_1 ?u2_1 ?a4 ?a6 ?a8 ?a11 ?a12 ?a14 ?a16 ?a17 ?a20 ?a5 ?a7 ?a9 ?a13 ?a10 ?a15 ?a18 ?hg3 ?hk3 ?hd3 ?ha3 ?hm3 ?qv3 ?q3_2 ?q3_3 ?q3_4 ?q3_6 ?q3_8 ?q3_11 ?q3_12 ?q3_14 ?q3_16 ?q3_17 ?q3_20 ?q3_19 ?q3_5 ?q3_7 ?q3_9 ?q3_13 ?q3_10 ?q3_15 ?q3_18 ?hg19 ?hk19 ?hd19 ?ha19 ?hm19 ?qv19 ?q19_2 ?q19_3 ?q19_4 ?q19_6 ?q19_8 ?q19_11 ?q19_12 ?q19_14 ?q19_16 ?q19_17 ?q19_20 ?q19_19 ?q19_5 ?q19_7 ?q19_9 ?q19_13 ?q19_10 ?q19_15 ?q19_18 ?hg2 ?hk2 ?hd2 ?ha2 ?hm2 ?qv2 ?q2_2 ?q2_3 ?q2_4 ?q2_6 ?q2_8 ?q2_11 ?q2_12 ?q2_14 ?q2_16 ?q2_17 ?q2_20 ?q2_19 ?q2_5 ?q2_7 ?q2_9 ?q2_13 ?q2_10 ?q2_15 ?q2_18 ?on ?ot ?z_ValueError ?z_all ?z_bool ?z_enumerate ?z_int ?z_isinstance ?z_len ?z_list ?z_max ?z_range ?z_repr ?z_set ?z_str ?z_tuple ?v_MOST_STATES ?v_REFUSED
    (case noL => rfl)
    (case hm => exact Pf.law_holds)
    (case a22 => k_is)
    (case l22 => k_is)
    (case c22 => k_is)
    (case k22 => k_is)
    (case a23 => k_is)
    (case l23 => k_is)
    (case c23 => k_is)
    (case k23 => k_is)
    (case a26 => k_is)
    (case l26 => k_is)
    (case c26 => k_is)
    (case k26 => k_is)
    (case a27 => k_is)
    (case l27 => k_is)
    (case c27 => k_is)
    (case k27 => k_is)
    (case a28 => k_is)
    (case l28 => k_is)
    (case c28 => k_is)
    (case k28 => k_is)
    (case a30 => k_is)
    (case l30 => k_is)
    (case c30 => k_is)
    (case k30 => k_is)
    (case a29 => k_is)
    (case l29 => k_is)
    (case c29 => k_is)
    (case k29 => k_is)
    (case a31 => k_is)
    (case l31 => k_is)
    (case c31 => k_is)
    (case k31 => k_is)
    (case a34 => k_is)
    (case l34 => k_is)
    (case c34 => k_is)
    (case k34 => k_is)
    (case a35 => k_is)
    (case l35 => k_is)
    (case c35 => k_is)
    (case k35 => k_is)
    (case a38 => k_is)
    (case l38 => k_is)
    (case c38 => k_is)
    (case k38 => k_is)
    (case a37 => k_is)
    (case l37 => k_is)
    (case c37 => k_is)
    (case k37 => k_is)
    (case a36 => k_is)
    (case l36 => k_is)
    (case c36 => k_is)
    (case k36 => k_is)
    (case a40 => k_is)
    (case l40 => k_is)
    (case c40 => k_is)
    (case k40 => k_is)
    (case a41 => k_is)
    (case l41 => k_is)
    (case c41 => k_is)
    (case k41 => k_is)
    (case a42 => k_is)
    (case l42 => k_is)
    (case c42 => k_is)
    (case k42 => k_is)
    (case a43 => k_is)
    (case l43 => k_is)
    (case c43 => k_is)
    (case k43 => k_is)
    (case a44 => k_is)
    (case l44 => k_is)
    (case c44 => k_is)
    (case k44 => k_is)
    (case a45 => k_is)
    (case l45 => k_is)
    (case c45 => k_is)
    (case k45 => k_is)
    (case a46 => k_is)
    (case l46 => k_is)
    (case c46 => k_is)
    (case k46 => k_is)
    (case a47 => k_is)
    (case l47 => k_is)
    (case c47 => k_is)
    (case k47 => k_is)
    (case a48 => k_is)
    (case l48 => k_is)
    (case c48 => k_is)
    (case k48 => k_is)
    (case a49 => k_is)
    (case l49 => k_is)
    (case c49 => k_is)
    (case k49 => k_is)
    (case a50 => k_is)
    (case l50 => k_is)
    (case c50 => k_is)
    (case k50 => k_is)
    (case a51 => k_is)
    (case l51 => k_is)
    (case c51 => k_is)
    (case k51 => k_is)
    (case a52 => k_is)
    (case l52 => k_is)
    (case c52 => k_is)
    (case k52 => k_is)
    (case a53 => k_is)
    (case l53 => k_is)
    (case c53 => k_is)
    (case k53 => k_is)
    (case a54 => k_is)
    (case l54 => k_is)
    (case c54 => k_is)
    (case k54 => k_is)
    (case a55 => k_is)
    (case l55 => k_is)
    (case c55 => k_is)
    (case k55 => k_is)
    (case a3 => k_is)
    (case x3 => k_exc)
    (case k3 => k_is)
    (case s3 => k_is)
    (case t3 => k_is)
    (case a19 => k_is)
    (case x19 => k_exc)
    (case k19 => k_is)
    (case s19 => k_is)
    (case t19 => k_is)
    (case a2 => k_is)
    (case x2 => k_exc)
    (case k2 => k_is)
    (case s2 => k_is)
    (case t2 => k_is)
    (case a1 => k_is)
    (case s1 => k_is)
    (case t1 => k_is)
    (case d1 => k_is)
    (case u3_1 => k_is)
    (case u19_1 => k_is)
    (case u2_1 => k_is)
    (case a4 => k_is)
    (case a6 => k_is)
    (case a8 => k_is)
    (case a11 => k_is)
    (case a12 => k_is)
    (case a14 => k_is)
    (case a16 => k_is)
    (case a17 => k_is)
    (case a20 => k_is)
    (case a5 => k_is)
    (case a7 => k_is)
    (case a9 => k_is)
    (case a13 => k_is)
    (case a10 => k_is)
    (case a15 => k_is)
    (case a18 => k_is)
    (case hg3 => k_is)
    (case hk3 => k_is)
    (case hd3 => k_is)
    (case ha3 => k_is)
    (case hm3 => k_is)
    (case qv3 => kit_is)
    (case q3_2 => kit_is)
    (case q3_3 => kit_is)
    (case q3_4 => kit_is)
    (case q3_6 => kit_is)
    (case q3_8 => kit_is)
    (case q3_11 => kit_is)
    (case q3_12 => kit_is)
    (case q3_14 => kit_is)
    (case q3_16 => kit_is)
    (case q3_17 => kit_is)
    (case q3_20 => kit_is)
    (case q3_19 => kit_is)
    (case q3_5 => kit_is)
    (case q3_7 => kit_is)
    (case q3_9 => kit_is)
    (case q3_13 => kit_is)
    (case q3_10 => kit_is)
    (case q3_15 => kit_is)
    (case q3_18 => kit_is)
    (case hg19 => k_is)
    (case hk19 => k_is)
    (case hd19 => k_is)
    (case ha19 => k_is)
    (case hm19 => k_is)
    (case qv19 => kit_is)
    (case q19_2 => kit_is)
    (case q19_3 => kit_is)
    (case q19_4 => kit_is)
    (case q19_6 => kit_is)
    (case q19_8 => kit_is)
    (case q19_11 => kit_is)
    (case q19_12 => kit_is)
    (case q19_14 => kit_is)
    (case q19_16 => kit_is)
    (case q19_17 => kit_is)
    (case q19_20 => kit_is)
    (case q19_19 => kit_is)
    (case q19_5 => kit_is)
    (case q19_7 => kit_is)
    (case q19_9 => kit_is)
    (case q19_13 => kit_is)
    (case q19_10 => kit_is)
    (case q19_15 => kit_is)
    (case q19_18 => kit_is)
    (case hg2 => k_is)
    (case hk2 => k_is)
    (case hd2 => k_is)
    (case ha2 => k_is)
    (case hm2 => k_is)
    (case qv2 => kit_is)
    (case q2_2 => kit_is)
    (case q2_3 => kit_is)
    (case q2_4 => kit_is)
    (case q2_6 => kit_is)
    (case q2_8 => kit_is)
    (case q2_11 => kit_is)
    (case q2_12 => kit_is)
    (case q2_14 => kit_is)
    (case q2_16 => kit_is)
    (case q2_17 => kit_is)
    (case q2_20 => kit_is)
    (case q2_19 => kit_is)
    (case q2_5 => kit_is)
    (case q2_7 => kit_is)
    (case q2_9 => kit_is)
    (case q2_13 => kit_is)
    (case q2_10 => kit_is)
    (case q2_15 => kit_is)
    (case q2_18 => kit_is)
    (case on => k_is)
    (case ot => k_is)
    (case z_ValueError => k_is)
    (case z_all => k_is)
    (case z_bool => k_is)
    (case z_enumerate => k_is)
    (case z_int => k_is)
    (case z_isinstance => k_is)
    (case z_len => k_is)
    (case z_list => k_is)
    (case z_max => k_is)
    (case z_range => k_is)
    (case z_repr => k_is)
    (case z_set => k_is)
    (case z_str => k_is)
    (case z_tuple => k_is)
    (case v_MOST_STATES => k_is)
    (case v_REFUSED => k_is)
