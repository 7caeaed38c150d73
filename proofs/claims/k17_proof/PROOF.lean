import PyProof.Rows.All
import Wide.All
import OpenK.AllK
import Wide.FinOn
import PyProof.EqAt
import PyProof.EqKinds
import PyProof.TupleCall
import HandS.ForExc
import HandS.Comp
import HandS.Iter
import HandS.Gcd
import HandS.Wide
import HandS.Evl
import HandS.Defaults
import HandS.ExcIs
import HandS.TupAny
import HandS.TupMul
import HandS.Walk
import HandS.Rev
import HandS.TupAny
import HandS.TupMul
import HandS.Style
import HandS.Deep
import HandS.Dict
import HandS.ForMost
import HandS.Conv
import HandS.Sort
import HandS.SortInts
import HandS.NoneIn
import KE.DatumOrd
import HandS.IsInst
import KE.GoesMore
import HandS.StrMore
import HandS.Text
import HandS.Codes
import HandS.ExcInit
import HandS.ExcField
import HandS.Replace
import PyProof.ReprRoads
import PyProof.ReprLen
import PyProof.CallFns
import PyProof.Rows.RegStrFacts
import HandS.List
import KE.LtData
import KE.KDictList
import KE.DataMinMax
import HandS.CallLocal
import HandS.HotCalls
import HandS.ExcCtx
import HandS.Words
import PyProof.Seq
import HandS.SortKw
import KE.KExcIs
import PySem.Challenge.RW_threadworth_k17_texts_of_diagrams
set_option Elab.async false
set_option linter.all false
set_option maxRecDepth 100000
set_option maxHeartbeats 4000000
namespace T
open PySem PySem.Spec PyProof.Rows L2
/-! ### the mathematics of worlds and numbers -/
def primes : List Int := [2, 3, 5, 7, 11, 13, 17, 19, 23, 29, 31]
def isW (p d : Int) : Bool := if p = 0 then (if -20 ≤ d then decide (d ≤ 20) else false) else (if inV (.int p) (primes.map V.int) = true then (if 0 ≤ d then decide (d < p) else false) else false)
theorem inV_ints {p : Int} : ∀ {l : List Int}, inV (.int p) (l.map V.int) = true → p ∈ l
  | [], h => by cases h
  | x :: l, h => by
    have h1 : ((eqV (.int x) (.int p)) || inV (.int p) (l.map V.int)) = true := h
    rcases (Bool.or_eq_true _ _).mp h1 with h | h
    · have : x = p := of_decide_eq_true (show decide (x = p) = true by simpa [eqV] using h)
      rw [this]
      exact List.mem_cons_self
    · exact List.mem_cons_of_mem _ (inV_ints h)
theorem isW_prime {p d : Int} (h : isW p d = true) (hp : p ≠ 0) : p ∈ primes ∧ 0 ≤ d ∧ d < p := by
  unfold isW at h
  rw [if_neg hp] at h
  by_cases e : inV (.int p) (primes.map V.int) = true
  · rw [if_pos e] at h
    by_cases e2 : 0 ≤ d
    · rw [if_pos e2] at h
      exact ⟨inV_ints e, e2, of_decide_eq_true h⟩
    · rw [if_neg e2] at h
      cases h
  · rw [if_neg e] at h
    cases h
theorem prime_pos {p : Int} (h : p ∈ primes) : 2 ≤ p ∧ p ≤ 31 := by
  simp only [primes, List.mem_cons, List.not_mem_nil, or_false] at h
  omega
theorem inv_exN : ∀ p ∈ [2, 3, 5, 7, 11, 13, 17, 19, 23, 29, 31], ∀ r, r < p → r ≠ 0 → ∃ k, k < p ∧ (k * r) % p = 1 := by decide +kernel
theorem inv_ex {p : Int} (hp : p ∈ primes) {r : Int} (h0 : 0 ≤ r) (h1 : r < p) (hr : r ≠ 0) : ∃ k : Int, 1 ≤ k ∧ k < p ∧ k * r % p = 1 := by
  obtain ⟨n, rfl⟩ := Int.eq_ofNat_of_zero_le (show 0 ≤ p by have := prime_pos hp; omega)
  obtain ⟨m, rfl⟩ := Int.eq_ofNat_of_zero_le h0
  have hn : n ∈ [2, 3, 5, 7, 11, 13, 17, 19, 23, 29, 31] := by
    simp only [primes, List.mem_cons, List.not_mem_nil, or_false] at hp ⊢
    omega
  obtain ⟨k, hk, e⟩ := inv_exN n hn m (by omega) (by omega)
  refine ⟨(k : Int), ?_, by omega, ?_⟩
  · rcases Nat.eq_zero_or_pos k with z | z
    · subst z
      rw [Nat.zero_mul, Nat.zero_mod] at e
      cases e
    · omega
  · have : ((k * m % n : Nat) : Int) = ((1 : Nat) : Int) := by rw [e]
    rw [← Int.natCast_mul, ← Int.natCast_emod, e]
    rfl
/-- lowest terms -/
def gI (a b : Int) : Int := ((Nat.gcd a.natAbs b.natAbs : Nat) : Int)
def low (a b : Int) : Int × Int := if b < 0 then ((-a) / gI a b, (-b) / gI a b) else (a / gI a b, b / gI a b)
theorem gI_pos {a b : Int} (hb : b ≠ 0) : 0 < gI a b := by
  have : 0 < Nat.gcd a.natAbs b.natAbs := Nat.gcd_pos_of_pos_right _ (by omega)
  unfold gI
  omega
theorem gI_le {a b : Int} (hb : b ≠ 0) : gI a b ≤ b.natAbs := by
  have := Nat.gcd_le_right (m := a.natAbs) (n := b.natAbs) (by omega)
  unfold gI
  omega
theorem fdiv_negg (a g : Int) (hg : 0 ≤ g) : a.fdiv (-g) = (-a) / g := by
  rw [← Int.fdiv_eq_ediv_of_nonneg _ hg, ← Int.neg_fdiv_neg (-a) g, Int.neg_neg]
/-- the number a / b -/
def bad (p b : Int) : Prop := b = 0 ∨ (0 < p ∧ b % p = 0)
def IsNum (p a b x y : Int) : Prop := (0 < p ∧ y = 1 ∧ 0 ≤ x ∧ x < p ∧ (x * b - a) % p = 0) ∨ (¬ 0 < p ∧ (x, y) = low a b)
theorem inv_solves {p a b k : Int} (hp : 0 < p) (e : k * (b % p) % p = 1) (h1 : 1 < p) : ((a * k % p) * b - a) % p = 0 := by
  have e1 : (k * b) % p = 1 := by
    rw [Int.mul_emod, Int.emod_emod_of_dvd _ (Int.dvd_refl p), ← Int.mul_emod] at e
    exact e
  have d1 : p ∣ k * b - 1 := by
    apply Int.dvd_of_emod_eq_zero
    rw [Int.sub_emod, e1, Int.emod_eq_of_lt (by omega) h1]
    simp
  have d2 : p ∣ a * k - a * k % p := Int.dvd_self_sub_emod
  apply Int.emod_eq_zero_of_dvd
  have : (a * k % p) * b - a = a * (k * b - 1) - (a * k - a * k % p) * b := by
    rw [Int.mul_sub, Int.sub_mul, Int.mul_assoc]
    omega
  rw [this]
  exact Int.dvd_sub (Int.dvd_mul_of_dvd_right d1) (Int.dvd_mul_of_dvd_left d2)
theorem num_unique {p a b x y x' y' : Int} (hp : p = 0 ∨ p ∈ primes) (hb : ¬ bad p b) (h : IsNum p a b x y) (h' : IsNum p a b x' y') : x = x' ∧ y = y' := by
  rcases h with ⟨h0, e1, l1, u1, m1⟩ | ⟨h0, e1⟩
  · rcases h' with ⟨_, e2, l2, u2, m2⟩ | ⟨h0', _⟩
    · refine ⟨?_, e1.trans e2.symm⟩
      rcases hp with rfl | hp
      · omega
      · have hp2 := prime_pos hp
        have hbp : b % p ≠ 0 := fun z => hb (.inr ⟨h0, z⟩)
        obtain ⟨k, k1, k2, ek⟩ := inv_ex hp (Int.emod_nonneg b (by omega)) (Int.emod_lt_of_pos b h0) hbp
        have e1 : (k * b) % p = 1 := by
          rw [Int.mul_emod, Int.emod_emod_of_dvd _ (Int.dvd_refl p), ← Int.mul_emod] at ek
          exact ek
        have d1 : p ∣ k * b - 1 := by
          apply Int.dvd_of_emod_eq_zero
          rw [Int.sub_emod, e1, Int.emod_eq_of_lt (show (0:Int) ≤ 1 by omega) (show (1:Int) < p by omega)]
          simp
        have d2 : p ∣ (x * b - a) - (x' * b - a) := Int.dvd_sub (Int.dvd_of_emod_eq_zero m1) (Int.dvd_of_emod_eq_zero m2)
        have d3 : p ∣ x - x' := by
          have e : x - x' = k * ((x * b - a) - (x' * b - a)) - (x - x') * (k * b - 1) := by
            have e3 : (x * b - a) - (x' * b - a) = (x - x') * b := by
              rw [Int.sub_mul]
              omega
            rw [e3, Int.mul_sub, Int.mul_one, ← Int.mul_assoc, Int.mul_comm k (x - x'), Int.mul_assoc]
            omega
          rw [e]
          exact Int.dvd_sub (Int.dvd_mul_of_dvd_right d2) (Int.dvd_mul_of_dvd_right d1)
        obtain ⟨c, ec⟩ := d3
        have hc : c = 0 := by
          rcases Int.lt_trichotomy c 0 with z | z | z
          · have : p * c ≤ p * (-1) := Int.mul_le_mul_of_nonneg_left (by omega) (by omega)
            omega
          · exact z
          · have : p * 1 ≤ p * c := Int.mul_le_mul_of_nonneg_left (by omega) (by omega)
            omega
        rw [hc, Int.mul_zero] at ec
        omega
    · exact absurd h0 h0'
  · rcases h' with ⟨h0', _⟩ | ⟨_, e2⟩
    · exact absurd h0' h0
    · have := e1.trans e2.symm
      exact ⟨congrArg Prod.fst this, congrArg Prod.snd this⟩
end T

/-! ### defs that are called where nothing is being shown (no repr is under way): what the law's own def may know -/
namespace L2
open PySem PySem.Spec PyProof.Rows
structure FnG (P : Program) (w : World) (K : PySem.W.Frag) (mg : Str → Option Value) (base : Heap) (k : Nat) (f : Addr) (fd : FuncData) (ps : List Str) (sp : Sp) : Prop where
  len : ∀ vs H Q E, sp vs H Q E → vs.length = ps.length
  run : ∀ (A : Around) (outer : List Env) (s : Shared) (H : Hp) (args : Args) (us : List Value) (vs : List V) (Q : VK) (E : XK), A.guards = some [] → Room k A → Env0 P w K mg base A outer s H →
    BindsTo s fd args (ps.zip us) → Vals vs us → sp vs H Q E → codeAny (model P w) A (.call (.ref f) args) (CR CX0 outer P w H s Q E) s
theorem CE_of {P : Program} {w : World} {K : PySem.W.Frag} {mg : Str → Option Value} {base : Heap} {N : List Str} {qual : Str} {scope : Scope} {f : Addr} {cdv : Value} {A : Around} {outer : List Env} {s s' : Shared} {H H' : Hp} {E : XK} {Q : VK} {σ' : St} {v : V} {u : Value}
    (J : Inv (cxOf CX0 P w K mg base N qual scope f cdv A outer s H E) [] σ' H' s') (rv : RelV v u) (q : Q v H') : CE outer P w H s Q u s' := ⟨v, H', J.os, J.bare, J.base, J.hok, rv, q⟩
theorem Fun.okG {P : Program} {w : World} {K : PySem.W.Frag} {mg : Str → Option Value} {base : Heap} {x qual : Str} {st : Stmt} {f : Addr} {fd : FuncData} {N ps : List Str} {k : Nat} {sp : Sp} (F : Fun K x qual st f fd) (S : FnScope N ps (defScope st))
    (len : ∀ vs H Q E, sp vs H Q E → vs.length = ps.length)
    (hbody : ∀ (cdv : Value) (A : Around) (outer : List Env) (s : Shared) (H : Hp) (vs : List V) (Q : VK) (E : XK), (A.deeper (envOfC qual (defScope st) s.heap.objs.size f cdv)).guards = some [] →
      Room k (A.deeper (envOfC qual (defScope st) s.heap.objs.size f cdv)) → sp vs H Q E →
      ∃ t, PSs (cxOf CX0 P w K mg base N qual (defScope st) f cdv A outer s H E).nox (defBody st) t ∧ t { nx := fun _ H' => Q .non H', rt := Q } (start N vs) H) : FnG P w K mg base (k + 1) f fd ps sp := by
  obtain ⟨oc, od, kV, doc, pm, an, cdv, ct, osl, rfl, lk, hcd⟩ := F.ex
  refine ⟨len, fun A outer s H args us vs Q E hgu hr e0 hb r hsp => ?_⟩
  have keep := fun b o (e : base.get? b = some o) => (e0.bs b o e).1
  have inK : K.In s.heap := e0.mod.kin.keeps keep
  refine codeAny_call_function hr.depth (inK _ _ lk) rfl S.co S.gen rfl (PySem.W.codeRec_of inK hcd) (hb _ _ _ _ ?_)
  refine wpAny_newFunctionEnv_cells S.kind (fun ⟨n, v⟩ hy => ?_) fun env he s1 xx => ?_
  · exact (S.par n (List.of_mem_zip hy).1).elim .inl fun q => .inr ⟨q, PySem.W.cellsFrom_some _ _ _ (.inl q)⟩
  · subst he
    refine ⟨(e0.mod.nolimit.keeps keep).keeps xx.toInCall.keep, codeAny_func ?_⟩
    obtain ⟨t, ht, hq⟩ := hbody cdv A outer s H vs Q E hgu (hr.deeper _) hsp
    have I := inv_start (CX := CX0) (E := E) S hr.hd e0 (len _ _ _ _ hsp) r xx
    refine wpAny_mono (ht.nox.run [] s1 _ H _ I hq) (fun fl s' hs => ?_) fun e s' hs => hs
    rcases fl with _ | _ | _ | u
    · obtain ⟨σ', H', J, q⟩ := hs
      exact CE_of (v := V.non) (u := Value.none) J rfl q
    · exact hs.elim fun _ z => z.elim fun _ z => z.2.elim
    · exact hs.elim fun _ z => z.elim fun _ z => z.2.elim
    · obtain ⟨v, σ', H', J, rv, q⟩ := hs
      exact CE_of J rv q
end L2

namespace L2
open PySem PySem.Spec PyProof.Rows
/-- the law's def, called by the claim's caller: nothing is being shown there -/
theorem goes_at {P : Program} {w : World} {K : PySem.W.Frag} {mg mb : Str → Option Value} {k : Nat} {fa a : Addr} {fd : FuncData} {x : Str} {sp : Sp} {t : Shared} {vs : List Value} {xs : List V} {H : Hp}
    (KX : K.In t.heap) (hns : t.heap.Ns mainGlobals mg) (hb : t.heap.Ns builtinsNs mb) (hbb : ∀ y : Str, y ≠ "__name__" → mb y = bootBuiltins y) (hlim : t.heap.NoLimit) (hg : t.gens = #[])
    (ha : t.heap.get? a = some { cls := .type "list", data := .seq vs.toArray }) (hr : Room k callerA)
    (F : ∀ base : Heap, K.In base → base.Ns mainGlobals mg → FnG P w K mg base k fa fd [x] sp) (hbind : ∀ (s : Shared) (u : Value), BindsTo s fd ⟨[u], []⟩ [(x, u)])
    (hO : Only H) (hsp : sp [.ref a] H (fun v _ => v = .bl true) fun _ _ _ => False) (hok : HOk P w H t.heap) (hA : ∀ b, H b ≠ none → b = a) (hK : H a ≠ none → K.lookup a = none) :
    codeAny (model P w) callerA (.call (.ref fa) ⟨[.ref a], []⟩) (fun r s' => r = .ok (.ret (.bool true)) ∧ OldK t.heap s'.heap ∧ s'.os = t.os ∧ AllBare s'.gens) t := by
  have free : ∀ {b : Addr}, (H b ≠ none → False) → H b = none := fun {b} z => by
    rcases e : H b with _ | u
    · rfl
    · exact (z (by rw [e]; exact fun q => nomatch q)).elim
  have ns : ∀ {b : Addr} {m : Str → Option Value}, t.heap.Ns b m → (hidT t.heap H).Ns b m := fun {b m} z => by
    obtain ⟨o, es, ep, e, d, r⟩ := z
    refine ⟨o, es, ep, hidT_get e (free fun z => ?_), d, r⟩
    rw [hA b z, ha] at e
    cases e
    cases d
  have inB : K.In (hidT t.heap H) := fun b o e => hidT_get (KX b o e) (free fun z => by
    have eb := hA b z
    rw [eb] at z e
    rw [hK z] at e
    cases e)
  obtain ⟨mc, l1, l2⟩ := hlim
  have env : Env0 P w K mg (hidT t.heap H) callerA [] t H := ⟨rfl, ⟨inB, ns hns, ⟨mb, ns hb, hbb⟩, ⟨mc, ns l1, l2⟩⟩, fun b o e => of_hidT e, Nat.le_of_eq (hidT_size _ _), trivial, fun b hb => (nomatch hb), hok, .of_eq hg⟩
  refine codeAny_mono ((F _ inB (ns hns)).run callerA [] t H _ [.ref a] [.ref a] _ _ rfl hr env (hbind t (.ref a)) (.cons rfl .nil) hsp) fun r s' h => ?_
  rcases r with e | fl
  · exact (show False from h).elim
  · rcases fl with _ | _ | _ | u
    · exact (show False from h).elim
    · exact (show False from h).elim
    · exact (show False from h).elim
    · obtain ⟨v, H', os, bare, un, hok', rv, q⟩ := h
      obtain rfl : v = .bl true := q
      obtain rfl : u = Value.bool true := rv
      refine ⟨rfl, OldK.of_keep fun b o e => ?_, os, bare⟩
      rcases hO b with z | ⟨ob, ys, z⟩
      · exact un.keep b o e z (fun z => nomatch z) (fun z => nomatch z)
      · have e1 := (hok b _ z).1
        rw [e] at e1
        rw [Option.some.inj e1]
        exact (hok' b _ (un.frzs b ob _ z)).1
theorem walk_ofG {l : PySem.W.OpenLaw} {n k : Nat} {q : Program} {loose : List Str} {XP : (Str → Option Value) → Heap → Prop} {YP : World → Heap → Prop} {d : DefRec} {K : Params → PySem.W.Frag} {sp : World → Sp} {x : Str}
    (hn : l.most = some n) (hn2 : n ≤ sizeLine) (hdf : d.params.defaults = []) (hr : Room k callerA) (hY : ∀ (w : World) (h : Heap), YP w h → (K w.params).In h)
    (F : ∀ (w : World) (mg : Str → Option Value) (fa : Addr) (h : Heap), (K w.params).In h → h.Ns mainGlobals mg → mg d.name = some (.ref fa) →
      ∃ fd : FuncData, (∀ (s : Shared) (u : Value), BindsTo s fd ⟨[u], []⟩ [(x, u)]) ∧ ∀ base : Heap, (K w.params).In base → base.Ns mainGlobals mg → FnG l.prog w (K w.params) mg base k fa fd [x] (sp w))
    (hsp : ∀ (w : World) (H : Hp) (a : Addr) (ns : List Int), ns.length ≤ n → SqL (K w.params) H a (ns.map V.int) → sp w [.ref a] H (fun v _ => v = .bl true) fun _ _ _ => False) :
    PySem.W.WalkO q loose XP YP l.row.toRowW d [] (fun f vs => PySem.call f vs) := by
  refine Att.attach_call hn hdf fun w s₀ t mg mb fa o pm cd doc a vs ns G Y ho hd hcd hmg hobj hints hlen hg => ?_
  have KX := hY w _ Y
  obtain ⟨fd, hb, hF⟩ := F w mg fa _ KX G.T.g hmg
  have rv : Vals (ns.map V.int) vs := vals_ints hints
  have lv := hints.length
  rcases hk : (K w.params).lookup a with _ | oa
  · refine goes_at (xs := ns.map V.int) (H := fun b => if b = a then some (.frz { cls := .type "list", data := .seq vs.toArray } (.lst (ns.map V.int))) else none) KX G.T.g G.T.b G.T.builtins G.T.nolimit hg hobj hr hF hb
      (fun b => ?_) (hsp w _ a ns hlen (.inl (.inr ⟨_, if_pos rfl⟩))) (fun b u z => ?_) (fun b z => Decidable.byContradiction fun c => z (if_neg c)) fun _ => hk
    · by_cases c : b = a
      · exact .inr ⟨_, _, if_pos c⟩
      · exact .inl (if_neg c)
    · by_cases c : b = a
      · have z' := (if_pos c).symm.trans z
        cases z'
        subst c
        exact ⟨hobj, by rw [List.length_map]; omega, vs, _, rv, hobj⟩
      · have z' := (if_neg c).symm.trans z
        cases z'
  · have e := (KX a oa hk).symm.trans hobj
    cases e
    exact goes_at (xs := ns.map V.int) (H := fun _ => none) KX G.T.g G.T.b G.T.builtins G.T.nolimit hg hobj hr hF hb (fun _ => .inl rfl)
      (hsp w _ a ns hlen (.inr ⟨_, vs.toArray, _, hk, rfl, rfl, rfl, by rw [List.size_toArray]; omega, rv⟩)) (fun b u z => nomatch z) (fun b z => (z rfl).elim) fun z => (z rfl).elim
end L2

namespace L2
open PySem PySem.Spec PyProof.Rows
/-! ### repr(data), where nothing is being shown -/
mutual
def wt : PyData → Nat
  | .none => 4
  | .bool _ => 5
  | .int _ => 1921
  | .str x => (reprText x).length
  | .list xs => wtAll xs + 3
  | .tuple xs => wtAll xs + 3
  | .dict _ => 0
def wtAll : List PyData → Nat
  | [] => 0
  | x :: xs => wt x + 2 + wtAll xs
end
mutual
theorem shown_wt : ∀ d : PyData, d.showable = true → d.hasDict = false → d.shown.length ≤ wt d
  | .none, _, _ => by simp only [PyData.shown, wt]; decide +kernel
  | .bool b, _, _ => by cases b <;> simp only [PyData.shown, wt] <;> decide +kernel
  | .int i, h, _ => by
    simp only [PyData.shown, wt]
    exact int_text_len_1921 (by simpa [PyData.showable] using h)
  | .str x, _, _ => by simp only [PyData.shown, wt]; exact Nat.le_refl _
  | .list xs, h, h2 => by
    simp only [PyData.showable] at h
    simp only [PyData.hasDict] at h2
    simp only [PyData.shown, wt]
    have h3 := shown_wtAll xs h h2
    have h4 := listText_len_le (PyData.shownAll xs)
    omega
  | .tuple xs, h, h2 => by
    simp only [PyData.showable] at h
    simp only [PyData.hasDict] at h2
    simp only [PyData.shown, wt]
    have h3 := shown_wtAll xs h h2
    have h4 := tupleText_len_le (PyData.shownAll xs)
    omega
  | .dict _, _, h2 => by simp [PyData.hasDict] at h2
theorem shown_wtAll : ∀ xs : List PyData, PyData.showableAll xs = true → PyData.hasDictAll xs = false → ((PyData.shownAll xs).map (·.length)).sum + 2 * (PyData.shownAll xs).length ≤ wtAll xs
  | [], _, _ => by simp [PyData.shownAll, wtAll]
  | x :: xs, h, h2 => by
    simp only [PyData.showableAll, Bool.and_eq_true] at h
    simp only [PyData.hasDictAll, Bool.or_eq_false_iff] at h2
    have h3 := shown_wt x h.1 h2.1
    have h4 := shown_wtAll xs h.2 h2.2
    simp only [PyData.shownAll, wtAll, List.map_cons, List.sum_cons, List.length_cons]
    omega
end
def rReprD (K : PySem.W.Frag) : List V → Hp → VK → Prop := fun xs H Q => ∃ x d, xs = [x] ∧ Dp K H x d ∧ SeqAt.shaped d = true ∧ d.showable = true ∧ wt d ≤ sizeLine ∧ Q (.str d.shown) H
theorem cr_reprD {X : Cx} (hg : X.A.guards = some []) (hu : X.A.units + 65 < cLine) : CallR X (.builtin "repr") (rReprD X.K) := by
  intro pins s σ H vs us Q I r h
  obtain ⟨x, d, rfl, hd, hs, hw, hz, q⟩ := h
  cases r with
  | cons rv rn =>
    rename_i v us'
    cases rn
    have hs' : (d.canLay0 && decide (d.depth ≤ 64)) = true := hs
    rw [Bool.and_eq_true] at hs'
    have nd := PyData.hasDict_of_canLay d hs'.1
    have dep : d.depth ≤ 64 := of_decide_eq_true hs'.2
    have sz := Nat.le_trans (shown_wt d hw nd) hz
    obtain ⟨as, rd⟩ := Dp.reads I d x v hd rv
    have ref : ∀ a : Addr, v = .ref a → wpAny (model X.prog X.w) X.A (call (.builtin "repr") [v]) (EP X pins σ Q) X.xe s := fun a e => by
      subst e
      exact repr_of_reads' rd hw (PyData.noDict_hsm nd) hg (by omega) (fun _ _ e => e) (fun h' u tk hk => ⟨.str _, H, I.kept (t' := tk) hk, ⟨u, rfl⟩, q⟩) sz
    cases hd with
    | non =>
      cases rv
      exact PySem.P.repr_of_none ⟨.str _, H, I.tok _, ⟨_, rfl⟩, by simpa only [PyData.shown] using q⟩
    | bl b =>
      cases rv
      exact PySem.P.repr_of_bool ⟨.str _, H, I.tok _, ⟨_, rfl⟩, by simpa only [PyData.shown] using q⟩
    | int i =>
      obtain ⟨t, rfl⟩ := rv
      exact PySem.P.repr_of_int (by simpa [PyData.showable] using hw) ⟨.str _, H, I.tok _, ⟨_, rfl⟩, by simpa only [PyData.shown] using q⟩
    | str y =>
      obtain ⟨t, rfl⟩ := rv
      exact PySem.P.repr_of_str ⟨.str _, H, I.tok _, ⟨_, rfl⟩, by simpa only [PyData.shown] using q⟩ (by simpa only [PyData.shown] using sz)
    | lst _ _ => exact ref _ rv
    | tup _ _ => exact ref _ rv
end L2

namespace T
/-! ### fractions -/
theorem low_pos {a : Int} {n : Nat} (hn : n ≠ 0) : low a (n : Int) = ((Rat.divInt a (n : Int)).num, ((Rat.divInt a (n : Int)).den : Int)) := by
  have e : Rat.divInt a (n : Int) = Rat.normalize a n hn := by
    show mkRat a n = _
    rw [Rat.mkRat_def, dif_neg hn]
  rw [e, Rat.normalize_eq]
  unfold low gI
  rw [if_neg (by omega), Int.natAbs_natCast]
  show (_, _) = (_, (((n / a.natAbs.gcd n : Nat)) : Int))
  rw [Int.natCast_ediv]
theorem low_rat {a b : Int} (hb : b ≠ 0) : low a b = ((Rat.divInt a b).num, ((Rat.divInt a b).den : Int)) := by
  by_cases c : 0 < b
  · obtain ⟨n, rfl⟩ := Int.eq_ofNat_of_zero_le (Int.le_of_lt c)
    exact low_pos (by omega)
  · obtain ⟨n, hn⟩ := Int.eq_ofNat_of_zero_le (show 0 ≤ -b by omega)
    have e : Rat.divInt a b = Rat.divInt (-a) (n : Int) := (Rat.divInt_eq_divInt_iff hb (by omega)).mpr (by rw [← hn, Int.mul_neg, Int.neg_mul])
    rw [e, ← low_pos (by omega), ← hn]
    unfold low gI
    rw [if_pos (by omega), if_neg (by omega), Int.natAbs_neg, Int.natAbs_neg]
theorem low_congr {a b a' b' : Int} (hb : b ≠ 0) (hb' : b' ≠ 0) (h : a * b' = a' * b) : low a b = low a' b' := by
  rw [low_rat hb, low_rat hb', (Rat.divInt_eq_divInt_iff hb hb').mpr h]
theorem low_q {a b u v : Int} (hb : b ≠ 0) (h : (u, v) = low a b) : Rat.divInt u v = Rat.divInt a b ∧ 0 < v := by
  rw [low_rat hb] at h
  have e1 : u = (Rat.divInt a b).num := congrArg Prod.fst h
  have e2 : v = ((Rat.divInt a b).den : Int) := congrArg Prod.snd h
  rw [e1, e2]
  exact ⟨Rat.num_divInt_den _, by have := (Rat.divInt a b).den_pos; omega⟩
theorem low_cross {a b u v : Int} (hb : b ≠ 0) (h : (u, v) = low a b) : u * b = a * v ∧ 0 < v := by
  obtain ⟨h1, h2⟩ := low_q hb h
  exact ⟨(Rat.divInt_eq_divInt_iff (by omega) hb).mp h1, h2⟩
/-- a number times a number: the parts may be reduced ahead or behind -/
theorem num_step {p A B u v a b u' v' : Int} (hp : p = 0 ∨ p ∈ primes) (hB : p = 0 → B ≠ 0) (hb0 : p = 0 → b ≠ 0) (hb1 : p ≠ 0 → b = 1) (hB1 : p ≠ 0 → B = 1) (h : IsNum p A B u v) (h' : IsNum p (u * a) (v * b) u' v') : IsNum p (A * a) (B * b) u' v' := by
  by_cases c : p = 0
  · obtain ⟨_, e⟩ := h.resolve_left (fun z => by omega)
    obtain ⟨_, e'⟩ := h'.resolve_left (fun z => by omega)
    obtain ⟨x1, x2⟩ := low_cross (hB c) e
    refine .inr ⟨by omega, e'.trans (low_congr (Int.mul_ne_zero (by omega) (hb0 c)) (Int.mul_ne_zero (hB c) (hb0 c)) ?_)⟩
    calc u * a * (B * b) = u * B * (a * b) := by rw [Int.mul_assoc, Int.mul_assoc]; congr 1; rw [← Int.mul_assoc, ← Int.mul_assoc, Int.mul_comm a B]
      _ = A * v * (a * b) := by rw [x1]
      _ = A * a * (v * b) := by rw [Int.mul_assoc, Int.mul_assoc]; congr 1; rw [← Int.mul_assoc, ← Int.mul_assoc, Int.mul_comm v a]
  · have hp2 := prime_pos (hp.resolve_left c)
    obtain ⟨h0, e1, l1, u1, m1⟩ := h.resolve_right (fun z => by omega)
    obtain ⟨_, e2, l2, u2, m2⟩ := h'.resolve_right (fun z => by omega)
    refine .inl ⟨h0, e2, l2, u2, ?_⟩
    rw [hB1 c, hb1 c]
    rw [hB1 c, Int.mul_one] at m1
    rw [hb1 c, e1] at m2
    have d1 := Int.dvd_of_emod_eq_zero m1
    have d2 := Int.dvd_of_emod_eq_zero m2
    apply Int.emod_eq_zero_of_dvd
    have e : u' * (1 * 1) - A * a = (u' * (1 * 1) - u * a) + (u - A) * a := by
      rw [Int.sub_mul]
      omega
    rw [e]
    exact Int.dvd_add d2 (Int.dvd_mul_of_dvd_left d1)
theorem low_small {a b u v : Int} (h : (u, v) = low a b) : u.natAbs ≤ a.natAbs ∧ v.natAbs ≤ b.natAbs := by
  have e1 := congrArg Prod.fst h
  have e2 := congrArg Prod.snd h
  unfold low at e1 e2
  by_cases c : b < 0
  · rw [if_pos c] at e1 e2
    have f1 : u = (-a) / gI a b := e1
    have f2 : v = (-b) / gI a b := e2
    have g1 := Int.natAbs_ediv_le_natAbs (-a) (gI a b)
    have g2 := Int.natAbs_ediv_le_natAbs (-b) (gI a b)
    rw [f1, f2]
    omega
  · rw [if_neg c] at e1 e2
    have f1 : u = a / gI a b := e1
    have f2 : v = b / gI a b := e2
    have g1 := Int.natAbs_ediv_le_natAbs a (gI a b)
    have g2 := Int.natAbs_ediv_le_natAbs b (gI a b)
    rw [f1, f2]
    omega
theorem num_small {p a b u v : Int} (hp : p = 0 ∨ p ∈ primes) (h : IsNum p a b u v) (ha : a.natAbs < 2 ^ 199) (hb : b.natAbs < 2 ^ 199) : u.natAbs < 2 ^ 200 ∧ v.natAbs < 2 ^ 200 := by
  rcases h with ⟨h0, rfl, h1, h2, _⟩ | ⟨_, h⟩
  · have := prime_pos (hp.resolve_left (by omega))
    omega
  · have := low_small h
    omega
theorem isW_cases {p d : Int} (hw : isW p d = true) : (p = 0 ∨ p ∈ primes) ∧ d.natAbs ≤ 31 := by
  by_cases c : p = 0
  · refine ⟨.inl c, ?_⟩
    unfold isW at hw
    rw [if_pos c] at hw
    by_cases h1 : -20 ≤ d
    · rw [if_pos h1] at hw
      have := of_decide_eq_true hw
      omega
    · rw [if_neg h1] at hw
      cases hw
  · obtain ⟨h1, h2, h3⟩ := isW_prime hw c
    have := prime_pos h1
    exact ⟨.inr h1, by omega⟩
end T

namespace T
open PySem PySem.Spec PyProof.Rows L2
/-! ### lists of integers as polynomials -/
def co (l : List Int) (k : Nat) : Int := l.getD k 0
theorem co_ge {l : List Int} {k : Nat} (h : l.length ≤ k) : co l k = 0 := by
  unfold co
  rw [List.getD_eq_getElem?_getD, List.getElem?_eq_none h]
  rfl
theorem co_get {l : List Int} {k : Nat} (h : k < l.length) : l[k]? = some (co l k) := by
  unfold co
  rw [List.getD_eq_getElem?_getD, List.getElem?_eq_getElem h]
  rfl
theorem co_mem {l : List Int} {k : Nat} (h : k < l.length) : co l k ∈ l := by
  have e := co_get h
  exact List.mem_of_getElem? e
theorem at_co {l : List Int} {k : Nat} (h : k < l.length) : atI (l.map V.int) (k : Int) = some (.int (co l k)) := atI_nat (by rw [List.getElem?_map, co_get h]; rfl)
theorem at_end {l : List Int} (h : l ≠ []) : atI (l.map V.int) (-1) = some (.int (co l (l.length - 1))) := by
  have hl : 0 < l.length := List.length_pos_iff.mpr h
  have e : l.map V.int = (l.take (l.length - 1)).map V.int ++ [V.int (co l (l.length - 1))] := by
    have e1 : l = l.take (l.length - 1) ++ [co l (l.length - 1)] := by
      have := List.take_succ (l := l) (i := l.length - 1)
      rw [show l.length - 1 + 1 = l.length by omega, List.take_length, co_get (by omega)] at this
      exact this
    conv => lhs; rw [e1]
    rw [List.map_append]
    rfl
  rw [e]
  exact atI_last _ _
/-- no 0 at the end -/
def Pol (l : List Int) : Prop := l = [] ∨ co l (l.length - 1) ≠ 0
theorem pol_len {l m : List Int} (hm : Pol m) (h : ∀ k, co l k = co m k) : m.length ≤ l.length := by
  rcases hm with rfl | hm
  · exact Nat.zero_le _
  · rcases Nat.lt_or_ge l.length m.length with c | c
    · rw [← h, co_ge (by omega)] at hm
      exact absurd rfl hm
    · exact c
theorem pol_ext {l m : List Int} (hl : Pol l) (hm : Pol m) (h : ∀ k, co l k = co m k) : l = m := by
  have h1 := pol_len hm h
  have h2 := pol_len hl (fun k => (h k).symm)
  refine List.ext_getElem? fun k => ?_
  rcases Nat.lt_or_ge k l.length with c | c
  · rw [co_get c, co_get (by omega), h]
  · rw [List.getElem?_eq_none c, List.getElem?_eq_none (by omega)]
theorem co_take {l : List Int} {s k : Nat} (h : ∀ i, s ≤ i → co l i = 0) : co (l.take s) k = co l k := by
  rcases Nat.lt_or_ge k s with c | c
  · unfold co
    rw [List.getD_eq_getElem?_getD, List.getD_eq_getElem?_getD, List.getElem?_take_of_lt c]
  · rw [h k c, co_ge (by rw [List.length_take]; omega)]
theorem pol_take {l : List Int} {s : Nat} (hs : s ≤ l.length) (h : s = 0 ∨ co l (s - 1) ≠ 0) (hz : ∀ i, s ≤ i → co l i = 0) : Pol (l.take s) := by
  rcases h with rfl | h
  · exact .inl rfl
  · by_cases c : s = 0
    · rw [c]
      exact .inl rfl
    · refine .inr ?_
      rw [List.length_take, Nat.min_eq_left hs, co_take hz]
      exact h
theorem co_map {f : Int → Int} (h0 : f 0 = 0) (l : List Int) (k : Nat) : co (l.map f) k = f (co l k) := by
  rcases Nat.lt_or_ge k l.length with c | c
  · have := co_get c
    unfold co
    rw [List.getD_eq_getElem?_getD, List.getElem?_map, List.getD_eq_getElem?_getD, this]
    rfl
  · rw [co_ge (by rw [List.length_map]; omega), co_ge c, h0]
theorem co_set {l : List Int} {i : Nat} {v : Int} (k : Nat) (h : i < l.length) : co (l.set i v) k = if k = i then v else co l k := by
  unfold co
  rw [List.getD_eq_getElem?_getD, List.getElem?_set]
  by_cases c : i = k
  · rw [if_pos c, if_pos c.symm, if_pos (by omega)]
    rfl
  · rw [if_neg c, if_neg (fun z => c z.symm), List.getD_eq_getElem?_getD]
theorem co_zeros (n k : Nat) : co (List.replicate n 0) k = 0 := by
  unfold co
  rw [List.getD_eq_getElem?_getD, List.getElem?_replicate]
  split <;> rfl
theorem map_set (l : List Int) (i : Nat) (v : Int) : (l.map V.int).set i (V.int v) = (l.set i v).map V.int := List.map_set.symm
/-! the value -/
def ev (x : Int) : List Int → Int
  | [] => 0
  | a :: r => a + x * ev x r
theorem ev_append (x : Int) (l : List Int) (a : Int) : ev x (l ++ [a]) = ev x l + x ^ l.length * a := by
  induction l with
  | nil => show a + x * 0 = 0 + x ^ 0 * a; rw [Int.pow_zero]; grind
  | cons b r ih =>
    show b + x * ev x (r ++ [a]) = b + x * ev x r + x ^ (r.length + 1) * a
    rw [ih, Int.pow_succ]
    grind
theorem ev_take (x : Int) {l : List Int} {i : Nat} (h : i < l.length) : ev x (l.take (i + 1)) = ev x (l.take i) + co l i * x ^ i := by
  have e : l.take (i + 1) = l.take i ++ [co l i] := by rw [List.take_succ, co_get h]; rfl
  rw [e, ev_append, List.length_take, Nat.min_eq_left (by omega), Int.mul_comm]
theorem ev_drop (x : Int) {l : List Int} {i : Nat} (h : i < l.length) : ev x (l.drop i) = co l i + x * ev x (l.drop (i + 1)) := by
  rw [List.drop_eq_getElem_cons h]
  have := co_get h
  rw [List.getElem?_eq_getElem h] at this
  rw [Option.some.inj this]
  rfl
/-! the product: what is there behind i rows, and j entries of the next -/
def row (one other : List Int) (i k : Nat) : Int := if i ≤ k then co one i * co other (k - i) else 0
def conv (one other : List Int) : Nat → Nat → Int
  | 0, _ => 0
  | i + 1, k => conv one other i k + row one other i k
theorem conv_more (one other : List Int) (k : Nat) : ∀ i, one.length ≤ i → conv one other i k = conv one other one.length k
  | 0, h => by rw [show one.length = 0 by omega]
  | i + 1, h => by
    by_cases c : one.length = i + 1
    · rw [c]
    · show conv one other i k + row one other i k = _
      rw [conv_more one other k i (by omega)]
      unfold row
      rw [co_ge (l := one) (by omega)]
      split <;> simp
theorem conv_top (one other : List Int) {k : Nat} : ∀ i, i ≤ one.length → i + other.length ≤ k + 1 → conv one other i k = 0
  | 0, _, _ => rfl
  | i + 1, h, hk => by
    show conv one other i k + row one other i k = 0
    rw [conv_top one other i (by omega) (by omega)]
    unfold row
    rw [if_pos (by omega), co_ge (l := other) (by omega)]
    simp
theorem conv_zero (one : List Int) (k : Nat) : ∀ i, conv one [] i k = 0
  | 0 => rfl
  | i + 1 => by
    show conv one [] i k + row one [] i k = 0
    rw [conv_zero one k i]
    unfold row
    rw [show co [] (k - i) = 0 from co_ge (Nat.zero_le _)]
    split <;> simp
theorem rep0 : ∀ n : Nat, (List.replicate n [V.int 0]).flatten = (List.replicate n (0 : Int)).map V.int
  | 0 => rfl
  | n + 1 => by
    rw [List.replicate_succ, List.flatten_cons, rep0 n, List.replicate_succ, List.map_cons]
    rfl
theorem ixN_nat {n j : Nat} (h : j < n) : ixN n (j : Int) = some j := by
  unfold ixN
  rw [if_pos (by omega), if_pos (by omega)]
  rfl
end T

/-! ### tuple * n for n = 0 and n = 1 -/
namespace L2
open PySem PySem.Spec PyProof.Rows
theorem tuple_mulX (l : Addr) (items : Array Value) (n : Nat) (dd : Option Addr) (sl : Array (Option Value)) (x : Int) (u : Tok) (c0 : (decide (x < -(2 ^ 63)) || decide (x ≥ 2 ^ 63)) = false) (c1 : (items.isEmpty || x == 1) = true) :
    Meets (Builtin.«tuple.__mul__» ⟨[.ref l, .int x u], []⟩) (fun _ R s => s.heap.get? l = some { cls := .type "tuple", dict := dd, data := .seq items n, slots := sl } ∧ R (.ok (.ret (Value.ref l))) s) :=
  .of_wp fun prog w A R s h => by
    obtain ⟨hp, g, d, tk, os⟩ := s
    obtain ⟨hl, h⟩ := h
    have f1 := AutoSeq1.idx_int
    wp_walk using wpAny_loadPart' hl
    repeat (first
      | (refine wpAny_ite_false (decide_eq_false (by rw [c0]; exact Bool.false_ne_true)) ?_; wp_walk using wpAny_loadPart' hl)
      | (refine wpAny_ite_true (decide_eq_true c1) ?_; wp_walk using wpAny_loadPart' hl))
    exact ⟨_, rfl, h⟩
theorem tuple_mulZ (l : Addr) (items : Array Value) (n : Nat) (dd : Option Addr) (sl : Array (Option Value)) (x : Int) (u : Tok) (c0 : (decide (x < -(2 ^ 63)) || decide (x ≥ 2 ^ 63)) = false) (c1 : (items.isEmpty || x == 1) = false) (c2 : (decide (x ≤ 0) || items.isEmpty) = true) :
    Meets (Builtin.«tuple.__mul__» ⟨[.ref l, .int x u], []⟩) (fun _ R s => s.heap.get? l = some { cls := .type "tuple", dict := dd, data := .seq items n, slots := sl } ∧
      R (.ok (.ret (Value.ref s.heap.objs.size))) { s with heap := s.heap.push { cls := Value.type "tuple", data := Data.seq #[] }, toks := s.toks }) :=
  .of_wp fun prog w A R s h => by
    obtain ⟨hp, g, d, tk, os⟩ := s
    obtain ⟨hl, h⟩ := h
    have f1 := AutoSeq1.idx_int
    wp_walk using wpAny_loadPart' hl
    repeat (first
      | (refine wpAny_ite_false (decide_eq_false (by rw [c0]; exact Bool.false_ne_true)) ?_; wp_walk using wpAny_loadPart' hl)
      | (refine wpAny_ite_false (decide_eq_false (by rw [c1]; exact Bool.false_ne_true)) ?_; wp_walk using wpAny_loadPart' hl)
      | (refine wpAny_ite_true (decide_eq_true c2) ?_; wp_walk using wpAny_loadPart' hl))
    exact ⟨_, rfl, h⟩
def rRepA (K : PySem.W.Frag) : R2 := fun x y H Q => ∃ l k xs, x = .ref l ∧ y = .int k ∧ SqT K H l xs ∧ xs ≠ [] ∧ 0 ≤ k ∧ k ≤ 1000 ∧ xs.length ≤ 1000 ∧ (k = 1 → Q (.ref l) H) ∧ (k ≠ 1 → ∀ p, H p = none → Q (.ref p) (upd H p (.tup (List.replicate k.toNat xs).flatten)))
section
variable {X : Cx}
theorem op_repA : OpR X (binaryOp .Mult) (rRepA X.K) := by
  intro pins s σ H x y v u Q I rx ry h
  obtain ⟨l, k, xs, rfl, rfl, hT, hne, h1, h2, hz, q1, q⟩ := h
  by_cases big : 2 ≤ k
  · exact op_repT pins s σ H _ _ v u Q I rx ry ⟨l, k, xs, rfl, rfl, hT, hne, big, h2, hz, q (by omega)⟩
  cases rx
  obtain ⟨t, rfl⟩ := ry
  obtain ⟨its, r, ⟨⟨cls, dd, data, sl⟩, ho, hc, n, hd⟩, hs⟩ := I.tuple hT
  simp only at hc hd
  subst hc hd
  have hle : its.length = xs.length := r.length.symm
  have hn : its ≠ [] := fun e => hne (by
    rw [e] at hle
    exact List.eq_nil_of_length_eq_zero hle.symm)
  have hi : its.toArray.isEmpty = false := by
    cases its with
    | nil => exact absurd rfl hn
    | cons a b => rfl
  have c0 : (decide (k < -(2 ^ 63)) || decide (k ≥ 2 ^ 63)) = false := by
    rw [decide_eq_false (by omega), decide_eq_false (by omega)] <;> rfl
  by_cases one : k = 1
  · have c1 : (its.toArray.isEmpty || k == 1) = true := by
      rw [hi, Bool.false_or]
      exact beq_iff_eq.mpr one
    exact wpAny_binaryOp_repeat_ref (T := "tuple") (U := "int") (by decide) ⟨_, ho, rfl⟩ (fun s' => typeIs_int s' k t) noFill_tuple_mul F.fills_int_mul F.slot_int_rmul repeat_tuple F.slot_int_index.lookup
      (call_meets F.slot_int_rmul (typeIs_int s k t) F.entry_int_rmul (F.args_int_rmul_2 _ _) (int_rmul_tuple k t l its.toArray n dd sl)
        ⟨ho, rfl, ⟨_, ho, rfl⟩, call_meets F.slot_tuple_mul ⟨_, ho, rfl⟩ F.entry_tuple_mul (F.args_tuple_mul_2 _ _) (tuple_mulX l its.toArray n dd sl k t c0 c1) ⟨ho, ⟨.ref l, H, I, rfl, q1 one⟩⟩⟩)
  · have zero : k = 0 := by omega
    have c1 : (its.toArray.isEmpty || k == 1) = false := by
      rw [hi, Bool.false_or]
      exact beq_eq_false_iff_ne.mpr one
    have c2 : (decide (k ≤ 0) || its.toArray.isEmpty) = true := by
      rw [hi, Bool.or_false]
      exact decide_eq_true (by omega)
    refine wpAny_binaryOp_repeat_ref (T := "tuple") (U := "int") (by decide) ⟨_, ho, rfl⟩ (fun s' => typeIs_int s' k t) noFill_tuple_mul F.fills_int_mul F.slot_int_rmul repeat_tuple F.slot_int_index.lookup
      (call_meets F.slot_int_rmul (typeIs_int s k t) F.entry_int_rmul (F.args_int_rmul_2 _ _) (int_rmul_tuple k t l its.toArray n dd sl)
        ⟨ho, rfl, ⟨_, ho, rfl⟩, call_meets F.slot_tuple_mul ⟨_, ho, rfl⟩ F.entry_tuple_mul (F.args_tuple_mul_2 _ _) (tuple_mulZ l its.toArray n dd sl k t c0 c1 c2) ⟨ho, ?_⟩⟩)
    refine ⟨.ref s.heap.objs.size, _, I.laid (t' := s.toks) (o := .tup (List.replicate k.toNat xs).flatten) (fun b ob q => Heap.get?_push_of_some _ q) (Nat.le_refl _) ?_, rfl, q one _ (I.hok.fresh (Nat.le_refl _))⟩
    rw [zero]
    exact ⟨Nat.zero_le _, [], .nil, IsTup.new _ _⟩
end
end L2

/-! ### sorted(tuple of integers), x in tuple of tuples -/
namespace SrtO
open PySem PyProof.Rows Srt
section
variable {prog : Program} {w : World} {A : Around} {E : Value → Shared → Prop} {s : Shared}
theorem collect_tup {l : Addr} {vs : List Value} {Q : List Value → Shared → Prop} (hl : s.heap.IsTuple l vs.toArray)
    (h : Q vs { s with heap := (s.heap.push (seqObj "list" #[] 0)).update s.heap.objs.size (Obj.mapSeq (· ++ vs.toArray)) }) (hsz : vs.length ≤ sizeLine) :
    wpAny (model prog w) A (collect (.ref l)) Q E s := by
  obtain ⟨o, ho, hc, n, hd⟩ := id hl
  unfold collect
  refine wpAny_bind (wpAny_runValue (codeAny_builtin entry_proto_collect' ?_))
  show wpAny _ _ (do again (.builtin "list.__iadd__" ⟨[← newList [], .ref l], []⟩)) _ _ s
  refine wpAny_bind (wpAny_newList (wpAny_pure ⟨Code.quiet_builtin _ (by decide +kernel), codeAny_builtin entry_list_iadd' ?_⟩))
  show wpAny _ _ (Builtin.List.listExtendWith (.ref s.heap.objs.size) (.ref l) (.ref s.heap.objs.size)) _ _ { s with heap := s.heap.push (seqObj "list" #[] 0) }
  unfold Builtin.List.listExtendWith
  have ho' : (s.heap.push (seqObj "list" #[] 0)).get? l = some o := Heap.get?_push_of_some _ ho
  refine wpAny_bind (wpAny_typeOf (T := "tuple") ⟨o, ho', hc⟩ ?_)
  have ht : (Value.type "tuple" == Value.type "tuple") = true := by rfl
  rw [if_pos (by rw [ht]; simp)]
  refine wpAny_bind (listItems_at ho' hd ?_)
  refine wpAny_bind (listItems_at (xs := #[]) (n := 0) (Heap.get?_push_size _ rfl) rfl ?_)
  rw [if_neg (by simp)]
  refine wpAny_bind (listUpdate_at (xs := #[]) (n := 0) (Heap.get?_push_size _ rfl) rfl ?_ (Nat.zero_le _) (by show (#[] ++ vs.toArray).size ≤ sizeLine + 1; simp only [Array.size_append, List.size_toArray, List.length_nil]; omega))
  refine wpAny_pure ?_
  show wpAny (model prog w) A (do
      let o ← load s.heap.objs.size
      match o.data with
      | .seq xs _ => pure xs.toList
      | _ => unsupported "internal:collect") Q E { s with heap := (s.heap.push (seqObj "list" #[] 0)).update s.heap.objs.size (Obj.mapSeq (· ++ vs.toArray)) }
  refine wpAny_bind (wpAny_load (get?_update_seq (Heap.get?_push_size _ rfl) _) ?_)
  show wpAny _ _ (pure ((#[] : Array Value) ++ vs.toArray).toList) Q E _
  rw [show ((#[] : Array Value) ++ vs.toArray).toList = vs by simp]
  exact wpAny_pure h
theorem sorted_ordT {l : Addr} {vs : List Value} {ltv : Value → Value → Bool} {Q : Value → Shared → Prop} (O : Swo ltv) (hl : s.heap.IsTuple l vs.toArray) (hz : vs.length ≤ sizeLine)
    (hS : 2 ≤ vs.length → ∀ (h₁ : Heap) (a : Addr), h₁.get? a = some (seqObj "list" vs.toArray 0) → (∀ b o, s.heap.get? b = some o → b ≠ a ∧ h₁.get? b = some o) → SortableO prog w A.in1.in1 { s with heap := h₁ } a vs ltv)
    (h : ∀ out : List Value, Srtd ltv out → Stb ltv out vs → Q (.ref (s.heap.objs.size + 1)) { s with heap := sortedAll s.heap vs out.toArray }) :
    wpAny (model prog w) A (call (.builtin "sorted") [.ref l]) Q E s := by
  refine Calls.call_function_entry kind_sorted plain_sorted entry_sorted (args_sorted1 _) ?_
  unfold Builtin.«sorted»
  refine wpAny_bind (m := checkCount "sorted" 1 1 _) (wpAny_pure ?_)
  refine wpAny_bind (collect_tup hl ?_ hz)
  refine wpAny_bind (wpAny_newList ?_ hz)
  have hsz : ((s.heap.push (seqObj "list" #[] 0)).update s.heap.objs.size (Obj.mapSeq (· ++ vs.toArray))).objs.size = s.heap.objs.size + 1 := by
    rw [Heap.size_update, size_push']
  have hoL : (((s.heap.push (seqObj "list" #[] 0)).update s.heap.objs.size (Obj.mapSeq (· ++ vs.toArray))).push (seqObj "list" vs.toArray 0)).get? (s.heap.objs.size + 1) = some (seqObj "list" vs.toArray 0) := by
    rw [← hsz]; exact Heap.get?_push_size _ rfl
  have keep : ∀ b o, s.heap.get? b = some o → b ≠ s.heap.objs.size + 1 ∧ (((s.heap.push (seqObj "list" #[] 0)).update s.heap.objs.size (Obj.mapSeq (· ++ vs.toArray))).push (seqObj "list" vs.toArray 0)).get? b = some o := fun b o q => by
    have hlt : b < s.heap.objs.size := Heap.lt_size q
    refine ⟨Nat.ne_of_lt (Nat.lt_succ_of_lt hlt), Heap.get?_push_of_some _ ?_⟩
    rw [Heap.get?_update_ne _ _ _ _ (Nat.ne_of_lt hlt)]
    exact Heap.get?_push_of_some _ q
  show wpAny _ _ _ _ _ { s with heap := ((s.heap.push (seqObj "list" #[] 0)).update s.heap.objs.size (Obj.mapSeq (· ++ vs.toArray))).push (seqObj "list" vs.toArray 0) }
  rw [hsz]
  refine wpAny_bind (wpAny_holding (wpAny_call_entry slot_list_sort ⟨_, hoL, rfl⟩ entry_list_sort (list_sort_ord O hoL hz (fun h2 => hS h2 _ _ hoL keep) fun out hs hb => ⟨_, rfl, ?_⟩) (args_list_sort _)))
  exact wpAny_pure ⟨_, rfl, h out hs hb⟩
end
end SrtO
namespace L2
open PySem PySem.Spec PyProof.Rows
def rSortedIT (K : PySem.W.Frag) : List V → Hp → VK → Prop := fun vs H Q => ∃ (a : Addr) (ns : List Int), vs = [V.ref a] ∧ SqT K H a (ns.map V.int) ∧
  ∀ (ns' : List Int) (p : Addr), ns'.Perm ns → ns'.Pairwise (· ≤ ·) → H p = none → Q (.ref p) (upd H p (.lst (ns'.map V.int)))
def rInDT (K : PySem.W.Frag) : R2 := fun x y H Q => ∃ d ds, Dp K H x d ∧ Dp K H y (.tuple ds) ∧ SeqAt.shaped d = true ∧ SeqAt.shaped (.tuple ds) = true ∧ Q (.bl (ds.any fun z => PyData.eqv z d)) H
section
variable {X : Cx}
theorem cr_sortedIT : CallR X (.builtin "sorted") (rSortedIT X.K) := by
  intro pins s σ H vs us Q I r h
  obtain ⟨a, ns, rfl, hs, q⟩ := h
  obtain ⟨its, rv, hl, hz⟩ := I.tuple hs
  rw [Vals.ref1 r]
  have hi := rv.ints
  refine SrtO.sorted_ordT SrtO.swo_int hl (by rw [← rv.length]; exact hz) (fun h2 h₁ a' _ _ => SrtO.ints_sortable hi h2) fun out h1 h2 => ?_
  obtain ⟨k1, k2, k3⟩ := SrtO.ints_out hi h1 h2
  obtain ⟨ep, he'⟩ := PyProof.Rows.sortedAll_at s.heap its out.toArray
  have hlen : ((out.map SrtO.iv).map V.int).length ≤ sizeLine := by
    rw [List.length_map, k2.length_eq]
    rw [List.length_map] at hz
    exact hz
  exact ⟨.ref _, upd H (s.heap.objs.size + 1) (.lst ((out.map SrtO.iv).map V.int)), I.laid (t' := s.toks) (fun _ _ => PyProof.Rows.sortedAll_old) (Nat.le_succ _) ⟨hlen, out, ep, vals_of_ints k1, he'⟩, rfl, q _ _ k2 k3 (I.hok.fresh (Nat.le_succ _))⟩
theorem op_inDT (hu : X.A.units + 65 < cLine) : OpR X (compareOp .In) (rInDT X.K) := by
  intro pins s σ H x y v u Q I rx ry h
  obtain ⟨d, ds, hd, he, sd, se, q⟩ := h
  obtain ⟨as, r1⟩ := Dp.reads I d x v hd rx
  obtain ⟨bs, r2⟩ := Dp.reads I (.tuple ds) y u he ry
  exact SeqAt.in_tuple_reads r2 r1 (SeqAt.canLay_of_shaped se) (SeqAt.canLay_of_shaped sd) (room_in_shaped sd hu) ⟨.bl _, H, I, rfl, q⟩
end
end L2

/-! ### tuple[::-1], nested data by <, x not in range(..) -/
namespace HT
open PySem PySem.Spec PyProof.Rows
section
variable {prog : Program} {w : World} {A : Around} {E : Value → Shared → Prop} {s : Shared}
theorem sliceApplied_rev {sl : Addr} {vl vu vs : Value} {n : Nat} {Q : Int × Int × Nat → Shared → Prop} (hs : s.heap.IsSliceOf sl vl vu vs) (pl : IsPart vl none) (pu : IsPart vu none) (ps : IsPart vs (some (-1)))
    (h : Q ((n : Int) - 1, -1, n) s) : wpAny (model prog w) A (Builtin.Slice.sliceApplied (.ref sl) (pure (n : Int))) Q E s := by
  obtain ⟨os, hos, hcs, hds⟩ := id hs
  unfold Builtin.Slice.sliceApplied Builtin.Slice.sliceFields
  refine wpAny_bind (wpAny_bind (wpAny_field hos hds (x := vl) rfl (wpAny_bind (wpAny_field hos hds (x := vu) rfl (wpAny_bind (wpAny_field hos hds (x := vs) rfl (wpAny_pure ?_)))))))
  refine wpAny_bind (slicePart_ ps ?_)
  show wpAny _ _ (if ((-1 : Int) == 0) = true then _ else _) _ _ s
  rw [if_neg (by decide)]
  refine wpAny_bind (slicePart_ pl (wpAny_bind (slicePart_ pu (wpAny_bind (wpAny_pure ?_)))))
  have e2 : Builtin.Slice.slicePlaces ((n : Int) - 1) (-1) (-1) = n := by
    unfold Builtin.Slice.slicePlaces
    rw [if_neg (by decide)]
    by_cases c : (n : Int) - 1 > -1
    · rw [if_pos c, show -(-1 : Int) = 1 from rfl, Int.ediv_one]
      omega
    · rw [if_neg c]
      omega
  show wpAny _ _ (pure (((n : Int) - 1), (-1 : Int), Builtin.Slice.slicePlaces ((n : Int) - 1) (-1) (-1))) _ _ s
  rw [e2]
  exact wpAny_pure h
theorem fm_some {α β : Type} {f : α → Option β} {g : α → β} : ∀ l : List α, (∀ k ∈ l, f k = some (g k)) → l.filterMap f = l.map g
  | [], _ => rfl
  | a :: l, h => by
    rw [List.filterMap_cons, h a List.mem_cons_self, List.map_cons, fm_some l fun k hk => h k (List.mem_cons_of_mem _ hk)]
theorem pick_rev (items : Array Value) : ((List.range items.size).filterMap fun (k : Nat) => items[((items.size : Int) - 1 + (k : Int) * (-1)).toNat]?).toArray = items.toList.reverse.toArray := by
  congr 1
  have hlt : ∀ k ∈ List.range items.size, k < items.size := fun k hk => List.mem_range.mp hk
  have e : ∀ k, k < items.size → items[((items.size : Int) - 1 + (k : Int) * (-1)).toNat]? = some (items.toList.reverse.getD k .none) := fun k hk => by
    rw [show ((items.size : Int) - 1 + (k : Int) * (-1)).toNat = items.size - 1 - k by omega, List.getD_eq_getElem?_getD, List.getElem?_reverse (by rw [Array.length_toList]; exact hk), Array.length_toList, Array.getElem?_toList]
    rw [Array.getElem?_eq_getElem (by omega)]
    rfl
  have e2 : ((List.range items.size).filterMap fun (k : Nat) => items[((items.size : Int) - 1 + (k : Int) * (-1)).toNat]?) = (List.range items.size).map fun k => items.toList.reverse.getD k .none := by
    exact fm_some _ fun k hk => e k (hlt k hk)
  rw [e2]
  refine List.ext_getElem (by rw [List.length_map, List.length_range, List.length_reverse, Array.length_toList]) fun i h1 h2 => ?_
  rw [List.getElem_map, List.getElem_range, List.getD_eq_getElem?_getD, List.getElem?_eq_getElem h2]
  rfl
theorem getItem_tuple_rev {t sl : Addr} {items : Array Value} {vl vu vs : Value} {Q : Value → Shared → Prop} (ht : IsTup s.heap t items) (hs : s.heap.IsSliceOf sl vl vu vs) (pl : IsPart vl none) (pu : IsPart vu none) (ps : IsPart vs (some (-1)))
    (h : Q (.ref s.heap.objs.size) { s with heap := s.heap.push { cls := .type "tuple", data := .seq items.toList.reverse.toArray } }) (hsz : items.size ≤ sizeLine) : wpAny (model prog w) A (getItem (.ref t) (.ref sl)) Q E s := by
  have htake : sizeOk (.seq items.toList.reverse.toArray) := by
    show items.toList.reverse.toArray.size ≤ sizeLine
    rw [List.size_toArray, List.length_reverse, Array.length_toList]
    exact hsz
  obtain ⟨os, hos, hcs, hds⟩ := id hs
  have hTs : s.TypeIs (.ref sl) "slice" := ⟨os, hos, hcs⟩
  unfold getItem
  try with_reducible refine wpAny_holding ?_
  first | refine wpAny_bind (wpAny_pure ?_) | skip
  refine wpAny_bind (wpAny_sequenceKey ht.typeIs (by decide) ?_)
  refine wpAny_bind (wpAny_callSpecial?_slot (name := Str.ofString "__getitem__") ht.typeIs PyProof.Rows.slot_tuple_getitem
    (wpAny_call_entry PyProof.Rows.slot_tuple_getitem ht.typeIs entry_tuple_getitem ?_ (args_tuple_getitem _ _)))
  show wpAny _ _ (Builtin.Tuple.tupleItemsOf (.ref t) >>= _) _ _ s
  refine wpAny_bind (tupleItemsOf_ ht ?_)
  refine wpAny_bind (wpAny_typeOf hTs ?_)
  rw [if_pos (by decide)]
  refine wpAny_bind (sliceApplied_rev hs pl pu ps ?_)
  have hno : ¬ ((((items.size : Int) - 1) == 0 && (-1 : Int) == 1 && items.size == items.size) = true) := by
    intro q
    rw [Bool.and_eq_true, Bool.and_eq_true] at q
    have q1 : (-1 : Int) = 1 := eq_of_beq q.1.2
    omega
  show wpAny _ _ (if (((items.size : Int) - 1) == 0 && (-1 : Int) == 1 && items.size == items.size) = true then _ else _) _ _ s
  rw [if_neg hno, pick_rev]
  first
    | exact wpAny_bind (m := Builtin.Tuple.tupleExact _) (wpAny_newObj_type (wpAny_pure ⟨_, rfl, wpAny_pure h⟩) htake)
    | exact wpAny_bind (m := Builtin.Tuple.tupleExact _) (wpAny_newObj_type (wpAny_bind (wpAny_pure (wpAny_pure ⟨_, rfl, wpAny_pure h⟩))) htake)
    | exact wpAny_bind (wpAny_bind (m := Builtin.Tuple.tupleExact _) (wpAny_newObj_type (wpAny_pure (wpAny_pure ⟨_, rfl, wpAny_pure h⟩)) htake))
    | exact wpAny_bind (wpAny_bind (m := Builtin.Tuple.tupleExact _) (wpAny_newObj_type (wpAny_pure ⟨_, rfl, wpAny_pure h⟩) htake))
end
end HT
namespace L2
open PySem PySem.Spec PyProof.Rows
def tRevT (K : PySem.W.Frag) (te : TE) : TE := fun σ H Q => te σ H fun x H1 => ∃ a xs, x = .ref a ∧ SqT K H1 a xs ∧ ∀ p, H1 p = none → Q (.ref p) (upd H1 p (.tup xs.reverse))
section
variable {X : Cx}
theorem pe_revT {e : Expr} {te : TE} {k : Nat} {p1 p2 p3 pos : Pos} {K : PySem.W.Frag} (hK : X.K = K) (he : PE X e te) : PE X (.Subscript e (.Slice none none (some (.UnaryOp .USub (.Constant (.int 1) k p1) p2)) p3) pos) (tRevT K te) := by
  subst hK
  refine ⟨fun pins s σ H Q I h => ?_⟩
  refine Subscript_ (thn (he.run pins s σ H _ I h) fun v s1 ⟨x, H1, I1, r1, q1⟩ => ?_)
  obtain ⟨a, xs, ex, hx, q⟩ := q1
  subst ex
  cases r1
  have hst : PO X (some (.UnaryOp .USub (.Constant (.int 1) k p1) p2)) (tPart (tUn (rU fun i => .int (-i)) (tC (.int 1)))) := po_some (pe_un un_neg pe_int)
  refine wpAny_Slice (thn (po_none.run pins s1 σ H1 (fun o H2 => o = none ∧ H2 = H1) I1 ⟨rfl, rfl⟩) fun vl s2 ⟨l, H2, I2, pl, el, e2⟩ => ?_)
  subst el e2
  refine thn (po_none.run pins s2 σ H2 (fun o H3 => o = none ∧ H3 = H2) I2 ⟨rfl, rfl⟩) fun vu s3 ⟨u, H3, I3, pu, eu, e3⟩ => ?_
  subst eu e3
  refine thn (hst.run pins s3 σ H3 (fun o H4 => o = some (-1) ∧ H4 = H3) I3 ⟨1, rfl, -1, rfl, rfl, rfl⟩) fun vs s4 ⟨o, H4, I4, ps, eo, e4⟩ => ?_
  subst eo e4
  have I5 : Inv X pins σ H4 { s4 with heap := s4.heap.push { cls := .type "slice", data := .fields #[vl, vu, vs] } } := I4.kept (t' := s4.toks) fun b ob q => Heap.get?_push_of_some _ q
  obtain ⟨its, r, ht, hz⟩ := I5.tuple hx
  have hlen := r.length
  show wpAny (model X.prog X.w) X.A (subscriptTail e (.Slice none none (some (.UnaryOp .USub (.Constant (.int 1) k p1) p2)) p3) (.ref a) (.ref s4.heap.objs.size)) (EP X pins σ Q) X.xe { s4 with heap := s4.heap.push { cls := .type "slice", data := .fields #[vl, vu, vs] } }
  refine tail_any (ops := [.ref a, .ref s4.heap.objs.size]) ht.typeIs (PyProof.Rows.slot_tuple_getitem.lookup) ?_ (by with_unfolding_all rfl)
  refine HT.getItem_tuple_rev ht (Heap.IsSliceOf.new _ vl vu vs) pl pu ps ?_ (by rw [List.size_toArray]; omega)
  refine ⟨.ref _, _, I5.laid (t' := s4.toks) (o := .tup xs.reverse) (fun b ob q => Heap.get?_push_of_some _ q) (Nat.le_refl _) ?_, rfl, q _ (I5.hok.fresh (Nat.le_refl _))⟩
  exact ⟨by rw [List.length_reverse]; exact hz, _, r.reverse, IsTup.new _ _⟩
/-- nested data of one shape -/
def rLtD (K : PySem.W.Frag) : R2 := fun x y H Q => ∃ d e, Dp K H x d ∧ Dp K H y e ∧ PySem.W.alike d e = true ∧ d ≠ .none ∧ d.depth ≤ 64 ∧ Q (.bl (PySem.W.dataLt d e)) H
theorem op_ltD (hu : X.A.units + 64 < cLine) : OpR X (compareOp .Lt) (rLtD X.K) := by
  intro pins s σ H x y v u Q I rx ry h
  obtain ⟨d, e, hd, he, al, nn, dep, q⟩ := h
  obtain ⟨as, r1⟩ := Dp.reads I d x v hd rx
  obtain ⟨bs, r2⟩ := Dp.reads I e y u he ry
  exact PySem.W.rcLt_alike d e X.A s v u as bs r1 r2 al nn (by have := Nat.min_le_left d.depth e.depth; omega) X.prog X.w _ _ ⟨.bl _, H, I, rfl, q⟩
theorem cr_range1 : CallR X (.type "range") (fun vs H Q => ∃ j, vs = [V.int j] ∧ ∀ p, H p = none → Q (.ref p) (upd H p (.rng 0 j))) := by
  intro pins s σ H vs us Q I r h
  obtain ⟨j, rfl, q⟩ := h
  obtain ⟨u1, rfl, rj⟩ : ∃ u1, us = [u1] ∧ RelV (.int j) u1 := by
    cases r with
    | cons r rr =>
      cases rr
      exact ⟨_, rfl, r⟩
  obtain ⟨u, rfl⟩ := rj
  refine call_range_1 ⟨.ref s.heap.objs.size, upd H s.heap.objs.size (.rng 0 j), I.laid (t' := s.toks + 1 + 1) (fun b o e => Heap.get?_push_of_some _ e) (Nat.le_refl _) ?_, rfl, q _ (I.hok.fresh (Nat.le_refl _))⟩
  exact ⟨s.toks, u, s.toks + 1, Heap.get?_push_size _ rfl⟩
theorem op_notIn_rng : OpR X (compareOp .NotIn) (fun x y H Q => ∃ i a lo hi, x = V.int i ∧ y = V.ref a ∧ H a = some (.rng lo hi) ∧ Q (.bl (!decide (lo ≤ i ∧ i < hi))) H) := by
  intro pins s σ H x y v u Q I rx ry h
  obtain ⟨i, a, lo, hi, rfl, rfl, ha, q⟩ := h
  obtain ⟨k, rfl⟩ := rx
  obtain rfl : u = Value.ref a := ry
  obtain ⟨t1, t2, t3, ho⟩ := I.hok a _ ha
  show wpAny _ _ (do return Value.bool (!(← contains (Value.ref a) (Value.int i k)))) _ _ s
  refine wpAny_bind (wpAny_contains_slot (T := "range") ⟨_, ho, rfl⟩ F.slot_range_contains (call_meets F.slot_range_contains ⟨_, ho, rfl⟩ F.entry_range_contains (F.args_range_contains_2 _ _) (q_contains a lo hi i t1 t2 t3 k)
    ⟨ho, wpAny_truthy_bool (wpAny_pure ⟨.bl _, H, I, rfl, ?_⟩)⟩))
  rw [place1]
  exact q
end
end L2

/-! ### tuple(d.values()) -/
namespace L2
open PySem PySem.Spec PyProof.Rows PySem.W
section
variable {prog : Program} {w : World} {A : Around} {E : Value → Shared → Prop} {s : Shared} {T : String} {r d : Addr} {n : Nat} {P : Nat → Value → Prop} {OK : Heap → Prop}
theorem collect_kdl {Q : List Value → Shared → Prop} (K : KdlSrc prog w T r d n P OK) (hh : A.handled = none) (hok : OK s.heap) (hn : n ≤ sizeLine)
    (hQ : ∀ (h' : Heap) (tk : Nat) (acc : Array Value), (∀ b o, s.heap.get? b = some o → h'.get? b = some o) → ItemsOf P acc n → Q acc.toList { s with heap := h', toks := tk }) :
    wpAny (model prog w) A (collect (.ref r)) Q E s := by
  have hlt := K.there _ hok
  unfold collect
  refine wpAny_bind (wpAny_runValue (codeAny_builtin F.entry_proto_collect ?_))
  rw [Around.under_plainId F.plain_proto_collect _]
  show wpAny _ A.in1 (newList [] >>= fun l => again (.builtin "list.__iadd__" ⟨[l, .ref r], []⟩)) _ _ s
  refine wpAny_bind (wpAny_newObj_type ?_)
  refine wpAny_pure ⟨plainId_quiet F.plain_list_iadd _, codeAny_builtin F.entry_list_iadd ?_⟩
  rw [Around.under_plainId F.plain_list_iadd _]
  show wpAny _ A.in1 (Builtin.List.listExtendWith (.ref s.heap.objs.size) (.ref r) (.ref s.heap.objs.size)) _ _ _
  have hS : (s.heap.push { cls := .type "list", data := .seq ([] : List Value).toArray }).get? s.heap.objs.size = some { cls := .type "list", data := .seq #[] 0 } := Heap.get?_push_size _ rfl
  refine wpAny_mono (kdl_extend (A := A) (R := fun rr s' => rr = .ok (.ret (.ref s.heap.objs.size)) ∧ ∃ (h' : Heap) (tk : Nat) (acc : Array Value) (c' : Nat), s' = { s with heap := h', toks := tk } ∧
      (∀ b o, s.heap.get? b = some o → h'.get? b = some o) ∧ h'.get? s.heap.objs.size = some { cls := .type "list", dict := none, data := .seq acc c', slots := #[] } ∧ ItemsOf P acc n)
    (s := { s with heap := s.heap.push { cls := .type "list", data := .seq ([] : List Value).toArray } }) K hh (K.keep _ _ hok fun b _ o e => Heap.get?_push_of_some _ e) _ (Nat.ne_of_gt hlt.1) (Nat.ne_of_gt hlt.2) _ 0 hS
    (fun h' tk acc c' hk e hi => ⟨rfl, h', tk, acc, c', rfl, fun b o q => hk b o (Nat.ne_of_lt (Heap.lt_size q)) (Heap.get?_push_of_some _ q), e, hi⟩) hn) (fun fin s' h => ?_) (fun e s' h => ?_)
  · cases fin with
    | done f =>
      obtain ⟨e, h', tk, acc, c', rfl, hk, hS', hi⟩ := h
      cases e
      show wpAny _ A (load s.heap.objs.size >>= _) _ _ _
      exact wpAny_bind (wpAny_load hS' (wpAny_pure (hQ h' tk acc hk hi)))
    | again c' =>
      refine ⟨h.1, codeAny_mono h.2 fun rr s'' hr' => ?_⟩
      obtain ⟨rfl, h', tk, acc, c', rfl, hk, hS', hi⟩ := hr'
      show wpAny _ A (load s.heap.objs.size >>= _) _ _ _
      exact wpAny_bind (wpAny_load hS' (wpAny_pure (hQ h' tk acc hk hi)))
  · exact absurd h.1 (by simp)
theorem code_tuple_new_kdl {Q₁ : Value → Shared → Prop} (K : KdlSrc prog w "dict_values" r d n P OK) (hh : A.handled = none) (hok : OK s.heap) (hn : n ≤ sizeLine)
    (h : ∀ (h' : Heap) (tk : Nat) (acc : Array Value), (∀ b o, s.heap.get? b = some o → h'.get? b = some o) → ItemsOf P acc n →
      Q₁ (.ref h'.objs.size) { s with heap := h'.push { cls := .type "tuple", data := .seq acc }, toks := tk }) :
    codeAny (model prog w) A (.call (.builtin "tuple.__new__") ⟨[.type "tuple", .ref r], []⟩) (wants Q₁ E) s := by
  refine codeAny_of_tree ?_
  show wpAny _ A.in1 (do checkBuiltinCall "tuple.__new__" ⟨[.type "tuple", .ref r], []⟩; again (.builtin "tuple.__new__" ⟨[.type "tuple", .ref r], []⟩)) _ _ s
  refine wpAny_bind (wpAny_of_eq (F.newCall_tuple_1 _) (wpAny_pure ⟨plainId_quiet F.plain_tuple_new _, codeAny_builtin F.entry_tuple_new ?_⟩))
  rw [Around.under_plainId F.plain_tuple_new _]
  have hsub := sub_tuple_self
  have hinit := init_tuple_lookup
  have hmh := madeHere_tuple
  have hTI : s.TypeIs (.ref r) "dict_values" := K.type s hok
  have hh1 : A.in1.handled = none := hh
  wp_walk using wpAny_typeOf hTI, collect_kdl (A := A.in1) K hh1 hok hn
  intro h' tk acc hk hacc
  show wpAny _ _ (Builtin.Tuple.tupleExact acc.toList.toArray >>= fun v => ret v) _ _ _
  unfold Builtin.Tuple.tupleExact
  refine wpAny_bind (wpAny_newObj_type ?_ (by show acc.toList.toArray.size ≤ sizeLine; simp only [Array.toArray_toList]; rw [hacc.1]; exact hn))
  refine wpAny_pure ?_
  have e : acc.toList.toArray = acc := by simp
  rw [e]
  exact h h' tk acc hk hacc
theorem call_tuple_kdl {Q : Value → Shared → Prop} (K : KdlSrc prog w "dict_values" r d n P OK) (hh : A.handled = none) (hok : OK s.heap) (hn : n ≤ sizeLine)
    (hQ : ∀ (h' : Heap) (tk : Nat) (acc : Array Value), (∀ b o, s.heap.get? b = some o → h'.get? b = some o) → ItemsOf P acc n →
      Q (.ref h'.objs.size) { s with heap := h'.push { cls := .type "tuple", data := .seq acc }, toks := tk }) :
    wpAny (model prog w) A (call (.type "tuple") [.ref r]) Q E s := by
  refine callType_codes (Q₁ := fun obj s₁ => s₁.TypeIs obj "tuple" ∧ Q obj s₁) F.called_tuple (F.typeCall_tuple_1 _) F.entry_object_init
    (code_tuple_new_kdl (A := A.in1) K hh hok hn fun h' tk acc hk hacc => ⟨⟨_, Heap.get?_push_size _ rfl, rfl⟩, hQ h' tk acc hk hacc⟩) fun obj s₁ h₁ => ?_
  exact ⟨h₁.1, F.args_object_init_2 obj _, object_init_meets F.called_tuple.init.lookup F.called_tuple.made (by decide) prog w A.in1 _ s₁ ⟨h₁.1, rfl, h₁.2⟩⟩
end
def tTupVals (td : TE) : TE := fun σ H Q => td σ H fun x H1 => ∃ a kvs, x = V.ref a ∧ H1 a = some (.dK kvs) ∧ ∀ p, H1 p = none → Q (.ref p) (upd H1 p (.tup (kvs.map (·.2))))
section
variable {X : Cx} {o : Expr} {p pos apos mpos : Pos} {td : TE}
theorem pe_tupVals (hc : X.calm = true) (hg : Gl X "tuple") (hm : X.mg "tuple" = none) (hd : PE X o td) (hbase : attributeBase o "values" X.env (eval o X.env) = eval o X.env := by rfl) (hline : (apos.endLine == mpos.line) = true := by rfl)
    (hse : starEach [Expr.Call (.Attribute o "values" apos) [] [] mpos] X.env = [(false, eval (Expr.Call (.Attribute o "values" apos) [] [] mpos) X.env)] := by rfl) :
    PE X (.Call (.Name "tuple" p) [.Call (.Attribute o "values" apos) [] [] mpos] [] pos) (tTupVals td) := by
  refine ⟨fun pins s σ H Q I h => ?_⟩
  have hse2 : starEach [Expr.Call (.Attribute o "values" apos) [] [] mpos] X.env = (false, eval (Expr.Call (.Attribute o "values" apos) [] [] mpos) X.env) :: starEach [] X.env := hse
  refine Call_ (ld_blt I hg hm boot_tuple (PyProof.Rows.callWith_type1 (args_cons (wpAny_Call_method0_late hbase hline (thn (hd.run pins s σ H _ I h) fun v s1 ⟨x, H1, I1, r1, a, kvs, ex, ha, q⟩ => ?_)) hse2) hse2 rfl))
  subst ex
  obtain rfl : v = Value.ref a := r1
  obtain ⟨z, hsys, vs, rel, dof⟩ := dk_of I1.hok ha
  obtain ⟨ep, dat⟩ := dof.dictAt
  have dat' := dat
  obtain ⟨ob, es, ho, ex, hdat, hko, hpr, hnd⟩ := dat'
  refine ⟨"dict", "dict.values", F.plainAttrs_dict, F.slot_dict_values, F.type_dict_values, ⟨ob, ho, ex.1⟩, fun b e => ?_, Calls.callWith_builtin rfl (PySem.evalArgs_none ?_)⟩
  · cases e
    exact ⟨ob, ho, ex.2.1⟩
  refine call_meetsIn F.slot_dict_values ⟨ob, ho, ex.1⟩ F.entry_dict_values (F.args_dict_values_1 _) (meets_dict_values (mixKind X.prog X.w) a hsys) ⟨⟨vs, dof⟩, ?_⟩
  have k1 : ∀ b u, s1.heap.get? b = some u → (s1.heap.push { cls := .type "dict_values", data := .fields #[.ref a] }).get? b = some u := fun b u e => Heap.get?_push_of_some _ e
  have dat1 : (s1.heap.push { cls := .type "dict_values", data := .fields #[.ref a] }).DictAt (mixKind X.prog X.w) a vs ep := dat.keep k1
  refine args_nil ?_
  have hl : kvs.length = vs.length := Paired.length rel
  have I2 : Inv X pins σ H1 { s1 with heap := s1.heap.push { cls := .type "dict_values", data := .fields #[.ref a] } } := I1.kept (t' := s1.toks) k1
  refine call_tuple_kdl (kdl_values (knd := mixKind X.prog X.w) (d := a) (r := s1.heap.objs.size) (kvs := vs) (ep := ep)) (I.ok.hd hc) ⟨⟨_, Heap.get?_push_size _ rfl, rfl, rfl⟩, dat1⟩ (by rw [← hl]; exact z) fun h' tk acc hk hacc => ?_
  have I3 : Inv X pins σ H1 { s1 with heap := h', toks := tk } := I2.kept (t' := tk) hk
  refine ⟨.ref h'.objs.size, upd H1 h'.objs.size (.tup (kvs.map (·.2))), I3.laid (t' := tk) (fun b o e => Heap.get?_push_of_some _ e) (Nat.le_refl _) (show ObjOk X.prog X.w _ _ _ (.tup (kvs.map (·.2))) from ⟨by rw [List.length_map]; exact z, acc.toList, ?_, by rw [Array.toArray_toList]; exact IsTup.new _ _⟩), rfl, q _ (I3.hok.fresh (Nat.le_refl _))⟩
  have el : acc.toList.length = acc.size := by simp
  refine vals_of_at (by rw [List.length_map, el, hacc.1, hl]) fun j x w h1 h2 => ?_
  obtain ⟨k, hky⟩ := hacc.2 j w (by rw [← Array.getElem?_toList]; exact h2)
  obtain ⟨y, h3, h4⟩ := KV.at' rel hky
  rw [List.getElem?_map, h3] at h1
  cases h1
  exact h4
end
end L2

/-! ### enumerate over a tuple (the hand layer has it over a list) -/
namespace PySem
open Sem (wp)
open AutoSeq1 (wpAny_loadPart')
theorem new_enumT (t : Addr) (its : Array Value) (n : Nat) (dc : Option Addr) (sl : Array (Option Value)) :
    Meets (Builtin.«enumerate.__new__» ⟨[.type "enumerate", .ref t], []⟩) (fun _ R s => s.heap.get? t = some { cls := .type "tuple", dict := dc, data := .seq its n, slots := sl } ∧
      R (.ok (.ret (.ref (s.heap.push { cls := .type "tuple_iterator", data := .fields #[.ref t, .int 0 0] }).objs.size)))
        { s with heap := (s.heap.push { cls := .type "tuple_iterator", data := .fields #[.ref t, .int 0 0] }).push { cls := .type "enumerate", data := .fields #[.none, .bool false, .ref s.heap.objs.size, rawInt 0, .none, .none] } }) :=
  .of_wp fun prog w A R s both => by
    obtain ⟨hp, g, d, tk, os⟩ := s
    obtain ⟨ht, both⟩ := both
    have below := sub_enumerate
    have tup : Heap.IsTuple (Shared.heap ⟨hp, g, d, tk, os⟩) t its := ⟨_, ht, rfl, n, rfl⟩
    wp_walk using wpAny_loadPart' ht
    refine wpAny_stack_any fun _ => wpAny_pure ?_
    split
    · rename_i c _ _ _ _ _
      cases (c == Value.type "enumerate")
      · wp_walk using wpAny_loadPart' ht, wpAny_pyIter_tuple tup
        exact ⟨_, rfl, both⟩
      · wp_walk using wpAny_loadPart' ht, wpAny_pyIter_tuple tup
        exact ⟨_, rfl, both⟩
    · wp_walk using wpAny_loadPart' ht, wpAny_pyIter_tuple tup
      exact ⟨_, rfl, both⟩
section
variable {prog : Program} {w : World} {A : Around} {E : Value → Shared → Prop} {s : Shared}
theorem call_enumT {t : Addr} {its : Array Value} {Q : Value → Shared → Prop} (ht : s.heap.IsTuple t its)
    (q : ∀ h', IsEnum h' (s.heap.objs.size + 1) s.heap.objs.size 0 .none → h'.IsTupleIter s.heap.objs.size t 0 →
      (∀ b o, s.heap.get? b = some o → h'.get? b = some o) → Q (.ref (s.heap.objs.size + 1)) { s with heap := h' }) :
    wpAny (model prog w) A (call (.type "enumerate") [.ref t]) Q E s := by
  obtain ⟨⟨c, dc, da, sl⟩, ht, ec, n, ed⟩ := ht
  obtain rfl : c = .type "tuple" := ec
  obtain rfl : da = .seq its n := ed
  refine callType_new F.called_enumerate (by decide) (F.typeCall_enumerate_1 _) (F.newCall_enumerate_1 _) (fun ob => F.args_object_init_2 ob _) F.entry_enumerate_new (new_enumT t its n dc sl) ⟨ht, ?_⟩
  have sz : (s.heap.push { cls := .type "tuple_iterator", data := .fields #[.ref t, .int 0 0] }).objs.size = s.heap.objs.size + 1 := Heap.size_push ..
  show _ ∧ _
  rw [sz]
  have en : IsEnum ((s.heap.push { cls := .type "tuple_iterator", data := .fields #[.ref t, .int 0 0] }).push { cls := .type "enumerate", data := .fields #[.none, .bool false, .ref s.heap.objs.size, rawInt 0, .none, .none] })
      (s.heap.objs.size + 1) s.heap.objs.size 0 .none := by
    have z := Heap.get?_push_size (s.heap.push { cls := .type "tuple_iterator", data := .fields #[.ref t, .int 0 0] }) (o := { cls := .type "enumerate", data := .fields #[.none, .bool false, .ref s.heap.objs.size, rawInt 0, .none, .none] }) rfl
    rw [sz] at z
    exact z
  exact ⟨⟨_, en, rfl⟩, q _ en ⟨_, Heap.get?_push_of_some _ (Heap.get?_push_size _ rfl), rfl, rfl⟩ fun b o x => Heap.get?_push_of_some _ (Heap.get?_push_of_some _ x)⟩
end
end PySem
namespace L2
open PySem PySem.Spec PyProof.Rows
/-- the tuple at a, each item in a new pair behind its index -/
def IteT (K : PySem.W.Frag) (a : Addr) : It :=
  ⟨fun i H => ∃ (ys : List V) (y : V), SqT K H a ys ∧ ys[i]? = some y, fun i H v H' => ∃ p y, v = .ref p ∧ H p = none ∧ H' = upd H p (.tup [.int (i : Nat), y]) ∧ ∀ ys, SqT K H a ys → ys[i]? = some y,
    fun i H => ∃ ys : List V, SqT K H a ys ∧ ys.length = i⟩
theorem turn_enumT {P : Program} {w : World} {K : PySem.W.Frag} {elts : List Expr} {kk : Nat} {tp : Pos} (a e it : Addr) :
    Turn P w K (.Tuple elts kk tp) (IteT K a) [e, it] e (fun i h => (∃ old, IsEnum h e it ((i : Nat) : Int) old) ∧ h.IsTupleIter it a i ∧ (e ≠ it ∧ a ≠ it ∧ a ≠ e)) where
  mem := by simp
  obj := fun i h st b hb => by
    obtain ⟨⟨old, he⟩, ⟨o, ho, _, dd⟩, _⟩ := st
    rcases (show b = e ∨ b = it by simpa using hb) with rfl | rfl
    · exact ⟨_, he, fun v z => nomatch z⟩
    · exact ⟨o, ho, fun v z => by rw [dd] at z; exact nomatch z⟩
  keep := fun i h h' st k => by
    obtain ⟨⟨old, he⟩, ⟨o, ho, r⟩, ne⟩ := st
    exact ⟨⟨old, k e (by simp) _ he⟩, ⟨o, k it (by simp) _ ho, r⟩, ne⟩
  item := by
    intro X hP hw hK hc i pins s σ H E I hf st hg
    subst hP hw hK
    obtain ⟨⟨old, he⟩, hit, ne, nai, nae⟩ := st
    obtain ⟨ys, y, hq, hy⟩ := hg
    obtain ⟨its, rv, p, hz⟩ := I.tuple hq
    obtain ⟨u, hu, ru⟩ := rv.get hy
    have szE : e < s.heap.objs.size := Heap.lt_size he
    have szI : it < s.heap.objs.size := by
      obtain ⟨_, z, _⟩ := hit
      exact Heap.lt_size z
    have small : ∀ b ∈ [e, it], b < s.heap.objs.size := fun b hb => by
      rcases (show b = e ∨ b = it by simpa using hb) with rfl | rfl <;> assumption
    have D := Draws.tuple (prog := X.prog) (w := X.w) (A := X.A.in1) (I.ok.hd hc) it a nai its.toArray
    have hlt : i < its.toArray.size := by
      have := (List.getElem?_eq_some_iff.mp hu).1
      simpa using this
    refine wpAny_pyNext_enum_itemD D he ⟨hit, p⟩ hlt ne (by simp only [List.mem_cons, List.not_mem_nil, or_false, not_or]; exact ⟨ne, Ne.symm nae⟩) fun x h' tk hx ho st2 hT hsz hk => ?_
    obtain ⟨hit2, _⟩ := st2
    have ex : x = u := by
      have h2 : its.toArray[i]? = some u := by simpa using hu
      rw [h2] at hx
      exact (Option.some.inj hx).symm
    subst ex
    refine ⟨_, rfl, wpAny_letOwnedTupleGo_enum (s := { s with heap := h', toks := tk + 1 }) ho fun h'' he' sb => ?_⟩
    have hT2 : h''.get? s.heap.objs.size = some { cls := .type "tuple", data := .seq #[.int i tk, x] } := (sb.2 _ (Nat.ne_of_gt szE)).trans hT
    have okN : ObjOk X.prog X.w (upd H s.heap.objs.size (.tup [.int (i : Nat), y])) h'' s.heap.objs.size (.tup [.int (i : Nat), y]) :=
      ⟨by show 2 ≤ sizeLine; decide, [.int i tk, x], .cons ⟨_, rfl⟩ (.cons ru .nil), ⟨_, hT2, rfl, _, rfl⟩⟩
    have J : Inv X pins σ (upd H s.heap.objs.size (.tup [.int (i : Nat), y])) { s with heap := h'', toks := tk + 1 } :=
      I.turnedNew (ch := [e, it]) (fun b ob hb z => (sb.2 b (fun y => hb (by simp [y]))).trans (hk b ob (fun y => hb (by simp [y])) (fun y => hb (by simp [y])) z)) hf (Nat.le_refl _) okN
    refine ⟨.ref s.heap.objs.size, _, J, rfl, ⟨_, y, rfl, I.hok.fresh (Nat.le_refl _), rfl, fun zs hs => by rw [I.tuple_inj hs hq]; exact hy⟩, ⟨⟨x, ?_⟩, ?_, ne, nai, nae⟩, fun b hb => ?_⟩
    · rw [show ((i + 1 : Nat) : Int) = (i : Int) + 1 by omega]
      exact he'
    · obtain ⟨o, ho2, r⟩ := hit2
      exact ⟨o, (sb.2 it (Ne.symm ne)).trans ho2, r⟩
    · rw [upd_ne (Nat.ne_of_lt (small b hb))]
      exact (hf b hb).1
  done := by
    intro X hP hw hK hc i pins s σ H E I hf st hg
    subst hP hw hK
    obtain ⟨⟨old, he⟩, hit, ne, nai, nae⟩ := st
    obtain ⟨ys, hq, hle⟩ := hg
    obtain ⟨its, rv, p, hz⟩ := I.tuple hq
    have len : its.toArray.size = i := by
      have := rv.length
      simp
      omega
    obtain ⟨g0, g1, _, g3, g4, g5⟩ := hf it (by simp)
    rw [← len] at hit
    have D := Draws.tuple (prog := X.prog) (w := X.w) (A := X.A.in1) (I.ok.hd hc) it a nai its.toArray
    exact wpAny_pyNext_enum_endD D he ⟨hit, p⟩ fun h' eb => ⟨rfl, I.turned (t' := s.toks) (fun b o hb z => eb b o hb z) g0 g1 g3 g4 g5⟩
  self := fun A i s Q E st h => by
    obtain ⟨⟨_, he⟩, _⟩ := st
    exact wpAny_pyIter_enum he h
def iEnumT (K : PySem.W.Frag) (ta : TA) : TI := fun σ H R => ta σ H fun vs H1 => ∃ a ys, vs = [.ref a] ∧ SqT K H1 a ys ∧ R (IteT K a) H1
theorem pi_enumT {X : Cx} {e : Expr} {ta : TA} {p pos tp : Pos} {elts : List Expr} {kk : Nat} (hg : Gl X "enumerate") (hm : X.mg "enumerate" = none) (ha : PA X [e] ta) (hs : starEach [e] X.env = [(false, eval e X.env)] := by rfl) :
    PI X (.Tuple elts kk tp) (.Call (.Name "enumerate" p) [e] [] pos) (iEnumT X.K ta) := by
  refine ⟨fun pins s σ H R I h => Call_ (ld_blt I hg hm boot_enumerate (PyProof.Rows.callWith_type1 (thn (ha.run pos pins s σ H _ I h) fun us s1 ⟨vs, H1, I1, r1, q1⟩ => ?_) hs rfl))⟩
  obtain ⟨a, ys, rfl, hq, q⟩ := q1
  cases r1 with
  | cons r rr =>
    cases rr
    cases r
    obtain ⟨its, rv, p', hz⟩ := I1.tuple hq
    have hp' : s1.heap.IsTuple a its.toArray := p'
    have old : a < s1.heap.objs.size := by
      obtain ⟨o, ho, _⟩ := hp'
      exact Heap.lt_size ho
    refine call_enumT hp' fun h' he hit hk => wpAny_pyIter_enum he ?_
    refine ⟨s1.heap.objs.size + 1, [s1.heap.objs.size + 1, s1.heap.objs.size], _, _, H1, rfl, I1.kept (t' := s1.toks) hk, turn_enumT a (s1.heap.objs.size + 1) s1.heap.objs.size,
      ⟨⟨.none, he⟩, hit, Nat.succ_ne_self _, Nat.ne_of_lt old, Nat.ne_of_lt (Nat.lt_succ_of_lt old)⟩, fun b hb => ?_, q⟩
    have hle : s1.heap.objs.size ≤ b := by
      rcases (show b = s1.heap.objs.size + 1 ∨ b = s1.heap.objs.size by simpa using hb) with rfl | rfl
      · exact Nat.le_succ _
      · exact Nat.le_refl _
    exact I1.fpOk hle (I1.hok.fresh hle)
theorem walk_enumT {K : PySem.W.Frag} {a : Addr} {xs : List V} : Walk (IteT K a) xs.length (fun H => SqT K H a xs) (YPair (fun i => some (.int (i : Nat))) (fun i => xs[i]?)) :=
  ⟨fun i H hi h => ⟨xs, _, h, List.getElem?_eq_getElem hi⟩, fun H h => ⟨xs, h, rfl⟩, fun i H v H' hi h y => by
    obtain ⟨p, z, rfl, np, rfl, hz⟩ := y
    exact ⟨p, _, z, rfl, np, rfl, rfl, hz xs h⟩⟩
end L2

/-! ### max and min of a tuple of ints -/
namespace L2
open PySem PySem.Spec PyProof.Rows
theorem readsAll_ints {h : Heap} : ∀ {ns : List Int} {its : List Value}, Vals (ns.map V.int) its → ReadsAll h its (ns.map PyData.int) []
  | [], _, .nil => .nil
  | n :: ns, _, .cons r t => by
    obtain ⟨k, rfl⟩ := r
    exact .cons (.int n k) (readsAll_ints t)
theorem alikeAll_ints (ns : List Int) : PySem.W.AlikeAll (ns.map PyData.int) := by
  refine ⟨fun x hx y hy => ?_, fun x hx => ?_⟩
  · obtain ⟨a, _, rfl⟩ := List.mem_map.mp hx
    obtain ⟨b, _, rfl⟩ := List.mem_map.mp hy
    simp [PySem.W.alike]
  · obtain ⟨a, _, rfl⟩ := List.mem_map.mp hx
    exact fun z => nomatch z
theorem depthAll_ints : ∀ ns : List Int, PyData.depthAll (ns.map PyData.int) = 0
  | [] => by simp [PyData.depthAll]
  | _ :: ns => by simp [PyData.depthAll, PyData.depth, depthAll_ints ns]
theorem foldl_max (x : Int) : ∀ xs : List Int, xs.foldl max x ∈ x :: xs ∧ ∀ y ∈ x :: xs, y ≤ xs.foldl max x := by
  intro xs
  induction xs generalizing x with
  | nil => exact ⟨List.mem_cons_self, fun y hy => by rw [List.mem_singleton.mp hy]; exact Int.le_refl _⟩
  | cons a xs ih =>
    obtain ⟨h1, h2⟩ := ih (max x a)
    rw [List.foldl_cons]
    have h3 := h2 _ List.mem_cons_self
    refine ⟨?_, fun y hy => ?_⟩
    · rcases List.mem_cons.mp h1 with e | e
      · rw [e]
        by_cases c : x ≤ a
        · rw [show max x a = a by omega]
          exact List.mem_cons_of_mem _ List.mem_cons_self
        · rw [show max x a = x by omega]
          exact List.mem_cons_self
      · exact List.mem_cons_of_mem _ (List.mem_cons_of_mem _ e)
    · rcases List.mem_cons.mp hy with rfl | hy
      · omega
      · rcases List.mem_cons.mp hy with rfl | hy
        · omega
        · exact h2 y (List.mem_cons_of_mem _ hy)
theorem foldl_min (x : Int) : ∀ xs : List Int, xs.foldl min x ∈ x :: xs ∧ ∀ y ∈ x :: xs, xs.foldl min x ≤ y := by
  intro xs
  induction xs generalizing x with
  | nil => exact ⟨List.mem_cons_self, fun y hy => by rw [List.mem_singleton.mp hy]; exact Int.le_refl _⟩
  | cons a xs ih =>
    obtain ⟨h1, h2⟩ := ih (min x a)
    rw [List.foldl_cons]
    have h3 := h2 _ List.mem_cons_self
    refine ⟨?_, fun y hy => ?_⟩
    · rcases List.mem_cons.mp h1 with e | e
      · rw [e]
        by_cases c : x ≤ a
        · rw [show min x a = x by omega]
          exact List.mem_cons_self
        · rw [show min x a = a by omega]
          exact List.mem_cons_of_mem _ List.mem_cons_self
      · exact List.mem_cons_of_mem _ (List.mem_cons_of_mem _ e)
    · rcases List.mem_cons.mp hy with rfl | hy
      · omega
      · rcases List.mem_cons.mp hy with rfl | hy
        · omega
        · exact h2 y (List.mem_cons_of_mem _ hy)
def rMaxTI (K : PySem.W.Frag) : List V → Hp → VK → Prop := fun vs H Q => ∃ (a : Addr) (ns : List Int), vs = [V.ref a] ∧ SqT K H a (ns.map V.int) ∧ 0 < ns.length ∧ ∀ m, m ∈ ns → (∀ y, y ∈ ns → y ≤ m) → Q (.int m) H
def rMinTI (K : PySem.W.Frag) : List V → Hp → VK → Prop := fun vs H Q => ∃ (a : Addr) (ns : List Int), vs = [V.ref a] ∧ SqT K H a (ns.map V.int) ∧ 0 < ns.length ∧ ∀ m, m ∈ ns → (∀ y, y ∈ ns → m ≤ y) → Q (.int m) H
section
variable {X : Cx}
theorem cr_maxTI (hc : X.calm = true) (hu : X.A.units + 64 < cLine) : CallR X (.builtin "max") (rMaxTI X.K) := by
  intro pins s σ H vs us Q I r h
  obtain ⟨a, ns, rfl, hs, hne, q⟩ := h
  obtain ⟨its, rv, hl, _⟩ := I.tuple hs
  rw [Vals.ref1 r]
  cases ns with
  | nil => exact absurd hne (Nat.lt_irrefl 0)
  | cons x xs =>
    have hr : ReadsAll s.heap its.toArray.toList (PyData.int x :: xs.map PyData.int) [] := readsAll_ints rv
    refine PySem.W.max_tuple_data (I.ok.hd hc) hl hr (alikeAll_ints (x :: xs)) (by rw [show PyData.int x :: xs.map PyData.int = (x :: xs).map PyData.int from rfl, depthAll_ints]; omega) fun i v h' tk bs _ hv hk => ?_
    rw [PySem.W.maxD_ints] at hv
    obtain ⟨m1, m2⟩ := foldl_max x xs
    cases hv
    exact ⟨.int _, H, I.kept hk, ⟨_, rfl⟩, q _ m1 m2⟩
theorem cr_minTI (hc : X.calm = true) (hu : X.A.units + 64 < cLine) : CallR X (.builtin "min") (rMinTI X.K) := by
  intro pins s σ H vs us Q I r h
  obtain ⟨a, ns, rfl, hs, hne, q⟩ := h
  obtain ⟨its, rv, hl, _⟩ := I.tuple hs
  rw [Vals.ref1 r]
  cases ns with
  | nil => exact absurd hne (Nat.lt_irrefl 0)
  | cons x xs =>
    have hr : ReadsAll s.heap its.toArray.toList (PyData.int x :: xs.map PyData.int) [] := readsAll_ints rv
    refine PySem.W.min_tuple_data (I.ok.hd hc) hl hr (alikeAll_ints (x :: xs)) (by rw [show PyData.int x :: xs.map PyData.int = (x :: xs).map PyData.int from rfl, depthAll_ints]; omega) fun i v h' tk bs _ hv hk => ?_
    rw [PySem.W.minD_ints] at hv
    obtain ⟨m1, m2⟩ := foldl_min x xs
    cases hv
    exact ⟨.int _, H, I.kept hk, ⟨_, rfl⟩, q _ m1 m2⟩
end
end L2

/-! ### str(data), and calls of defs that show data, where nothing is being shown -/
namespace L2
open PySem PySem.Spec PyProof.Rows
def rStrD (K : PySem.W.Frag) : List V → Hp → VK → Prop := fun xs H Q => ∃ a d, xs = [.ref a] ∧ Dp K H (.ref a) d ∧ SeqAt.shaped d = true ∧ d.showable = true ∧ wt d ≤ sizeLine ∧ Q (.str d.shown) H
theorem cr_strD {X : Cx} {K : PySem.W.Frag} (hK : X.K = K) (hg : X.A.guards = some []) (hu : X.A.units + 67 < cLine) : CallR X (.type "str") (rStrD K) := by
  subst hK
  intro pins s σ H vs us Q I r h
  obtain ⟨a, d, rfl, hd, hs, hw, hz, q⟩ := h
  cases r with
  | cons rv rn =>
    rename_i v us'
    cases rn
    have hs' : (d.canLay0 && decide (d.depth ≤ 64)) = true := hs
    rw [Bool.and_eq_true] at hs'
    have nd := PyData.hasDict_of_canLay d hs'.1
    have dep : d.depth ≤ 64 := of_decide_eq_true hs'.2
    have sz := Nat.le_trans (shown_wt d hw nd) hz
    obtain ⟨as, rd⟩ := Dp.reads I d (.ref a) v hd rv
    cases rv
    exact str_of_reads rd hw (PyData.noDict_hsm nd) hg (by omega) (fun _ _ e => e) (fun h' u tk hk => ⟨.str _, H, I.kept (t' := tk) hk, ⟨u, rfl⟩, q⟩) sz
section
variable {X : Cx} {k : Nat} {f : Addr} {fd : FuncData} {ps : List Str} {sp : Sp} {ds : List Value} {dvs : List V}
theorem run_fnG {pins : List (Addr × Obj)} {σ : St} {H : Hp} {s : Shared} {Q : VK} {us : List Value} {vs : List V} (hgu : X.A.guards = some []) (F : FnG X.prog X.w X.K X.mg X.base k f fd ps sp) (hr : Room k X.A) (hb : Binds X.K fd ps ds) (hd : Vals dvs ds)
    (I : Inv X pins σ H s) (r : Vals vs us) (h : sp (vs ++ dvs) H Q E0) : wpAny (model X.prog X.w) X.A (call (.ref f) us) (EP X pins σ Q) X.xe s := by
  have r2 : Vals (vs ++ dvs) (us ++ ds) := r.append hd
  have hl : (us ++ ds).length = ps.length := by rw [← r2.length]; exact F.len _ _ _ _ h
  refine wpAny_call (codeAny_mono (F.run X.A X.stack s H ⟨us, []⟩ (us ++ ds) (vs ++ dvs) Q E0 hgu hr I.env0 (hb s us I.kIn hl) r2 h) fun r s' hq => ?_)
  cases r with
  | error e => exact pass0 pins σ H s e s' I hq
  | ok fl =>
    cases fl with
    | ret u => exact I.after hq
    | next => exact False.elim hq
    | brk => exact False.elim hq
    | cont => exact False.elim hq
theorem pe_callG {x : Str} {e : Expr} {es : List Expr} {p pos : Pos} {t : TA} (hgu : X.A.guards = some []) (F : FnG X.prog X.w X.K X.mg X.base k f fd ps sp) (hr : Room k X.A) (hg : Gl X x) (hm : X.mg x = some (.ref f)) (hk : PySem.W.keepIn X.K (.ref f) = true) (hb : Binds X.K fd ps ds) (hd : Vals dvs ds)
    (ha : PA X (e :: es) t) (hdb : (x == ("__debug__" : Str)) = false := by decide) (he : starEach (e :: es) X.env = (false, eval e X.env) :: starEach es X.env := by rfl) (hpl : (backTo pos (starEach es X.env)).any (·.1) = false := by rfl) :
    PE X (.Call (.Name x p) (e :: es) [] pos) (tCall sp dvs E0 t) := by
  refine ⟨fun pins s σ H Q I h => ?_⟩
  refine wpAny_Call_Name_kw (ld_glob I hg hm ?_ hdb)
  refine PySem.W.callWith_K (h₀ := X.base) I.ok.mod.kin hk (thn (ha.run pos pins s σ H _ I h) fun us s1 ⟨vs, H1, I1, r, q⟩ => ⟨I1.kIn, ?_⟩) he hpl
  exact run_fnG hgu F hr hb hd I1 r q
end
end L2

/-! ### fe(e, ..), fe an expression that gives one of several defs -/
namespace L2
open PySem PySem.Spec PyProof.Rows
structure HeldX (P : Program) (w : World) (K : PySem.W.Frag) (mg : Str → Option Value) (base : Heap) (CX : CXT) (k : Nat) (f : Addr) (sp : Sp) : Prop where
  ex : ∃ (fd : FuncData) (ps : List Str), FnOk P w K mg base CX k f fd ps sp ∧ PySem.W.keepIn K (.ref f) = true ∧ Binds K fd ps []
def tCallE (S : Addr → Option Sp) (E : St → XK) (tf : TE) (t : TA) : TE := fun σ H Q => tf σ H fun y H1 => ∃ f sp, y = V.ref f ∧ S f = some sp ∧ t σ H1 fun vs H2 => sp vs H2 Q (E σ)
section
variable {X : Cx} {CX : CXT} {k : Nat} {E : St → XK} {p pos : Pos} {fe e : Expr} {es : List Expr} {tf : TE} {t : TA}
theorem pe_callE {S : Addr → Option Sp} (hf : PE X fe tf) (A : ∀ f sp, S f = some sp → HeldX X.prog X.w X.K X.mg X.base CX k f sp) (hr : Room k X.A) (hx : ∀ σ, PassesAt CX X σ (E σ)) (ha : PA X (e :: es) t)
    (ht : eval (.Call fe (e :: es) [] pos) X.env = (do callWith pos (← eval fe X.env) [] (backTo pos (starEach (e :: es) X.env)) (backToKw pos (keywordEach [] X.env))) := by rfl)
    (he : starEach (e :: es) X.env = (false, eval e X.env) :: starEach es X.env := by rfl) (hpl : (backTo pos (starEach es X.env)).any (·.1) = false := by rfl) : PE X (.Call fe (e :: es) [] pos) (tCallE S E tf t) := by
  refine ⟨fun pins s σ H Q I h => ?_⟩
  refine Call_ (thn (hf.run pins s σ H _ I h) fun u s1 ⟨y, H1, I1, ry, f, sp, ey, hS, q⟩ => ?_) ht
  subst ey
  obtain rfl : u = Value.ref f := ry
  obtain ⟨fd, ps, F, hk, hb⟩ := (A f sp hS).ex
  refine PySem.W.callWith_K (h₀ := X.base) I.ok.mod.kin hk (thn (ha.run pos pins s1 σ H1 _ I1 q) fun us s2 ⟨vs, H2, I2, r, q2⟩ => ⟨I2.kIn, ?_⟩) he hpl
  exact run_fnS F hr hb (hx σ) I2 r q2
end
end L2

/-! ### a plain list comprehension over a list within an except suite; defs whose errors have no context -/
namespace HotX
open PySem PySem.Spec PyProof.Rows
variable {prog : Program} {w : World} {A : Around} {E : Value → Shared → Prop} {s : Shared}
theorem list_over_hot {it l x1 : Addr} {i : Nat} {items : Array Value} {Q : Option Value → Shared → Prop} (hot : HotAt A x1 s.heap) (hit : s.heap.IsListIter it l i) (hl : s.heap.IsList l items) (hx : items[i]? = none)
    (hQ : ∀ h', (∀ b o, b ≠ it → s.heap.get? b = some o → h'.get? b = some o) → Q none { s with heap := h' }) : wpAny (model prog w) A (pyNext (.ref it)) Q E s := by
  obtain ⟨oi, gi, ci, di⟩ := id hit
  obtain ⟨ol, gl, _, nl, dl⟩ := hl
  obtain ⟨hh, o1, vs1, g1, d1, c1⟩ := hot
  have ne1 : x1 ≠ it := fun z => by
    rw [z, gi] at g1
    obtain rfl := Option.some.inj g1
    rw [di] at d1
    obtain rfl := Data.fields.inj d1
    exact nomatch (show (some (Value.none) : Option Value) = _ from c1.symm)
  unfold pyNext
  apply wpAny_bind
  apply wpAny_attempt
  apply wpAny_callSpecial?_slot (name := Str.ofString "__next__") hit.typeIs slot_listiter_next
  apply wpAny_call_entry slot_listiter_next hit.typeIs entry_listiter_next ?_ (args_listiter_next _)
  show wpAny _ _ (field (Value.ref it) 0 >>= _) _ _ s
  apply wpAny_bind
  apply wpAny_field gi di (x := Value.ref l) rfl
  show wpAny _ _ (if (Value.ref l == Value.none) = true then _ else _) _ _ s
  rw [if_neg (by exact Bool.false_ne_true)]
  show wpAny _ _ (field (Value.ref it) 1 >>= _) _ _ s
  apply wpAny_bind
  apply wpAny_field gi di (x := Value.int i 0) rfl
  show wpAny _ _ (seqItems? (Value.ref l) >>= _) _ _ s
  apply wpAny_bind
  apply wpAny_seqItems gl dl
  simp only [Int.toNat_natCast, hx]
  apply wpAny_bind
  apply wpAny_rule
  apply wpAny_bind
  apply wpAny_setField gi di (by simp)
  show wpAny _ _ (newExc (Value.type "StopIteration") [] >>= _) _ _ _
  apply wpAny_bind
  simp only [newExc, newTuple]
  apply wpAny_bind
  apply wpAny_newObj_type (hd := by size_fits)
  apply wpAny_bind
  apply wpAny_of_eq (a := Value.none) (by first | rfl | exact rfl)
  apply wpAny_newObj_type (hd := by size_fits)
  have k1 : (s.heap.update it (Obj.mapFields fun x => x.setIfInBounds 0 Value.none)).get? x1 = some o1 := (Heap.get?_update_other _ _ ne1.symm).trans g1
  have k2 : ∀ o o' : Obj, (((s.heap.update it (Obj.mapFields fun x => x.setIfInBounds 0 Value.none)).push o).push o').get? x1 = some o1 := fun o o' => Heap.get?_push_of_some _ (Heap.get?_push_of_some _ k1)
  have k3 := fun o o' => Heap.lt_size (k2 o o')
  refine raiseNew_hot (A := A.in1) (x1 := x1) ⟨hh, o1, vs1, k2 _ _, d1, c1⟩ (Nat.ne_of_lt (Heap.lt_size (Heap.get?_push_of_some _ k1))) (Heap.get?_push_size _ rfl) rfl (by first | (simp; done) | (simp; omega)) ?_
  apply wpAny_bind
  refine wpAny_isInstance (b := true) (T := "StopIteration") ⟨_, Heap.get?_update_self _ (Heap.get?_push_size _ rfl) rfl, rfl⟩ isSubtype_stop (wpAny_pure (hQ _ fun b o nb e => ?_))
  have e1 := (Heap.get?_update_other s.heap (Obj.mapFields fun x => x.setIfInBounds 0 Value.none) (Ne.symm nb)).trans e
  have e2 := Heap.get?_push_of_some { cls := Value.type "tuple", data := Data.seq #[] } e1
  rw [Heap.get?_update_other _ _ (Nat.ne_of_gt (Heap.lt_size e2))]
  exact Heap.get?_push_of_some _ e2
end HotX
namespace L2
open PySem PySem.Spec PyProof.Rows HotX
/-- the except suite's own exception stands, its context is None -/
def HotS (X : Cx) : Prop := ∃ p : Addr × Obj, p ∈ X.pn ∧ X.A.handled = some (.ref p.1) ∧ ∃ vs : Array Value, p.2.data = .fields vs ∧ vs[2]? = some .none
/-- [e for y in xs], e without effect: f of each item -/
def tLcMap (K : PySem.W.Frag) (tl : TE) (g : TG) (te : TE) (vs : List Nat) : TE := fun σ H Q => tl σ H fun x H1 => ∃ (a : Addr) (xs : List V) (f : V → V), x = .ref a ∧ SqL K H1 a xs ∧ xs.length < sizeLine ∧
  (∀ y ∈ xs, ∀ H2 : Hp, g y (wipe σ vs) H2 fun σ2 H3 => wipe σ2 vs = wipe σ vs ∧ te σ2 H3 fun z H4 => z = f y ∧ H4 = H2) ∧ ∀ D, H1 D = none → Q (.ref D) (upd H1 D (.lst (xs.map f)))
theorem pe_lcMap {X : Cx} {elt tg iter : Expr} {scope : Scope} {own : List (Str × Nat)} {pos : Pos} {tl : TE} {g : TG} {te : TE} (hotX : HotS X) (nd : X.N.Nodup) (walked : PE X iter tl) (okb : BlkOk X.N X.env.scope scope own)
    (pgAll : ∀ (s : Shared) (H : Hp) (C : Addr) (cl : List (Str × Addr)) (fp : List Addr), PG (X.blk s H scope (compEnvC scope cl C X.env) fp) tg g)
    (peAll : ∀ (s : Shared) (H : Hp) (C : Addr) (cl : List (Str × Addr)) (fp : List Addr), PE (X.blk s H scope (compEnvC scope cl C X.env) fp) elt te)
    (fold : ∀ x, foldedSetIterable iter X.env x = pure x := by intro _; rfl) : PE X (.ListComp elt [⟨tg, iter, [], 0⟩] scope pos) (tLcMap X.K tl g te (own.map (·.2))) := by
  refine ⟨fun pins s σ H Q I h => ?_⟩
  have frees : ∀ y ∈ scope.names, y.2 = .free → ∃ c, X.env.cells.lookup y.1 = some c := fun y hy e => (okb.free y hy e).elim (fun k => I.ok.has _ (.inl k)) (fun k => I.ok.has _ (.inr k))
  rw [eval_ListComp]
  refine wpAny_comprehension_free (use := none) rfl fold (closure_ok frees) okb.kind (fun y hy e => by rw [okb.uniq y hy, e]) (thn (walked.run pins s σ H _ I h) fun itv s1 gone => ?_)
  obtain ⟨x, H1, I1, rx, a, xs, f, rfl, sq, big, each, q⟩ := gone
  cases rx
  obtain ⟨its, vals, plain, _⟩ := I1.list sq
  have lenV : xs.length = its.length := vals.length
  refine wpAny_pyIter_list plain.isList ?_
  -- the iterator
  have I2 : Inv X pins σ H1 { s1 with heap := s1.heap.push { cls := .type "list_iterator", data := .fields #[.ref a, .int 0 0] } } := I1.kept (t' := s1.toks) fun b o e => Heap.get?_push_of_some _ e
  have fpI := I1.fpOk (H' := H1) (Nat.le_refl s1.heap.objs.size) (I1.hok.fresh (Nat.le_refl _))
  have itr : (s1.heap.push { cls := .type "list_iterator", data := .fields #[.ref a, .int 0 0] }).IsListIter s1.heap.objs.size a 0 := ⟨_, Heap.get?_push_size _ rfl, rfl, rfl⟩
  have plain2 : PlainL (s1.heap.push { cls := .type "list_iterator", data := .fields #[.ref a, .int 0 0] }) a its.toArray := by
    obtain ⟨o, n, e, r⟩ := plain
    exact ⟨o, n, Heap.get?_push_of_some _ e, r⟩
  have lt2 : s1.heap.objs.size < (s1.heap.push { cls := .type "list_iterator", data := .fields #[.ref a, .int 0 0] }).objs.size := by
    rw [Heap.size_push]
    exact Nat.lt_succ_self _
  generalize eit : s1.heap.objs.size = it at itr lt2 fpI ⊢
  generalize es2 : ({ s1 with heap := s1.heap.push { cls := .type "list_iterator", data := .fields #[.ref a, .int 0 0] } } : Shared) = s2 at I2 ⊢
  have itr : s2.heap.IsListIter it a 0 := by rw [← es2]; exact itr
  have plain2 : PlainL s2.heap a its.toArray := by rw [← es2]; exact plain2
  have lt2 : it < s2.heap.objs.size := by rw [← es2]; exact lt2
  clear es2 eit
  -- the new list
  apply wpAny_newObj_type (T := "list") (hd := by show 0 ≤ sizeLine; exact Nat.zero_le _)
  apply newEnv_comp
  have nD : H1 s2.heap.objs.size = none := I2.hok.fresh (Nat.le_refl _)
  have ne0 : it ≠ s2.heap.objs.size := Nat.ne_of_lt lt2
  have I3 : Inv X pins σ (upd H1 s2.heap.objs.size (.lst [])) { s2 with heap := s2.heap.push { cls := .type "list", data := .seq ([] : List Value).toArray } } :=
    I2.laid (t' := s2.toks) (fun b o e => Heap.get?_push_of_some _ e) (Nat.le_refl _) ⟨Nat.zero_le _, [], 0, .nil, Heap.get?_push_size _ rfl⟩
  have itr3 : (s2.heap.push { cls := .type "list", data := .seq ([] : List Value).toArray }).IsListIter it a 0 := by
    obtain ⟨o, e, c, d⟩ := itr
    exact ⟨o, Heap.get?_push_of_some _ e, c, d⟩
  have lt3 : it < (s2.heap.push { cls := .type "list", data := .seq ([] : List Value).toArray }).objs.size := by
    rw [Heap.size_push]
    exact Nat.lt_succ_of_lt lt2
  generalize s2.heap.objs.size = D at nD ne0 I3 ⊢
  have fp3 : FpOk X pins (upd H1 D (.lst [])) it := ⟨by rw [upd_ne ne0]; exact fpI.1, fpI.2⟩
  generalize es3 : ({ s2 with heap := s2.heap.push { cls := .type "list", data := .seq ([] : List Value).toArray } } : Shared) = s3 at I3 ⊢
  have itr3 : s3.heap.IsListIter it a 0 := by rw [← es3]; exact itr3
  have lt3 : it < s3.heap.objs.size := by rw [← es3]; exact lt3
  have ed : s3.drawn = s2.drawn ∧ s3.gens = s2.gens ∧ s3.toks = s2.toks ∧ s3.os = s2.os := by rw [← es3]; exact ⟨rfl, rfl, rfl, rfl⟩
  have frs3 : ∀ b ∈ [it], FpOk X pins (upd H1 D (.lst [])) b ∧ b < s3.heap.objs.size := fun b hb => by rw [List.mem_singleton.mp hb]; exact ⟨fp3, lt3⟩
  have I4 := block_start I3 okb nd frs3
  obtain ⟨hp, hpn, hah, hvs, hfd, hnn⟩ := hotX
  have pin3 := I3.pin hp (List.mem_append_left _ hpn)
  have nostk : hp.1 ∉ frs X.stack := fun hm => (List.mem_cons.mp (I3.stkSub hp.1 hm)).elim pin3.2.2.1 pin3.2.2.2.1
  have noit : hp.1 ≠ it := fp3.2.2.2.2.2 hp (List.mem_append_left _ hpn)
  clear es3
  have pg0 := pgAll s3 (upd H1 D (.lst [])) s3.heap.objs.size (cellsFrom (s3.heap.objs.size + 1) scope.names (cloFrom X.env.cells scope.names [])) [it]
  have pe0 := peAll s3 (upd H1 D (.lst [])) s3.heap.objs.size (cellsFrom (s3.heap.objs.size + 1) scope.names (cloFrom X.env.cells scope.names [])) [it]
  let ce := compEnvC scope (cellsFrom (s3.heap.objs.size + 1) scope.names (cloFrom X.env.cells scope.names [])) s3.heap.objs.size X.env
  have locs : ce.locals = s3.heap.objs.size := rfl
  have noC : upd H1 D (.lst []) s3.heap.objs.size = none := I3.hok.fresh (Nat.le_refl _)
  have fpC := I3.fpOk (H' := upd H1 D (.lst [])) (Nat.le_refl s3.heap.objs.size) noC
  have neDC : s3.heap.objs.size ≠ D := fun z => by
    rw [z, upd_same] at noC
    exact nomatch noC
  have noC1 : H1 s3.heap.objs.size = none := by
    rw [upd_ne neDC] at noC
    exact noC
  show codeAny _ _ (.compStart (.ListComp elt [⟨tg, iter, [], 0⟩] scope pos) 0 (.ref it) (.ref D) ce) (compPost (model X.prog X.w) X.A X.xe none (EP X pins σ Q) (.ref D) s3.heap.objs.size) _
  have itr4 : (pushCells (s3.heap.push { cls := .type "dict", data := .dict #[] }) scope.names).IsListIter it a 0 := by
    obtain ⟨o, e, c, d⟩ := itr3
    exact ⟨o, pushCells_keeps _ _ _ _ (Heap.get?_push_of_some _ e), c, d⟩
  generalize es4 : ({ s3 with heap := pushCells (s3.heap.push { cls := .type "dict", data := .dict #[] }) scope.names } : Shared) = s4 at I4 ⊢
  have itr4 : s4.heap.IsListIter it a 0 := by rw [← es4]; exact itr4
  clear es4
  have twice : ∀ (o o' : HO), upd (upd H1 D o) D o' = upd H1 D o' := fun o o' => by
    funext b
    by_cases e : b = D
    · rw [e, upd_same, upd_same]
    · rw [upd_ne e, upd_ne e, upd_ne e]
  have oldKept : ∀ o : HO, Same H1 (upd H1 D o) := fun o b u e => by rw [upd_ne (ne_of_none e nD)]; exact e
  have itFree : ∀ o : HO, upd H1 D o it = none := fun o => by rw [upd_ne ne0]; exact fpI.1
  have hotAt : ∀ {σ5 : St} {H5 : Hp} {s5 : Shared}, Inv (X.blk s3 (upd H1 D (.lst [])) scope ce [it]) [] σ5 H5 s5 → HotAt X.A hp.1 s5.heap := fun I5 =>
    ⟨hah, hp.2, hvs, I5.base.keep hp.1 hp.2 pin3.1 pin3.2.1 nostk (fun hm => noit (List.mem_singleton.mp hm)), hfd, hnn⟩
  have fixed : ∀ {σ5 : St} {H5 : Hp} {s5 : Shared}, Inv (X.blk s3 (upd H1 D (.lst [])) scope ce [it]) [] σ5 H5 s5 → H5 it = none → FpOk (X.blk s3 (upd H1 D (.lst [])) scope ce [it]) [] H5 it := fun I5 hn =>
    ⟨hn, (I5.ok.exf it List.mem_cons_self).1, I5.ok.exfs it List.mem_cons_self, .inl List.mem_cons_self, fun x c e => (I5.ok.exf it List.mem_cons_self).2 x c e, fun p hp => nomatch hp⟩
  have main : codeAny (model X.prog X.w) X.A (.compLoop (.ListComp elt [⟨tg, iter, [], 0⟩] scope pos) 0 (.ref it) (.ref D) ce) (compPost (model X.prog X.w) X.A X.xe none (EP X pins σ Q) (.ref D) s3.heap.objs.size) s4 := by
    refine compLoop_any (fun n s' => ∃ i, n = xs.length - i ∧ i ≤ xs.length ∧ Inv (X.blk s3 (upd H1 D (.lst [])) scope ce [it]) [] (wipe σ (own.map (·.2))) (upd H1 D (.lst ((xs.take i).map f))) s' ∧ s'.heap.IsListIter it a i) ?_ xs.length ⟨0, rfl, Nat.zero_le _, I4, itr4⟩
    rintro n s5 ⟨i, rfl, hi, I5, it5⟩
    obtain ⟨its5, vals5, plain5, _⟩ := I5.list (show SqL X.K _ a xs from (oldKept _).seq sq)
    obtain ⟨f0, f1, f2, f3, f4, f5⟩ := fixed I5 (itFree _)
    have len5 : xs.length = its5.length := vals5.length
    by_cases c : i < xs.length
    · obtain ⟨u, hu, ru⟩ := vals5.get (List.getElem?_eq_getElem c)
      refine wpAny_pyNext_list_item it5 plain5.isList (x := u) (by simpa using hu) fun h' next sb => ?_
      have I6 := I5.turned (h' := h') (t' := s5.toks) (fun b o hb e => (sb.2 b hb).trans e) f0 f1 f3 f4 f5
      obtain ⟨oi, ei, ci, di⟩ := next
      refine go_of (s := { s5 with heap := h' }) ei ci di (by decide) ?_
      have I6p := I6.pinned (fp := [it]) (fun b hb => by rw [List.mem_singleton.mp hb]; exact fixed I6 (itFree _)) (fun b hb => by rw [List.mem_singleton.mp hb]; exact ⟨oi, ei, fun v z => by rw [di] at z; cases z⟩)
      refine thnF (pg0.run _ _ _ _ xs[i] u _ I6p ru (each _ (List.getElem_mem c) _)) fun _ s7 ⟨σ7, H7, I7, hw, q7⟩ => ?_
      refine wpAny_tests_nil ?_
      rw [if_pos rfl]
      refine thnF (pe0.run _ s7 σ7 H7 _ I7 q7) fun z s8 ⟨yv, H8, I8, r8, ez, eH⟩ => ?_
      subst ez eH
      refine app_ok (X := X.blk s3 (upd H1 D (.lst [])) scope ce [it]) I8 upd_same (by rw [List.length_map, List.length_take]; omega) r8 fun s9 I9 => ?_
      have pinned := (I9.pin (it, oi) (List.mem_append_right _ (List.mem_append_right _ (mem_pinsAt List.mem_cons_self ei)))).1
      refine ⟨xs.length - (i + 1), by omega, i + 1, rfl, c, ?_, ⟨oi, pinned, ci, di⟩⟩
      have I10 := (I9.unpinned (pins := [])).weak (σ' := wipe σ (own.map (·.2))) (by rw [← hw, wipe_length]) fun j v e => by
        rw [← hw] at e
        exact (wipe_some e).1
      rw [twice, show (xs.take i).map f ++ [f xs[i]] = (xs.take (i + 1)).map f by rw [List.take_succ, List.getElem?_eq_getElem c, List.map_append]; rfl] at I10
      exact I10
    · obtain rfl : i = xs.length := by omega
      refine list_over_hot (hotAt I5) it5 plain5.isList (by simp; omega) fun h' kept => ?_
      have I6 := I5.turned (h' := h') (t' := s5.toks) kept f0 f1 f3 f4 f5
      have I7 : Inv X pins σ _ _ := I3.call' (ch := [it]) I6.os I6.base I6.hok I6.bare fun b hb => by
        have z := (frs3 b hb).1
        exact ⟨z.2.2.2.1, z.2.1, z.2.2.2.2.1, z.2.2.2.2.2⟩
      obtain ⟨m, hns, _⟩ := I6.loc
      obtain ⟨_, c1, c2, c3, c4, c5⟩ := fpC
      refine ⟨m, hns, fun h2 sb => ⟨.ref D, _, I7.turned (t' := s5.toks) (fun b o hb e => (sb.2 b hb).trans e) ?_ c1 c3 c4 c5, rfl, ?_⟩⟩
      · rw [upd_ne neDC]
        exact noC1
      · rw [List.take_length]
        exact q D nD
  exact codeAny_compStart_list main (wpAny_pyIter_listiter itr4 main)
end L2
namespace L2
open PySem PySem.Spec PyProof.Rows
/-- a def whose errors have no context -/
theorem Fun.okXN {P : Program} {w : World} {K : PySem.W.Frag} {mg : Str → Option Value} {base : Heap} {x qual : Str} {st : Stmt} {f : Addr} {fd : FuncData} {N ps : List Str} {k : Nat} {sp : Sp} (F : Fun K x qual st f fd) (S : FnScope N ps (defScope st))
    (len : ∀ vs H Q E, sp vs H Q E → vs.length = ps.length)
    (body : ∀ (cdv : Value) (A : Around) (outer : List Env) (s : Shared) (H : Hp) (vs : List V) (Q : VK) (E : XK), Room k (A.deeper (envOfC qual (defScope st) s.heap.objs.size f cdv)) → sp vs H Q E →
      ∃ t, PSs (cxOf (L2N.CX P w) P w K mg base N qual (defScope st) f cdv A outer s H E) (defBody st) t ∧ t { nx := fun _ H' => Q .non H', rt := Q } (start N vs) H) : FnOk P w K mg base (L2N.CX P w) (k + 1) f fd ps sp := by
  obtain ⟨_, _, _, _, _, _, _, _, _, rfl, known, coded⟩ := F.ex
  exact fn_of known coded S len fun A outer s H vs Q E room hsp => body _ A outer s H vs Q E room hsp
/-- what an except suite knows -/
theorem hotS_of {X : Cx} {a : Addr} {oe : Obj} {pn : List (Addr × Obj)} {cls : Value} {d : Option Addr} (hz : L2N.Zn cls d oe) (hf : ∃ vs, oe.data = .fields vs) : HotS (X.suite a ((a, oe) :: pn)) := by
  obtain ⟨vs, e⟩ := hf
  exact ⟨(a, oe), List.mem_cons_self, rfl, vs, e, hz.2.2 vs e⟩
end L2
namespace L2
open PySem PySem.Spec PyProof.Rows
theorem passLN {X : Cx} : Passes (L2N.CX X.prog X.w) X E0 := fun _ _ _ _ _ _ _ h => by
  obtain ⟨_, _, _, _, _, _, _, _, _, _, _, _, no⟩ := h
  exact no.elim
theorem takes0N {X : Cx} : L2N.Takes X (fun _ _ _ _ => False) := fun _ _ h => by
  obtain ⟨_, _, _, _, _, _, _, _, _, _, _, _, _, _, _, _, no⟩ := h
  exact no.elim
end L2
namespace L2
open PySem PySem.Spec PyProof.Rows
theorem pe_lcMapK {X : Cx} {K : PySem.W.Frag} {elt tg iter : Expr} {scope : Scope} {own : List (Str × Nat)} {pos : Pos} {tl : TE} {g : TG} {te : TE} (hK : X.K = K) (nd : X.N.Nodup) (walked : PE X iter tl) (okb : BlkOk X.N X.env.scope scope own)
    (pgAll : ∀ (s : Shared) (H : Hp) (C : Addr) (cl : List (Str × Addr)) (fp : List Addr), PG (X.blk s H scope (compEnvC scope cl C X.env) fp) tg g)
    (peAll : ∀ (s : Shared) (H : Hp) (C : Addr) (cl : List (Str × Addr)) (fp : List Addr), PE (X.blk s H scope (compEnvC scope cl C X.env) fp) elt te) (hotX : HotS X)
    (fold : ∀ x, foldedSetIterable iter X.env x = pure x := by intro _; rfl) : PE X (.ListComp elt [⟨tg, iter, [], 0⟩] scope pos) (tLcMap K tl g te (own.map (·.2))) := by
  subst hK
  exact pe_lcMap hotX nd walked okb pgAll peAll fold
end L2

/-! ### max(list of ints, default=d) -/
namespace L2
open PySem PySem.Spec PyProof.Rows
def rMaxDef (K : PySem.W.Frag) : List V → List V → Hp → VK → Prop := fun xs zs H Q => ∃ (a : Addr) (ns : List Int) (d : Int), xs = [.ref a] ∧ zs = [.int d] ∧ SqL K H a (ns.map V.int) ∧ (ns = [] → Q (.int d) H) ∧ ∀ m, m ∈ ns → (∀ y, y ∈ ns → y ≤ m) → Q (.int m) H
theorem cr_maxDef {X : Cx} {K : PySem.W.Frag} (hK : X.K = K) (hc : X.calm = true) (hu : X.A.units + 64 < cLine) : CallRK X (.builtin "max") [Str.ofString "default"] (rMaxDef K) := by
  subst hK
  intro pins s σ H vs zs us ws Q I r rz h
  obtain ⟨a, ns, d, rfl, rfl, hs, q0, q1⟩ := h
  obtain rfl := Vals.ref1 r
  obtain ⟨w1, rfl, t, rfl⟩ := vals1 rz
  obtain ⟨its, rv, hl, _⟩ := I.list hs
  have hr : ReadsAll s.heap its.toArray.toList (ns.map PyData.int) [] := readsAll_ints rv
  refine PySem.W.max_list_default (I.ok.hd hc) hl.isList hr (alikeAll_ints ns) (by rw [depthAll_ints]; omega) (fun e h' tk hk => ⟨.int d, H, I.kept hk, ⟨_, rfl⟩, q0 (List.map_eq_nil_iff.mp e)⟩) fun y ys i v h' tk bs e _ hv hk => ?_
  cases ns with
  | nil => exact nomatch e
  | cons x xs =>
    obtain ⟨rfl, rfl⟩ := List.cons.inj e
    rw [PySem.W.maxD_ints] at hv
    obtain ⟨m1, m2⟩ := foldl_max x xs
    cases hv
    exact ⟨.int _, H, I.kept hk, ⟨_, rfl⟩, q1 _ m1 m2⟩
end L2

/-! ### enumerate over a text of ascii signs -/
namespace PySem
open Sem (wp)
open AutoSeq1 (wpAny_loadPart')
theorem new_enumS (x : Str) (tk0 : Tok) :
    Meets (Builtin.«enumerate.__new__» ⟨[.type "enumerate", .str x tk0], []⟩) (fun _ R s => x.cps.all (· < 128) = true ∧
      R (.ok (.ret (.ref (s.heap.push { cls := .type "str_ascii_iterator", data := .fields #[.str x tk0, .int 0 0] }).objs.size)))
        { s with heap := (s.heap.push { cls := .type "str_ascii_iterator", data := .fields #[.str x tk0, .int 0 0] }).push { cls := .type "enumerate", data := .fields #[.none, .bool false, .ref s.heap.objs.size, rawInt 0, .none, .none] } }) :=
  .of_wp fun prog w A R s both => by
    obtain ⟨hp, g, d, tk, os⟩ := s
    obtain ⟨ht, both⟩ := both
    have below := sub_enumerate
    wp_walk
    refine wpAny_stack_any fun _ => wpAny_pure ?_
    split
    · rename_i c _ _ _ _ _
      cases (c == Value.type "enumerate")
      · wp_walk using wpAny_pyIter_ascii ht
        exact ⟨_, rfl, both⟩
      · wp_walk using wpAny_pyIter_ascii ht
        exact ⟨_, rfl, both⟩
    · wp_walk using wpAny_pyIter_ascii ht
      exact ⟨_, rfl, both⟩
section
variable {prog : Program} {w : World} {A : Around} {E : Value → Shared → Prop} {s : Shared}
theorem call_enumS {x : Str} {tk0 : Tok} {Q : Value → Shared → Prop} (ht : x.cps.all (· < 128) = true)
    (q : ∀ h', IsEnum h' (s.heap.objs.size + 1) s.heap.objs.size 0 .none → h'.IsStrIter s.heap.objs.size "str_ascii_iterator" x tk0 0 →
      (∀ b o, s.heap.get? b = some o → h'.get? b = some o) → Q (.ref (s.heap.objs.size + 1)) { s with heap := h' }) :
    wpAny (model prog w) A (call (.type "enumerate") [.str x tk0]) Q E s := by
  refine callType_new F.called_enumerate (by decide) (F.typeCall_enumerate_1 _) (F.newCall_enumerate_1 _) (fun ob => F.args_object_init_2 ob _) F.entry_enumerate_new (new_enumS x tk0) ⟨ht, ?_⟩
  have sz : (s.heap.push { cls := .type "str_ascii_iterator", data := .fields #[.str x tk0, .int 0 0] }).objs.size = s.heap.objs.size + 1 := Heap.size_push ..
  show _ ∧ _
  rw [sz]
  have en : IsEnum ((s.heap.push { cls := .type "str_ascii_iterator", data := .fields #[.str x tk0, .int 0 0] }).push { cls := .type "enumerate", data := .fields #[.none, .bool false, .ref s.heap.objs.size, rawInt 0, .none, .none] })
      (s.heap.objs.size + 1) s.heap.objs.size 0 .none := by
    have z := Heap.get?_push_size (s.heap.push { cls := .type "str_ascii_iterator", data := .fields #[.str x tk0, .int 0 0] }) (o := { cls := .type "enumerate", data := .fields #[.none, .bool false, .ref s.heap.objs.size, rawInt 0, .none, .none] }) rfl
    rw [sz] at z
    exact z
  exact ⟨⟨_, en, rfl⟩, q _ en ⟨_, Heap.get?_push_of_some _ (Heap.get?_push_size _ rfl), rfl, rfl⟩ fun b o x => Heap.get?_push_of_some _ (Heap.get?_push_of_some _ x)⟩
end
end PySem
namespace L2
open PySem PySem.Spec PyProof.Rows
/-- the text x, each sign in a new pair behind its index -/
def IteS (x : Str) : It :=
  ⟨fun i _ => i < x.cps.size, fun i H v H' => ∃ p c, v = .ref p ∧ H p = none ∧ x.cps[i]? = some c ∧ H' = upd H p (.tup [.int (i : Nat), .str ⟨#[c]⟩]), fun i _ => x.cps.size ≤ i⟩
theorem turn_enumS {P : Program} {w : World} {K : PySem.W.Frag} {elts : List Expr} {kk : Nat} {tp : Pos} (x : Str) (t0 : Tok) (e it : Addr) :
    Turn P w K (.Tuple elts kk tp) (IteS x) [e, it] e (fun i h => (∃ old, IsEnum h e it ((i : Nat) : Int) old) ∧ h.IsStrIter it "str_ascii_iterator" x t0 i ∧ e ≠ it ∧ i ≤ x.cps.size) where
  mem := by simp
  obj := fun i h st b hb => by
    obtain ⟨⟨old, he⟩, ⟨o, ho, _, dd⟩, _⟩ := st
    rcases (show b = e ∨ b = it by simpa using hb) with rfl | rfl
    · exact ⟨_, he, fun v z => nomatch z⟩
    · exact ⟨o, ho, fun v z => by rw [dd] at z; exact nomatch z⟩
  keep := fun i h h' st k => by
    obtain ⟨⟨old, he⟩, ⟨o, ho, r⟩, ne, bnd⟩ := st
    exact ⟨⟨old, k e (by simp) _ he⟩, ⟨o, k it (by simp) _ ho, r⟩, ne, bnd⟩
  item := by
    intro X hP hw hK hc i pins s σ H E I hf st hg
    subst hP hw hK
    obtain ⟨⟨old, he⟩, hit, ne, bnd⟩ := st
    have szE : e < s.heap.objs.size := Heap.lt_size he
    have szI : it < s.heap.objs.size := by
      obtain ⟨_, z, _⟩ := hit
      exact Heap.lt_size z
    have small : ∀ b ∈ [e, it], b < s.heap.objs.size := fun b hb => by
      rcases (show b = e ∨ b = it by simpa using hb) with rfl | rfl <;> assumption
    have D := Draws.strAscii (prog := X.prog) (w := X.w) (A := X.A.in1) (I.ok.hd hc) it x t0
    refine wpAny_pyNext_enum_itemD D he hit hg ne (by simp only [List.mem_cons, List.not_mem_nil, or_false]; exact ne) fun y h' tk hx ho st2 hT hsz hk => ?_
    obtain ⟨c, u, hcx, rfl⟩ := hx
    refine ⟨_, rfl, wpAny_letOwnedTupleGo_enum (s := { s with heap := h', toks := tk + 1 }) ho fun h'' he' sb => ?_⟩
    have hT2 : h''.get? s.heap.objs.size = some { cls := .type "tuple", data := .seq #[.int i tk, .str ⟨#[c]⟩ u] } := (sb.2 _ (Nat.ne_of_gt szE)).trans hT
    have okN : ObjOk X.prog X.w (upd H s.heap.objs.size (.tup [.int (i : Nat), .str ⟨#[c]⟩])) h'' s.heap.objs.size (.tup [.int (i : Nat), .str ⟨#[c]⟩]) :=
      ⟨by show 2 ≤ sizeLine; decide, [.int i tk, .str ⟨#[c]⟩ u], .cons ⟨_, rfl⟩ (.cons ⟨_, rfl⟩ .nil), ⟨_, hT2, rfl, _, rfl⟩⟩
    have J : Inv X pins σ (upd H s.heap.objs.size (.tup [.int (i : Nat), .str ⟨#[c]⟩])) { s with heap := h'', toks := tk + 1 } :=
      I.turnedNew (ch := [e, it]) (fun b ob hb z => (sb.2 b (fun y => hb (by simp [y]))).trans (hk b ob (fun y => hb (by simp [y])) (fun y => hb (by simp [y])) z)) hf (Nat.le_refl _) okN
    have he'' : IsEnum h'' e it ((i + 1 : Nat) : Int) (.str ⟨#[c]⟩ u) := by
      rw [show ((i + 1 : Nat) : Int) = (i : Int) + 1 by omega]
      exact he'
    refine ⟨.ref s.heap.objs.size, _, J, rfl, ⟨_, c, rfl, I.hok.fresh (Nat.le_refl _), hcx, rfl⟩, ⟨⟨_, he''⟩, ?_, ne, hg⟩, fun b hb => ?_⟩
    · obtain ⟨o, ho2, r⟩ := st2
      exact ⟨o, (sb.2 it (Ne.symm ne)).trans ho2, r⟩
    · rw [upd_ne (Nat.ne_of_lt (small b hb))]
      exact (hf b hb).1
  done := by
    intro X hP hw hK hc i pins s σ H E I hf st hg
    subst hP hw hK
    obtain ⟨⟨old, he⟩, hit, ne, bnd⟩ := st
    obtain ⟨g0, g1, _, g3, g4, g5⟩ := hf it (by simp)
    have len : x.cps.size ≤ i := hg
    have D := Draws.strAscii (prog := X.prog) (w := X.w) (A := X.A.in1) (I.ok.hd hc) it x t0
    have hit' : s.heap.IsStrIter it "str_ascii_iterator" x t0 x.cps.size := by
      have e : i = x.cps.size := Nat.le_antisymm bnd len
      rw [← e]
      exact hit
    exact wpAny_pyNext_enum_endD D he hit' fun h' eb => ⟨rfl, I.turned (t' := s.toks) (fun b o hb z => eb b o hb z) g0 g1 g3 g4 g5⟩
  self := fun A i s Q E st h => by
    obtain ⟨⟨_, he⟩, _⟩ := st
    exact wpAny_pyIter_enum he h
def iEnumS (ta : TA) : TI := fun σ H R => ta σ H fun vs H1 => ∃ x : Str, vs = [.str x] ∧ x.cps.all (· < 128) = true ∧ R (IteS x) H1
theorem pi_enumS {X : Cx} {e : Expr} {ta : TA} {p pos tp : Pos} {elts : List Expr} {kk : Nat} (hg : Gl X "enumerate") (hm : X.mg "enumerate" = none) (ha : PA X [e] ta) (hs : starEach [e] X.env = [(false, eval e X.env)] := by rfl) :
    PI X (.Tuple elts kk tp) (.Call (.Name "enumerate" p) [e] [] pos) (iEnumS ta) := by
  refine ⟨fun pins s σ H R I h => Call_ (ld_blt I hg hm boot_enumerate (PyProof.Rows.callWith_type1 (thn (ha.run pos pins s σ H _ I h) fun us s1 ⟨vs, H1, I1, r1, q1⟩ => ?_) hs rfl))⟩
  obtain ⟨x, rfl, hx, q⟩ := q1
  cases r1 with
  | cons r rr =>
    cases rr
    obtain ⟨tk, rfl⟩ := r
    refine call_enumS hx fun h' he hit hk => wpAny_pyIter_enum he ?_
    refine ⟨s1.heap.objs.size + 1, [s1.heap.objs.size + 1, s1.heap.objs.size], _, _, H1, rfl, I1.kept (t' := s1.toks) hk, turn_enumS x tk (s1.heap.objs.size + 1) s1.heap.objs.size,
      ⟨⟨.none, he⟩, hit, Nat.succ_ne_self _, Nat.zero_le _⟩, fun b hb => ?_, q⟩
    have hle : s1.heap.objs.size ≤ b := by
      rcases (show b = s1.heap.objs.size + 1 ∨ b = s1.heap.objs.size by simpa using hb) with rfl | rfl
      · exact Nat.le_succ _
      · exact Nat.le_refl _
    exact I1.fpOk hle (I1.hok.fresh hle)
theorem walk_enumS {x : Str} : Walk (IteS x) x.cps.size (fun _ => True) (YPair (fun i => some (.int (i : Nat))) (fun i => (x.cps[i]?).map (fun c => .str ⟨#[c]⟩))) :=
  ⟨fun i H hi h => hi, fun H h => Nat.le_refl _, fun i H v H' hi h y => by
    obtain ⟨p, c, rfl, np, hc, rfl⟩ := y
    exact ⟨p, _, _, rfl, np, rfl, rfl, by simp [hc]⟩⟩
end L2

/-! ### isinstance of a held error with a dict of its own -/
namespace L2
open PySem PySem.Spec PyProof.Rows
def rIsED (K : PySem.W.Frag) (cls : Value) (d : Option Addr) (a : Addr) : List V → Hp → VK → Prop := fun xs H Q =>
  ∃ (D dd : Addr) (fs : List (Str × V)) (c : V) (cv : Value) (b : Bool), cls = .ref D ∧ d = some dd ∧ H dd = some (.xd fs) ∧ ExcC K D ∧ xs = [.ref a, c] ∧ (∀ u, RelV c u → u = cv) ∧ PySem.W.kitOne K (.ref D) cv = some b ∧ Q (.bl b) H
theorem call_isED {X : Cx} {a : Addr} {oe : Obj} {pn : List (Addr × Obj)} {cls : Value} {d : Option Addr} (hz : Zc cls d oe) (hf : ∃ vs, oe.data = .fields vs) : CallR (X.suite a ((a, oe) :: pn)) (.builtin "isinstance") (rIsED X.K cls d a) := by
  intro pins s σ H xs us Q I r h
  obtain ⟨D, dd, fs, c, cv, b, rfl, rfl, ea, C, rfl, hcv, e, q⟩ := h
  obtain ⟨u1, u2, rfl, r1, r2⟩ : ∃ u1 u2, us = [u1, u2] ∧ RelV (.ref a) u1 ∧ RelV c u2 := by
    cases r with
    | cons rx rr =>
      cases rr with
      | cons rt rr =>
        cases rr
        exact ⟨_, _, rfl, rx, rt⟩
  obtain rfl : u1 = Value.ref a := r1
  obtain rfl := hcv _ r2
  have mine := (I.pin (a, oe) (List.mem_append_left _ List.mem_cons_self)).1
  obtain ⟨names, hn, _⟩ := I.hok dd _ ea
  obtain ⟨od, hod, _⟩ := lookIn_ns hn
  have J : PySem.W.InstAt s.heap a oe D (some od) := by
    refine ⟨mine, hz.1, ?_, ?_⟩
    · obtain ⟨vs, hv⟩ := hf
      unfold PySem.W.notCls
      rw [hv]
    · rw [hz.2]
      exact hod
  have some1 : (PySem.W.clsIn X.K D).isSome = true := by
    obtain ⟨cd, hc, _⟩ := PySem.W.any_some C.hd
    rw [hc]
    rfl
  exact PySem.W.kia_one (PySem.W.kitx_exc some1 C.hg C.hk C.hs C.ha C.hn C.ht C.hm) I.kIn J e (fun z => nomatch z) fun tk => ⟨.bl b, H, I.kept (t' := tk) fun _ _ z => z, rfl, q⟩
end L2

namespace T
open PySem PySem.Spec PyProof.Rows L2
def SameBut (a : Addr) (H H' : Hp) : Prop := ∀ b o, b ≠ a → H b = some o → H' b = some o
theorem SameBut.refl (a : Addr) (H : Hp) : SameBut a H H := fun _ _ _ h => h
theorem SameBut.trans {a : Addr} {H H1 H2 : Hp} (x : SameBut a H H1) (y : SameBut a H1 H2) : SameBut a H H2 := fun b o n h => y b o n (x b o n h)
theorem SameBut.upd {a : Addr} {H : Hp} {o : HO} : SameBut a H (upd H a o) := fun b u n h => by rw [upd_ne n]; exact h
theorem SameBut.new {a p : Addr} {H : Hp} {o : HO} (h : H p = none) : SameBut a H (L2.upd H p o) := fun b u n e => by rw [upd_ne (ne_of_none e h)]; exact e
theorem Same.but {a : Addr} {H H' : Hp} (h : Same H H') : SameBut a H H' := fun b o _ e => h b o e
theorem same_upd {H : Hp} {p : Addr} {o : HO} (h : H p = none) : Same H (upd H p o) := fun b x e => by
  rw [upd_ne (ne_of_none e h)]
  exact e
theorem upd_self {H : Hp} {a : Addr} {o : HO} (h : H a = some o) : upd H a o = H := by
  funext b
  unfold upd
  by_cases e : b = a
  · rw [if_pos e, e, h]
  · rw [if_neg e]
theorem Same.mut {H H' : Hp} {p : Addr} {o : HO} (e : Same H H') (h : H p = none) : Same H (upd H' p o) := fun a u ha => by
  rw [upd_ne (ne_of_none ha h)]
  exact e a u ha
theorem map_int_get {ns : List Int} {i : Nat} {y : V} (hi : (ns.map V.int)[i]? = some y) : ∃ z, ns[i]? = some z ∧ y = V.int z := by
  rw [List.getElem?_map] at hi
  cases e : ns[i]? with
  | none =>
    rw [e] at hi
    cases hi
  | some z =>
    rw [e] at hi
    exact ⟨z, rfl, (Option.some.inj hi).symm⟩
theorem small_of {n : Nat} (h : n ≤ 100000) : n < sizeLine := Nat.lt_of_le_of_lt h (by decide)
structure ErrC (K : PySem.W.Frag) (mg : Str → Option Value) (x : Str) (C : Addr) : Prop where
  gc : mg x = some (.ref C)
  xC : PySem.W.excIn K C [.type "ValueError", .type "Exception", .type "BaseException", .type "object"] "ValueError.__new__" = true
  kc : PySem.W.keepIn K (.ref C) = true
  bc : PySem.W.subIn K (.ref C) (.type "BaseException") = some true
  tc : PySem.W.typeIn K (.ref C) = some (.type "type")
/-- a def whose defaults stand somewhere (called with all its arguments) -/
structure FunA (K : PySem.W.Frag) (x qual : Str) (st : Stmt) (f : Addr) (fd : FuncData) : Prop where
  ex : ∃ (oc : Value) (od : Option Addr) (dV kV doc pm : Value) (an : Option Addr) (cdv ct : Value) (osl : Array (Option Value)),
    fd = PySem.W.fnOf x qual (defArgs st) (defBody st) (defScope st) dV kV doc pm an cdv ct ∧ K.lookup f = some ⟨oc, od, .func fd, osl⟩ ∧ PySem.W.codeIn K cdv qual = true
  kp : PySem.W.keepIn K (.ref f) = true
section
variable {P : Program} {w : World} {K : PySem.W.Frag} {mg : Str → Option Value} {base : Heap}
theorem FunA.okX {x qual : Str} {st : Stmt} {f : Addr} {fd : FuncData} {N ps : List Str} {k : Nat} {sp : Sp} (F : FunA K x qual st f fd) (S : FnScope N ps (defScope st)) (len : ∀ vs H Q E, sp vs H Q E → vs.length = ps.length)
    (hbody : ∀ (cdv : Value) (A : Around) (outer : List Env) (s : Shared) (H : Hp) (vs : List V) (Q : VK) (E : XK), Room k (A.deeper (envOfC qual (defScope st) s.heap.objs.size f cdv)) → sp vs H Q E →
      ∃ t, PSs (cxOf (L2.CX P w) P w K mg base N qual (defScope st) f cdv A outer s H E) (defBody st) t ∧ t { nx := fun _ H' => Q .non H', rt := Q } (start N vs) H) : FnOk P w K mg base (L2.CX P w) (k + 1) f fd ps sp := by
  obtain ⟨oc, od, dV, kV, doc, pm, an, cdv, ct, osl, rfl, lk, hcd⟩ := F.ex
  exact fn_of lk hcd S len fun A outer s H vs Q E hr hsp => hbody cdv A outer s H vs Q E hr hsp
end
theorem if_pos_of {b : Bool} {A B : Prop} (h : b = true) (x : A) : if b = true then A else B := by
  rw [if_pos h]
  exact x
theorem if_neg_of {b : Bool} {A B : Prop} (h : ¬ b = true) (x : B) : if b = true then A else B := by
  rw [if_neg h]
  exact x
theorem sqT_same {K : PySem.W.Frag} {H H' : Hp} {a : Addr} {xs : List V} (e : Same H H') (h : SqT K H a xs) : SqT K H' a xs := by
  rcases h with (h | ⟨o, h⟩) | h
  · exact .inl (.inl (e _ _ h))
  · exact .inl (.inr ⟨o, e _ _ h⟩)
  · exact .inr h
section
variable {P : Program} {w : World} {K : PySem.W.Frag} {mg : Str → Option Value} {base : Heap}
theorem room64 {k : Nat} {A : Around} (hr : Room k A) : A.units + 64 < cLine := by have := hr.un; omega
theorem room65 {k : Nat} {A : Around} (hr : Room k A) : A.units + 65 < cLine := by have := hr.un; omega
theorem inV_primes {p : Int} : inV (.int p) [.int 2, .int 3, .int 5, .int 7, .int 11, .int 13, .int 17, .int 19, .int 23, .int 29, .int 31] = inV (.int p) (primes.map V.int) := rfl
end
theorem sqT_but {K : PySem.W.Frag} {H H' : Hp} {r a : Addr} {xs : List V} (e : SameBut r H H') (n : a ≠ r) (h : SqT K H a xs) : SqT K H' a xs := by
  rcases h with (h | ⟨o, h⟩) | h
  · exact .inl (.inl (e _ _ n h))
  · exact .inl (.inr ⟨o, e _ _ n h⟩)
  · exact .inr h
theorem at_tab {xs : List Int} {i : Int} (h0 : 0 ≤ i) (h1 : i < xs.length) : atI (xs.map V.int) i = some (.int (xs.getD i.toNat 0)) := by
  obtain ⟨n, rfl⟩ := Int.eq_ofNat_of_zero_le h0
  have hn : n < xs.length := by omega
  refine atI_nat ?_
  rw [List.getElem?_map, List.getElem?_eq_getElem hn, List.getD_eq_getElem?_getD, show ((n : Nat) : Int).toNat = n from rfl, List.getElem?_eq_getElem hn]
  rfl
theorem mod_lt8 (n : Int) {m : Int} (h : 0 < m) : 0 ≤ n % m ∧ n % m < m := ⟨Int.emod_nonneg _ (by omega), Int.emod_lt_of_pos _ h⟩
def wtab : List Int := [0, 0, 0, 2, 3, 5, 7, 31]
theorem wtab_in : ∀ k : Nat, k < 8 → wtab.getD k 0 = 0 ∨ (wtab.getD k 0 ≠ 0 ∧ inV (.int (wtab.getD k 0)) (primes.map V.int) = true ∧ 2 ≤ wtab.getD k 0) := by decide
/-! ### isinstance of the error that an except suite holds -/
def rIsE' (K : PySem.W.Frag) (cls : Value) (d : Option Addr) (a : Addr) : List V → Hp → VK → Prop := fun xs H Q => ∃ D : Addr, cls = .ref D ∧ d = none ∧ ExcC K D ∧ rIsE K D a xs H Q
theorem call_isE' {X : Cx} {a : Addr} {oe : Obj} {pn : List (Addr × Obj)} {cls : Value} {d : Option Addr} (hz : Zc cls d oe) (hf : ∃ vs, oe.data = .fields vs) : CallR (X.suite a ((a, oe) :: pn)) (.builtin "isinstance") (rIsE' X.K cls d a) := by
  intro pins s σ H xs us Q I r h
  obtain ⟨D, rfl, rfl, C, h⟩ := h
  exact call_isE C hz hf pins s σ H xs us Q I r h
theorem pe_indexK {X : Cx} {K : PySem.W.Frag} {o e : Expr} {to : TE} {t : TA} {apos cpos : Pos} (hK : X.K = K) (ho : PE X o to) (ha : PA X [e] t)
    (hb : attributeBase o "index" X.env (eval o X.env) = eval o X.env := by rfl)
    (hf : ((backTo cpos (starEach [e] X.env)).all (fun x => !x.1) && (backToKw cpos (keywordEach [] X.env)).all (fun x => x.1.isSome) && decide ([e].length + ([] : List Keyword).length + (if ([] : List Keyword).isEmpty then 0 else 1) < 30)) = true := by rfl)
    (hl : (apos.endLine == cpos.line) = true := by rfl) (hs : starEach [e] X.env = (false, eval e X.env) :: starEach [] X.env := by rfl) (hp : (backTo cpos (starEach [] X.env)).any (·.1) = false := by rfl) :
    PE X (.Call (.Attribute o "index" apos) [e] [] cpos) (tBM K "list" (rIndex K) to t) := by
  subst hK
  exact pe_bm PySem.F.plainAttrs_list PySem.F.slot_list_index PySem.F.type_list_index mt_index ho ha hb hf hl hs hp
/-! ### values without depth -/
inductive Val1 (H : Hp) : V → PyData → Prop
  | non : Val1 H .non .none
  | bl (b : Bool) : Val1 H (.bl b) (.bool b)
  | str (x : Str) : Val1 H (.str x) (.str x)
  | pair {t : Addr} {u v : Int} : H t = some (.tup [.int u, .int v]) → Val1 H (.ref t) (.tuple [.int u, .int v])
theorem Val1.dp {K : PySem.W.Frag} {H : Hp} {x : V} {d : PyData} (h : Val1 H x d) : Dp K H x d := by
  cases h with
  | non => exact .non
  | bl b => exact .bl b
  | str x => exact .str x
  | pair h => exact .tup (.inl (.inl h)) (.cons (.int _) (.cons (.int _) .nil))
theorem Val1.but {H H' : Hp} {D : Addr} {ys : List V} {x : V} {d : PyData} (s : SameBut D H H') (hD : H D = some (.lst ys)) (h : Val1 H x d) : Val1 H' x d := by
  cases h with
  | non => exact .non
  | bl b => exact .bl b
  | str x => exact .str x
  | pair h => exact .pair (s _ _ (ne_of h hD (fun z => nomatch z)) h)
theorem Val1.same {H H' : Hp} {x : V} {d : PyData} (s : Same H H') (h : Val1 H x d) : Val1 H' x d := by
  cases h with
  | non => exact .non
  | bl b => exact .bl b
  | str x => exact .str x
  | pair h => exact .pair (s _ _ h)
theorem vals1_dp {K : PySem.W.Frag} {H : Hp} : ∀ {xs : List V} {ds : List PyData}, Paired (Val1 H) xs ds → DpAll K H xs ds
  | _, _, .nil => .nil
  | _, _, .cons a b => .cons a.dp (vals1_dp b)
theorem paired_snoc {α β : Type} {F : α → β → Prop} {a : α} {b : β} (h : F a b) : ∀ {l : List α} {m : List β}, Paired F l m → Paired F (l ++ [a]) (m ++ [b])
  | _, _, .nil => .cons h .nil
  | _, _, .cons x y => .cons x (paired_snoc h y)

/-- the first def of a class -/
def inCls : Stmt → Stmt
  | .ClassDef _ _ _ body _ _ _ _ _ _ _ => body.getD 0 (.Pass ⟨0, 0, 0, 0⟩)
  | s => s
theorem pt_truthK {X : Cx} {K : PySem.W.Frag} {a : Expr} {ta : TE} (hK : X.K = K) (ha : PE X a ta) (he : ∀ whole, isTrue a X.env whole = (do let v ← whole; standAt a.pos; holding [v] (truthy v))) :
    PT X a (fun σ H Q => ta σ H fun x H' => ∃ k, TruV K x H' k ∧ Q k H') := by
  subst hK
  exact pt_truth ha he
theorem op_in_seqK {X : Cx} {K : PySem.W.Frag} (hK : X.K = K) : OpR X (compareOp .In) (rIn K false) := by
  subst hK
  exact op_in_seq
theorem op_notIn_seqK {X : Cx} {K : PySem.W.Frag} (hK : X.K = K) : OpR X (compareOp .NotIn) (rIn K true) := by
  subst hK
  exact op_notIn_seq
theorem pi_listK {X : Cx} {K : PySem.W.Frag} {tg e : Expr} {te : TE} (hK : X.K = K) (he : PE X e te) : PI X tg e (iList K te) := by
  subst hK
  exact pi_list he

def topS (i : Nat) : Stmt := PySem.Challenge.pw_threadworth_k17_texts_of_diagrams.main.body.getD i (.Pass ⟨0, 0, 0, 0⟩)
abbrev s_is_size_ : Stmt := topS 8
theorem sc_is_size_ : FnScope ["n", "m"] ["n", "m"] (defScope s_is_size_) := ⟨rfl, rfl, rfl, by decide +kernel, rfl, by decide +kernel, by decide +kernel⟩
abbrev s_check_size_ : Stmt := topS 9
theorem sc_check_size_ : FnScope ["n", "m"] ["n", "m"] (defScope s_check_size_) := ⟨rfl, rfl, rfl, by decide +kernel, rfl, by decide +kernel, by decide +kernel⟩
abbrev s_is_diagram : Stmt := topS 10
theorem sc_is_diagram : FnScope ["diagram", "n", "m", "blocks", "points", "firsts", "block", "point"] ["diagram"] (defScope s_is_diagram) := ⟨rfl, rfl, rfl, by decide +kernel, rfl, by decide +kernel, by decide +kernel⟩
abbrev s_check_diagram : Stmt := topS 11
theorem sc_check_diagram : FnScope ["diagram"] ["diagram"] (defScope s_check_diagram) := ⟨rfl, rfl, rfl, by decide +kernel, rfl, by decide +kernel, by decide +kernel⟩
abbrev s_labels : Stmt := topS 12
theorem sc_labels : FnScope ["diagram", "n", "m", "blocks", "marks", "k", "block", "point", "_"] ["diagram"] (defScope s_labels) := ⟨rfl, rfl, rfl, by decide +kernel, rfl, by decide +kernel, by decide +kernel⟩
abbrev s_from_labels : Stmt := topS 13
theorem sc_from_labels : FnScope ["n", "m", "marks", "blocks", "point", "mark"] ["n", "m", "marks"] (defScope s_from_labels) := ⟨rfl, rfl, rfl, by decide +kernel, rfl, by decide +kernel, by decide +kernel⟩
abbrev s_text_of : Stmt := topS 16
theorem sc_text_of : FnScope ["diagram", "letters", "n", "mark"] ["diagram"] (defScope s_text_of) := ⟨rfl, rfl, rfl, by decide +kernel, rfl, by decide +kernel, by decide +kernel⟩
abbrev s_read_diagram : Stmt := topS 17
theorem sc_read_diagram : FnScope ["text", "n", "marks", "at", "letter"] ["text"] (defScope s_read_diagram) := ⟨rfl, rfl, rfl, by decide +kernel, rfl, by decide +kernel, by decide +kernel⟩
abbrev s_has_room_ : Stmt := topS 18
theorem sc_has_room_ : FnScope ["n", "marks"] ["n", "marks"] (defScope s_has_room_) := ⟨rfl, rfl, rfl, by decide +kernel, rfl, by decide +kernel, by decide +kernel⟩
abbrev s_next_letters_ : Stmt := topS 19
theorem sc_next_letters_ : FnScope ["marks"] ["marks"] (defScope s_next_letters_) := ⟨rfl, rfl, rfl, by decide +kernel, rfl, by decide +kernel, by decide +kernel⟩
abbrev s_law_number : Stmt := topS 21
theorem sc_law_number : FnScope ["cell"] ["cell"] (defScope s_law_number) := ⟨rfl, rfl, rfl, by decide +kernel, rfl, by decide +kernel, by decide +kernel⟩
abbrev s_law_draws : Stmt := topS 22
theorem sc_law_draws : FnScope ["script", "draws", "cell", "rest", "k", "once", "twice"] ["script"] (defScope s_law_draws) := ⟨rfl, rfl, rfl, by decide +kernel, rfl, by decide +kernel, by decide +kernel⟩
abbrev s_law_next : Stmt := topS 23
theorem sc_law_next : FnScope ["draws"] ["draws"] (defScope s_law_next) := ⟨rfl, rfl, rfl, by decide +kernel, rfl, by decide +kernel, by decide +kernel⟩
abbrev s_law_seen : Stmt := topS 24
theorem sc_law_seen : FnScope ["marks", "seen", "mark"] ["marks"] (defScope s_law_seen) := ⟨rfl, rfl, rfl, by decide +kernel, rfl, by decide +kernel, by decide +kernel⟩
abbrev s_law_from : Stmt := topS 25
theorem sc_law_from : FnScope ["n", "m", "marks", "blocks", "mark", "at"] ["n", "m", "marks"] (defScope s_law_from) := ⟨rfl, rfl, rfl, by decide +kernel, rfl, by decide +kernel, by decide +kernel⟩
abbrev s_law_marks : Stmt := topS 26
theorem sc_law_marks : FnScope ["diagram", "marks", "number", "point"] ["diagram"] (defScope s_law_marks) := ⟨rfl, rfl, rfl, by decide +kernel, rfl, by decide +kernel, by decide +kernel⟩
abbrev s_law_joined : Stmt := topS 27
theorem sc_law_joined : FnScope ["marks", "links", "one", "other", "low", "high", "mark"] ["marks", "links"] (defScope s_law_joined) := ⟨rfl, rfl, rfl, by decide +kernel, rfl, by decide +kernel, by decide +kernel⟩
abbrev s_law_pick : Stmt := topS 28
theorem sc_law_pick : FnScope ["draws", "left"] ["draws", "left"] (defScope s_law_pick) := ⟨rfl, rfl, rfl, by decide +kernel, rfl, by decide +kernel, by decide +kernel⟩
abbrev s_law_family : Stmt := topS 29
theorem sc_law_family : FnScope ["draws"] ["draws"] (defScope s_law_family) := ⟨rfl, rfl, rfl, by decide +kernel, rfl, by decide +kernel, by decide +kernel⟩
abbrev s_law_other_side : Stmt := topS 30
theorem sc_law_other_side : FnScope ["draws", "family", "n", "most", "m"] ["draws", "family", "n", "most"] (defScope s_law_other_side) := ⟨rfl, rfl, rfl, by decide +kernel, rfl, by decide +kernel, by decide +kernel⟩
abbrev s_law_threaded : Stmt := topS 31
theorem sc_law_threaded : FnScope ["draws", "family", "n", "m", "at", "marks", "left"] ["draws", "family", "n", "m"] (defScope s_law_threaded) := ⟨rfl, rfl, rfl, by decide +kernel, rfl, by decide +kernel, by decide +kernel⟩
abbrev s_law_drawn : Stmt := topS 32
theorem sc_law_drawn : FnScope ["draws", "family", "n", "m", "marks", "at", "left", "j", "one"] ["draws", "family", "n", "m"] (defScope s_law_drawn) := ⟨rfl, rfl, rfl, by decide +kernel, rfl, by decide +kernel, by decide +kernel⟩
abbrev s_law_fault : Stmt := topS 33
theorem sc_law_fault : FnScope ["text", "marks", "bar", "at", "sign", "side", "fresh", "mark"] ["text"] (defScope s_law_fault) := ⟨rfl, rfl, rfl, by decide +kernel, rfl, by decide +kernel, by decide +kernel⟩
abbrev s_law_told : Stmt := topS 34
theorem sc_law_told : FnScope ["text", "error"] ["text"] (defScope s_law_told) := ⟨rfl, rfl, rfl, by decide +kernel, rfl, by decide +kernel, by decide +kernel⟩
abbrev s_law_spoilt : Stmt := topS 35
theorem sc_law_spoilt : FnScope ["draws", "text", "at", "sign", "kind"] ["draws", "text"] (defScope s_law_spoilt) := ⟨rfl, rfl, rfl, by decide +kernel, rfl, by decide +kernel, by decide +kernel⟩
abbrev s_law_refuses : Stmt := topS 36
theorem sc_law_refuses : FnScope ["diagram"] ["diagram"] (defScope s_law_refuses) := ⟨rfl, rfl, rfl, by decide +kernel, rfl, by decide +kernel, by decide +kernel⟩
abbrev s_law : Stmt := topS 37
theorem sc_law : FnScope ["script", "draws", "j", "family", "n", "diagram", "letters", "text", "given", "at", "told", "mark"] ["script"] (defScope s_law) := ⟨rfl, rfl, rfl, by decide +kernel, rfl, by decide +kernel, by decide +kernel⟩
abbrev s_Malformed_init : Stmt := inCls (topS 4)
theorem sc_Malformed_init : FnScope ["self", "at"] ["self", "at"] (defScope s_Malformed_init) := ⟨rfl, rfl, rfl, by decide +kernel, rfl, by decide +kernel, by decide +kernel⟩
structure SmL (n k : Nat) (D : PyData) : Prop where
  lay : D.canLay0 = true
  dep : D.depth ≤ n
  sho : D.showable = true
  wgt : wt D ≤ k
theorem smL_all {n k : Nat} : ∀ {ds : List PyData}, (∀ D ∈ ds, SmL n k D) → PyData.canLayAll0 ds = true ∧ PyData.depthAll ds ≤ n ∧ PyData.showableAll ds = true ∧ wtAll ds ≤ (k + 2) * ds.length
  | [], _ => ⟨by simp [PyData.canLayAll0], by simp [PyData.depthAll], by simp [PyData.showableAll], by simp [wtAll]⟩
  | D :: ds, h => by
    obtain ⟨h1, h2, h3, h4⟩ := smL_all (ds := ds) fun E hE => h E (List.mem_cons_of_mem _ hE)
    have g := h D List.mem_cons_self
    refine ⟨by simp [PyData.canLayAll0, g.lay, h1], ?_, by simp [PyData.showableAll, g.sho, h3], ?_⟩
    · simp only [PyData.depthAll]
      have := g.dep
      omega
    · simp only [wtAll, List.length_cons, Nat.mul_add]
      have := g.wgt
      omega
theorem smL_list {n k : Nat} {ds : List PyData} (h : ∀ D ∈ ds, SmL n k D) : SmL (n + 1) ((k + 2) * ds.length + 3) (.list ds) := by
  obtain ⟨h1, h2, h3, h4⟩ := smL_all h
  exact ⟨by simp [PyData.canLay0, h1], by simp only [PyData.depth]; omega, by simp [PyData.showable, h3], by simp only [wt]; omega⟩
theorem smL_tuple {n k : Nat} {ds : List PyData} (h : ∀ D ∈ ds, SmL n k D) : SmL (n + 1) ((k + 2) * ds.length + 3) (.tuple ds) := by
  obtain ⟨h1, h2, h3, h4⟩ := smL_all h
  exact ⟨by simp [PyData.canLay0, h1], by simp only [PyData.depth]; omega, by simp [PyData.showable, h3], by simp only [wt]; omega⟩
theorem SmL.shaped {n k : Nat} {D : PyData} (h : SmL n k D) (hn : n ≤ 64) : SeqAt.shaped D = true := by
  show (PyData.canLay0 D && decide (PyData.depth D ≤ 64)) = true
  rw [h.lay, decide_eq_true (Nat.le_trans h.dep hn)]
  rfl
theorem SmL.wide {n k : Nat} {D : PyData} (h : SmL n k D) (hk : k ≤ 16777216) : wt D ≤ sizeLine := by
  rw [sizeLine_eq]
  exact Nat.le_trans h.wgt hk
theorem small_log {i : Int} (h : i.natAbs < 2 ^ 200) : i.natAbs.log2 < 1920 := by
  by_cases e : i.natAbs = 0
  · rw [e]
    decide
  · exact (Nat.log2_lt e).mpr (Nat.lt_of_lt_of_le h (Nat.pow_le_pow_right (by decide) (by decide)))
theorem smL_int {i : Int} (h : i.natAbs < 2 ^ 200) : SmL 0 1921 (.int i) := ⟨by simp [PyData.canLay0], by simp [PyData.depth], by simp [PyData.showable, small_log h], by simp only [wt]; omega⟩
theorem smL_pair {u v : Int} (hu : u.natAbs < 2 ^ 200) (hv : v.natAbs < 2 ^ 200) : SmL 1 4000 (.tuple [.int u, .int v]) := by
  have h := smL_tuple (ds := [.int u, .int v]) (n := 0) (k := 1921) fun D hD => by
    rcases List.mem_cons.mp hD with rfl | hD
    · exact smL_int hu
    · rcases List.mem_cons.mp hD with rfl | hD
      · exact smL_int hv
      · cases hD
  exact ⟨h.lay, h.dep, h.sho, Nat.le_trans h.wgt (by show (1921 + 2) * 2 + 3 ≤ 4000; decide)⟩
theorem ok_n : PyData.strOk ("!n" : Str) = true := by decide +kernel
theorem ok_b : PyData.strOk ("!b" : Str) = true := by decide +kernel
theorem ok_w : PyData.strOk ("!w" : Str) = true := by decide +kernel
theorem rl_n : (reprText ("!n" : Str)).length = 4 := by decide +kernel
theorem rl_b : (reprText ("!b" : Str)).length = 4 := by decide +kernel
theorem rl_w : (reprText ("!w" : Str)).length = 4 := by decide +kernel
theorem smL_n : SmL 1 4000 (.str "!n") := ⟨by simp [PyData.canLay0, ok_n], by simp [PyData.depth], by simp [PyData.showable], by simp only [wt, rl_n]; omega⟩
theorem smL_b : SmL 1 4000 (.str "!b") := ⟨by simp [PyData.canLay0, ok_b], by simp [PyData.depth], by simp [PyData.showable], by simp only [wt, rl_b]; omega⟩
theorem smL_w : SmL 1 4000 (.str "!w") := ⟨by simp [PyData.canLay0, ok_w], by simp [PyData.depth], by simp [PyData.showable], by simp only [wt, rl_w]; omega⟩
theorem smL_non : SmL 1 4000 .none := ⟨by simp [PyData.canLay0], by simp [PyData.depth], by simp [PyData.showable], by simp only [wt]; omega⟩
theorem smL_bool (b : Bool) : SmL 1 4000 (.bool b) := ⟨by simp [PyData.canLay0], by simp [PyData.depth], by simp [PyData.showable], by simp only [wt]; omega⟩

section
variable {P : Program} {w : World} {K : PySem.W.Frag} {mg : Str → Option Value} {base : Heap}
/-! ### _law_number -/
def spPlain : Sp := fun vs H Q _ => ∃ n : Int, vs = [.int n] ∧ Q (.int (if n < 0 then -n else n)) H
theorem ok_plain {f : Addr} {fd : FuncData} (F : Fun K "_law_number" "_law_number" s_law_number f fd) : FnOk P w K mg base CX0 1 f fd ["cell"] spPlain := by
  refine F.ok sc_law_number (fun vs H Q E h => ?_) (fun cdv A outer s H vs Q E hr h => ?_)
  · obtain ⟨n, rfl, _⟩ := h
    rfl
  · obtain ⟨n, rfl, q⟩ := h
    refine ⟨_, (pss_cons (ps_if (pt_cmpR op_lt (pv 0) pe_int (nomark _)) (pss_one (ps_ret (pe_op op_sub pe_int (pv 0)))) pss_nil)
  (pss_one (ps_ret (pv 0))))
    , ?_⟩
    refine ⟨_, rfl, _, _, rfl, rfl, _, rfl, ite2 (fun e => ?_) (fun e => ?_)⟩
    · rw [if_pos (of_decide_eq_true e)] at q
      have q' : Q (.int (0 - n)) H := by
        rw [show (0 : Int) - n = -n by omega]
        exact q
      exact ⟨_, rfl, _, _, rfl, rfl, q'⟩
    · rw [if_neg (fun z => e (decide_eq_true z))] at q
      exact ⟨_, rfl, q⟩
end

section
variable {P : Program} {w : World} {K : PySem.W.Frag} {mg : Str → Option Value} {base : Heap}
/-! ### _law_next -/
def spNext : Sp := fun vs H Q _ => ∃ (a : Addr) (ds : List Int), vs = [.ref a] ∧ H a = some (.lst (ds.map V.int)) ∧ ∀ (n : Int) (ds' : List Int), Q (.int n) (upd H a (.lst (ds'.map V.int)))
theorem ok_next {f : Addr} {fd : FuncData} (F : Fun K "_law_next" "_law_next" s_law_next f fd) : FnOk P w K mg base CX0 1 f fd ["draws"] spNext := by
  refine F.ok sc_law_next (fun vs H Q E h => ?_) (fun cdv A outer s H vs Q E hr h => ?_)
  · obtain ⟨a, ds, rfl, _⟩ := h
    rfl
  · obtain ⟨a, ds, rfl, hL, q⟩ := h
    refine ⟨_, (pss_cons (ps_if (pt_truth (pv 0) (by intro _; rfl)) (pss_one (ps_ret (pe_bm0 PySem.F.plainAttrs_list PySem.F.slot_list_pop PySem.F.type_list_pop mt_pop (pv 0)))) pss_nil)
  (pss_one (ps_ret pe_int)))
    , ?_⟩
    refine ⟨_, rfl, _, .inl ⟨_, .inl (.inl hL), rfl⟩, ite2 (fun e => ?_) (fun e => ?_)⟩
    · have hn : ds ≠ [] := fun z => by subst z; cases e
      have hm : ds.map V.int = ds.dropLast.map V.int ++ [V.int (ds.getLast hn)] := by
        rw [← List.map_singleton, ← List.map_append, List.dropLast_concat_getLast]
      refine ⟨_, rfl, .inl ⟨rfl, _, .inl (.inl hL)⟩, a, _, .int (ds.getLast hn), rfl, rfl, hL, ?_, ?_⟩
      · rw [hm]; simp
      · rw [hm, List.dropLast_concat]
        exact q _ _
    · have := q 0 ds
      rw [upd_self hL] at this
      exact this
end

section
variable {P : Program} {w : World} {K : PySem.W.Frag} {mg : Str → Option Value} {base : Heap}
/-! ### _law_draws -/
def spDraws (K : PySem.W.Frag) : Sp := fun vs H Q _ => ∃ (a : Addr) (ns : List Int), vs = [.ref a] ∧ SqL K H a (ns.map V.int) ∧ ns.length ≤ 63 ∧
  ∀ H' r (ds : List Int), Same H H' → H r = none → H' r = some (.lst (ds.map V.int)) → Q (.ref r) H'
theorem ok_draws {f : Addr} {fd : FuncData} {a_law_number : Addr} {fd_law_number : FuncData} (F : Fun K "_law_draws" "_law_draws" s_law_draws f fd) (z_range : mg "range" = none) (z_int : mg "int" = none)
    (G_law_number : FnOk P w K mg base CX0 1 a_law_number fd_law_number ["cell"] spPlain) (g_law_number : mg "_law_number" = some (.ref a_law_number)) (k_law_number : PySem.W.keepIn K (.ref a_law_number) = true) (b_law_number : Binds K fd_law_number ["cell"] []) :
    FnOk P w K mg base CX0 2 f fd ["script"] (spDraws K) := by
  refine F.ok sc_law_draws (fun vs H Q E h => ?_) (fun cdv A outer s H vs Q E hr h => ?_)
  · obtain ⟨n, _, rfl, _⟩ := h
    rfl
  · obtain ⟨a, ns, rfl, hS, hlen, q⟩ := h
    refine ⟨_, (pss_cons (ps_set (i := 1) sc_law_draws.nd rfl (.inl rfl) (pe_lst pa_nil))
  (pss_cons (ps_for PassesOwn.never rfl (pi_list (pv 0)) (pg_name (i := 2) sc_law_draws.nd rfl (.inl rfl)) (pss_cons (ps_set (i := 3) sc_law_draws.nd rfl (.inl rfl) (pe_call G_law_number (hr.mono (by decide)) rfl g_law_number k_law_number b_law_number .nil pass0 (pa_cons (pv 2) pa_nil)))
  (pss_one (ps_if (pt_cmpR op_ge (pv 3) pe_int (nomark _)) (pss_one (ps_for PassesOwn.never rfl (pi_range1 rfl z_range (pa_cons pe_int pa_nil)) (pg_name (i := 4) sc_law_draws.nd rfl (.inl rfl)) (pss_cons (ps_if (pt_cmpR op_eq (pv 3) pe_int (nomark _)) (pss_one ps_break) pss_nil)
  (pss_cons (ps_expr (pe_bm PySem.F.plainAttrs_list PySem.F.slot_list_append PySem.F.type_list_append mt_append (pv 1) (pa_cons (pe_op op_mod (pe_callTy call_int1 (by rfl) z_int boot_int (pa_cons (pv 3) pa_nil)) pe_int) pa_nil)))
  (pss_one (ps_set (i := 3) sc_law_draws.nd rfl (.inl rfl) (pe_op op_fdiv (pv 3) pe_int))))))) (pss_cons (ps_set (i := 5) sc_law_draws.nd rfl (.inl rfl) (pe_op op_mod (pe_callTy call_int1 (by rfl) z_int boot_int (pa_cons (pe_op op_add (pe_op op_mul (pv 3) pe_int) pe_int) pa_nil)) pe_int))
  (pss_cons (ps_set (i := 6) sc_law_draws.nd rfl (.inl rfl) (pe_op op_mod (pe_callTy call_int1 (by rfl) z_int boot_int (pa_cons (pe_op op_add (pe_op op_mul (pv 5) pe_int) (pv 3)) pa_nil)) pe_int))
  (pss_one (ps_expr (pe_bm PySem.F.plainAttrs_list PySem.F.slot_list_extend PySem.F.type_list_extend mt_extend (pv 1) (pa_cons (pe_lst (pa_cons (pe_op op_mod (pe_callTy call_int1 (by rfl) z_int boot_int (pa_cons (pv 3) pa_nil)) pe_int) (pa_cons (pe_op op_mod (pe_callTy call_int1 (by rfl) z_int boot_int (pa_cons (pv 5) pa_nil)) pe_int) (pa_cons (pe_op op_mod (pe_callTy call_int1 (by rfl) z_int boot_int (pa_cons (pv 6) pa_nil)) pe_int) pa_nil)))) pa_nil))))))))))
  (pss_one (ps_ret (pv 1)))))
    , ?_⟩
    refine ⟨Nat.zero_le _, fun o no => ?_⟩
    have s1 : Same H (upd H o (.lst [])) := same_upd no
    refine ⟨.ref a, rfl, a, rfl, ⟨_, s1.seq hS⟩, for_list (K := K) (a := a) (xs := ns.map V.int) (fun i σ H' => ∃ v2 v3 v4 v5 v6 ds, σ = [some (.ref a), some (.ref o), v2, v3, v4, v5, v6] ∧ Same H H' ∧ H' o = some (.lst (ds.map V.int)) ∧ ds.length ≤ 60 * i)
      ⟨none, none, none, none, none, [], rfl, s1, upd_same, Nat.le_refl _⟩ (fun i σ H' _ ⟨_, _, _, _, _, _, _, sm, _⟩ => sm.seq hS) ?_ ?_⟩
    · rintro i y σ H1 hi ⟨v2, v3, v4, v5, v6, ds, rfl, sm, hL, hl⟩
      have hi63 : i < 63 := by
        have := (List.getElem?_eq_some_iff.mp hi).1
        rw [List.length_map] at this
        omega
      obtain ⟨z, hz, rfl⟩ := map_int_get hi
      refine ⟨_, rfl, z, rfl, ?_⟩
      generalize hr0 : (if z < 0 then -z else z) = r0
      have h0 : 0 ≤ r0 := by
        subst hr0
        split <;> omega
      refine ⟨_, rfl, _, _, rfl, rfl, _, rfl, ite2 (fun e => ?_) (fun e => ?_)⟩
      · refine ⟨60, rfl, by decide, by decide, for_range (lo := 0) (n := 60) (fun j σ H' => ∃ r v4 ds', σ = [some (.ref a), some (.ref o), some (.int z), some (.int r), v4, v5, v6] ∧ 0 ≤ r ∧ Same H H' ∧ H' o = some (.lst (ds'.map V.int)) ∧ ds'.length ≤ 60 * i + j)
          ⟨r0, v4, ds, rfl, h0, sm, hL, hl⟩ ?_ ?_⟩
        · rintro j σ H2 hj ⟨r, v4', ds', rfl, hr0', sm2, hL2, hl2⟩
          refine ⟨_, rfl, rfl, _, rfl, ite2 (fun e1 => ?_) (fun e1 => ?_)⟩
          · exact ⟨_, _, _, _, _, ds', rfl, sm2, hL2, by omega⟩
          · refine ⟨.ref o, rfl, .inl ⟨rfl, _, .inl (.inl hL2)⟩, .int r, rfl, .inl ⟨r, rfl, r, 1000, rfl, rfl, (show (0:Int) < 1000 by decide), o, _, _, rfl, rfl, hL2, ?_, ?_⟩⟩
            · rw [List.length_map]
              exact small_of (by omega)
            · refine ⟨_, rfl, r, 1000, rfl, rfl, ⟨by decide, by decide⟩, ?_⟩
              refine ⟨r / 1000, _, ds' ++ [r % 1000], rfl, by omega, Same.mut sm2 no, ?_, ?_⟩
              · rw [upd_same, List.map_append]
                rfl
              · rw [List.length_append]
                show ds'.length + 1 ≤ _
                omega
        · rintro σ H2 ⟨r, v4', ds', rfl, hr0', sm2, hL2, hl2⟩
          exact ⟨_, _, _, _, _, ds', rfl, sm2, hL2, by omega⟩
      · have c1 : CMul r0 48271 := .inr ⟨by decide, by decide⟩
        refine ⟨.int r0, rfl, r0, 48271, rfl, rfl, c1, _, 11, rfl, rfl, .inl ⟨_, rfl, _, 2147483647, rfl, rfl, (show (0:Int) < 2147483647 by decide), ?_⟩⟩
        have c2 : ∀ x : Int, CMul x 69621 := fun _ => .inr ⟨by decide, by decide⟩
        refine ⟨_, rfl, _, 69621, rfl, rfl, c2 _, .int r0, rfl, _, r0, rfl, rfl, .inl ⟨_, rfl, _, 2147483629, rfl, rfl, (show (0:Int) < 2147483629 by decide), ?_⟩⟩
        have p1000 : (0:Int) < 1000 := by decide
        refine ⟨.ref o, rfl, .inl ⟨rfl, _, .inl (.inl hL)⟩, ?_⟩
        refine ⟨.int r0, rfl, .inl ⟨r0, rfl, r0, 1000, rfl, rfl, p1000, _, rfl, .inl ⟨_, rfl, _, 1000, rfl, rfl, p1000, _, rfl, .inl ⟨_, rfl, _, 1000, rfl, rfl, p1000, ?_⟩⟩⟩⟩
        refine ⟨(by show 3 ≤ sizeLine; decide), fun c nc => ?_⟩
        have hoc : o ≠ c := ne_of_none hL nc
        refine ⟨o, c, ds.map V.int, _, rfl, rfl, ?_, upd_same, ?_, ?_⟩
        · rw [upd_ne hoc]
          exact hL
        · rw [List.length_map]
          exact Nat.le_of_lt (small_of (show ds.length + 3 ≤ 100000 by omega))
        · refine ⟨_, _, _, _, _, ds ++ [r0 % 1000, (r0 * 48271 + 11) % 2147483647 % 1000, ((r0 * 48271 + 11) % 2147483647 * 69621 + r0) % 2147483629 % 1000], rfl, Same.mut (Same.trans sm (same_upd nc)) no, ?_, ?_⟩
          · rw [upd_same, List.map_append]
            rfl
          · rw [List.length_append]
            show ds.length + 3 ≤ _
            omega
    · rintro σ H1 ⟨v2, v3, v4, v5, v6, ds, rfl, sm, hL, hl⟩
      exact ⟨_, rfl, q H1 o ds sm no hL⟩
end

theorem sqL_same {K : PySem.W.Frag} {H H' : Hp} {a : Addr} {xs : List V} (e : Same H H') (h : SqL K H a xs) : SqL K H' a xs := by
  rcases h with (h | ⟨o, h⟩) | h
  · exact .inl (.inl (e _ _ h))
  · exact .inl (.inr ⟨o, e _ _ h⟩)
  · exact .inr h
theorem none_back {H H' : Hp} {a : Addr} (s : Same H H') (h : H' a = none) : H a = none := by
  cases e : H a with
  | none => rfl
  | some o =>
    rw [s _ _ e] at h
    exact nomatch h

/-- a tuple of these integers -/
def TP (H : Hp) (v : V) (z : List Int) : Prop := ∃ t, v = .ref t ∧ H t = some (.tup (z.map V.int))
theorem TP.same {H H' : Hp} {v : V} {z : List Int} (s : Same H H') (h : TP H v z) : TP H' v z := by
  obtain ⟨t, rfl, h⟩ := h
  exact ⟨t, rfl, s _ _ h⟩
def dT (z : List Int) : PyData := .tuple (z.map PyData.int)
theorem ints_dp {K : PySem.W.Frag} {H : Hp} : ∀ z : List Int, DpAll K H (z.map V.int) (z.map PyData.int)
  | [] => .nil
  | a :: r => .cons (.int a) (ints_dp r)
theorem TP.dp {K : PySem.W.Frag} {H : Hp} {v : V} {z : List Int} (h : TP H v z) : Dp K H v (dT z) := by
  obtain ⟨t, rfl, h⟩ := h
  exact .tup (.inl (.inl h)) (ints_dp z)
theorem tps_dp {K : PySem.W.Frag} {H : Hp} : ∀ {vs : List V} {zs : List (List Int)}, Paired (TP H) vs zs → DpAll K H vs (zs.map dT)
  | _, _, .nil => .nil
  | _, _, .cons a b => .cons a.dp (tps_dp b)
theorem paired_add {α β : Type} {F : α → β → Prop} {a : α} {b : β} (h : F a b) : ∀ {l : List α} {m : List β}, Paired F l m → Paired F (l ++ [a]) (m ++ [b])
  | _, _, .nil => .cons h .nil
  | _, _, .cons x y => .cons x (paired_add h y)
theorem dT_small {z : List Int} (h : ∀ k, (co z k).natAbs < 2 ^ 200) : SmL 1 (1923 * z.length + 3) (dT z) := by
  have e := smL_tuple (ds := z.map PyData.int) (n := 0) (k := 1921) fun D hD => by
    obtain ⟨a, ha, rfl⟩ := List.mem_map.mp hD
    obtain ⟨i, hi, rfl⟩ := List.mem_iff_getElem.mp ha
    have e1 := co_get hi
    rw [List.getElem?_eq_getElem hi] at e1
    rw [Option.some.inj e1]
    exact smL_int (h i)
  rw [List.length_map] at e
  exact e
theorem SmL.more {n k k' : Nat} {D : PyData} (h : SmL n k D) (hk : k ≤ k') : SmL n k' D := by
  obtain ⟨h1, h2, h3, h4⟩ := h
  exact ⟨h1, h2, h3, Nat.le_trans h4 hk⟩
theorem repT {α : Type} (x : α) : ∀ n : Nat, (List.replicate n [x]).flatten = List.replicate n x
  | 0 => rfl
  | n + 1 => by rw [List.replicate_succ, List.flatten_cons, repT x n, List.replicate_succ]; rfl
def rCatB (K : PySem.W.Frag) : R2 := fun x y H Q => ∃ a b xs ys, x = .ref a ∧ y = .ref b ∧ SqT K H a xs ∧ SqT K H b ys ∧ xs.length + ys.length ≤ sizeLine ∧ ∀ p H', Same H H' → SqT K H' p (xs ++ ys) → Q (.ref p) H'
theorem op_catB {X : Cx} : OpR X (binaryOp .Add) (rCatB X.K) := by
  intro pins s σ H x y v u Q I rx ry h
  obtain ⟨a, b, xs, ys, rfl, rfl, ha, hb, hz, q⟩ := h
  refine op_catA pins s σ H _ _ v u Q I rx ry ⟨a, b, xs, ys, rfl, rfl, ha, hb, hz, fun e => ?_, fun _ e => ?_, fun _ _ p np => ?_⟩
  · exact q b H (Same.refl _) (by rw [e, List.nil_append]; exact hb)
  · exact q a H (Same.refl _) (by rw [e, List.append_nil]; exact ha)
  · exact q p _ (same_upd np) (.inl (.inl upd_same))
theorem sqT_butL {K : PySem.W.Frag} {H H' : Hp} {r a : Addr} {xs ys : List V} (hr : H r = some (.lst ys)) (e : SameBut r H H') (h : SqT K H a xs) : SqT K H' a xs := by
  rcases h with (h | ⟨o, h⟩) | h
  · exact .inl (.inl (e _ _ (ne_of h hr (fun z => nomatch z)) h))
  · exact .inl (.inr ⟨o, e _ _ (ne_of h hr (fun z => nomatch z)) h⟩)
  · exact .inr h
theorem eqvAll_ints : ∀ x y : List Int, PyData.eqvAll (x.map PyData.int) (y.map PyData.int) = decide (x = y)
  | [], [] => by simp [PyData.eqvAll]
  | [], _ :: _ => by simp [PyData.eqvAll]
  | _ :: _, [] => by simp [PyData.eqvAll]
  | a :: x, b :: y => by
    rw [List.map_cons, List.map_cons]
    simp only [PyData.eqvAll, PyData.eqv, eqvAll_ints x y]
    by_cases h1 : a = b
    · by_cases h2 : x = y
      · simp [h1, h2]
      · simp [h2]
    · simp [h1]
theorem eqv_dT (x y : List Int) : PyData.eqv (dT x) (dT y) = decide (x = y) := by
  unfold dT
  simp only [PyData.eqv, eqvAll_ints]
theorem lay_ints : ∀ x : List Int, PyData.canLayAll0 (x.map PyData.int) = true ∧ PyData.depthAll (x.map PyData.int) = 0
  | [] => ⟨by simp [PyData.canLayAll0], by simp [PyData.depthAll]⟩
  | a :: x => by
    obtain ⟨h1, h2⟩ := lay_ints x
    exact ⟨by simp [PyData.canLayAll0, PyData.canLay0, h1], by simp [PyData.depthAll, PyData.depth, h2]⟩
theorem dT_shaped (x : List Int) : SeqAt.shaped (dT x) = true := by
  obtain ⟨h1, h2⟩ := lay_ints x
  show (PyData.canLay0 (dT x) && decide (PyData.depth (dT x) ≤ 64)) = true
  unfold dT
  rw [show PyData.canLay0 (.tuple (x.map PyData.int)) = true by simp [PyData.canLay0, h1], show PyData.depth (.tuple (x.map PyData.int)) = 1 by simp [PyData.depth, h2]]
  rfl
theorem eqD_TP {K : PySem.W.Frag} {H : Hp} {u v : V} {x y : List Int} {Q : VK} (hx : TP H u x) (hy : TP H v y) (q : Q (.bl (decide (x = y))) H) : rEqD K u v H Q :=
  ⟨_, _, hx.dp, hy.dp, dT_shaped x, dT_shaped y, by rw [eqv_dT]; exact q⟩
theorem neD_TP {K : PySem.W.Frag} {H : Hp} {u v : V} {x y : List Int} {Q : VK} (hx : TP H u x) (hy : TP H v y) (q : Q (.bl (!decide (x = y))) H) : rNeD K u v H Q :=
  ⟨_, _, hx.dp, hy.dp, dT_shaped x, dT_shaped y, by rw [eqv_dT]; exact q⟩
def rRepB (K : PySem.W.Frag) : R2 := fun x y H Q => ∃ l k xs, x = .ref l ∧ y = .int k ∧ SqT K H l xs ∧ xs ≠ [] ∧ 0 ≤ k ∧ k ≤ 1000 ∧ xs.length ≤ 1000 ∧ ∀ p H', Same H H' → SqT K H' p (List.replicate k.toNat xs).flatten → Q (.ref p) H'
theorem op_repB {X : Cx} : OpR X (binaryOp .Mult) (rRepB X.K) := by
  intro pins s σ H x y v u Q I rx ry h
  obtain ⟨l, k, xs, rfl, rfl, hT, hne, h1, h2, hz, q⟩ := h
  refine op_repA pins s σ H _ _ v u Q I rx ry ⟨l, k, xs, rfl, rfl, hT, hne, h1, h2, hz, fun e => ?_, fun _ p np => ?_⟩
  · refine q l H (Same.refl _) ?_
    rw [e, show (1 : Int).toNat = 1 from rfl]
    simpa using hT
  · exact q p _ (same_upd np) (.inl (.inl upd_same))
theorem ix_tupK {X : Cx} {K : PySem.W.Frag} (hK : X.K = K) : IxR X (rIxT K) := by
  subst hK
  exact ix_tup
theorem ix_listK {X : Cx} {K : PySem.W.Frag} (hK : X.K = K) : IxR X (rIxL K) := by
  subst hK
  exact ix_list
theorem ite_same {x : V} {A B : Prop} (h : B) : if (!decide (x = x)) = true then A else B := by
  rw [decide_eq_true rfl]
  exact iteF h
theorem pi_tupK {X : Cx} {K : PySem.W.Frag} {tg e : Expr} {te : TE} (hK : X.K = K) (he : PE X e te) : PI X tg e (iTup K te) := by
  subst hK
  exact pi_tup he
theorem call_list_ofK {X : Cx} {K : PySem.W.Frag} (hK : X.K = K) : CallR X (.type "list") (fun xs H Q => ∃ p ys, xs = [.ref p] ∧ (SqL K H p ys ∨ SqT K H p ys) ∧ ∀ l, H l = none → Q (.ref l) (upd H l (.lst ys))) := by
  subst hK
  exact call_list_of
theorem op_eqDK {X : Cx} {K : PySem.W.Frag} (hK : X.K = K) (hu : X.A.units + 64 < cLine) : OpR X (compareOp .Eq) (rEqD K) := by
  subst hK
  exact op_eqD hu

/-! ### marks and blocks -/
def seenL : List Int → List Int → List Int
  | acc, [] => acc
  | acc, x :: l => seenL (if x ∈ acc then acc else acc ++ [x]) l
def ixs (N : Nat) : List Int := (List.range N).map fun (i : Nat) => (i : Int)
def posOf (marks : List Int) (v : Int) : List Int := ((List.range marks.length).filter fun i => decide (co marks i = v)).map fun (i : Nat) => (i : Int)
def blocksOf (marks : List Int) : List (List Int) := (seenL [] marks).map (posOf marks)
theorem seenL_snoc : ∀ (l acc : List Int) (x : Int), seenL acc (l ++ [x]) = if x ∈ seenL acc l then seenL acc l else seenL acc l ++ [x]
  | [], acc, x => rfl
  | y :: l, acc, x => by
    show seenL _ (l ++ [x]) = _
    rw [seenL_snoc l _ x]
    rfl
theorem seenL_sub : ∀ (l acc : List Int) (x : Int), x ∈ acc → x ∈ seenL acc l
  | [], _, _, h => h
  | y :: l, acc, x, h => by
    show x ∈ seenL _ l
    refine seenL_sub l _ x ?_
    split
    · exact h
    · exact List.mem_append_left _ h
theorem seenL_mem : ∀ (l acc : List Int) (x : Int), x ∈ seenL acc l ↔ x ∈ acc ∨ x ∈ l
  | [], acc, x => by
    show x ∈ acc ↔ _
    simp
  | y :: l, acc, x => by
    show x ∈ seenL _ l ↔ _
    rw [seenL_mem l _ x]
    by_cases c : y ∈ acc
    · rw [if_pos c, List.mem_cons]
      constructor
      · rintro (h | h)
        · exact .inl h
        · exact .inr (.inr h)
      · rintro (h | rfl | h)
        · exact .inl h
        · exact .inl c
        · exact .inr h
    · rw [if_neg c, List.mem_cons, List.mem_append, List.mem_singleton, or_assoc]
theorem seenL_nodup : ∀ (l acc : List Int), acc.Nodup → (seenL acc l).Nodup
  | [], _, h => h
  | y :: l, acc, h => by
    refine seenL_nodup l _ ?_
    split
    · exact h
    · rename_i c
      refine List.nodup_append.mpr ⟨h, by simp, fun a ha b hb => ?_⟩
      rw [List.mem_singleton.mp hb]
      exact fun z => c (z ▸ ha)
theorem seenL_len : ∀ (l acc : List Int), (seenL acc l).length ≤ acc.length + l.length
  | [], _ => Nat.le_refl _
  | y :: l, acc => by
    have h := seenL_len l (if y ∈ acc then acc else acc ++ [y])
    show (seenL _ l).length ≤ _
    rw [List.length_cons]
    split at h
    · rename_i c
      rw [if_pos c]
      omega
    · rename_i c
      rw [if_neg c]
      rw [List.length_append] at h
      have : [y].length = 1 := rfl
      omega
/-- equal marks alone count -/
theorem seenL_map {g : Int → Int} : ∀ (l acc : List Int), (∀ x ∈ acc ++ l, ∀ y ∈ acc ++ l, g x = g y → x = y) → seenL (acc.map g) (l.map g) = (seenL acc l).map g
  | [], _, _ => rfl
  | y :: l, acc, h => by
    show seenL (if g y ∈ acc.map g then acc.map g else acc.map g ++ [g y]) (l.map g) = (seenL (if y ∈ acc then acc else acc ++ [y]) l).map g
    by_cases c : y ∈ acc
    · rw [if_pos c, if_pos (List.mem_map_of_mem c)]
      refine seenL_map l acc fun a ha b hb => h a ?_ b ?_
      · rcases List.mem_append.mp ha with z | z
        · exact List.mem_append_left _ z
        · exact List.mem_append_right _ (List.mem_cons_of_mem _ z)
      · rcases List.mem_append.mp hb with z | z
        · exact List.mem_append_left _ z
        · exact List.mem_append_right _ (List.mem_cons_of_mem _ z)
    · have c2 : g y ∉ acc.map g := fun z => by
        obtain ⟨a, ha, e⟩ := List.mem_map.mp z
        exact c (h a (List.mem_append_left _ ha) y (List.mem_append_right _ List.mem_cons_self) e ▸ ha)
      rw [if_neg c, if_neg c2, show acc.map g ++ [g y] = (acc ++ [y]).map g by rw [List.map_append]; rfl]
      refine seenL_map l (acc ++ [y]) fun a ha b hb => h a ?_ b ?_
      · rwa [List.append_assoc] at ha
      · rwa [List.append_assoc] at hb
theorem co_mapI (g : Int → Int) (l : List Int) {i : Nat} (h : i < l.length) : co (l.map g) i = g (co l i) := by
  have e := co_get (l := l.map g) (k := i) (by rw [List.length_map]; exact h)
  rw [List.getElem?_map, co_get h] at e
  exact (Option.some.inj e).symm
theorem posOf_map {g : Int → Int} {marks : List Int} {v : Int} (hv : v ∈ marks) (h : ∀ x ∈ marks, ∀ y ∈ marks, g x = g y → x = y) : posOf (marks.map g) (g v) = posOf marks v := by
  unfold posOf
  rw [List.length_map]
  congr 1
  refine List.filter_congr fun i hi => ?_
  have hi' := List.mem_range.mp hi
  rw [co_mapI g marks hi']
  by_cases c : co marks i = v
  · rw [decide_eq_true c, decide_eq_true (congrArg g c)]
  · rw [decide_eq_false c, decide_eq_false (fun z => c (h _ (co_mem hi') _ hv z))]
theorem blocksOf_map {g : Int → Int} {marks : List Int} (h : ∀ x ∈ marks, ∀ y ∈ marks, g x = g y → x = y) : blocksOf (marks.map g) = blocksOf marks := by
  unfold blocksOf
  rw [show ([] : List Int) = ([] : List Int).map g from rfl, seenL_map marks [] (by rw [List.nil_append]; exact h), List.map_map]
  refine List.map_congr_left fun v hv => ?_
  rcases (seenL_mem marks [] v).mp hv with z | z
  · exact nomatch z
  · exact posOf_map z h
/-! a partition -/
theorem perm_split (p : Nat → Bool) : ∀ l : List Nat, (l.filter p ++ l.filter fun x => !p x).Perm l := fun l => List.filter_append_perm p l
theorem part_perm {f : Nat → Int} : ∀ (vs : List Int) (l : List Nat), vs.Nodup → (∀ x ∈ l, f x ∈ vs) → ((vs.map fun v => l.filter fun i => decide (f i = v)).flatten).Perm l
  | [], l, _, h => by
    have : l = [] := List.eq_nil_iff_forall_not_mem.mpr fun x hx => nomatch h x hx
    rw [this]
    exact .refl _
  | v :: vs, l, nd, h => by
    rw [List.map_cons, List.flatten_cons]
    obtain ⟨nv, nd'⟩ := List.nodup_cons.mp nd
    have ih := part_perm (f := f) vs (l.filter fun i => !decide (f i = v)) nd' fun x hx => by
      obtain ⟨h1, h2⟩ := List.mem_filter.mp hx
      rcases List.mem_cons.mp (h x h1) with e | e
      · rw [decide_eq_true e] at h2
        exact nomatch h2
      · exact e
    have e : (vs.map fun v' => (l.filter fun i => !decide (f i = v)).filter fun i => decide (f i = v')) = vs.map fun v' => l.filter fun i => decide (f i = v') := by
      refine List.map_congr_left fun v' hv' => ?_
      rw [List.filter_filter]
      refine List.filter_congr fun i _ => ?_
      by_cases c : f i = v'
      · have c2 : f i ≠ v := fun z => nv (by rw [← z, c]; exact hv')
        rw [decide_eq_true c, decide_eq_false c2]
        rfl
      · rw [decide_eq_false c]
        rfl
    rw [e] at ih
    exact (List.Perm.append_left _ ih).trans (perm_split _ l)
theorem mem_posOf {marks : List Int} {v x : Int} : x ∈ posOf marks v ↔ ∃ i : Nat, x = (i : Int) ∧ i < marks.length ∧ co marks i = v := by
  unfold posOf
  rw [List.mem_map]
  constructor
  · rintro ⟨i, hi, rfl⟩
    obtain ⟨h1, h2⟩ := List.mem_filter.mp hi
    exact ⟨i, rfl, List.mem_range.mp h1, of_decide_eq_true h2⟩
  · rintro ⟨i, rfl, h1, h2⟩
    exact ⟨i, List.mem_filter.mpr ⟨List.mem_range.mpr h1, decide_eq_true h2⟩, rfl⟩
theorem mem_get {l : List Int} {v : Int} (h : v ∈ l) : ∃ i, i < l.length ∧ co l i = v := by
  obtain ⟨i, hi, e⟩ := List.mem_iff_getElem.mp h
  refine ⟨i, hi, ?_⟩
  have e1 := co_get hi
  rw [List.getElem?_eq_getElem hi] at e1
  rw [← Option.some.inj e1]
  exact e
theorem blocks_perm (marks : List Int) : (blocksOf marks).flatten.Perm (ixs marks.length) := by
  unfold blocksOf ixs
  have h := part_perm (f := co marks) (seenL [] marks) (List.range marks.length) (seenL_nodup marks [] List.nodup_nil) fun x hx => (seenL_mem marks [] _).mpr (.inr (co_mem (List.mem_range.mp hx)))
  have e : ((seenL [] marks).map (posOf marks)).flatten = (((seenL [] marks).map fun v => (List.range marks.length).filter fun i => decide (co marks i = v)).flatten).map fun (i : Nat) => (i : Int) := by
    rw [List.map_flatten, List.map_map]
    rfl
  rw [e]
  exact h.map _
theorem blocks_ne {marks : List Int} : ∀ b ∈ blocksOf marks, b ≠ [] := fun b hb => by
  obtain ⟨v, hv, rfl⟩ := List.mem_map.mp hb
  rcases (seenL_mem marks [] v).mp hv with z | z
  · exact nomatch z
  · obtain ⟨i, hi, e⟩ := mem_get z
    intro c
    have : (i : Int) ∈ posOf marks v := mem_posOf.mpr ⟨i, rfl, hi, e⟩
    rw [c] at this
    exact nomatch this
theorem range_lt (n : Nat) : (List.range n).Pairwise (· < ·) := List.pairwise_lt_range
theorem posOf_asc (marks : List Int) (v : Int) : (posOf marks v).Pairwise (· < ·) := by
  unfold posOf
  exact List.pairwise_map.mpr ((List.Pairwise.filter _ (range_lt _)).imp fun {a b} h => by omega)
theorem head_ix (p : Nat → Bool) {i : Nat} (h0 : ∀ j, j < i → p j = false) (h1 : p i = true) : ∀ N, (N ≤ i → (List.range N).filter p = []) ∧ (i < N → ((List.range N).filter p)[0]? = some i)
  | 0 => ⟨fun _ => rfl, fun h => absurd h (Nat.not_lt_zero _)⟩
  | N + 1 => by
    obtain ⟨a, b⟩ := head_ix p h0 h1 N
    rw [List.range_succ, List.filter_append]
    refine ⟨fun h => ?_, fun h => ?_⟩
    · rw [a (by omega), List.filter_cons, h0 N (by omega)]
      rfl
    · by_cases c : N = i
      · rw [a (by omega), List.filter_cons, c, h1]
        rfl
      · have h2 := b (by omega)
        rw [List.getElem?_append_left (List.getElem?_eq_some_iff.mp h2).1]
        exact h2
theorem posOf_head {marks : List Int} {i : Nat} (hi : i < marks.length) (h : co marks i ∉ marks.take i) : co (posOf marks (co marks i)) 0 = (i : Int) := by
  have h2 := (head_ix (fun j => decide (co marks j = co marks i)) (i := i) (fun j hj => decide_eq_false fun z => h ?_) (decide_eq_true rfl) marks.length).2 hi
  · unfold posOf co
    rw [List.getD_eq_getElem?_getD, List.getElem?_map]
    show ((((List.range marks.length).filter fun j => decide (co marks j = co marks i))[0]?).map fun (i : Nat) => (i : Int)).getD 0 = _
    rw [h2]
    rfl
  · rw [← z]
    have e : (marks.take i)[j]? = some (co marks j) := by rw [List.getElem?_take_of_lt hj, co_get (by omega)]
    exact List.mem_of_getElem? e
theorem take_snoc {l : List Int} {i : Nat} (h : i < l.length) : l.take (i + 1) = l.take i ++ [co l i] := by
  rw [List.take_succ, co_get h]
  rfl
theorem heads_run (marks : List Int) : ∀ i, i ≤ marks.length → ((seenL [] (marks.take i)).map fun v => co (posOf marks v) 0).Pairwise (· < ·) ∧ ∀ v ∈ seenL [] (marks.take i), co (posOf marks v) 0 < (i : Int)
  | 0, _ => ⟨.nil, fun v hv => nomatch hv⟩
  | i + 1, h => by
    obtain ⟨h1, h2⟩ := heads_run marks i (by omega)
    rw [take_snoc (by omega), seenL_snoc]
    by_cases c : co marks i ∈ seenL [] (marks.take i)
    · rw [if_pos c]
      exact ⟨h1, fun v hv => by have := h2 v hv; omega⟩
    · rw [if_neg c]
      have hd := posOf_head (marks := marks) (i := i) (by omega) fun z => c ((seenL_mem _ _ _).mpr (.inr z))
      refine ⟨?_, fun v hv => ?_⟩
      · rw [List.map_append]
        refine List.pairwise_append.mpr ⟨h1, List.pairwise_singleton _ _, fun a ha b hb => ?_⟩
        obtain ⟨v, hv, rfl⟩ := List.mem_map.mp ha
        obtain ⟨u, hu, rfl⟩ := List.mem_map.mp hb
        rw [List.mem_singleton.mp hu, hd]
        exact h2 v hv
      · rcases List.mem_append.mp hv with hv | hv
        · have := h2 v hv
          omega
        · rw [List.mem_singleton.mp hv, hd]
          omega
theorem blocks_heads (marks : List Int) : ((blocksOf marks).map fun b => co b 0).Pairwise (· < ·) := by
  have h := (heads_run marks marks.length (Nat.le_refl _)).1
  rw [List.take_length] at h
  unfold blocksOf
  rw [List.map_map]
  exact h
/-! labels -/
def labFrom : List (List Int) → Nat → List Int → List Int
  | [], _, ms => ms
  | b :: bs, k, ms => labFrom bs (k + 1) (b.foldl (fun ms p => ms.set p.toNat (k : Int)) ms)
def labL (bs : List (List Int)) (N : Nat) : List Int := labFrom bs 0 (List.replicate N 0)
theorem fold_len (k : Int) : ∀ (b ms : List Int), (b.foldl (fun ms p => ms.set p.toNat k) ms).length = ms.length
  | [], _ => rfl
  | p :: b, ms => by
    show (b.foldl _ (ms.set p.toNat k)).length = _
    rw [fold_len k b, List.length_set]
theorem fold_co (k : Int) {i : Nat} : ∀ (b ms : List Int), (∀ p ∈ b, 0 ≤ p ∧ p < ms.length) → co (b.foldl (fun ms p => ms.set p.toNat k) ms) i = if (i : Int) ∈ b then k else co ms i
  | [], _, _ => rfl
  | p :: b, ms, h => by
    show co (b.foldl _ (ms.set p.toNat k)) i = _
    obtain ⟨h1, h2⟩ := h p List.mem_cons_self
    rw [fold_co k b (ms.set p.toNat k) fun q hq => by rw [List.length_set]; exact h q (List.mem_cons_of_mem _ hq), co_set i (by omega)]
    by_cases c : (i : Int) ∈ b
    · rw [if_pos c, if_pos (List.mem_cons_of_mem _ c)]
    · rw [if_neg c]
      by_cases c2 : i = p.toNat
      · rw [if_pos c2, if_pos (List.mem_cons.mpr (.inl (by omega)))]
      · rw [if_neg c2, if_neg]
        intro z
        rcases List.mem_cons.mp z with z | z
        · omega
        · exact c z
theorem labFrom_len : ∀ (bs : List (List Int)) (k : Nat) (ms : List Int), (labFrom bs k ms).length = ms.length
  | [], _, _ => rfl
  | b :: bs, k, ms => by
    show (labFrom bs (k + 1) _).length = _
    rw [labFrom_len bs, fold_len]
theorem labL_len (bs : List (List Int)) (N : Nat) : (labL bs N).length = N := by
  unfold labL
  rw [labFrom_len, List.length_replicate]
theorem labFrom_co {marks : List Int} {i : Nat} (hi : i < marks.length) : ∀ (vs : List Int) (k : Nat) (ms : List Int), vs.Nodup → ms.length = marks.length → co (labFrom (vs.map (posOf marks)) k ms) i = if co marks i ∈ vs then ((k + vs.idxOf (co marks i) : Nat) : Int) else co ms i
  | [], _, _, _, _ => rfl
  | v :: vs, k, ms, nd, hl => by
    obtain ⟨nv, nd'⟩ := List.nodup_cons.mp nd
    show co (labFrom (vs.map (posOf marks)) (k + 1) _) i = _
    rw [labFrom_co hi vs (k + 1) _ nd' (by rw [fold_len, hl]), fold_co (k : Int) (posOf marks v) ms fun p hp => by
      obtain ⟨j, rfl, hj, _⟩ := mem_posOf.mp hp
      omega]
    have e : ((i : Int) ∈ posOf marks v) ↔ co marks i = v := by
      rw [mem_posOf]
      exact ⟨fun ⟨j, e, _, h⟩ => by rw [show i = j by omega]; exact h, fun h => ⟨i, rfl, hi, h⟩⟩
    by_cases c : co marks i = v
    · rw [if_neg (by rw [c]; exact nv), if_pos (e.mpr c), if_pos (List.mem_cons.mpr (.inl c)), c, List.idxOf_cons_self]
      rfl
    · rw [if_neg (fun z => c (e.mp z))]
      by_cases c2 : co marks i ∈ vs
      · rw [if_pos c2, if_pos (List.mem_cons_of_mem _ c2), List.idxOf_cons, cond_eq_ite, if_neg (by simpa using Ne.symm c)]
        congr 1
        omega
      · rw [if_neg c2, if_neg fun z => (List.mem_cons.mp z).elim c c2]
theorem labL_marks (marks : List Int) : labL (blocksOf marks) marks.length = marks.map fun v => (((seenL [] marks).idxOf v : Nat) : Int) := by
  refine List.ext_getElem? fun i => ?_
  have l1 := labL_len (blocksOf marks) marks.length
  rcases Nat.lt_or_ge i marks.length with c | c
  · rw [co_get (by omega), List.getElem?_map, co_get c]
    unfold labL blocksOf
    rw [labFrom_co c (seenL [] marks) 0 _ (seenL_nodup marks [] List.nodup_nil) List.length_replicate, if_pos ((seenL_mem marks [] _).mpr (.inr (co_mem c))), Nat.zero_add]
    rfl
  · rw [List.getElem?_eq_none (by omega), List.getElem?_eq_none (by rw [List.length_map]; exact c)]
theorem idx_inj {l : List Int} {x y : Int} (hx : x ∈ l) (hy : y ∈ l) (h : (((l.idxOf x : Nat) : Int)) = ((l.idxOf y : Nat) : Int)) : x = y := by
  have h' : l.idxOf x = l.idxOf y := by omega
  have e1 := List.getElem_idxOf (List.idxOf_lt_length_of_mem hx)
  have e2 := List.getElem_idxOf (List.idxOf_lt_length_of_mem hy)
  rw [← e1, ← e2]
  congr 1
theorem blocks_lab (marks : List Int) : blocksOf (labL (blocksOf marks) marks.length) = blocksOf marks := by
  rw [labL_marks]
  exact blocksOf_map fun x hx y hy h => idx_inj ((seenL_mem marks [] x).mpr (.inr hx)) ((seenL_mem marks [] y).mpr (.inr hy)) h

def siz (n m : Int) : Bool := decide (0 ≤ n ∧ n ≤ 8 ∧ 0 ≤ m ∧ m ≤ 8 ∧ n + m ≤ 12)
theorem cr_sortedITK {X : Cx} {K : PySem.W.Frag} (hK : X.K = K) : CallR X (.builtin "sorted") (rSortedIT K) := by
  subst hK
  exact cr_sortedIT
theorem outer_it {J : It} {n : Nat} {G : Hp → Prop} {Y : Nat → Hp → V → Hp → Prop} (w : Walk J n G Y) {B : V → Hp → (Hp → Prop) → Prop} {H0 : Hp} {Qd : Hp → Prop} (Pv : Nat → Hp → Prop) (h0 : Pv 0 H0) (hG : ∀ i H, i ≤ n → Pv i H → G H)
    (hs : ∀ i x H H', i < n → Pv i H → Y i H x H' → B x H' (Pv (i + 1))) (hd : ∀ H, Pv n H → Qd H) :
    ∃ W : Nat → Nat → Hp → Prop, (∃ m, W 0 m H0) ∧ ∀ i m H, W i m H → (J.stop i H ∧ Qd H) ∨ (J.go i H ∧ ∃ Nx : Hp → Prop, (∀ H', Nx H' → ∃ m', m' < m ∧ W (i + 1) m' H') ∧ ∀ x H', J.yld i H x H' → B x H' Nx) := by
  refine ⟨fun i m H => m = n - i ∧ i ≤ n ∧ Pv i H, ⟨n, by simp, Nat.zero_le _, h0⟩, ?_⟩
  rintro i m H ⟨rfl, hi, p⟩
  have q := hG i H hi p
  by_cases hlt : i < n
  · refine .inr ⟨w.goes i H hlt q, Pv (i + 1), fun H' p' => ⟨n - (i + 1), by omega, rfl, hlt, p'⟩, fun x H' y => hs i x H H' hlt p (w.yields i H x H' hlt q y)⟩
  · have e : i = n := by omega
    subst e
    exact .inl ⟨w.stops H q, hd H p⟩
/-- a tuple of tuples of integers; a diagram -/
def TT (H : Hp) (v : V) (bs : List (List Int)) : Prop := ∃ tb ts, v = .ref tb ∧ H tb = some (.tup ts) ∧ Paired (TP H) ts bs
def DGv (H : Hp) (v : V) (n m : Int) (bs : List (List Int)) : Prop := ∃ t vb, v = .ref t ∧ H t = some (.tup [.int n, .int m, vb]) ∧ TT H vb bs
theorem TT.same {H H' : Hp} {v : V} {bs : List (List Int)} (s : Same H H') (h : TT H v bs) : TT H' v bs := by
  obtain ⟨tb, ts, rfl, h, pr⟩ := h
  exact ⟨tb, ts, rfl, s _ _ h, Paired.mapP pr fun _ _ h => h.same s⟩
theorem DGv.same {H H' : Hp} {v : V} {n m : Int} {bs : List (List Int)} (s : Same H H') (h : DGv H v n m bs) : DGv H' v n m bs := by
  obtain ⟨t, vb, rfl, h, tt⟩ := h
  exact ⟨t, vb, rfl, s _ _ h, tt.same s⟩
def dTT (bs : List (List Int)) : PyData := .tuple (bs.map dT)
def dDG (n m : Int) (bs : List (List Int)) : PyData := .tuple [.int n, .int m, dTT bs]
theorem TT.dp {K : PySem.W.Frag} {H : Hp} {v : V} {bs : List (List Int)} (h : TT H v bs) : Dp K H v (dTT bs) := by
  obtain ⟨tb, ts, rfl, h, pr⟩ := h
  exact .tup (.inl (.inl h)) (tps_dp pr)
theorem DGv.dp {K : PySem.W.Frag} {H : Hp} {v : V} {n m : Int} {bs : List (List Int)} (h : DGv H v n m bs) : Dp K H v (dDG n m bs) := by
  obtain ⟨t, vb, rfl, h, tt⟩ := h
  exact .tup (.inl (.inl h)) (.cons (.int n) (.cons (.int m) (.cons tt.dp .nil)))
theorem lay_dTs : ∀ bs : List (List Int), PyData.canLayAll0 (bs.map dT) = true ∧ PyData.depthAll (bs.map dT) ≤ 1
  | [] => ⟨by simp [PyData.canLayAll0], by simp [PyData.depthAll]⟩
  | b :: bs => by
    obtain ⟨h1, h2⟩ := lay_dTs bs
    obtain ⟨h3, h4⟩ := lay_ints b
    have e1 : PyData.canLay0 (dT b) = true := by simp [dT, PyData.canLay0, h3]
    have e2 : PyData.depth (dT b) = 1 := by simp [dT, PyData.depth, h4]
    refine ⟨by simp [PyData.canLayAll0, e1, h1], ?_⟩
    simp only [List.map_cons, PyData.depthAll, e2]
    omega
theorem dTT_lay (bs : List (List Int)) : PyData.canLay0 (dTT bs) = true ∧ PyData.depth (dTT bs) ≤ 2 := by
  obtain ⟨h1, h2⟩ := lay_dTs bs
  exact ⟨by simp [dTT, PyData.canLay0, h1], by simp only [dTT, PyData.depth]; omega⟩
theorem dDG_lay (n m : Int) (bs : List (List Int)) : PyData.canLay0 (dDG n m bs) = true ∧ PyData.depth (dDG n m bs) ≤ 3 := by
  obtain ⟨h1, h2⟩ := dTT_lay bs
  exact ⟨by simp [dDG, PyData.canLay0, PyData.canLayAll0, h1], by simp only [dDG, PyData.depth, PyData.depthAll]; omega⟩
theorem dTT_shaped (bs : List (List Int)) : SeqAt.shaped (dTT bs) = true := by
  obtain ⟨h1, h2⟩ := dTT_lay bs
  show (PyData.canLay0 (dTT bs) && decide (PyData.depth (dTT bs) ≤ 64)) = true
  rw [h1, decide_eq_true (by omega)]
  rfl
theorem dDG_shaped (n m : Int) (bs : List (List Int)) : SeqAt.shaped (dDG n m bs) = true := by
  obtain ⟨h1, h2⟩ := dDG_lay n m bs
  show (PyData.canLay0 (dDG n m bs) && decide (PyData.depth (dDG n m bs) ≤ 64)) = true
  rw [h1, decide_eq_true (by omega)]
  rfl
/-- lists of integers -/
def dL (z : List Int) : PyData := .list (z.map PyData.int)
def LP (H : Hp) (v : V) (z : List Int) : Prop := ∃ t, v = .ref t ∧ H t = some (.lst (z.map V.int))
theorem LP.dp {K : PySem.W.Frag} {H : Hp} {v : V} {z : List Int} (h : LP H v z) : Dp K H v (dL z) := by
  obtain ⟨t, rfl, h⟩ := h
  exact .lst (.inl (.inl h)) (ints_dp z)
theorem LP.same {H H' : Hp} {v : V} {z : List Int} (s : Same H H') (h : LP H v z) : LP H' v z := by
  obtain ⟨t, rfl, h⟩ := h
  exact ⟨t, rfl, s _ _ h⟩
theorem dL_shaped (x : List Int) : SeqAt.shaped (dL x) = true := by
  obtain ⟨h1, h2⟩ := lay_ints x
  show (PyData.canLay0 (dL x) && decide (PyData.depth (dL x) ≤ 64)) = true
  unfold dL
  rw [show PyData.canLay0 (.list (x.map PyData.int)) = true by simp [PyData.canLay0, h1], show PyData.depth (.list (x.map PyData.int)) = 1 by simp [PyData.depth, h2]]
  rfl
theorem eqv_dL (x y : List Int) : PyData.eqv (dL x) (dL y) = decide (x = y) := by
  unfold dL
  simp only [PyData.eqv, eqvAll_ints]
theorem eqD_LP {K : PySem.W.Frag} {H : Hp} {u v : V} {x y : List Int} {Q : VK} (hx : LP H u x) (hy : LP H v y) (q : Q (.bl (decide (x = y))) H) : rEqD K u v H Q :=
  ⟨_, _, hx.dp, hy.dp, dL_shaped x, dL_shaped y, by rw [eqv_dL]; exact q⟩
theorem neD_LP {K : PySem.W.Frag} {H : Hp} {u v : V} {x y : List Int} {Q : VK} (hx : LP H u x) (hy : LP H v y) (q : Q (.bl (!decide (x = y))) H) : rNeD K u v H Q :=
  ⟨_, _, hx.dp, hy.dp, dL_shaped x, dL_shaped y, by rw [eqv_dL]; exact q⟩
theorem tt_get {H : Hp} {ts : List V} {bs : List (List Int)} (pr : Paired (TP H) ts bs) {i : Nat} {y : V} (h : ts[i]? = some y) : ∃ b, bs[i]? = some b ∧ TP H y b := by
  induction pr generalizing i with
  | nil => exact nomatch h
  | cons r t ih =>
    cases i with
    | zero =>
      obtain rfl := Option.some.inj h
      exact ⟨_, rfl, r⟩
    | succ i => exact ih h
theorem rgV_ixs {a : Int} (h : 0 ≤ a) : rgV 0 a = (ixs a.toNat).map V.int := by
  unfold rgV ixs
  rw [List.map_map, Int.sub_zero]
  refine List.map_congr_left fun i _ => ?_
  show V.int (0 + (i : Nat)) = V.int (i : Int)
  rw [Int.zero_add]
theorem ixs_len (N : Nat) : (ixs N).length = N := by
  unfold ixs
  rw [List.length_map, List.length_range]
theorem ixs_asc (N : Nat) : (ixs N).Pairwise (· ≤ ·) := by
  unfold ixs
  exact List.pairwise_map.mpr ((range_lt N).imp fun {a b} h => by omega)
theorem sorted_same {a b : List Int} (hp : a.Perm b) (ha : a.Pairwise (· ≤ ·)) (hb : b.Pairwise (· ≤ ·)) : a = b := hp.eq_of_pairwise (fun x y _ _ h1 h2 => Int.le_antisymm h1 h2) ha hb
structure IsDg (n m : Int) (bs : List (List Int)) : Prop where
  sz : siz n m = true
  ne : ∀ b ∈ bs, b ≠ []
  pm : bs.flatten.Perm (ixs (n + m).toNat)
  asc : ∀ b ∈ bs, b.Pairwise (· ≤ ·)
  hd : (bs.map fun b => co b 0).Pairwise (· ≤ ·)
theorem siz_iff {n m : Int} : siz n m = true ↔ (0 ≤ n ∧ n ≤ 8 ∧ 0 ≤ m ∧ m ≤ 8 ∧ n + m ≤ 12) := by
  unfold siz
  exact decide_eq_true_iff
theorem isDg_blocks {n m : Int} {marks : List Int} (h : siz n m = true) (hl : (marks.length : Int) = n + m) : IsDg n m (blocksOf marks) := by
  have hs := siz_iff.mp h
  refine ⟨h, blocks_ne, ?_, fun b hb => ?_, (blocks_heads marks).imp fun {a b} h => by omega⟩
  · have := blocks_perm marks
    rwa [show marks.length = (n + m).toNat by omega] at this
  · obtain ⟨v, _, rfl⟩ := List.mem_map.mp hb
    exact (posOf_asc marks v).imp fun {a b} h => by omega

section
variable {P : Program} {w : World} {K : PySem.W.Frag} {mg : Str → Option Value} {base : Heap}
/-! ### _is_size, _check_size -/
def spIsSize : Sp := fun vs H Q _ => ∃ n m : Int, vs = [.int n, .int m] ∧ Q (.bl (siz n m)) H
theorem ok_is_size_ {f : Addr} {fd : FuncData} {t8 t12 : Tok} (F : Fun K "_is_size" "_is_size" s_is_size_ f fd) (m_MOST_ON_A_SIDE : mg "MOST_ON_A_SIDE" = some (.int 8 t8)) (m_MOST_POINTS : mg "MOST_POINTS" = some (.int 12 t12)) : FnOk P w K mg base CX0 1 f fd ["n", "m"] spIsSize := by
  have r_MOST_ON_A_SIDE : RelV (.int 8) (.int 8 t8) := ⟨_, rfl⟩
  have r_MOST_POINTS : RelV (.int 12) (.int 12 t12) := ⟨_, rfl⟩
  refine F.ok sc_is_size_ (fun vs H Q E h => ?_) (fun cdv A outer s H vs Q E hr h => ?_)
  · obtain ⟨n, m, rfl, _⟩ := h
    rfl
  · obtain ⟨n, m, rfl, q⟩ := h
    refine ⟨_, (pss_one (ps_ret (pe_and (pe_chain op_le op_le pe_int (pv 0) (pe_glob rfl m_MOST_ON_A_SIDE r_MOST_ON_A_SIDE)) (pe_and (pe_chain op_le op_le pe_int (pv 1) (pe_glob rfl m_MOST_ON_A_SIDE r_MOST_ON_A_SIDE)) (pe_one (pe_cmpR op_le (pe_op op_add (pv 0) (pv 1)) (pe_glob rfl m_MOST_POINTS r_MOST_POINTS) (nomark _))))))), ?_⟩
    unfold siz at q
    refine ⟨_, rfl, _, _, rfl, rfl, _, rfl, ?_⟩
    by_cases c0 : 0 ≤ n
    · rw [decide_eq_true c0]
      refine iteT ⟨_, _, rfl, rfl, _, rfl, ?_⟩
      by_cases c1 : n ≤ 8
      · rw [decide_eq_true c1]
        refine iteT ⟨_, rfl, _, _, rfl, rfl, _, rfl, ?_⟩
        by_cases c2 : 0 ≤ m
        · rw [decide_eq_true c2]
          refine iteT ⟨_, _, rfl, rfl, _, rfl, ?_⟩
          by_cases c3 : m ≤ 8
          · rw [decide_eq_true c3]
            refine iteT ⟨_, rfl, _, rfl, _, _, rfl, rfl, _, _, rfl, rfl, ?_⟩
            rwa [show decide (0 ≤ n ∧ n ≤ 8 ∧ 0 ≤ m ∧ m ≤ 8 ∧ n + m ≤ 12) = decide (n + m ≤ 12) from decide_eq_decide.mpr ⟨fun z => z.2.2.2.2, fun z => ⟨c0, c1, c2, c3, z⟩⟩] at q
          · rw [decide_eq_false c3]
            rw [decide_eq_false fun z => c3 z.2.2.2.1] at q
            exact iteF q
        · rw [decide_eq_false c2]
          rw [decide_eq_false fun z => c2 z.2.2.1] at q
          exact iteF ⟨_, rfl, iteF q⟩
      · rw [decide_eq_false c1]
        rw [decide_eq_false fun z => c1 z.2.1] at q
        exact iteF q
    · rw [decide_eq_false c0]
      rw [decide_eq_false fun z => c0 z.1] at q
      exact iteF ⟨_, rfl, iteF q⟩
def spCheckSize (CB : Addr) : Sp := fun vs H Q E => ∃ n m : Int, vs = [.int n, .int m] ∧ (siz n m = true → Q .non H) ∧ (siz n m = false → E (.ref CB) none H)
theorem ok_check_size_ {f CB a_is_size_ : Addr} {fd fd_is_size_ : FuncData} (F : Fun K "_check_size" "_check_size" s_check_size_ f fd) (T : ErrC K mg "BadNumber" CB)
    (G_is_size_ : FnOk P w K mg base CX0 1 a_is_size_ fd_is_size_ ["n", "m"] spIsSize) (g_is_size_ : mg "_is_size" = some (.ref a_is_size_)) (k_is_size_ : PySem.W.keepIn K (.ref a_is_size_) = true) (b_is_size_ : Binds K fd_is_size_ ["n", "m"] []) :
    FnOk P w K mg base (L2.CX P w) 2 f fd ["n", "m"] (spCheckSize CB) := by
  obtain ⟨gc_BadNumber, x_BadNumber, kc_BadNumber, bc_BadNumber, tc_BadNumber⟩ := T
  refine F.okX sc_check_size_ (fun vs H Q E h => ?_) (fun cdv A outer s H vs Q E hr h => ?_)
  · obtain ⟨n, m, rfl, _⟩ := h
    rfl
  · obtain ⟨n, m, rfl, q1, q2⟩ := h
    refine ⟨_, (pss_one (ps_if (pt_not (pt_val (pe_call G_is_size_ (hr.mono (by decide)) rfl g_is_size_ k_is_size_ b_is_size_ .nil pass0 (pa_cons (pv 0) (pa_cons (pv 1) pa_nil))))) (pss_one (ps_raise rfl (takes_of rfl rfl rfl rfl) (pmk_own PySem.F.excBase_ValueError x_BadNumber gc_BadNumber kc_BadNumber (raises_own bc_BadNumber tc_BadNumber) rfl))) pss_nil)), ?_⟩
    refine ⟨_, rfl, _, rfl, n, m, rfl, _, rfl, ?_⟩
    cases e : siz n m with
    | true => exact iteF (q1 e)
    | false => exact iteT (q2 e)
end

theorem any_nil (bs : List (List Int)) : ((bs.map dT).any fun z => PyData.eqv z (dT [])) = bs.any fun b => decide (b = []) := by
  rw [List.any_map]
  congr 1
  funext b
  exact eqv_dT b []
theorem flat_take {bs : List (List Int)} {i : Nat} {b : List Int} (h : bs[i]? = some b) : (bs.take (i + 1)).flatten = (bs.take i).flatten ++ b := by
  rw [List.take_succ, h, List.flatten_append]
  show _ ++ (b ++ []) = _
  rw [List.append_nil]
theorem mem_len {bs : List (List Int)} {b : List Int} (h : b ∈ bs) : b.length ≤ bs.flatten.length := by
  induction bs with
  | nil => exact nomatch h
  | cons c bs ih =>
    rw [List.flatten_cons, List.length_append]
    rcases List.mem_cons.mp h with rfl | h
    · omega
    · have := ih h
      omega
section
variable {P : Program} {w : World} {K : PySem.W.Frag} {mg : Str → Option Value} {base : Heap}
/-! ### is_diagram -/
def DgOk (n m : Int) (bs : List (List Int)) : Prop := n.natAbs ≤ 1000 ∧ m.natAbs ≤ 1000 ∧ bs.length ≤ 1000 ∧ bs.flatten.length ≤ 10000
def spIsDiagram : Sp := fun vs H Q _ => ∃ (v : V) (n m : Int) (bs : List (List Int)), vs = [v] ∧ DGv H v n m bs ∧ DgOk n m bs ∧ ∀ H', Same H H' → (IsDg n m bs → Q (.bl true) H') ∧ (¬ IsDg n m bs → Q (.bl false) H')
theorem ok_is_diagram {f a_is_size_ : Addr} {fd fd_is_size_ : FuncData} (F : Fun K "is_diagram" "is_diagram" s_is_diagram f fd) (z_len : mg "len" = none) (z_list : mg "list" = none) (z_range : mg "range" = none) (z_sorted : mg "sorted" = none) (z_all : mg "all" = none)
    (G_is_size_ : FnOk P w K mg base CX0 1 a_is_size_ fd_is_size_ ["n", "m"] spIsSize) (g_is_size_ : mg "_is_size" = some (.ref a_is_size_)) (k_is_size_ : PySem.W.keepIn K (.ref a_is_size_) = true) (b_is_size_ : Binds K fd_is_size_ ["n", "m"] []) : FnOk P w K mg base CX0 2 f fd ["diagram"] spIsDiagram := by
  refine F.ok sc_is_diagram (fun vs H Q E h => ?_) (fun cdv A outer s H vs Q E hr h => ?_)
  · obtain ⟨v, n, m, bs, rfl, _⟩ := h
    rfl
  · obtain ⟨v, n, m, bs, rfl, hv, ⟨bn, bm, bl, bf⟩, q⟩ := h
    refine ⟨_, (pss_cons (ps_if (pt_cmpR op_ne (pe_callB call_len_seq (by rfl) z_len boot_len (pa_cons (pv 0) pa_nil)) pe_int (nomark _)) (pss_one (ps_ret pe_bl)) pss_nil)
  (pss_cons (ps_asg (pv 0) (pg_tup rfl (pgs_cons (pg_name (i := 1) sc_is_diagram.nd rfl (.inl rfl)) (pgs_cons (pg_name (i := 2) sc_is_diagram.nd rfl (.inl rfl)) (pgs_cons (pg_name (i := 3) sc_is_diagram.nd rfl (.inl rfl)) pgs_nil)))))
  (pss_cons (ps_if (L2.PW.pt (pw_or (pt_not (pt_val (pe_call G_is_size_ (hr.mono (by decide)) rfl g_is_size_ k_is_size_ b_is_size_ .nil pass0 (pa_cons (pv 1) (pa_cons (pv 2) pa_nil))))) (pw_or1 (pt_cmpR (op_inDT (room65 hr)) (pe_tup pa_nil) (pv 3) (by with_unfolding_all rfl))))) (pss_one (ps_ret pe_bl)) pss_nil)
  (pss_cons (ps_setLc2 (i := 4) (own := [("block", 6), ("point", 7)]) (vs1 := [7]) rfl sc_is_diagram.nd rfl rfl (sw_true rfl rfl rfl (by decide +kernel)) (pi_tup (pv 3)) (blkOk_by (N := ["diagram", "n", "m", "blocks", "points", "firsts", "block", "point"]) (sc := defScope s_is_diagram) (by decide +kernel)) (by decide) (fun _ _ _ _ _ => (pg_name (i := 6) sc_is_diagram.nd rfl (.inl rfl))) (fun _ _ _ _ _ => pts_nil) (fun _ _ _ _ _ => ((pi_tupK (K := K) rfl) (pv 6))) (fun _ _ _ _ _ => (pg_name (i := 7) sc_is_diagram.nd rfl (.inl rfl))) (fun _ _ _ _ _ => pts_nil) (fun _ _ _ _ _ => (pv 7)))
  (pss_cons (ps_if (pt_cmpR (op_neD (room64 hr)) (pe_callB cr_sortedI (by rfl) z_sorted boot_sorted (pa_cons (pv 4) pa_nil)) (pe_listRg rfl rfl z_list (prg_1 rfl z_range (pe_op op_add (pv 1) (pv 2)))) (nomark _)) (pss_one (ps_ret pe_bl)) pss_nil)
  (pss_cons (ps_if (pt_not (pt_val (pe_callB (cr_all rfl) (by rfl) z_all boot_all (pa_cons (pe_lc (own := [("block", 6)]) rfl sc_is_diagram.nd (pi_tup (pv 3)) (blkOk_by (N := ["diagram", "n", "m", "blocks", "points", "firsts", "block", "point"]) (sc := defScope s_is_diagram) (by first | decide +kernel | rfl)) (fun _ _ _ _ _ => (pg_name (i := 6) sc_is_diagram.nd rfl (.inl rfl))) (fun _ _ _ _ _ => pts_nil) (fun _ _ _ _ _ => (pe_cmpR (op_eqDK (K := K) rfl (room64 hr)) (pe_callTy (call_list_ofK (K := K) rfl) (by rfl) z_list boot_list (pa_cons (pv 6) pa_nil)) (pe_callB (cr_sortedITK (K := K) rfl) (by rfl) z_sorted boot_sorted (pa_cons (pv 6) pa_nil)) (nomark _)))) pa_nil)))) (pss_one (ps_ret pe_bl)) pss_nil)
  (pss_cons (ps_setLc (i := 5) (own := [("block", 6)]) rfl sc_is_diagram.nd rfl rfl (sw_true rfl rfl rfl (by decide +kernel)) (pi_tup (pv 3)) (blkOk_by (N := ["diagram", "n", "m", "blocks", "points", "firsts", "block", "point"]) (sc := defScope s_is_diagram) (by first | decide +kernel | rfl)) (fun _ _ _ _ _ => (pg_name (i := 6) sc_is_diagram.nd rfl (.inl rfl))) (fun _ _ _ _ _ => pts_nil) (fun _ _ _ _ _ => (pe_ix (ix_tupK (K := K) rfl) (pv 6) pe_int (fun _ _ => rfl))))
  (pss_one (ps_ret (pe_cmpR (op_eqD (room64 hr)) (pv 5) (pe_callB cr_sortedI (by rfl) z_sorted boot_sorted (pa_cons (pv 5) pa_nil)) (nomark _))))))))))), ?_⟩
    have szl : 20000 ≤ sizeLine := by decide
    obtain ⟨t, vb, rfl, ht, tb, ts, rfl, htb, pr⟩ := hv
    have lts : ts.length = bs.length := pr.length
    refine ⟨_, rfl, t, _, rfl, .inr (.inl (.inl ht)), rfl, _, rfl, ite_same ?_⟩
    refine ⟨_, rfl, t, _, rfl, .inl (.inl ht), rfl, _, _, rfl, _, _, rfl, _, _, rfl, rfl, ?_⟩
    refine ⟨_, rfl, _, rfl, n, m, rfl, _, rfl, ?_⟩
    by_cases cs : siz n m = true
    · rw [cs]
      refine iteF ?_
      have hs := siz_iff.mp cs
      refine ⟨(by show 0 ≤ sizeLine; decide), fun e0 ne0 => ?_⟩
      have s0 : Same H (upd H e0 (.tup [])) := same_upd ne0
      have tt : TT (upd H e0 (.tup [])) (.ref tb) bs := TT.same s0 ⟨tb, ts, rfl, htb, pr⟩
      refine ⟨_, rfl, dT [], bs.map dT, .tup (.inl (.inl upd_same)) .nil, tt.dp, dT_shaped [], dTT_shaped bs, _, rfl, ?_⟩
      rw [any_nil]
      have htb1 : upd H e0 (.tup []) tb = some (.tup ts) := s0 _ _ htb
      have pr1 : Paired (TP (upd H e0 (.tup []))) ts bs := Paired.mapP pr fun _ _ h => h.same s0
      revert s0 htb1 pr1
      generalize upd H e0 (.tup []) = H1
      intro s0 htb1 pr1
      clear tt htb pr
      by_cases cn : (bs.any fun b => decide (b = [])) = true
      · rw [cn]
        refine iteT ((q H1 s0).2 fun z => ?_)
        obtain ⟨b, hb, e⟩ := List.any_eq_true.mp cn
        exact z.ne b hb (of_decide_eq_true e)
      rw [Bool.not_eq_true _ |>.mp cn]
      refine iteF ?_
      have ne : ∀ b ∈ bs, b ≠ [] := fun b hb z => cn (List.any_eq_true.mpr ⟨b, hb, decide_eq_true z⟩)
      -- points
      refine ⟨_, rfl, tb, rfl, ⟨_, .inl (.inl htb1)⟩, fun D nD => ?_⟩
      have keepD : ∀ {H' : Hp} {a : Addr} {o : HO}, SameBut D H1 H' → H1 a = some o → H' a = some o := fun sb e => sb _ _ (ne_of_none e nD) e
      refine outer_it walk_tup (fun i H' => SameBut D H1 H' ∧ H' D = some (.lst ((bs.take i).flatten.map V.int))) ⟨SameBut.upd, upd_same⟩ (fun i H' _ hP => .inl (.inl (keepD hP.1 htb1))) (fun i y H2 H3 hi hP hy => ?_) (fun H2 hP => ?_)
      · obtain ⟨sb, hD⟩ := hP
        obtain ⟨e0, hy⟩ := hy
        subst e0
        obtain ⟨b, eb, a, rfl, ha⟩ := tt_get pr1 hy
        have mb := List.mem_of_getElem? eb
        have lb := mem_len mb
        refine ⟨rfl, ?_⟩
        refine ⟨_, rfl, a, rfl, ⟨_, .inl (.inl (keepD sb ha))⟩, outer_it walk_tup (fun j H' => SameBut D H1 H' ∧ H' D = some (.lst (((bs.take i).flatten ++ b.take j).map V.int))) ⟨sb, by rw [List.take_zero, List.append_nil]; exact hD⟩ (fun j H' _ hP => .inl (.inl (keepD hP.1 ha))) (fun j z H4 H5 hj hP hz => ?_) (fun H4 hP => ?_)⟩
        · obtain ⟨sb, hD⟩ := hP
          obtain ⟨e0, hz⟩ := hz
          subst e0
          rw [List.length_map] at hj
          have ez : (b.map V.int)[j]? = some (.int (co b j)) := by rw [List.getElem?_map, co_get hj]; rfl
          obtain rfl : V.int (co b j) = z := Option.some.inj (ez.symm.trans hz)
          refine ⟨rfl, ?_⟩
          refine ⟨_, rfl, _, hD, ?_, sb.trans SameBut.upd, ?_⟩
          · rw [List.length_map, List.length_append, List.length_take]
            have : (bs.take i).flatten.length ≤ bs.flatten.length := by
              have e : (bs.take i ++ bs.drop i).flatten.length = bs.flatten.length := congrArg (fun l : List (List Int) => l.flatten.length) (List.take_append_drop i bs)
              rw [List.flatten_append, List.length_append] at e
              omega
            omega
          · rw [upd_same, take_snoc hj, ← List.append_assoc, List.map_append (l₂ := [co b j])]
            rfl
        · obtain ⟨sb, hD⟩ := hP
          rw [List.length_map, List.take_length] at hD
          exact ⟨sb, by rw [flat_take eb]; exact hD⟩
      obtain ⟨sb2, hD⟩ := hP
      rw [lts, List.take_length] at hD
      have s2 : Same H1 H2 := fun b o e => keepD sb2 e
      -- sorted
      refine ⟨_, rfl, D, bs.flatten, rfl, .inl (.inl hD), fun ns' p1 pm1 srt1 np1 => ?_⟩
      refine ⟨_, rfl, _, rfl, _, _, rfl, rfl, n + m, rfl, RgOk.of_le (by decide) (by omega) (by decide) (by omega), fun p2 np2 => ?_⟩
      rw [rgV_ixs (by omega)]
      have s3 : Same H2 (upd (upd H2 p1 (.lst (ns'.map V.int))) p2 (.lst ((ixs (n + m).toNat).map V.int))) := Same.trans (same_upd np1) (same_upd np2)
      refine neD_LP (x := ns') (y := ixs (n + m).toNat) ⟨p1, rfl, same_upd np2 _ _ upd_same⟩ ⟨p2, rfl, upd_same⟩ ⟨_, rfl, ?_⟩
      have s13 := Same.trans s0 (Same.trans s2 s3)
      have htb4 := s3 _ _ (s2 _ _ htb1)
      have pr4 := Paired.mapP pr1 fun _ _ h => (TP.same s2 h).same s3
      revert s13 htb4 pr4
      generalize upd (upd H2 p1 (.lst (ns'.map V.int))) p2 (.lst ((ixs (n + m).toNat).map V.int)) = H4
      intro s13 htb4 pr4
      clear s3 s2 hD sb2 keepD nD np1 np2
      by_cases cp : ns' = ixs (n + m).toNat
      · rw [decide_eq_true cp]
        refine iteF ?_
        have pm : bs.flatten.Perm (ixs (n + m).toNat) := cp ▸ pm1.symm
        -- blocks
        refine ⟨_, rfl, tb, rfl, ⟨_, .inl (.inl htb4)⟩, fun D5 nD5 => ?_⟩
        have keep5 : ∀ {H' : Hp} {a : Addr} {o : HO}, SameBut D5 H4 H' → H4 a = some o → H' a = some o := fun sb e => sb _ _ (ne_of_none e nD5) e
        refine lc_it walk_tup (fun i H' => SameBut D5 H4 H' ∧ H' D5 = some (.lst (((bs.take i).map fun b => decide (b.Pairwise (· ≤ ·))).map V.bl))) ⟨SameBut.upd, upd_same⟩ (fun i H' _ hP => .inl (.inl (keep5 hP.1 htb4))) (fun i y H5 H6 hi hP hy => ?_) (fun H5 hP => ?_)
        · obtain ⟨sb, hD⟩ := hP
          obtain ⟨e0, hy⟩ := hy
          subst e0
          obtain ⟨b, eb, a, rfl, ha⟩ := tt_get pr4 hy
          refine ⟨rfl, ?_⟩
          have ha5 := keep5 sb ha
          refine ⟨_, rfl, a, _, rfl, .inr (.inl (.inl ha5)), fun l1 nl1 => ?_⟩
          refine ⟨_, rfl, a, b, rfl, .inl (.inl (same_upd nl1 _ _ ha5)), fun ns p pm srt np => ?_⟩
          refine eqD_LP (x := b) (y := ns) ⟨l1, rfl, same_upd np _ _ upd_same⟩ ⟨p, rfl, upd_same⟩ ?_
          have sN := Same.trans (same_upd (o := .lst (b.map V.int)) nl1) (same_upd (o := .lst (ns.map V.int)) np)
          have e : decide (b = ns) = decide (b.Pairwise (· ≤ ·)) := decide_eq_decide.mpr ⟨fun z => by rw [z]; exact srt, fun z => sorted_same pm.symm z srt⟩
          refine ⟨_, sN _ _ hD, by rw [List.length_map, List.length_map, List.length_take]; omega, (sb.trans (Same.but sN)).trans SameBut.upd, ?_⟩
          rw [upd_same, List.take_succ, eb, e, List.map_append, List.map_append]
          rfl
        obtain ⟨sb5, hD5⟩ := hP
        rw [lts, List.take_length] at hD5
        have s5 : Same H4 H5 := fun b o e => keep5 sb5 e
        refine ⟨D5, _, rfl, .inl (.inl hD5), _, rfl, ?_⟩
        have htb5 := s5 _ _ htb4
        have pr5 := Paired.mapP pr4 fun _ _ h => TP.same s5 h
        have s15 := Same.trans s13 s5
        by_cases ca : ((bs.map fun b => decide (b.Pairwise (· ≤ ·))).all id) = true
        · rw [ca]
          refine iteF ?_
          have asc : ∀ b ∈ bs, b.Pairwise (· ≤ ·) := fun b hb => of_decide_eq_true (List.all_eq_true.mp ca _ (List.mem_map_of_mem hb))
          -- firsts
          refine ⟨_, rfl, tb, rfl, ⟨_, .inl (.inl htb5)⟩, fun D6 nD6 => ?_⟩
          have keep6 : ∀ {H' : Hp} {a : Addr} {o : HO}, SameBut D6 H5 H' → H5 a = some o → H' a = some o := fun sb e => sb _ _ (ne_of_none e nD6) e
          refine lc_it walk_tup (fun i H' => SameBut D6 H5 H' ∧ H' D6 = some (.lst (((bs.take i).map fun b => co b 0).map V.int))) ⟨SameBut.upd, upd_same⟩ (fun i H' _ hP => .inl (.inl (keep6 hP.1 htb5))) (fun i y H6 H7 hi hP hy => ?_) (fun H6 hP => ?_)
          · obtain ⟨sb, hD⟩ := hP
            obtain ⟨e0, hy⟩ := hy
            subst e0
            obtain ⟨b, eb, a, rfl, ha⟩ := tt_get pr5 hy
            have nb := List.length_pos_iff.mpr (ne b (List.mem_of_getElem? eb))
            refine ⟨rfl, ?_⟩
            refine ⟨_, rfl, a, _, 0, _, rfl, rfl, .inl (.inl (keep6 sb ha)), at_co nb, _, hD, by rw [List.length_map, List.length_map, List.length_take]; omega, sb.trans SameBut.upd, ?_⟩
            rw [upd_same, List.take_succ, eb, List.map_append, List.map_append]
            rfl
          obtain ⟨sb6, hD6⟩ := hP
          rw [lts, List.take_length] at hD6
          have s6 : Same H5 H6 := fun b o e => keep6 sb6 e
          refine ⟨_, rfl, _, rfl, D6, _, rfl, .inl (.inl hD6), fun ns p pm6 srt np => ?_⟩
          refine eqD_LP (x := bs.map fun b => co b 0) (y := ns) ⟨D6, rfl, same_upd np _ _ hD6⟩ ⟨p, rfl, upd_same⟩ ?_
          obtain ⟨qt, qf⟩ := q _ (Same.trans s15 (Same.trans s6 (same_upd np)))
          by_cases ch : (bs.map fun b => co b 0) = ns
          · rw [decide_eq_true ch]
            exact qt ⟨cs, ne, pm, asc, ch ▸ srt⟩
          · rw [decide_eq_false ch]
            exact qf fun z => ch (sorted_same pm6.symm z.hd srt)
        · rw [Bool.not_eq_true _ |>.mp ca]
          refine iteT ((q H5 s15).2 fun z => ca (List.all_eq_true.mpr fun c hc => ?_))
          obtain ⟨b, hb, rfl⟩ := List.mem_map.mp hc
          exact decide_eq_true (z.asc b hb)
      · rw [decide_eq_false cp]
        exact iteT ((q H4 s13).2 fun z => cp (sorted_same (pm1.trans z.pm) srt1 (ixs_asc _)))
    · rw [Bool.not_eq_true _ |>.mp cs]
      exact iteT ((q H (Same.refl _)).2 fun z => cs z.sz)
end

section
variable {P : Program} {w : World} {K : PySem.W.Frag} {mg : Str → Option Value} {base : Heap}
/-! ### check_diagram, labels -/
def spCheckDiagram (CD : Addr) : Sp := fun vs H Q E => ∃ (v : V) (n m : Int) (bs : List (List Int)), vs = [v] ∧ DGv H v n m bs ∧ DgOk n m bs ∧ ∀ H', Same H H' → (IsDg n m bs → Q .non H') ∧ (¬ IsDg n m bs → E (.ref CD) none H')
theorem ok_check_diagram {f CD a_is_diagram : Addr} {fd fd_is_diagram : FuncData} (F : Fun K "check_diagram" "check_diagram" s_check_diagram f fd) (T : ErrC K mg "NotDiagram" CD)
    (G_is_diagram : FnOk P w K mg base CX0 2 a_is_diagram fd_is_diagram ["diagram"] spIsDiagram) (g_is_diagram : mg "is_diagram" = some (.ref a_is_diagram)) (k_is_diagram : PySem.W.keepIn K (.ref a_is_diagram) = true) (b_is_diagram : Binds K fd_is_diagram ["diagram"] []) :
    FnOk P w K mg base (L2.CX P w) 3 f fd ["diagram"] (spCheckDiagram CD) := by
  obtain ⟨gc_NotDiagram, x_NotDiagram, kc_NotDiagram, bc_NotDiagram, tc_NotDiagram⟩ := T
  refine F.okX sc_check_diagram (fun vs H Q E h => ?_) (fun cdv A outer s H vs Q E hr h => ?_)
  · obtain ⟨v, n, m, bs, rfl, _⟩ := h
    rfl
  · obtain ⟨v, n, m, bs, rfl, hv, hb, q⟩ := h
    refine ⟨_, (pss_one (ps_if (pt_not (pt_val (pe_call G_is_diagram (hr.mono (by decide)) rfl g_is_diagram k_is_diagram b_is_diagram .nil pass0 (pa_cons (pv 0) pa_nil)))) (pss_one (ps_raise rfl (takes_of rfl rfl rfl rfl) (pmk_own PySem.F.excBase_ValueError x_NotDiagram gc_NotDiagram kc_NotDiagram (raises_own bc_NotDiagram tc_NotDiagram) rfl))) pss_nil)), ?_⟩
    exact ⟨_, rfl, v, n, m, bs, rfl, hv, hb, fun H' s' => ⟨fun h => ⟨_, rfl, iteF ((q H' s').1 h)⟩, fun h => ⟨_, rfl, iteT ((q H' s').2 h)⟩⟩⟩
end
def labN (bs : List (List Int)) (i : Nat) (N : Nat) : List Int := labFrom (bs.take i) 0 (List.replicate N 0)
theorem labFrom_snoc : ∀ (bs : List (List Int)) (b : List Int) (k : Nat) (ms : List Int), labFrom (bs ++ [b]) k ms = b.foldl (fun ms p => ms.set p.toNat ((k + bs.length : Nat) : Int)) (labFrom bs k ms)
  | [], b, k, ms => rfl
  | c :: bs, b, k, ms => by
    show labFrom (bs ++ [b]) (k + 1) _ = _
    rw [labFrom_snoc bs b (k + 1), show k + 1 + bs.length = k + (c :: bs).length by rw [List.length_cons]; omega]
    rfl
theorem fold_take {k : Int} {b ms : List Int} {j : Nat} (h : j < b.length) : (b.take (j + 1)).foldl (fun ms p => ms.set p.toNat k) ms = ((b.take j).foldl (fun ms p => ms.set p.toNat k) ms).set (co b j).toNat k := by
  rw [take_snoc h, List.foldl_append]
  rfl
theorem dg_pt {n m : Int} {bs : List (List Int)} (h : IsDg n m bs) {b : List Int} (hb : b ∈ bs) {p : Int} (hp : p ∈ b) : 0 ≤ p ∧ p < n + m := by
  have h1 := h.pm.mem_iff.mp (List.mem_flatten.mpr ⟨b, hb, hp⟩)
  obtain ⟨i, hi, rfl⟩ := List.mem_map.mp h1
  have := List.mem_range.mp hi
  omega

section
variable {P : Program} {w : World} {K : PySem.W.Frag} {mg : Str → Option Value} {base : Heap}
def spLabels (CD : Addr) : Sp := fun vs H Q E => ∃ (v : V) (n m : Int) (bs : List (List Int)), vs = [v] ∧ DGv H v n m bs ∧ DgOk n m bs ∧ (¬ IsDg n m bs → ∀ H', Same H H' → E (.ref CD) none H') ∧
  (IsDg n m bs → ∀ D H', Same H H' → H D = none → H' D = some (.lst ((labL bs (n + m).toNat).map V.int)) → Q (.ref D) H')
theorem ok_labels {f CD a_check_diagram : Addr} {fd fd_check_diagram : FuncData} (F : Fun K "labels" "labels" s_labels f fd) (z_enumerate : mg "enumerate" = none) (z_range : mg "range" = none)
    (G_check_diagram : FnOk P w K mg base (L2.CX P w) 3 a_check_diagram fd_check_diagram ["diagram"] (spCheckDiagram CD)) (g_check_diagram : mg "check_diagram" = some (.ref a_check_diagram)) (k_check_diagram : PySem.W.keepIn K (.ref a_check_diagram) = true) (b_check_diagram : Binds K fd_check_diagram ["diagram"] []) :
    FnOk P w K mg base (L2.CX P w) 4 f fd ["diagram"] (spLabels CD) := by
  refine F.okX sc_labels (fun vs H Q E h => ?_) (fun cdv A outer s H vs Q E hr h => ?_)
  · obtain ⟨v, n, m, bs, rfl, _⟩ := h
    rfl
  · obtain ⟨v, n, m, bs, rfl, hv, hb, q1, q⟩ := h
    refine ⟨_, (pss_cons (ps_expr (pe_call G_check_diagram (hr.mono (by decide)) rfl g_check_diagram k_check_diagram b_check_diagram .nil (passes_call (takes_of rfl rfl rfl rfl) (fun _ _ _ _ h => h)) (pa_cons (pv 0) pa_nil)))
  (pss_cons (ps_asg (pv 0) (pg_tup rfl (pgs_cons (pg_name (i := 1) sc_labels.nd rfl (.inl rfl)) (pgs_cons (pg_name (i := 2) sc_labels.nd rfl (.inl rfl)) (pgs_cons (pg_name (i := 3) sc_labels.nd rfl (.inl rfl)) pgs_nil)))))
  (pss_cons (ps_setLc (i := 4) (own := [("_", 8)]) rfl sc_labels.nd rfl rfl (sw_true rfl rfl rfl (by decide +kernel)) (pi_range1 rfl z_range (pa_cons (pe_op op_add (pv 1) (pv 2)) pa_nil)) (blkOk_by (N := ["diagram", "n", "m", "blocks", "marks", "k", "block", "point", "_"]) (sc := defScope s_labels) (by first | decide +kernel | rfl)) (fun _ _ _ _ _ => (pg_name (i := 8) sc_labels.nd rfl (.inl rfl))) (fun _ _ _ _ _ => pts_nil) (fun _ _ _ _ _ => pe_int))
  (pss_cons (ps_for (passes_of rfl) rfl (pi_enumT rfl z_enumerate (pa_cons (pv 3) pa_nil)) (pg_tup rfl (pgs_cons (pg_name (i := 5) sc_labels.nd rfl (.inl rfl)) (pgs_cons (pg_name (i := 6) sc_labels.nd rfl (.inl rfl)) pgs_nil))) (pss_one (ps_for (passes_of rfl) rfl (pi_tup (pv 6)) (pg_name (i := 7) sc_labels.nd rfl (.inl rfl)) (pss_one (ps_asg (pv 5) (pg_sub (pv 4) (pv 7) set_list))))))
  (pss_one (ps_ret (pv 4))))))), ?_⟩
    have szl : 20000 ≤ sizeLine := by decide
    refine ⟨_, rfl, v, n, m, bs, rfl, hv, hb, fun H1 s1 => ⟨fun dg => ?_, fun nd => q1 nd H1 s1⟩⟩
    have q := q dg
    have hs := siz_iff.mp dg.sz
    obtain ⟨t, vb, rfl, ht, tb, ts, rfl, htb, pr⟩ := DGv.same s1 hv
    have lts : ts.length = bs.length := pr.length
    refine ⟨_, rfl, t, _, rfl, .inl (.inl ht), rfl, _, _, rfl, _, _, rfl, _, _, rfl, rfl, ?_⟩
    obtain ⟨N, eN⟩ : ∃ N : Nat, n + m = (N : Int) := ⟨(n + m).toNat, by omega⟩
    refine ⟨_, rfl, _, rfl, _, _, rfl, rfl, ?_⟩
    dsimp only
    rw [eN]
    refine ⟨_, rfl, by omega, by omega, fun D nD => lc_range (lo := 0) (n := N) (fun i H' => SameBut D H1 H' ∧ H' D = some (.lst ((List.replicate i (0 : Int)).map V.int))) ⟨SameBut.upd, upd_same⟩ (fun i H' hi hP => ?_) (fun H2 hP => ?_)⟩
    · obtain ⟨sb, hD⟩ := hP
      refine ⟨rfl, _, hD, by rw [List.length_map, List.length_replicate]; omega, sb.trans SameBut.upd, ?_⟩
      rw [upd_same, List.replicate_succ', List.map_append]
      rfl
    obtain ⟨sb, hD2⟩ := hP
    have s2 : Same H1 H2 := fun a o e => sb a o (ne_of_none e nD) e
    have nD1 := nD
    have nD0 := none_back s1 nD1
    have htb2 := s2 _ _ htb
    refine ⟨_, rfl, tb, ts, rfl, .inl (.inl htb2), for_it walk_enumT (fun i σ H' => ∃ v5 v6 v7 v8, σ = [some (.ref t), some (.int n), some (.int m), some (.ref (tb)), some (.ref D), v5, v6, v7, v8] ∧ Same H1 H' ∧ H' D = some (.lst ((labN bs i N).map V.int)))
      ⟨_, _, _, _, rfl, s2, hD2⟩ (fun i σ H' _ ⟨_, _, _, _, _, s', _⟩ => .inl (.inl (s' _ _ htb))) (fun i y σ H3 H4 hi hP hy => ?_) (fun σ H' hP => ?_)⟩
    · obtain ⟨v5, v6, v7, v8, rfl, s3, hD3⟩ := hP
      obtain ⟨p, x, y', rfl, np, rfl, ex, ey⟩ := hy
      obtain rfl : V.int (i : Nat) = x := Option.some.inj ex
      obtain ⟨b, eb, a, rfl, ha⟩ := tt_get pr ey
      have mb := List.mem_of_getElem? eb
      refine ⟨p, _, rfl, .inl (.inl upd_same), rfl, _, _, rfl, _, _, rfl, rfl, ?_⟩
      have s4 : Same H1 (upd H3 p (.tup [.int (i : Nat), .ref a])) := Same.trans s3 (same_upd np)
      have hD4 : upd H3 p (.tup [.int (i : Nat), .ref a]) D = some (.lst ((labN bs i N).map V.int)) := same_upd np _ _ hD3
      revert s4 hD4
      generalize upd H3 p (.tup [.int (i : Nat), .ref a]) = H5
      intro s4 hD4
      have hi' : i < bs.length := by rw [← lts]; exact hi
      refine ⟨_, rfl, a, rfl, ⟨_, .inl (.inl (s4 _ _ ha))⟩, for_it walk_tup (fun j σ H' => ∃ v7, σ = [some (.ref t), some (.int n), some (.int m), some (.ref tb), some (.ref D), some (.int (i : Nat)), some (.ref a), v7, v8] ∧ Same H1 H' ∧ H' D = some (.lst (((b.take j).foldl (fun ms p => ms.set p.toNat (i : Int)) (labN bs i N)).map V.int)))
        ⟨v7, rfl, s4, hD4⟩ (fun j σ H' _ ⟨_, _, s', _⟩ => .inl (.inl (s' _ _ ha))) (fun j y σ H6 H7 hj hP hy => ?_) (fun σ H' hP => ?_)⟩
      · obtain ⟨v7, rfl, s5, hD5⟩ := hP
        obtain ⟨e0, hy⟩ := hy
        subst e0
        rw [List.length_map] at hj
        have ez : (b.map V.int)[j]? = some (.int (co b j)) := by rw [List.getElem?_map, co_get hj]; rfl
        obtain rfl : V.int (co b j) = y := Option.some.inj (ez.symm.trans hy)
        obtain ⟨c0, c1⟩ := dg_pt dg mb (co_mem hj)
        have ll : ((b.take j).foldl (fun ms p => ms.set p.toNat (i : Int)) (labN bs i N)).length = N := by
          rw [fold_len]
          unfold labN
          rw [labFrom_len, List.length_replicate]
        refine ⟨_, rfl, _, rfl, _, rfl, D, _, _, (co b j).toNat, rfl, rfl, hD5, (by obtain ⟨u, hu⟩ := Int.eq_ofNat_of_zero_le c0; rw [hu]; exact ixN_nat (by rw [List.length_map, ll]; omega)), ?_⟩
        refine ⟨_, rfl, Same.mut s5 nD1, ?_⟩
        rw [upd_same, map_set, fold_take hj]
      · obtain ⟨v7, rfl, s5, hD5⟩ := hP
        rw [List.length_map, List.take_length] at hD5
        refine ⟨_, _, _, _, rfl, s5, ?_⟩
        rw [hD5]
        unfold labN
        rw [List.take_succ, eb, show (some b).toList = [b] from rfl, labFrom_snoc, List.length_take, Nat.min_eq_left (by omega), Nat.zero_add]
    · obtain ⟨v5, v6, v7, v8, rfl, s3, hD3⟩ := hP
      refine ⟨_, rfl, q D H' (Same.trans s1 s3) nD0 ?_⟩
      rw [hD3, eN]
      unfold labN labL
      rw [lts, List.take_length]
      rfl
end

theorem posOf_take {marks : List Int} {i : Nat} (h : i < marks.length) (v : Int) : posOf (marks.take (i + 1)) v = if co marks i = v then posOf (marks.take i) v ++ [(i : Int)] else posOf (marks.take i) v := by
  have l1 : (marks.take (i + 1)).length = i + 1 := by rw [List.length_take]; omega
  have l0 : (marks.take i).length = i := by rw [List.length_take]; omega
  have c1 : ∀ j, j < i → co (marks.take (i + 1)) j = co (marks.take i) j := fun j hj => by
    unfold co
    rw [List.getD_eq_getElem?_getD, List.getD_eq_getElem?_getD, List.getElem?_take_of_lt (by omega), List.getElem?_take_of_lt hj]
  have c2 : co (marks.take (i + 1)) i = co marks i := by
    unfold co
    rw [List.getD_eq_getElem?_getD, List.getD_eq_getElem?_getD, List.getElem?_take_of_lt (by omega)]
  unfold posOf
  rw [l1, l0, List.range_succ, List.filter_append, List.map_append]
  have e : (List.range i).filter (fun j => decide (co (marks.take (i + 1)) j = v)) = (List.range i).filter fun j => decide (co (marks.take i) j = v) :=
    List.filter_congr fun j hj => by rw [c1 j (List.mem_range.mp hj)]
  rw [e, List.filter_cons, c2]
  by_cases c : co marks i = v
  · rw [if_pos c, decide_eq_true c]
    rfl
  · rw [if_neg c, decide_eq_false c]
    exact List.append_nil _
theorem posOf_none {marks : List Int} {v : Int} (h : v ∉ marks) : posOf marks v = [] := by
  refine List.eq_nil_iff_forall_not_mem.mpr fun x hx => ?_
  obtain ⟨i, _, hi, e⟩ := mem_posOf.mp hx
  exact h (e ▸ co_mem hi)
/-- a dict by integers -/
def KR (H : Hp) (f : Int → List Int) (kv : Key × V) (u : Int) : Prop := kv.1 = Sum.inl u ∧ TP H kv.2 (f u)
theorem kr_get {H : Hp} {f : Int → List Int} {v : Int} : ∀ {kvs : List (Key × V)} {vs : List Int}, Paired (KR H f) kvs vs → (v ∈ vs → ∃ w, valV kvs (Sum.inl v : Key) = some w ∧ TP H w (f v)) ∧ (v ∉ vs → valV kvs (Sum.inl v : Key) = none)
  | _, _, .nil => ⟨fun h => (nomatch h), fun _ => rfl⟩
  | kv :: kvs, u :: vs, .cons ⟨e, t⟩ pr => by
    obtain ⟨a, b⟩ := kr_get (v := v) pr
    by_cases c : u = v
    · refine ⟨fun _ => ⟨kv.2, valV_pos (by rw [e, c]), by rw [← c]; exact t⟩, fun h => absurd (List.mem_cons.mpr (.inl c.symm)) h⟩
    · have ne : ¬ kv.1 = (Sum.inl v : Key) := fun z => c (Sum.inl.inj (e.symm.trans z))
      refine ⟨fun h => ?_, fun h => ?_⟩
      · rw [valV_neg ne]
        exact a ((List.mem_cons.mp h).resolve_left fun z => c z.symm)
      · rw [valV_neg ne]
        exact b fun z => h (List.mem_cons_of_mem _ z)
theorem kr_map {H : Hp} {f g : Int → List Int} {v : Int} {w : V} (hw : TP H w (g v)) (hg : ∀ u, u ≠ v → g u = f u) : ∀ {kvs : List (Key × V)} {vs : List Int}, Paired (KR H f) kvs vs → Paired (KR H g) (kvs.map fun kv => if kv.1 = (Sum.inl v : Key) then (kv.1, w) else kv) vs
  | _, _, .nil => .nil
  | kv :: kvs, u :: vs, .cons ⟨e, t⟩ pr => by
    rw [List.map_cons]
    refine .cons ?_ (kr_map hw hg pr)
    by_cases c : u = v
    · rw [if_pos (by rw [e, c])]
      exact ⟨e, by rw [c]; exact hw⟩
    · rw [if_neg fun z => c (Sum.inl.inj (e.symm.trans z))]
      exact ⟨e, by rw [hg u c]; exact t⟩
theorem kr_put {H : Hp} {f g : Int → List Int} {v : Int} {w : V} {kvs : List (Key × V)} {vs : List Int} (pr : Paired (KR H f) kvs vs) (hw : TP H w (g v)) (hg : ∀ u, u ≠ v → g u = f u) :
    Paired (KR H g) (putK kvs (Sum.inl v : Key) w) (if v ∈ vs then vs else vs ++ [v]) := by
  obtain ⟨a, b⟩ := kr_get (v := v) pr
  by_cases c : v ∈ vs
  · rw [if_pos c]
    obtain ⟨x, hx, _⟩ := a c
    unfold putK
    rw [if_pos (by rw [valV_any, hx]; rfl)]
    exact kr_map hw hg pr
  · rw [if_neg c, putK_new _ (b c)]
    refine paired_snoc ⟨rfl, hw⟩ ?_
    have e : (kvs.map fun kv => if kv.1 = (Sum.inl v : Key) then (kv.1, w) else kv) = kvs := by
      conv => rhs; rw [← List.map_id kvs]
      refine List.map_congr_left fun kv hkv => ?_
      have : (kvs.any fun kv => decide (kv.1 = (Sum.inl v : Key))) = false := by rw [valV_any, b c]; rfl
      have h1 := List.any_eq_false.mp this kv hkv
      rw [if_neg fun z => h1 (decide_eq_true z)]
      rfl
    have := kr_map hw hg pr
    rwa [e] at this
theorem kr_vals {H : Hp} {f : Int → List Int} : ∀ {kvs : List (Key × V)} {vs : List Int}, Paired (KR H f) kvs vs → Paired (TP H) (kvs.map (·.2)) (vs.map f)
  | _, _, .nil => .nil
  | _, _, .cons ⟨_, t⟩ pr => .cons t (kr_vals pr)
def rCatC : R2 := fun x y H Q => ∃ a b xs ys, x = .ref a ∧ y = .ref b ∧ H a = some (.tup xs) ∧ H b = some (.tup ys) ∧ xs.length + ys.length ≤ sizeLine ∧ ∀ p H', Same H H' → H' p = some (.tup (xs ++ ys)) → Q (.ref p) H'
theorem op_catC {X : Cx} : OpR X (binaryOp .Add) rCatC := by
  intro pins s σ H x y v u Q I rx ry h
  obtain ⟨a, b, xs, ys, rfl, rfl, ha, hb, hz, q⟩ := h
  refine op_catA pins s σ H _ _ v u Q I rx ry ⟨a, b, xs, ys, rfl, rfl, .inl (.inl ha), .inl (.inl hb), hz, fun e => ?_, fun _ e => ?_, fun _ _ p np => ?_⟩
  · exact q b H (Same.refl _) (by rw [e, List.nil_append]; exact hb)
  · exact q a H (Same.refl _) (by rw [e, List.append_nil]; exact ha)
  · exact q p _ (same_upd np) upd_same
section
variable {P : Program} {w : World} {K : PySem.W.Frag} {mg : Str → Option Value} {base : Heap}
/-! ### from_labels -/
def spFromLabels (K : PySem.W.Frag) (CB : Addr) : Sp := fun vs H Q E => ∃ (n m : Int) (a : Addr) (marks : List Int), vs = [.int n, .int m, .ref a] ∧ SqL K H a (marks.map V.int) ∧ marks.length ≤ 1000 ∧ (siz n m = false → E (.ref CB) none H) ∧
  (siz n m = true → ((marks.length : Int) ≠ n + m → E (.ref CB) none H) ∧ ((marks.length : Int) = n + m → ∀ v H', Same H H' → DGv H' v n m (blocksOf marks) → Q v H'))
theorem ok_from_labels {f CB a_check_size_ : Addr} {fd fd_check_size_ : FuncData} (F : Fun K "from_labels" "from_labels" s_from_labels f fd) (T : ErrC K mg "BadNumber" CB) (z_len : mg "len" = none) (z_enumerate : mg "enumerate" = none) (z_tuple : mg "tuple" = none)
    (G_check_size_ : FnOk P w K mg base (L2.CX P w) 2 a_check_size_ fd_check_size_ ["n", "m"] (spCheckSize CB)) (g_check_size_ : mg "_check_size" = some (.ref a_check_size_)) (k_check_size_ : PySem.W.keepIn K (.ref a_check_size_) = true) (b_check_size_ : Binds K fd_check_size_ ["n", "m"] []) :
    FnOk P w K mg base (L2.CX P w) 3 f fd ["n", "m", "marks"] (spFromLabels K CB) := by
  obtain ⟨gc_BadNumber, x_BadNumber, kc_BadNumber, bc_BadNumber, tc_BadNumber⟩ := T
  refine F.okX sc_from_labels (fun vs H Q E h => ?_) (fun cdv A outer s H vs Q E hr h => ?_)
  · obtain ⟨n, m, a, marks, rfl, _⟩ := h
    rfl
  · obtain ⟨n, m, a, marks, rfl, ha, hl, q1, q⟩ := h
    refine ⟨_, (pss_cons (ps_expr (pe_call G_check_size_ (hr.mono (by decide)) rfl g_check_size_ k_check_size_ b_check_size_ .nil (passes_call (takes_of rfl rfl rfl rfl) (fun _ _ _ _ h => h)) (pa_cons (pv 0) (pa_cons (pv 1) pa_nil))))
  (pss_cons (ps_if (pt_cmpR op_ne (pe_callB call_len_seq (by rfl) z_len boot_len (pa_cons (pv 2) pa_nil)) (pe_op op_add (pv 0) (pv 1)) (nomark _)) (pss_one (ps_raise rfl (takes_of rfl rfl rfl rfl) (pmk_own PySem.F.excBase_ValueError x_BadNumber gc_BadNumber kc_BadNumber (raises_own bc_BadNumber tc_BadNumber) rfl))) pss_nil)
  (pss_cons (ps_set (i := 3) sc_from_labels.nd rfl (.inl rfl) pe_dnewK)
  (pss_cons (ps_for (passes_of rfl) rfl (pi_enum rfl z_enumerate (pa_cons (pv 2) pa_nil)) (pg_tup rfl (pgs_cons (pg_name (i := 4) sc_from_labels.nd rfl (.inl rfl)) (pgs_cons (pg_name (i := 5) sc_from_labels.nd rfl (.inl rfl)) pgs_nil))) (pss_one (ps_dput (hu_of hr) (pv 3) (pv 5) (pe_op op_catC (pe_dget2 (hu_of hr) (pv 3) (pv 5) (pe_tup pa_nil) ⟨by rfl, by rfl, by rfl, by rfl⟩) (pe_tup (pa_cons (pv 4) pa_nil))) rfl)))
  (pss_one (ps_ret (pe_tup (pa_cons (pv 0) (pa_cons (pv 1) (pa_cons (pe_tupVals rfl rfl z_tuple (pv 3)) pa_nil)))))))))), ?_⟩
    have szl : 20000 ≤ sizeLine := by decide
    refine ⟨_, rfl, _, rfl, n, m, rfl, fun cs => ?_, q1⟩
    obtain ⟨qB, q⟩ := q cs
    refine ⟨_, rfl, a, _, rfl, .inl ha, _, rfl, _, rfl, _, _, rfl, rfl, rfl, _, rfl, ?_⟩
    rw [List.length_map]
    by_cases cl : (marks.length : Int) = n + m
    · refine if_neg_of (by rw [decide_eq_true (congrArg V.int cl)]; exact Bool.false_ne_true) ?_
      have q := q cl
      refine fun D nD => ?_
      refine ⟨_, rfl, a, _, rfl, sqL_same (same_upd nD) ha, for_it walk_enum (fun i σ H' => ∃ (kvs : List (Key × V)) (v4 v5 : Option V), σ = [some (.int n), some (.int m), some (.ref a), some (.ref D), v4, v5] ∧ Same H H' ∧ H' D = some (.dK kvs) ∧ kvs.length ≤ i ∧ Paired (KR H' (posOf (marks.take i))) kvs (seenL [] (marks.take i)))
        ⟨[], none, none, rfl, same_upd nD, upd_same, Nat.le_refl _, .nil⟩ (fun i σ H' _ ⟨_, _, _, _, s', _⟩ => sqL_same s' ha) (fun i y σ H2 H3 hi hP hy => ?_) (fun σ H' hP => ?_)⟩
      · obtain ⟨kvs, v4, v5, rfl, s2, hD2, lk, pr⟩ := hP
        obtain ⟨p, x, y', rfl, np, rfl, ex, ey⟩ := hy
        rw [List.length_map] at hi
        obtain rfl : V.int (i : Nat) = x := Option.some.inj ex
        have ey2 : (marks.map V.int)[i]? = some (.int (co marks i)) := by rw [List.getElem?_map, co_get hi]; rfl
        obtain rfl : V.int (co marks i) = y' := Option.some.inj (ey2.symm.trans ey)
        refine ⟨p, _, rfl, .inl (.inl upd_same), rfl, _, _, rfl, _, _, rfl, rfl, ?_⟩
        have q3 := same_upd (o := .tup [.int (i : Nat), .int (co marks i)]) np
        have hD3 := q3 _ _ hD2
        refine ⟨_, rfl, D, rfl, .inl ⟨kvs, .inl hD3⟩, _, rfl, (by show 0 ≤ sizeLine; decide), fun e ne => ?_⟩
        have q4 := Same.trans q3 (same_upd (o := .tup []) ne)
        have hD4 := q4 _ _ hD2
        have pr4 : Paired (KR _ (posOf (marks.take i))) kvs (seenL [] (marks.take i)) := Paired.mapP pr fun _ _ h => ⟨h.1, h.2.same q4⟩
        refine ⟨_, DGet.k (k := (Sum.inl (co marks i) : Key)) hD4, ?_⟩
        obtain ⟨w0, ew, tw⟩ : ∃ w0, (valV kvs (Sum.inl (co marks i) : Key)).getD (.ref e) = w0 ∧ TP (upd (upd H2 p (.tup [.int (i : Nat), .int (co marks i)])) e (.tup [])) w0 (posOf (marks.take i) (co marks i)) := by
          by_cases c : co marks i ∈ seenL [] (marks.take i)
          · obtain ⟨w0, h1, h2⟩ := (kr_get (v := co marks i) pr4).1 c
            exact ⟨w0, by rw [h1]; rfl, h2⟩
          · rw [(kr_get (v := co marks i) pr4).2 c, posOf_none fun z => c ((seenL_mem _ _ _).mpr (.inr z))]
            exact ⟨.ref e, rfl, e, rfl, upd_same⟩
        rw [ew]
        obtain ⟨t0, rfl, ht0⟩ := tw
        refine ⟨_, rfl, (by show 1 ≤ sizeLine; decide), fun p1 np1 => ?_⟩
        have q5 := same_upd (o := .tup [.int (i : Nat)]) np1
        have lpos : (posOf (marks.take i) (co marks i)).length ≤ i := by
          unfold posOf
          rw [List.length_map]
          have h1 := List.length_filter_le (fun j => decide (co (marks.take i) j = co marks i)) (List.range (marks.take i).length)
          rw [List.length_range] at h1
          have h2 : (marks.take i).length ≤ i := by rw [List.length_take]; omega
          omega
        refine ⟨t0, p1, _, [.int (i : Nat)], rfl, rfl, q5 _ _ ht0, upd_same, by rw [List.length_map]; show _ + 1 ≤ _; omega, fun t H6 s6 ht => ?_⟩
        have s26 := Same.trans q4 (Same.trans q5 s6)
        have hD6 := s26 _ _ hD2
        refine ⟨_, rfl, _, rfl, D, _, rfl, DPut.k (k := (Sum.inl (co marks i) : Key)) hD6 (by omega), ?_⟩
        have tnew : TP H6 (.ref t) (posOf (marks.take (i + 1)) (co marks i)) := ⟨t, rfl, by rw [posOf_take hi, if_pos rfl, List.map_append]; exact ht⟩
        have pr6 := kr_put (g := posOf (marks.take (i + 1))) (Paired.mapP pr fun _ _ h => ⟨h.1, h.2.same s26⟩ : Paired (KR H6 (posOf (marks.take i))) kvs (seenL [] (marks.take i))) tnew fun u hu => by rw [posOf_take hi, if_neg (Ne.symm hu)]
        have keepT : ∀ {x : V} {z : List Int}, TP H6 x z → TP (upd H6 D (.dK (putK kvs (Sum.inl (co marks i) : Key) (.ref t)))) x z := fun {x z} ⟨t, e, h⟩ => ⟨t, e, by rw [upd_ne (ne_of h hD6 (fun z => nomatch z))]; exact h⟩
        refine ⟨_, _, _, rfl, Same.mut (Same.trans s2 s26) nD, upd_same, ?_, ?_⟩
        · unfold putK
          split
          · rw [List.length_map]
            omega
          · rw [List.length_append]
            exact Nat.succ_le_succ lk
        · rw [take_snoc hi, seenL_snoc, ← take_snoc hi]
          exact Paired.mapP pr6 fun _ _ h => ⟨h.1, keepT h.2⟩
      · obtain ⟨kvs, v4, v5, rfl, s2, hD2, lk, pr⟩ := hP
        rw [List.length_map, List.take_length] at pr
        refine ⟨_, rfl, _, rfl, _, rfl, D, kvs, rfl, hD2, fun tb ntb => ?_⟩
        refine ⟨(by show 3 ≤ sizeLine; decide), fun t nt => ?_⟩
        have q3 := same_upd (o := .tup (kvs.map (·.2))) ntb
        have q4 := same_upd (o := .tup [.int n, .int m, .ref tb]) nt
        have sf := Same.trans q3 q4
        refine q (.ref t) _ (Same.trans s2 sf) ⟨t, .ref tb, rfl, upd_same, tb, _, rfl, q4 _ _ upd_same, ?_⟩
        unfold blocksOf
        exact kr_vals (Paired.mapP pr fun _ _ h => ⟨h.1, h.2.same sf⟩)
    · exact if_pos_of (by rw [decide_eq_false fun z => cl (V.int.inj z)]; rfl) (qB cl)
end

theorem inV_int {p : Int} : ∀ l : List Int, inV (.int p) (l.map V.int) = decide (p ∈ l)
  | [] => rfl
  | x :: l => by
    show (eqV (.int x) (.int p) || inV (.int p) (l.map V.int)) = _
    rw [inV_int l]
    have e : eqV (.int x) (.int p) = decide (x = p) := by
      by_cases c : x = p <;> simp [eqV, c]
    rw [e]
    by_cases c : x = p
    · rw [decide_eq_true c, decide_eq_true (List.mem_cons.mpr (.inl c.symm))]
      rfl
    · rw [decide_eq_false c, Bool.false_or]
      refine decide_eq_decide.mpr ⟨fun z => List.mem_cons_of_mem _ z, fun z => (List.mem_cons.mp z).resolve_left fun z => c z.symm⟩
theorem flat_int : ∀ l : List Int, (l.map V.int).all flatV = true
  | [] => rfl
  | _ :: l => by
    rw [List.map_cons, List.all_cons, flat_int l]
    rfl
section
variable {P : Program} {w : World} {K : PySem.W.Frag} {mg : Str → Option Value} {base : Heap}
/-! ### _law_seen, _law_from, _law_marks -/
def spSeen (K : PySem.W.Frag) : Sp := fun vs H Q _ => ∃ (a : Addr) (l : List Int), vs = [.ref a] ∧ SqL K H a (l.map V.int) ∧ l.length ≤ 1000 ∧ ∀ D H', Same H H' → H D = none → H' D = some (.lst ((seenL [] l).map V.int)) → Q (.ref D) H'
theorem ok_law_seen {f : Addr} {fd : FuncData} (F : Fun K "_law_seen" "_law_seen" s_law_seen f fd) : FnOk P w K mg base CX0 1 f fd ["marks"] (spSeen K) := by
  refine F.ok sc_law_seen (fun vs H Q E h => ?_) (fun cdv A outer s H vs Q E hr h => ?_)
  · obtain ⟨a, l, rfl, _⟩ := h
    rfl
  · obtain ⟨a, l, rfl, ha, hl, q⟩ := h
    refine ⟨_, (pss_cons (ps_set (i := 1) sc_law_seen.nd rfl (.inl rfl) (pe_lst pa_nil))
  (pss_cons (ps_for PassesOwn.never rfl (pi_list (pv 0)) (pg_name (i := 2) sc_law_seen.nd rfl (.inl rfl)) (pss_one (ps_if (pt_cmpR op_notIn_seq (pv 2) (pv 1) (by with_unfolding_all rfl)) (pss_one (ps_expr (pe_bm PySem.F.plainAttrs_list PySem.F.slot_list_append PySem.F.type_list_append mt_append (pv 1) (pa_cons (pv 2) pa_nil)))) pss_nil)))
  (pss_one (ps_ret (pv 1))))), ?_⟩
    have szl : 20000 ≤ sizeLine := by decide
    refine ⟨(by show 0 ≤ sizeLine; decide), fun D nD => ?_⟩
    refine ⟨_, rfl, a, rfl, ⟨_, sqL_same (same_upd nD) ha⟩, for_list (xs := l.map V.int) (fun i σ H' => ∃ v2, σ = [some (.ref a), some (.ref D), v2] ∧ Same H H' ∧ H' D = some (.lst ((seenL [] (l.take i)).map V.int)))
      ⟨none, rfl, same_upd nD, upd_same⟩ (fun i σ H' _ ⟨_, _, s', _⟩ => sqL_same s' ha) (fun i y σ H' hy hP => ?_) (fun σ H' hP => ?_)⟩
    · obtain ⟨v2, rfl, s2, hD⟩ := hP
      have hi : i < l.length := by have := (List.getElem?_eq_some_iff.mp hy).1; rwa [List.length_map] at this
      have ey : (l.map V.int)[i]? = some (.int (co l i)) := by rw [List.getElem?_map, co_get hi]; rfl
      obtain rfl : V.int (co l i) = y := Option.some.inj (ey.symm.trans hy)
      refine ⟨_, rfl, _, rfl, D, _, rfl, .inl (.inl (.inl hD)), rfl, flat_int _, _, rfl, ?_⟩
      have ls := seenL_len (l.take i) []
      rw [List.length_take] at ls
      have ls2 : (seenL [] (l.take i)).length ≤ 1000 := by
        have : ([] : List Int).length = 0 := rfl
        omega
      by_cases c : co l i ∈ seenL [] (l.take i)
      · refine if_neg_of (by show ¬ (!inV _ _) = true; rw [inV_int, decide_eq_true c]; exact Bool.false_ne_true) ⟨_, rfl, s2, ?_⟩
        rw [take_snoc hi, seenL_snoc, if_pos c]
        exact hD
      · refine if_pos_of (by show (!inV _ _) = true; rw [inV_int, decide_eq_false c]; rfl) ?_
        refine ⟨_, rfl, .inl ⟨rfl, _, .inl (.inl hD)⟩, _, rfl, D, _, _, rfl, rfl, hD, by rw [List.length_map]; omega, ?_⟩
        refine ⟨_, rfl, Same.mut s2 nD, ?_⟩
        rw [upd_same, take_snoc hi, seenL_snoc, if_neg c, List.map_append]
        rfl
    · obtain ⟨v2, rfl, s2, hD⟩ := hP
      rw [List.length_map, List.take_length] at hD
      exact ⟨_, rfl, q D H' s2 nD hD⟩
theorem posF_co {marks : List Int} {v : Int} {j : Nat} (h : j < marks.length) : ((List.range (j + 1)).filter fun i => decide (co marks i = v)) = ((List.range j).filter fun i => decide (co marks i = v)) ++ (if co marks j = v then [j] else []) := by
  rw [List.range_succ, List.filter_append, List.filter_cons]
  by_cases c : co marks j = v
  · rw [if_pos c, decide_eq_true c]
    rfl
  · rw [if_neg c, decide_eq_false c]
    rfl
def spFrom (K : PySem.W.Frag) : Sp := fun vs H Q _ => ∃ (n m : Int) (a : Addr) (marks : List Int), vs = [.int n, .int m, .ref a] ∧ SqL K H a (marks.map V.int) ∧ marks.length ≤ 1000 ∧ (marks.length : Int) = n + m ∧
  ∀ v H', Same H H' → (∀ t, v = .ref t → H t = none) → DGv H' v n m (blocksOf marks) → Q v H'
theorem ok_law_from {f a_law_seen : Addr} {fd fd_law_seen : FuncData} (F : Fun K "_law_from" "_law_from" s_law_from f fd) (z_tuple : mg "tuple" = none) (z_range : mg "range" = none)
    (G_law_seen : FnOk P w K mg base CX0 1 a_law_seen fd_law_seen ["marks"] (spSeen K)) (g_law_seen : mg "_law_seen" = some (.ref a_law_seen)) (k_law_seen : PySem.W.keepIn K (.ref a_law_seen) = true) (b_law_seen : Binds K fd_law_seen ["marks"] []) : FnOk P w K mg base CX0 2 f fd ["n", "m", "marks"] (spFrom K) := by
  refine F.ok sc_law_from (fun vs H Q E h => ?_) (fun cdv A outer s H vs Q E hr h => ?_)
  · obtain ⟨n, m, a, marks, rfl, _⟩ := h
    rfl
  · obtain ⟨n, m, a, marks, rfl, ha, hl, hN, q⟩ := h
    refine ⟨_, (pss_cons (ps_set (i := 3) sc_law_from.nd rfl (.inl rfl) (pe_lst pa_nil))
  (pss_cons (ps_for PassesOwn.never rfl (pi_list (pe_call G_law_seen (hr.mono (by decide)) rfl g_law_seen k_law_seen b_law_seen .nil pass0 (pa_cons (pv 2) pa_nil))) (pg_name (i := 4) sc_law_from.nd rfl (.inr rfl)) (pss_one (ps_expr (pe_bm PySem.F.plainAttrs_list PySem.F.slot_list_append PySem.F.type_list_append mt_append (pv 3) (pa_cons (pe_callTy call_tuple_of (by rfl) z_tuple boot_tuple (pa_cons (pe_lc (own := [("at", 5)]) rfl sc_law_from.nd (pi_range1 rfl z_range (pa_cons (pe_op op_add (pv 0) (pv 1)) pa_nil)) (blkOk_by (N := ["n", "m", "marks", "blocks", "mark", "at"]) (sc := defScope s_law_from) (by first | decide +kernel | rfl)) (fun _ _ _ _ _ => (pg_name (i := 5) sc_law_from.nd rfl (.inl rfl))) (fun _ _ _ _ _ => pts_one (pt_cmpR op_eq (pe_ix (ix_listK (K := K) rfl) (pv 2) (pv 5) (fun _ _ => rfl)) (pv 4) (nomark _))) (fun _ _ _ _ _ => (pv 5))) pa_nil)) pa_nil)))))
  (pss_one (ps_ret (pe_tup (pa_cons (pv 0) (pa_cons (pv 1) (pa_cons (pe_callTy call_tuple_of (by rfl) z_tuple boot_tuple (pa_cons (pv 3) pa_nil)) pa_nil)))))))), ?_⟩
    have szl : 20000 ≤ sizeLine := by decide
    refine ⟨(by show 0 ≤ sizeLine; decide), fun D nD => ?_⟩
    have s1 := same_upd (o := .lst []) nD
    refine ⟨_, rfl, a, marks, rfl, sqL_same s1 ha, hl, fun S H2 s2 nS hS => ?_⟩
    have hDS : S ≠ D := fun z => by
      rw [z, upd_same] at nS
      exact nomatch nS
    have nS0 : H S = none := none_back s1 nS
    have sl := seenL_len marks []
    have sl2 : (seenL [] marks).length ≤ 1000 := by
      have : ([] : List Int).length = 0 := rfl
      omega
    refine ⟨S, rfl, ⟨_, .inl (.inl hS)⟩, for_list (K := K) (xs := (seenL [] marks).map V.int) (fun i σ H' => ∃ (v4 v5 : Option V) (ts : List V), σ = [some (.int n), some (.int m), some (.ref a), some (.ref D), v4, v5] ∧ Same H H' ∧ H' S = some (.lst ((seenL [] marks).map V.int)) ∧ H' D = some (.lst ts) ∧ Paired (TP H') ts (((seenL [] marks).take i).map (posOf marks)))
      ⟨none, none, [], rfl, Same.trans s1 s2, hS, s2 _ _ upd_same, .nil⟩ (fun i σ H' _ ⟨_, _, _, _, _, h, _⟩ => .inl (.inl h)) (fun i y σ H3 hy hP => ?_) (fun σ H3 hP => ?_)⟩
    · obtain ⟨v4, v5, ts, rfl, s3, hS3, hD3, pr⟩ := hP
      obtain ⟨v, hv, rfl⟩ := map_int_get hy
      have hi := (List.getElem?_eq_some_iff.mp hv).1
      have ha3 := sqL_same s3 ha
      refine ⟨_, rfl, .inl ⟨rfl, _, .inl (.inl hD3)⟩, ?_⟩
      -- the tuple of the places
      refine ⟨_, rfl, _, rfl, _, _, rfl, rfl, n + m, rfl, by omega, by omega, fun D2 nD2 => ?_⟩
      have nD2' : H D2 = none := none_back s3 nD2
      have hk : ∀ {H' : Hp}, SameBut D2 H3 H' → Same H3 H' := fun sb b o e => sb _ _ (ne_of_none e nD2) e
      rw [show (n + m).toNat = marks.length by omega]
      refine lc_range (lo := 0) (n := marks.length) (fun j H' => SameBut D2 H3 H' ∧ H' D2 = some (.lst ((((List.range j).filter fun i => decide (co marks i = v)).map fun (i : Nat) => (i : Int)).map V.int))) ⟨SameBut.upd, upd_same⟩ (fun j H' hj hP => ?_) (fun H4 hP => ?_)
      · obtain ⟨sb, hD⟩ := hP
        refine ⟨rfl, ?_⟩
        have ej : (0 : Int) + (j : Int) = (j : Int) := Int.zero_add _
        refine ⟨_, rfl, _, rfl, a, _, _, _, rfl, rfl, sqL_same (hk sb) ha3, (by rw [ej]; exact at_co hj), _, rfl, rfl, _, rfl, ?_⟩
        rw [posF_co hj]
        by_cases c : co marks j = v
        · rw [decide_eq_true (congrArg V.int c), if_pos c]
          refine iteT ⟨_, rfl, _, hD, ?_, sb.trans SameBut.upd, ?_⟩
          · rw [List.length_map, List.length_map]
            have := List.length_filter_le (fun i => decide (co marks i = v)) (List.range j)
            rw [List.length_range] at this
            omega
          · rw [upd_same, List.map_append, List.map_append, ej]
            rfl
        · rw [decide_eq_false (fun z => c (V.int.inj z)), if_neg c, List.append_nil]
          exact iteF ⟨sb, hD⟩
      obtain ⟨sb, hD⟩ := hP
      have s4 := hk sb
      refine ⟨D2, _, rfl, .inl ⟨.inl (.inl hD), fun t nt => ?_⟩⟩
      have q5 := same_upd (o := .tup ((posOf marks v).map V.int)) nt
      have hD5 := q5 _ _ (s4 _ _ hD3)
      have lts : ts.length ≤ 1000 := by
        have := pr.length
        rw [List.length_map, List.length_take] at this
        omega
      refine ⟨D, _, _, rfl, rfl, hD5, by omega, ?_⟩
      have keepT : ∀ {x : V} {z : List Int} {ys : List V}, TP (upd H4 t (.tup ((posOf marks v).map V.int))) x z → TP (upd (upd H4 t (.tup ((posOf marks v).map V.int))) D (.lst ys)) x z := fun {x z ys} ⟨t, e, h⟩ => ⟨t, e, by rw [upd_ne (ne_of h hD5 (fun z => nomatch z))]; exact h⟩
      refine ⟨_, _, ts ++ [.ref t], rfl, Same.mut (Same.trans s3 (Same.trans s4 q5)) nD, by rw [upd_ne hDS]; exact q5 _ _ (s4 _ _ hS3), upd_same, ?_⟩
      rw [List.take_succ, hv, List.map_append]
      exact paired_snoc (keepT ⟨t, rfl, upd_same⟩) (Paired.mapP pr fun _ _ h => keepT ((h.same s4).same q5))
    · obtain ⟨v4, v5, ts, rfl, s3, hS3, hD3, pr⟩ := hP
      rw [List.length_map, List.take_length] at pr
      refine ⟨_, rfl, _, rfl, _, rfl, D, _, rfl, .inl ⟨.inl (.inl hD3), fun tb ntb => ?_⟩⟩
      refine ⟨(by show 3 ≤ sizeLine; decide), fun t nt => ?_⟩
      have q3 := same_upd (o := .tup ts) ntb
      have q4 := same_upd (o := .tup [.int n, .int m, .ref tb]) nt
      have sf := Same.trans q3 q4
      exact q (.ref t) _ (Same.trans s3 sf) (fun t' e => by cases e; exact none_back (Same.trans s3 q3) nt) ⟨t, .ref tb, rfl, upd_same, tb, _, rfl, q4 _ _ upd_same, Paired.mapP pr fun _ _ h => h.same sf⟩
end

section
variable {P : Program} {w : World} {K : PySem.W.Frag} {mg : Str → Option Value} {base : Heap}
/-! ### _law_marks -/
def spMarks : Sp := fun vs H Q _ => ∃ (v : V) (n m : Int) (bs : List (List Int)), vs = [v] ∧ DGv H v n m bs ∧ IsDg n m bs ∧ bs.length ≤ 1000 ∧ ∀ D H', Same H H' → H D = none → H' D = some (.lst ((labL bs (n + m).toNat).map V.int)) → Q (.ref D) H'
theorem ok_law_marks {f : Addr} {fd : FuncData} (F : Fun K "_law_marks" "_law_marks" s_law_marks f fd) (z_len : mg "len" = none) (z_range : mg "range" = none) : FnOk P w K mg base CX0 1 f fd ["diagram"] spMarks := by
  refine F.ok sc_law_marks (fun vs H Q E h => ?_) (fun cdv A outer s H vs Q E hr h => ?_)
  · obtain ⟨v, n, m, bs, rfl, _⟩ := h
    rfl
  · obtain ⟨v, n, m, bs, rfl, hv, dg, lb, q⟩ := h
    refine ⟨_, (pss_cons (ps_set (i := 1) sc_law_marks.nd rfl (.inl rfl) (pe_op op_rep (pe_lst (pa_cons pe_int pa_nil)) (pe_op op_add (pe_ix ix_tup (pv 0) pe_int (fun _ _ => rfl)) (pe_ix ix_tup (pv 0) pe_int (fun _ _ => rfl)))))
  (pss_cons (ps_for PassesOwn.never rfl (pi_range1 rfl z_range (pa_cons (pe_callB call_len_seq (by rfl) z_len boot_len (pa_cons (pe_ix ix_tup (pv 0) pe_int (fun _ _ => rfl)) pa_nil)) pa_nil)) (pg_name (i := 2) sc_law_marks.nd rfl (.inl rfl)) (pss_one (ps_for PassesOwn.never rfl (pi_tup (pe_ix ix_tup (pe_ix ix_tup (pv 0) pe_int (fun _ _ => rfl)) (pv 2) (fun _ _ => rfl))) (pg_name (i := 3) sc_law_marks.nd rfl (.inl rfl)) (pss_one (ps_asg (pv 2) (pg_sub (pv 1) (pv 3) set_list))))))
  (pss_one (ps_ret (pv 1))))), ?_⟩
    have szl : 20000 ≤ sizeLine := by decide
    have hs := siz_iff.mp dg.sz
    obtain ⟨t, vb, rfl, ht, tb, ts, rfl, htb, pr⟩ := hv
    have lts : ts.length = bs.length := pr.length
    obtain ⟨N, eN⟩ : ∃ N : Nat, n + m = (N : Int) := ⟨(n + m).toNat, by omega⟩
    refine ⟨(by show 1 ≤ sizeLine; decide), fun z nz => ?_⟩
    have q0 := same_upd (o := .lst [.int 0]) nz
    refine ⟨_, rfl, t, _, 0, .int n, rfl, rfl, .inl (.inl (q0 _ _ ht)), atI_nat (j := 0) rfl, _, rfl, t, _, 1, .int m, rfl, rfl, .inl (.inl (q0 _ _ ht)), atI_nat (j := 1) rfl, _, _, rfl, rfl, z, _, _, rfl, rfl, upd_same, ?_⟩
    dsimp only
    rw [eN]
    refine ⟨by omega, by omega, by show 1 * _ ≤ sizeLine; omega, fun D nD => ?_⟩
    rw [show ((N : Nat) : Int).toNat = N from rfl, rep0]
    have s1 : Same H (upd (upd H z (.lst [.int 0])) D (.lst ((List.replicate N (0 : Int)).map V.int))) := Same.trans q0 (same_upd nD)
    have hD1 : upd (upd H z (.lst [.int 0])) D (.lst ((List.replicate N (0 : Int)).map V.int)) D = some (.lst ((List.replicate N (0 : Int)).map V.int)) := upd_same
    have nD0 := none_back q0 nD
    revert s1 hD1
    generalize upd (upd H z (.lst [.int 0])) D (.lst ((List.replicate N (0 : Int)).map V.int)) = H1
    intro s1 hD1
    refine ⟨_, rfl, t, _, 2, .ref tb, rfl, rfl, .inl (.inl (s1 _ _ ht)), atI_nat (j := 2) rfl, tb, _, rfl, .inr (.inl (.inl (s1 _ _ htb))), ?_⟩
    rw [lts]
    refine ⟨_, rfl, by omega, by omega, for_range (lo := 0) (n := bs.length) (fun i σ H' => ∃ v2 v3, σ = [some (.ref t), some (.ref D), v2, v3] ∧ Same H H' ∧ H' D = some (.lst ((labN bs i N).map V.int)))
      ⟨none, none, rfl, s1, hD1⟩ (fun i σ H3 hi hP => ?_) (fun σ H' hP => ?_)⟩
    · obtain ⟨v2, v3, rfl, s3, hD3⟩ := hP
      have ei : (0 : Int) + (i : Int) = ((i : Nat) : Int) := Int.zero_add _
      have hti : i < ts.length := by omega
      obtain ⟨b, eb, a, ea, ha⟩ := tt_get pr (List.getElem?_eq_getElem hti)
      have mb := List.mem_of_getElem? eb
      have eti : atI ts ((0 : Int) + (i : Int)) = some (.ref a) := by rw [ei]; exact atI_nat (by rw [List.getElem?_eq_getElem hti, ea])
      refine ⟨_, rfl, t, _, 2, .ref tb, rfl, rfl, .inl (.inl (s3 _ _ ht)), atI_nat (j := 2) rfl, _, rfl, tb, _, _, _, rfl, rfl, .inl (.inl (s3 _ _ htb)), eti, a, rfl, ⟨_, .inl (.inl (s3 _ _ ha))⟩, for_it walk_tup (fun j σ H' => ∃ v3, σ = [some (.ref t), some (.ref D), some (.int (0 + (i : Int))), v3] ∧ Same H H' ∧ H' D = some (.lst (((b.take j).foldl (fun ms p => ms.set p.toNat (i : Int)) (labN bs i N)).map V.int)))
        ⟨v3, rfl, s3, hD3⟩ (fun j σ H' _ ⟨_, _, s', _⟩ => .inl (.inl (s' _ _ ha))) (fun j y σ H6 H7 hj hP hy => ?_) (fun σ H' hP => ?_)⟩
      · obtain ⟨v3, rfl, s5, hD5⟩ := hP
        obtain ⟨e0, hy⟩ := hy
        subst e0
        rw [List.length_map] at hj
        have ez : (b.map V.int)[j]? = some (.int (co b j)) := by rw [List.getElem?_map, co_get hj]; rfl
        obtain rfl : V.int (co b j) = y := Option.some.inj (ez.symm.trans hy)
        obtain ⟨c0, c1⟩ := dg_pt dg mb (co_mem hj)
        have ll : ((b.take j).foldl (fun ms p => ms.set p.toNat (i : Int)) (labN bs i N)).length = N := by
          rw [fold_len]
          unfold labN
          rw [labFrom_len, List.length_replicate]
        refine ⟨_, rfl, _, rfl, _, rfl, D, _, _, (co b j).toNat, rfl, rfl, hD5, (by obtain ⟨u, hu⟩ := Int.eq_ofNat_of_zero_le c0; rw [hu]; exact ixN_nat (by rw [List.length_map, ll]; omega)), ?_⟩
        refine ⟨_, rfl, Same.mut s5 nD0, ?_⟩
        rw [upd_same, ei, map_set, fold_take hj]
      · obtain ⟨v3, rfl, s5, hD5⟩ := hP
        rw [List.length_map, List.take_length] at hD5
        refine ⟨_, _, rfl, s5, ?_⟩
        rw [hD5]
        unfold labN
        rw [List.take_succ, eb, show (some b).toList = [b] from rfl, labFrom_snoc, List.length_take, Nat.min_eq_left (by omega), Nat.zero_add]
    · obtain ⟨v2, v3, rfl, s3, hD3⟩ := hP
      refine ⟨_, rfl, q D H' s3 nD0 ?_⟩
      rw [hD3, eN]
      unfold labN labL
      rw [List.take_length]
      rfl
end

section
variable {P : Program} {w : World} {K : PySem.W.Frag} {mg : Str → Option Value} {base : Heap}
/-! ### _law_pick, _law_family, _law_other_side -/
theorem seqIx_nat {n k : Nat} (h : k < n) : seqIndex? (k : Int) n = some k := by
  have e0 : ¬ ((k : Int) < 0) := by omega
  simp only [seqIndex?, if_neg e0]
  rw [if_pos (by simp; omega)]
  rfl
theorem mem_erase {l : List Int} {i : Nat} {y : Int} (h : y ∈ l.eraseIdx i) : y ∈ l := List.mem_of_mem_eraseIdx h
theorem erase_map : ∀ (l : List Int) (k : Nat), (l.map V.int).eraseIdx k = (l.eraseIdx k).map V.int
  | [], _ => rfl
  | _ :: _, 0 => rfl
  | a :: l, k + 1 => congrArg (V.int a :: ·) (erase_map l k)
def spPick : Sp := fun vs H Q _ => ∃ (r b : Addr) (ds ls : List Int), vs = [.ref r, .ref b] ∧ r ≠ b ∧ H r = some (.lst (ds.map V.int)) ∧ H b = some (.lst (ls.map V.int)) ∧ ls ≠ [] ∧ ls.length ≤ 1000 ∧
  ∀ (ds' : List Int) (k : Nat), k < ls.length → Q (.int (co ls k)) (upd (upd H r (.lst (ds'.map V.int))) b (.lst ((ls.eraseIdx k).map V.int)))
theorem ok_law_pick {f a_law_next : Addr} {fd fd_law_next : FuncData} (F : Fun K "_law_pick" "_law_pick" s_law_pick f fd) (z_int : mg "int" = none) (z_len : mg "len" = none)
    (G_law_next : FnOk P w K mg base CX0 1 a_law_next fd_law_next ["draws"] spNext) (g_law_next : mg "_law_next" = some (.ref a_law_next)) (k_law_next : PySem.W.keepIn K (.ref a_law_next) = true) (b_law_next : Binds K fd_law_next ["draws"] []) : FnOk P w K mg base CX0 2 f fd ["draws", "left"] spPick := by
  refine F.ok sc_law_pick (fun vs H Q E h => ?_) (fun cdv A outer s H vs Q E hr h => ?_)
  · obtain ⟨r, b, ds, ls, rfl, _⟩ := h
    rfl
  · obtain ⟨r, b, ds, ls, rfl, nrb, hL, hB, hne, hl, q⟩ := h
    refine ⟨_, (pss_one (ps_ret (pe_bm PySem.F.plainAttrs_list PySem.F.slot_list_pop PySem.F.type_list_pop mt_popAt (pv 1) (pa_cons (pe_op op_mod (pe_callTy call_int1 (by rfl) z_int boot_int (pa_cons (pe_call G_law_next (hr.mono (by decide)) rfl g_law_next k_law_next b_law_next .nil pass0 (pa_cons (pv 0) pa_nil)) pa_nil)) (pe_callB call_len_seq (by rfl) z_len boot_len (pa_cons (pv 1) pa_nil))) pa_nil)))), ?_⟩
    have pos : 0 < ls.length := List.length_pos_iff.mpr hne
    refine ⟨_, rfl, .inl ⟨rfl, _, .inl (.inl hB)⟩, _, rfl, r, ds, rfl, hL, fun n0 ds0 => .inl ⟨n0, rfl, ?_⟩⟩
    have hB1 : upd H r (.lst (ds0.map V.int)) b = some (.lst (ls.map V.int)) := by rw [upd_ne (Ne.symm nrb)]; exact hB
    refine ⟨_, rfl, b, _, rfl, .inl (.inl (.inl hB1)), ?_⟩
    rw [List.length_map]
    refine ⟨n0, _, rfl, rfl, by omega, ?_⟩
    have m := mod_lt8 n0 (show (0 : Int) < (ls.length : Int) by omega)
    dsimp only
    obtain ⟨k, hk, ek⟩ : ∃ k : Nat, k < ls.length ∧ n0 % (ls.length : Int) = (k : Int) := ⟨(n0 % (ls.length : Int)).toNat, by omega, by omega⟩
    rw [ek]
    refine ⟨b, _, _, k, .int (co ls k), rfl, rfl, hB1, by omega, by omega, ?_, by rw [List.getElem?_map, co_get hk]; rfl, ?_⟩
    · rw [List.length_map]
      exact seqIx_nat hk
    · have e : (ls.map V.int).eraseIdx k = (ls.eraseIdx k).map V.int := erase_map ls k
      rw [e]
      exact q _ k hk
def fams : List Str := ["threads", "loose", "pairs", "lonepairs", "even", "parts"]
def spFamily : Sp := fun vs H Q _ => ∃ (r : Addr) (ds : List Int), vs = [.ref r] ∧ H r = some (.lst (ds.map V.int)) ∧ ∀ (z : Str) (ds' : List Int) (H' : Hp), z ∈ fams → SameBut r H H' → H' r = some (.lst (ds'.map V.int)) → Q (.str z) H'
theorem ok_law_family {f a_law_next : Addr} {fd fd_law_next : FuncData} (F : Fun K "_law_family" "_law_family" s_law_family f fd) (z_int : mg "int" = none)
    (G_law_next : FnOk P w K mg base CX0 1 a_law_next fd_law_next ["draws"] spNext) (g_law_next : mg "_law_next" = some (.ref a_law_next)) (k_law_next : PySem.W.keepIn K (.ref a_law_next) = true) (b_law_next : Binds K fd_law_next ["draws"] []) : FnOk P w K mg base CX0 2 f fd ["draws"] spFamily := by
  refine F.ok sc_law_family (fun vs H Q E h => ?_) (fun cdv A outer s H vs Q E hr h => ?_)
  · obtain ⟨r, ds, rfl, _⟩ := h
    rfl
  · obtain ⟨r, ds, rfl, hL, q⟩ := h
    refine ⟨_, (pss_one (ps_ret (pe_ix ix_list (pe_lst (pa_cons pe_str (pa_cons pe_str (pa_cons pe_str (pa_cons pe_str (pa_cons pe_str (pa_cons pe_str pa_nil))))))) (pe_op op_mod (pe_callTy call_int1 (by rfl) z_int boot_int (pa_cons (pe_call G_law_next (hr.mono (by decide)) rfl g_law_next k_law_next b_law_next .nil pass0 (pa_cons (pv 0) pa_nil)) pa_nil)) pe_int) (fun _ _ => rfl)))), ?_⟩
    refine ⟨(by show 6 ≤ sizeLine; decide), fun p np => ?_⟩
    have nrp : r ≠ p := ne_of_none hL np
    refine ⟨_, rfl, r, ds, rfl, (by rw [upd_ne nrp]; exact hL), fun n0 ds0 => .inl ⟨n0, rfl, n0, 6, rfl, rfl, (show (0 : Int) < 6 by decide), ?_⟩⟩
    have m := mod_lt8 n0 (show (0 : Int) < 6 by decide)
    obtain ⟨k, hk, ek⟩ : ∃ k : Nat, k < 6 ∧ n0 % 6 = (k : Int) := ⟨(n0 % 6).toNat, by omega, by omega⟩
    dsimp only
    rw [ek]
    have go : ∀ z : Str, z ∈ fams → Q (.str z) (upd (upd H p (.lst [.str "threads", .str "loose", .str "pairs", .str "lonepairs", .str "even", .str "parts"])) r (.lst (ds0.map V.int))) := fun z mz => q z ds0 _ mz (fun b o nb hb => by rw [upd_ne nb, upd_ne (ne_of_none hb np)]; exact hb) upd_same
    obtain ⟨z, mz, ez⟩ : ∃ z : Str, z ∈ fams ∧ [V.str "threads", .str "loose", .str "pairs", .str "lonepairs", .str "even", .str "parts"][k]? = some (.str z) := by
      match k, hk with
      | 0, _ => exact ⟨fams[0]'(by decide), List.getElem_mem _, rfl⟩
      | 1, _ => exact ⟨fams[1]'(by decide), List.getElem_mem _, rfl⟩
      | 2, _ => exact ⟨fams[2]'(by decide), List.getElem_mem _, rfl⟩
      | 3, _ => exact ⟨fams[3]'(by decide), List.getElem_mem _, rfl⟩
      | 4, _ => exact ⟨fams[4]'(by decide), List.getElem_mem _, rfl⟩
      | 5, _ => exact ⟨fams[5]'(by decide), List.getElem_mem _, rfl⟩
    exact ⟨p, _, _, _, rfl, rfl, .inl (.inl (by rw [upd_ne (Ne.symm nrp), upd_same])), atI_nat ez, go z mz⟩
def spOther : Sp := fun vs H Q _ => ∃ (r : Addr) (ds : List Int) (z : Str) (n most : Int), vs = [.ref r, .str z, .int n, .int most] ∧ 0 ≤ n ∧ n ≤ most ∧ 1 ≤ most ∧ H r = some (.lst (ds.map V.int)) ∧ ∀ (m : Int) (ds' : List Int) (H' : Hp), 0 ≤ m → m ≤ most → (z = "threads" → m = n) → (z = "pairs" ∨ z = "even" → (n + m) % 2 = 0) → SameBut r H H' → H' r = some (.lst (ds'.map V.int)) → Q (.int m) H'
theorem ok_law_other_side {f a_law_next : Addr} {fd fd_law_next : FuncData} (F : Fun K "_law_other_side" "_law_other_side" s_law_other_side f fd) (z_int : mg "int" = none)
    (G_law_next : FnOk P w K mg base CX0 1 a_law_next fd_law_next ["draws"] spNext) (g_law_next : mg "_law_next" = some (.ref a_law_next)) (k_law_next : PySem.W.keepIn K (.ref a_law_next) = true) (b_law_next : Binds K fd_law_next ["draws"] []) : FnOk P w K mg base CX0 2 f fd ["draws", "family", "n", "most"] spOther := by
  refine F.ok sc_law_other_side (fun vs H Q E h => ?_) (fun cdv A outer s H vs Q E hr h => ?_)
  · obtain ⟨r, ds, z, n, most, rfl, _⟩ := h
    rfl
  · obtain ⟨r, ds, z, n, most, rfl, h0, h1, h2, hL, q⟩ := h
    refine ⟨_, (pss_cons (ps_if (pt_cmpR op_eq (pv 1) pe_str (nomark _)) (pss_one (ps_ret (pv 2))) pss_nil)
  (pss_cons (ps_set (i := 4) sc_law_other_side.nd rfl (.inl rfl) (pe_op op_mod (pe_callTy call_int1 (by rfl) z_int boot_int (pa_cons (pe_call G_law_next (hr.mono (by decide)) rfl g_law_next k_law_next b_law_next .nil pass0 (pa_cons (pv 0) pa_nil)) pa_nil)) (pe_op op_add (pv 3) pe_int)))
  (pss_cons (ps_if (L2.PW.pt (pw_and (pt_cmpR op_in_seq (pv 1) (pe_lst (pa_cons pe_str (pa_cons pe_str pa_nil))) (by with_unfolding_all rfl)) (pw_and1 (pt_cmpR op_eq (pe_op op_mod (pe_callTy call_int1 (by rfl) z_int boot_int (pa_cons (pe_op op_add (pv 2) (pv 4)) pa_nil)) pe_int) pe_int (nomark _))))) (pss_one (ps_ret (pe_ifExp (pt_cmpR op_lt (pv 4) (pv 3) (nomark _)) (pe_op op_add (pv 4) pe_int) (pe_op op_sub (pv 4) pe_int)))) pss_nil)
  (pss_one (ps_ret (pv 4)))))), ?_⟩
    refine ⟨_, rfl, rfl, _, rfl, ite2 (fun _ => ⟨_, rfl, q n ds H h0 h1 (fun _ => rfl) (fun _ => by omega) (SameBut.refl _ _) hL⟩) (fun nt => ?_)⟩
    have nt : z ≠ "threads" := fun e => nt (decide_eq_true (congrArg V.str e))
    refine ⟨_, rfl, r, ds, rfl, hL, fun n0 ds0 => .inl ⟨n0, rfl, _, rfl, _, _, rfl, rfl, n0, _, rfl, rfl, by omega, ?_⟩⟩
    have mo := mod_lt8 n0 (show (0 : Int) < most + 1 by omega)
    revert mo
    dsimp only
    generalize n0 % (most + 1) = m
    intro mo
    have hr1 : upd H r (.lst (ds0.map V.int)) r = some (.lst (ds0.map V.int)) := upd_same
    have sb1 : SameBut r H (upd H r (.lst (ds0.map V.int))) := SameBut.upd
    revert hr1 sb1
    generalize upd H r (.lst (ds0.map V.int)) = H1
    intro hr1 sb1
    refine ⟨_, rfl, (by show 2 ≤ sizeLine; decide), fun p np => ⟨p, _, rfl, .inl (.inl (.inl upd_same)), rfl, rfl, _, rfl, ?_⟩⟩
    have nrp : r ≠ p := ne_of_none hr1 np
    have sb2 : SameBut r H (upd H1 p (.lst [.str "pairs", .str "even"])) := sb1.trans (SameBut.new np)
    have hr2 : upd H1 p (.lst [.str "pairs", .str "even"]) r = some (.lst (ds0.map V.int)) := by rw [upd_ne nrp]; exact hr1
    refine ite2 (fun _ => ?_) (fun ni => ⟨_, rfl, q m ds0 _ mo.1 (by omega) (fun e => absurd e nt) (fun e => ?_) sb2 hr2⟩)
    rotate_left
    · refine absurd ?_ ni
      rcases e with rfl | rfl <;> decide +kernel
    refine ⟨_, rfl, _, rfl, _, _, rfl, rfl, .inl ⟨_, rfl, _, 2, rfl, rfl, (show (0 : Int) < 2 by decide), rfl, _, rfl, ite2 (fun od => ?_) (fun od => ⟨_, rfl, q m ds0 _ mo.1 (by omega) (fun e => absurd e nt) (fun _ => ?_) sb2 hr2⟩)⟩⟩
    rotate_left
    · have od := fun z => od (decide_eq_true z)
      by_cases c : (n + m) % 2 = 1
      · exact absurd (congrArg V.int c) od
      · omega
    have od : (n + m) % 2 = 1 := V.int.inj (of_decide_eq_true od)
    refine ⟨_, rfl, _, rfl, _, _, rfl, rfl, _, rfl, ?_⟩
    by_cases c : m < most
    · rw [decide_eq_true c]
      exact iteT ⟨_, rfl, _, _, rfl, rfl, q (m + 1) ds0 _ (by omega) (by omega) (fun e => absurd e nt) (fun _ => by omega) sb2 hr2⟩
    · rw [decide_eq_false c]
      exact iteF ⟨_, rfl, _, _, rfl, rfl, q (m - 1) ds0 _ (by omega) (by omega) (fun e => absurd e nt) (fun _ => by omega) sb2 hr2⟩
end

/-! ### marks as they are drawn -/
def Strand (n : Nat) (l : List Int) : Prop := ∀ p q : Nat, p < q → q < l.length → co l p = co l q → p < n ∧ n ≤ q
def Mated (l : List Int) : Prop := ∀ p : Nat, p < l.length → ∃ q, q < l.length ∧ q ≠ p ∧ co l q = co l p
structure FamM (z : Str) (n m : Nat) (l : List Int) : Prop where
  st : z = "threads" ∨ z = "loose" → Strand n l
  ma : z = "threads" → n = m → Mated l
  pa : z = "pairs" → (n + m) % 2 = 0 → ∀ v ∈ l, l.count v = 2
  lo : z = "lonepairs" → ∀ v, l.count v ≤ 2
  ev : z = "even" → (n + m) % 2 = 0 → ∀ v, l.count v % 2 = 0
theorem mem_ixs {N : Nat} {x : Int} : x ∈ ixs N ↔ 0 ≤ x ∧ x < (N : Int) := by
  unfold ixs
  rw [List.mem_map]
  constructor
  · rintro ⟨i, hi, rfl⟩
    have := List.mem_range.mp hi
    omega
  · rintro ⟨h0, h1⟩
    exact ⟨x.toNat, List.mem_range.mpr (by omega), by omega⟩
theorem ixs_len' (N : Nat) : (ixs N).length = N := by
  unfold ixs
  rw [List.length_map, List.length_range]
theorem co_ixs {N i : Nat} (h : i < N) : co (ixs N) i = (i : Int) := by
  have e := co_get (l := ixs N) (k := i) (by rw [ixs_len']; exact h)
  unfold ixs at e ⊢
  rw [List.getElem?_map, List.getElem?_range h] at e
  exact (Option.some.inj e).symm
theorem ixs_nodup (N : Nat) : (ixs N).Nodup := by
  unfold ixs
  exact List.pairwise_map.mpr ((range_lt N).imp fun {a b} h => by omega)
theorem co_app_l {a b : List Int} {i : Nat} (h : i < a.length) : co (a ++ b) i = co a i := by
  have e := co_get (l := a ++ b) (k := i) (by rw [List.length_append]; omega)
  rw [List.getElem?_append_left h, co_get h] at e
  exact (Option.some.inj e).symm
theorem co_app_r {a b : List Int} {i : Nat} (h : i < b.length) : co (a ++ b) (a.length + i) = co b i := by
  have e := co_get (l := a ++ b) (k := a.length + i) (by rw [List.length_append]; omega)
  rw [List.getElem?_append_right (by omega), show a.length + i - a.length = i by omega, co_get h] at e
  exact (Option.some.inj e).symm
theorem nodup_erase {l : List Int} (h : l.Nodup) {k : Nat} (hk : k < l.length) {y : Int} (hy : y ∈ l.eraseIdx k) : y ∈ l ∧ y ≠ co l k := by
  refine ⟨List.mem_of_mem_eraseIdx hy, fun e => ?_⟩
  obtain ⟨j, hj⟩ := List.mem_eraseIdx_iff_getElem?.mp hy
  have e2 := co_get hk
  rw [← e] at e2
  have lj := (List.getElem?_eq_some_iff.mp hj.2)
  obtain ⟨lj1, lj2⟩ := lj
  obtain ⟨lk1, lk2⟩ := List.getElem?_eq_some_iff.mp e2
  exact hj.1 ((List.getElem_inj h).mp (lj2.trans lk2.symm))
theorem mem_erase_ne {l : List Int} {k : Nat} (hk : k < l.length) {y : Int} (hy : y ∈ l) (ne : y ≠ co l k) : y ∈ l.eraseIdx k := by
  obtain ⟨j, hj, e⟩ := mem_get hy
  refine List.mem_eraseIdx_iff_getElem?.mpr ⟨j, fun c => ne ?_, ?_⟩
  · rw [← e, c]
  · rw [co_get hj, e]
/-- while marks are threaded -/
structure ThrI (n m i : Nat) (l ls : List Int) : Prop where
  len : l.length = n + m
  up : ∀ p : Nat, p < n → co l p = p
  low : ∀ j : Nat, j < m → co l (n + j) = -1 - (j : Int) ∨ (0 ≤ co l (n + j) ∧ co l (n + j) < i)
  dis : ∀ j j' : Nat, j < j' → j' < m → co l (n + j) ≠ co l (n + j')
  nd : ls.Nodup
  free : ∀ x ∈ ls, ∃ j : Nat, x = j ∧ j < m ∧ co l (n + j) = -1 - (j : Int)
  rest : ∀ j : Nat, j < m → (j : Int) ∉ ls → 0 ≤ co l (n + j)
  cap : ls.length ≤ m
structure ThrT (n m i : Nat) (l ls : List Int) : Prop where
  many : ls.length = m - i
  hit : ∀ a : Nat, a < i → ∃ j, j < m ∧ co l (n + j) = a
theorem ThrI.skip {n m i : Nat} {l ls : List Int} (h : ThrI n m i l ls) : ThrI n m (i + 1) l ls :=
  ⟨h.len, h.up, fun j hj => (h.low j hj).imp_right fun z => ⟨z.1, by omega⟩, h.dis, h.nd, h.free, h.rest, h.cap⟩
theorem thr_at {n m i : Nat} {l ls : List Int} (h : ThrI n m i l ls) {k : Nat} (hk : k < ls.length) : ∃ j : Nat, co ls k = j ∧ j < m ∧ co l (n + j) = -1 - (j : Int) := h.free _ (co_mem hk)
theorem ThrI.step {n m i : Nat} {l ls : List Int} (h : ThrI n m i l ls) {k j : Nat} (hk : k < ls.length) (hj : j < m) (ej : co ls k = j) : ThrI n m (i + 1) (l.set (n + j) (i : Int)) (ls.eraseIdx k) := by
  have hl := h.len
  have c : ∀ p : Nat, co (l.set (n + j) (i : Int)) p = if p = n + j then (i : Int) else co l p := fun p => co_set p (by omega)
  refine ⟨by rw [List.length_set]; exact hl, fun p hp => ?_, fun j' hj' => ?_, fun j1 j2 h1 h2 => ?_, h.nd.sublist (List.eraseIdx_sublist _ _), fun x hx => ?_, fun j' hj' hn => ?_, by rw [List.length_eraseIdx_of_lt hk]; have := h.cap; omega⟩
  · rw [c, if_neg (by omega)]
    exact h.up p hp
  · rw [c]
    by_cases e : j' = j
    · rw [if_pos (by omega)]
      exact .inr ⟨by omega, by omega⟩
    · rw [if_neg (by omega)]
      exact (h.low j' hj').imp_right fun z => ⟨z.1, by omega⟩
  · rw [c, c]
    have d := h.dis j1 j2 h1 h2
    have l1 := h.low j1 (by omega)
    have l2 := h.low j2 (by omega)
    by_cases e1 : j1 = j
    · rw [if_pos (by omega), if_neg (by omega)]
      omega
    · rw [if_neg (by omega)]
      by_cases e2 : j2 = j
      · rw [if_pos (by omega)]
        omega
      · rw [if_neg (by omega)]
        exact d
  · obtain ⟨hx1, hx2⟩ := nodup_erase h.nd hk hx
    obtain ⟨j', e1, e2, e3⟩ := h.free x hx1
    refine ⟨j', e1, e2, ?_⟩
    rw [c, if_neg (by omega)]
    exact e3
  · rw [c]
    by_cases e : j' = j
    · rw [if_pos (by omega)]
      omega
    · rw [if_neg (by omega)]
      exact h.rest j' hj' fun z => hn (mem_erase_ne hk z (by rw [ej]; omega))
theorem ThrT.step {n m i : Nat} {l ls : List Int} (h : ThrI n m i l ls) (t : ThrT n m i l ls) {k j : Nat} (hk : k < ls.length) (hj : j < m) (ej : co ls k = j) : ThrT n m (i + 1) (l.set (n + j) (i : Int)) (ls.eraseIdx k) := by
  have hl := h.len
  have c : ∀ p : Nat, co (l.set (n + j) (i : Int)) p = if p = n + j then (i : Int) else co l p := fun p => co_set p (by omega)
  refine ⟨by rw [List.length_eraseIdx_of_lt hk, t.many]; omega, fun a ha => ?_⟩
  by_cases e : a = i
  · exact ⟨j, hj, by rw [c, if_pos rfl, e]⟩
  · obtain ⟨j', h1, h2⟩ := t.hit a (by omega)
    refine ⟨j', h1, ?_⟩
    rw [c, if_neg]
    · exact h2
    · intro z
      obtain ⟨j3, e3, _, e4⟩ := thr_at h hk
      rw [z] at h2
      rw [ej] at e3
      have : j3 = j := by omega
      rw [this] at e4
      omega
theorem ThrI.strand {n m i : Nat} {l ls : List Int} (h : ThrI n m i l ls) : Strand n l := by
  intro p q hpq hq e
  have hl := h.len
  rcases Nat.lt_or_ge q n with c | c
  · rw [h.up p (by omega), h.up q c] at e
    omega
  · refine ⟨?_, c⟩
    rcases Nat.lt_or_ge p n with c2 | c2
    · exact c2
    · refine absurd ?_ (h.dis (p - n) (q - n) (by omega) (by omega))
      rw [show n + (p - n) = p by omega, show n + (q - n) = q by omega]
      exact e
theorem ThrI.mated {n : Nat} {l ls : List Int} (h : ThrI n n n l ls) (t : ThrT n n n l ls) : Mated l := by
  intro p hp
  have hl := h.len
  have e0 : ls = [] := List.length_eq_zero_iff.mp (by rw [t.many]; omega)
  rcases Nat.lt_or_ge p n with c | c
  · obtain ⟨j, hj, e⟩ := t.hit p c
    exact ⟨n + j, by omega, by omega, by rw [e, h.up p c]⟩
  · have r := h.rest (p - n) (by omega) (by rw [e0]; exact fun z => nomatch z)
    have lo := h.low (p - n) (by omega)
    rw [show n + (p - n) = p by omega] at r lo
    refine ⟨(co l p).toNat, by omega, by omega, ?_⟩
    rw [h.up _ (by omega)]
    omega
/-- while marks are paired -/
structure PrI (lone : Bool) (N i : Nat) (l ls : List Int) : Prop where
  len : l.length = N
  nd : ls.Nodup
  free : ∀ x ∈ ls, ∃ p : Nat, x = p ∧ p < N ∧ co l p = x ∧ l.count x = 1
  rest : ∀ v, v ∉ ls → l.count v = 0 ∨ l.count v = 2 ∨ (lone = true ∧ l.count v = 1)
  many : lone = false → ls.length + 2 * i = N
  cap : ls.length ≤ N
theorem count_ixs {N : Nat} {x : Int} (h : x ∈ ixs N) : (ixs N).count x = 1 := (ixs_nodup N).count.trans (if_pos h)
theorem PrI.start (lone : Bool) (N : Nat) : PrI lone N 0 (ixs N) (ixs N) :=
  ⟨ixs_len' N, ixs_nodup N, fun x hx => ⟨x.toNat, by have := mem_ixs.mp hx; omega, by have := mem_ixs.mp hx; omega, by have := mem_ixs.mp hx; rw [co_ixs (by omega)]; omega, count_ixs hx⟩, fun v hv => .inl (List.count_eq_zero.mpr hv), fun _ => ixs_len' N, Nat.le_of_eq (ixs_len' N)⟩
theorem PrI.step {lone : Bool} {N i : Nat} {l ls : List Int} {one : Int} (h : PrI lone N i l (one :: ls)) {k p : Nat} (hk : k < ls.length) (hp : p < N) (ep : co ls k = p) : PrI lone N (i + 1) (l.set p one) (ls.eraseIdx k) := by
  obtain ⟨n1, n2⟩ := List.nodup_cons.mp h.nd
  have mx := co_mem hk
  obtain ⟨p', e1, e2, e3, e4⟩ := h.free (co ls k) (List.mem_cons_of_mem _ mx)
  obtain rfl : p' = p := by omega
  have hl := h.len
  have nx : one ≠ co ls k := fun z => n1 (z ▸ mx)
  obtain ⟨po, o1, o2, o3, o4⟩ := h.free one List.mem_cons_self
  have g : l[p']'(by omega) = co ls k := by
    have := co_get (l := l) (k := p') (by omega)
    rw [List.getElem?_eq_getElem (by omega)] at this
    rw [Option.some.inj this, e3]
  have cs : ∀ b, (l.set p' one).count b = l.count b - (if co ls k = b then 1 else 0) + (if one = b then 1 else 0) := by
    intro b
    rw [List.count_set (by omega), g]
    simp only [beq_iff_eq]
  refine ⟨by rw [List.length_set]; exact hl, n2.sublist (List.eraseIdx_sublist _ _), fun y hy => ?_, fun v hv => ?_, fun e => ?_, by have := h.cap; rw [List.length_cons] at this; rw [List.length_eraseIdx_of_lt hk]; omega⟩
  · obtain ⟨h1, h2⟩ := nodup_erase n2 hk hy
    obtain ⟨q, f1, f2, f3, f4⟩ := h.free y (List.mem_cons_of_mem _ h1)
    refine ⟨q, f1, f2, ?_, ?_⟩
    · rw [co_set q (by omega), if_neg (by omega)]
      exact f3
    · rw [cs, if_neg (Ne.symm h2), if_neg (show ¬ one = y from fun z => n1 (z ▸ h1))]
      exact f4
  · rw [cs]
    by_cases c1 : one = v
    · rw [if_pos c1, if_neg fun z => nx (c1.trans z.symm), ← c1, o4]
      exact .inr (.inl rfl)
    · rw [if_neg c1]
      by_cases c2 : co ls k = v
      · rw [if_pos c2, ← c2, e4]
        exact .inl rfl
      · rw [if_neg c2]
        exact h.rest v fun z => by
          rcases List.mem_cons.mp z with z | z
          · exact c1 z.symm
          · exact hv (mem_erase_ne hk z (Ne.symm c2))
  · have := h.many e
    rw [List.length_cons] at this
    rw [List.length_eraseIdx_of_lt hk]
    omega
theorem PrI.skip {N i : Nat} {l ls : List Int} {one : Int} (h : PrI true N i l (one :: ls)) : PrI true N (i + 1) l ls := by
  obtain ⟨n1, n2⟩ := List.nodup_cons.mp h.nd
  refine ⟨h.len, n2, fun y hy => h.free y (List.mem_cons_of_mem _ hy), fun v hv => ?_, (fun e => nomatch e), by have := h.cap; rw [List.length_cons] at this; omega⟩
  by_cases c : v = one
  · obtain ⟨_, _, _, _, e⟩ := h.free one List.mem_cons_self
    exact .inr (.inr ⟨rfl, c ▸ e⟩)
  · exact h.rest v fun z => (List.mem_cons.mp z).elim c hv
theorem PrI.two {N i : Nat} {l ls : List Int} (h : PrI false N i l ls) (e : ls.length < 2 ∨ i = N) (hN : N % 2 = 0) (v : Int) : l.count v = 0 ∨ l.count v = 2 := by
  have m := h.many rfl
  have e0 : ls = [] := List.length_eq_zero_iff.mp (by omega)
  rcases h.rest v (by rw [e0]; exact fun z => nomatch z) with h | h | h
  · exact .inl h
  · exact .inr h
  · exact nomatch h.1
theorem PrI.most {lone : Bool} {N i : Nat} {l ls : List Int} (h : PrI lone N i l ls) (v : Int) : l.count v ≤ 2 := by
  by_cases c : v ∈ ls
  · obtain ⟨_, _, _, _, e⟩ := h.free v c
    omega
  · rcases h.rest v c with h | h | h <;> omega
/-- two marks joined -/
def jn (l : List Int) (x y : Nat) : List Int := l.map fun c => if c = (if co l y > co l x then co l y else co l x) then (if co l y < co l x then co l y else co l x) else c
theorem jn_len (l : List Int) (x y : Nat) : (jn l x y).length = l.length := List.length_map ..
theorem count_merge (lo hi v : Int) : ∀ l : List Int, (l.map fun c => if c = hi then lo else c).count v = if v = lo then l.count lo + (if hi = lo then 0 else l.count hi) else if v = hi then 0 else l.count v
  | [] => by simp
  | a :: l => by
    rw [List.map_cons, List.count_cons, count_merge lo hi v l, List.count_cons, List.count_cons, List.count_cons]
    simp only [beq_iff_eq]
    by_cases c1 : v = lo
    · subst c1
      rw [if_pos rfl, if_pos rfl]
      by_cases c2 : hi = v
      · subst c2
        rw [if_pos rfl, if_pos rfl]
        by_cases c3 : a = hi <;> simp [c3]
      · rw [if_neg c2, if_neg c2]
        by_cases c3 : a = hi
        · subst c3
          rw [if_pos rfl, if_pos rfl, if_neg c2]
          simp
          omega
        · rw [if_neg c3]
          by_cases c4 : a = v
          · simp [c4]
            rw [if_neg (fun z => c3 (c4.trans z))]
            omega
          · simp [c4, c3]
    · rw [if_neg c1, if_neg c1]
      by_cases c2 : v = hi
      · subst c2
        rw [if_pos rfl, if_pos rfl]
        by_cases c3 : a = v
        · rw [if_pos c3, if_neg (Ne.symm c1)]
        · rw [if_neg c3, if_neg c3]
      · rw [if_neg c2, if_neg c2]
        by_cases c3 : a = hi
        · rw [if_pos c3, if_neg (Ne.symm c1), if_neg]
          intro z
          exact c2 (z.symm.trans c3)
        · rw [if_neg c3]
theorem jn_even {l : List Int} {x y : Nat} (h : ∀ v, l.count v % 2 = 0) (v : Int) : (jn l x y).count v % 2 = 0 := by
  unfold jn
  rw [count_merge]
  have h1 := h (if co l y < co l x then co l y else co l x)
  have h2 := h (if co l y > co l x then co l y else co l x)
  have h3 := h v
  revert h1 h2
  generalize (if co l y < co l x then co l y else co l x) = lo
  generalize (if co l y > co l x then co l y else co l x) = hi
  intro h1 h2
  by_cases c1 : v = lo
  · rw [if_pos c1]
    by_cases c2 : hi = lo
    · rw [if_pos c2]
      omega
    · rw [if_neg c2]
      omega
  · rw [if_neg c1]
    by_cases c2 : v = hi
    · rw [if_pos c2]
    · rw [if_neg c2]
      exact h3

section
variable {P : Program} {w : World} {K : PySem.W.Frag} {mg : Str → Option Value} {base : Heap}
/-! ### _law_joined -/
def spJoined (K : PySem.W.Frag) : Sp := fun vs H Q _ => ∃ (a p t : Addr) (l : List Int) (x y : Nat), vs = [.ref a, .ref p] ∧ SqL K H a (l.map V.int) ∧ H p = some (.lst [.ref t]) ∧ H t = some (.tup [.int (x : Int), .int (y : Int)]) ∧ x < l.length ∧ y < l.length ∧ l.length ≤ 1000 ∧
  ∀ (D : Addr) (l' : List Int) (H' : Hp), Same H H' → H D = none → H' D = some (.lst (l'.map V.int)) → l' = jn l x y → Q (.ref D) H'
theorem ok_law_joined {f : Addr} {fd : FuncData} (F : Fun K "_law_joined" "_law_joined" s_law_joined f fd) (z_min : mg "min" = none) (z_max : mg "max" = none) : FnOk P w K mg base CX0 1 f fd ["marks", "links"] (spJoined K) := by
  refine F.ok sc_law_joined (fun vs H Q E h => ?_) (fun cdv A outer s H vs Q E hr h => ?_)
  · obtain ⟨a, p, t, l, x, y, rfl, _⟩ := h
    rfl
  · obtain ⟨a, p, t, l, x, y, rfl, ha, hp, ht, hx, hy, hl, q⟩ := h
    refine ⟨_, (pss_cons (ps_for PassesOwn.never rfl (pi_list (pv 1)) (pg_tup rfl (pgs_cons (pg_name (i := 2) sc_law_joined.nd rfl (.inl rfl)) (pgs_cons (pg_name (i := 3) sc_law_joined.nd rfl (.inl rfl)) pgs_nil))) (pss_cons (ps_set (i := 4) sc_law_joined.nd rfl (.inr rfl) (pe_callB (call_min2 rfl) (by rfl) z_min boot_min (pa_cons (pe_ix ix_list (pv 0) (pv 2) (fun _ _ => rfl)) (pa_cons (pe_ix ix_list (pv 0) (pv 3) (fun _ _ => rfl)) pa_nil))))
  (pss_cons (ps_set (i := 5) sc_law_joined.nd rfl (.inr rfl) (pe_callB (call_max2 rfl) (by rfl) z_max boot_max (pa_cons (pe_ix ix_list (pv 0) (pv 2) (fun _ _ => rfl)) (pa_cons (pe_ix ix_list (pv 0) (pv 3) (fun _ _ => rfl)) pa_nil))))
  (pss_one (ps_setLc (i := 0) (own := [("mark", 6)]) rfl sc_law_joined.nd rfl rfl (sw_true rfl rfl rfl (by decide +kernel)) (pi_list (pv 0)) (blkOk_by (N := ["marks", "links", "one", "other", "low", "high", "mark"]) (sc := defScope s_law_joined) (by first | decide +kernel | rfl)) (fun _ _ _ _ _ => (pg_name (i := 6) sc_law_joined.nd rfl (.inl rfl))) (fun _ _ _ _ _ => pts_nil) (fun _ _ _ _ _ => (pe_ifExp (pt_cmpR op_eq (pv 6) (pv 5) (nomark _)) (pv 4) (pv 6))))))))
  (pss_one (ps_ret (pv 0)))), ?_⟩
    have szl : 20000 ≤ sizeLine := by decide
    refine ⟨_, rfl, p, rfl, ⟨_, .inl (.inl hp)⟩, for_list (K := K) (xs := [.ref t]) (fun i σ H' => (i = 0 ∧ σ = [some (.ref a), some (.ref p), none, none, none, none, none] ∧ H' = H) ∨ (i = 1 ∧ ∃ (D : Addr) (l' : List Int) (v2 v3 v4 v5 v6 : Option V), σ = [some (.ref D), some (.ref p), v2, v3, v4, v5, v6] ∧ Same H H' ∧ H D = none ∧ H' D = some (.lst (l'.map V.int)) ∧ l' = jn l x y))
      (.inl ⟨rfl, rfl, rfl⟩) (fun i σ H' _ hP => ?_) (fun i z σ H' hz hP => ?_) (fun σ H' hP => ?_)⟩
    · rcases hP with ⟨_, _, rfl⟩ | ⟨_, D, l', v2, v3, v4, v5, v6, _, s1, _⟩
      · exact .inl (.inl hp)
      · exact .inl (.inl (s1 _ _ hp))
    · have hi : i < 1 := (List.getElem?_eq_some_iff.mp hz).1
      obtain rfl : i = 0 := by omega
      obtain rfl : V.ref t = z := Option.some.inj hz
      rcases hP with ⟨_, rfl, rfl⟩ | ⟨e, _⟩
      · refine ⟨t, _, rfl, .inl (.inl ht), rfl, _, _, rfl, _, _, rfl, rfl, ?_⟩
        refine ⟨_, rfl, _, rfl, a, _, _, _, rfl, rfl, ha, at_co hx, _, rfl, _, rfl, a, _, _, _, rfl, rfl, ha, at_co hy, _, _, rfl, ?_⟩
        refine ⟨_, rfl, _, rfl, a, _, _, _, rfl, rfl, ha, at_co hx, _, rfl, _, rfl, a, _, _, _, rfl, rfl, ha, at_co hy, _, _, rfl, ?_⟩
        refine ⟨_, rfl, a, rfl, ⟨_, ha⟩, fun D nD => ?_⟩
        have hk : ∀ {H2 : Hp}, SameBut D H' H2 → Same H' H2 := fun sb b o e => sb _ _ (ne_of_none e nD) e
        have ej : jn l x y = l.map fun c => if c = (if co l y > co l x then co l y else co l x) then (if co l y < co l x then co l y else co l x) else c := rfl
        revert ej
        generalize jn l x y = J
        generalize (if co l y < co l x then co l y else co l x) = lo
        generalize (if co l y > co l x then co l y else co l x) = hi
        intro ej
        subst ej
        refine lc_list (K := K) (xs := l.map V.int) (fun i H2 => SameBut D H' H2 ∧ H2 D = some (.lst (((l.take i).map fun c => if c = hi then lo else c).map V.int))) ⟨SameBut.upd, upd_same⟩ (fun i H2 _ hP => sqL_same (hk hP.1) ha) (fun i z H2 hz hP => ?_) (fun H2 hP => ?_)
        · obtain ⟨sb, hD⟩ := hP
          have li : i < l.length := by have := (List.getElem?_eq_some_iff.mp hz).1; rwa [List.length_map] at this
          have ez : (l.map V.int)[i]? = some (.int (co l i)) := by rw [List.getElem?_map, co_get li]; rfl
          obtain rfl : V.int (co l i) = z := Option.some.inj (ez.symm.trans hz)
          refine ⟨rfl, ?_⟩
          have fin : ∀ c : Int, (if co l i = hi then lo else co l i) = c → ∃ acc, H2 D = some (.lst acc) ∧ acc.length < sizeLine ∧ SameBut D H' (upd H2 D (.lst (acc ++ [V.int c]))) ∧ upd H2 D (.lst (acc ++ [V.int c])) D = some (.lst (((l.take (i + 1)).map fun c => if c = hi then lo else c).map V.int)) := fun c ec =>
            ⟨_, hD, by rw [List.length_map, List.length_map, List.length_take]; omega, sb.trans SameBut.upd, by rw [upd_same, take_snoc li, List.map_append, List.map_append, ← ec]; rfl⟩
          refine ⟨_, rfl, _, rfl, rfl, _, rfl, ite2 (fun e => ⟨_, rfl, fin _ (if_pos (V.int.inj (of_decide_eq_true e)))⟩) (fun e => ⟨_, rfl, fin _ (if_neg fun z => e (decide_eq_true (congrArg V.int z)))⟩)⟩
        · obtain ⟨sb, hD⟩ := hP
          rw [List.length_map, List.take_length] at hD
          exact .inr ⟨rfl, D, _, _, _, _, _, _, rfl, hk sb, nD, hD, rfl⟩
      · omega
    · rcases hP with ⟨e, _⟩ | ⟨_, D, l', v2, v3, v4, v5, v6, rfl, s1, nD, hD, el⟩
      · exact nomatch e
      · exact ⟨_, rfl, q D l' H' s1 nD hD el⟩
end

section
variable {P : Program} {w : World} {K : PySem.W.Frag} {mg : Str → Option Value} {base : Heap}
/-! ### _law_threaded -/
def spThreaded : Sp := fun vs H Q _ => ∃ (r : Addr) (ds : List Int) (z : Str) (n m : Nat), vs = [.ref r, .str z, .int n, .int m] ∧ n ≤ 8 ∧ m ≤ 8 ∧ H r = some (.lst (ds.map V.int)) ∧
  ∀ (D : Addr) (l ds' : List Int) (H' : Hp), SameBut r H H' → H' r = some (.lst (ds'.map V.int)) → D ≠ r → H D = none → H' D = some (.lst (l.map V.int)) → l.length = n + m → (∃ ls, ThrI n m n l ls ∧ (z = "threads" → n = m → ThrT n m n l ls)) → Q (.ref D) H'
theorem ok_law_threaded {f a_law_next a_law_pick : Addr} {fd fd_law_next fd_law_pick : FuncData} (F : Fun K "_law_threaded" "_law_threaded" s_law_threaded f fd) (z_int : mg "int" = none) (z_list : mg "list" = none) (z_range : mg "range" = none)
    (G_law_next : FnOk P w K mg base CX0 1 a_law_next fd_law_next ["draws"] spNext) (g_law_next : mg "_law_next" = some (.ref a_law_next)) (k_law_next : PySem.W.keepIn K (.ref a_law_next) = true) (b_law_next : Binds K fd_law_next ["draws"] [])
    (G_law_pick : FnOk P w K mg base CX0 2 a_law_pick fd_law_pick ["draws", "left"] spPick) (g_law_pick : mg "_law_pick" = some (.ref a_law_pick)) (k_law_pick : PySem.W.keepIn K (.ref a_law_pick) = true) (b_law_pick : Binds K fd_law_pick ["draws", "left"] []) : FnOk P w K mg base CX0 3 f fd ["draws", "family", "n", "m"] spThreaded := by
  refine F.ok sc_law_threaded (fun vs H Q E h => ?_) (fun cdv A outer s H vs Q E hr h => ?_)
  · obtain ⟨r, ds, z, n, m, rfl, _⟩ := h
    rfl
  · obtain ⟨r, ds, z, n, m, rfl, hn, hm, hL, q⟩ := h
    refine ⟨_, (pss_cons (ps_set (i := 5) sc_law_threaded.nd rfl (.inl rfl) (pe_op op_cat (pe_listRg rfl rfl z_list (prg_1 rfl z_range (pv 2))) (pe_lc (own := [("at", 4)]) rfl sc_law_threaded.nd (pi_range1 rfl z_range (pa_cons (pv 3) pa_nil)) (blkOk_by (N := ["draws", "family", "n", "m", "at", "marks", "left"]) (sc := defScope s_law_threaded) (by first | decide +kernel | rfl)) (fun _ _ _ _ _ => (pg_name (i := 4) sc_law_threaded.nd rfl (.inl rfl))) (fun _ _ _ _ _ => pts_nil) (fun _ _ _ _ _ => (pe_op op_sub (pe_op op_sub pe_int pe_int) (pv 4))))))
  (pss_cons (ps_set (i := 6) sc_law_threaded.nd rfl (.inl rfl) (pe_listRg rfl rfl z_list (prg_1 rfl z_range (pv 3))))
  (pss_cons (ps_for PassesOwn.never rfl (pi_range1 rfl z_range (pa_cons (pv 2) pa_nil)) (pg_name (i := 4) sc_law_threaded.nd rfl (.inl rfl)) (pss_one (ps_if (L2.PW.pt (pw_and (pt_truth (pv 6) (by intro _; rfl)) (pw_and1 (L2.PW.pt (pw_or (pt_cmpR op_eq (pv 1) pe_str (nomark _)) (pw_or1 (pt_cmpR op_gt (pe_op op_mod (pe_callTy call_int1 (by rfl) z_int boot_int (pa_cons (pe_call G_law_next (hr.mono (by decide)) rfl g_law_next k_law_next b_law_next .nil pass0 (pa_cons (pv 0) pa_nil)) pa_nil)) pe_int) pe_int (nomark _)))))))) (pss_one (ps_asg (pv 4) (pg_sub (pv 5) (pe_op op_add (pv 2) (pe_call G_law_pick (hr.mono (by decide)) rfl g_law_pick k_law_pick b_law_pick .nil pass0 (pa_cons (pv 0) (pa_cons (pv 6) pa_nil)))) set_list))) pss_nil)))
  (pss_one (ps_ret (pv 5)))))), ?_⟩
    have szl : 20000 ≤ sizeLine := by decide
    refine ⟨_, rfl, (n : Int), rfl, RgOk.of_le (by omega) (by omega) (by omega) (by omega), fun a na => ?_⟩
    have s1 := same_upd (o := .lst (rgV 0 (n : Int))) na
    have ha1 : upd H a (.lst (rgV 0 (n : Int))) a = some (.lst ((ixs n).map V.int)) := by rw [upd_same, rgV_ixs (by omega)]; rfl
    revert s1 ha1
    generalize upd H a (.lst (rgV 0 (n : Int))) = H1
    intro s1 ha1
    refine ⟨_, rfl, m, rfl, by omega, by omega, fun D nD => ?_⟩
    have hk1 : ∀ {H2 : Hp}, SameBut D H1 H2 → Same H1 H2 := fun sb b o e => sb _ _ (ne_of_none e nD) e
    refine lc_range (lo := 0) (n := (m : Int).toNat) (fun i H2 => SameBut D H1 H2 ∧ ∃ l' : List Int, H2 D = some (.lst (l'.map V.int)) ∧ l'.length = i ∧ ∀ j : Nat, j < i → co l' j = -1 - (j : Int)) ⟨SameBut.upd, [], upd_same, rfl, fun j hj => absurd hj (Nat.not_lt_zero _)⟩ (fun i H2 hi hP => ?_) (fun H2 hP => ?_)
    · obtain ⟨sb, l', hD, el, ec⟩ := hP
      refine ⟨rfl, ?_⟩
      refine ⟨_, _, rfl, rfl, _, rfl, _, _, rfl, rfl, _, hD, by rw [List.length_map]; omega, sb.trans SameBut.upd, l' ++ [0 - 1 - (0 + (i : Int))], by rw [upd_same, List.map_append]; rfl, by rw [List.length_append, el]; rfl, fun j hj => ?_⟩
      by_cases c : j = i
      · have := co_app_r (a := l') (b := [0 - 1 - (0 + (i : Int))]) (i := 0) Nat.zero_lt_one
        rw [el] at this
        rw [c]
        refine this.trans ?_
        show 0 - 1 - (0 + (i : Int)) = _
        omega
      · rw [co_app_l (by omega)]
        exact ec j (by omega)
    obtain ⟨sb, l', hD, el, ec⟩ := hP
    have el : l'.length = m := by omega
    refine ⟨_, _, _, _, rfl, rfl, sb _ _ (ne_of_none ha1 nD) ha1, hD, by rw [List.length_map, List.length_map, ixs_len']; omega, fun mk nmk => ?_⟩
    have s2 : Same H (upd H2 mk (.lst ((ixs n).map V.int ++ l'.map V.int))) := Same.trans (Same.trans s1 (hk1 sb)) (same_upd nmk)
    have nmk0 : H mk = none := none_back (Same.trans s1 (hk1 sb)) nmk
    have hmk : upd H2 mk (.lst ((ixs n).map V.int ++ l'.map V.int)) mk = some (.lst ((ixs n ++ l').map V.int)) := by rw [upd_same, List.map_append]
    revert s2 hmk
    generalize upd H2 mk (.lst ((ixs n).map V.int ++ l'.map V.int)) = H3
    intro s2 hmk
    refine ⟨_, rfl, (m : Int), rfl, RgOk.of_le (by omega) (by omega) (by omega) (by omega), fun b nb => ?_⟩
    have nb0 : H b = none := none_back s2 nb
    have nbm : mk ≠ b := ne_of_none hmk nb
    have nrb : r ≠ b := ne_of_none (s2 _ _ hL) nb
    have nrm : r ≠ mk := ne_of_none hL nmk0
    rw [rgV_ixs (by omega), show (m : Int).toNat = m by omega]
    have i0 : ThrI n m 0 (ixs n ++ l') (ixs m) := by
      refine ⟨by rw [List.length_append, ixs_len', el], fun p hp => by rw [co_app_l (by rw [ixs_len']; exact hp), co_ixs hp], fun j hj => ?_, fun j j' h1 h2 => ?_, ixs_nodup m, fun x hx => ?_, fun j hj hn => absurd (mem_ixs.mpr ⟨by omega, by omega⟩) hn, Nat.le_of_eq (ixs_len' m)⟩
      · have := co_app_r (a := ixs n) (b := l') (i := j) (by omega)
        rw [ixs_len'] at this
        exact .inl (this.trans (ec j (by omega)))
      · have e1 := co_app_r (a := ixs n) (b := l') (i := j) (by omega)
        have e2 := co_app_r (a := ixs n) (b := l') (i := j') (by omega)
        rw [ixs_len'] at e1 e2
        rw [e1, e2, ec j (by omega), ec j' (by omega)]
        omega
      · have h := mem_ixs.mp hx
        refine ⟨x.toNat, by omega, by omega, ?_⟩
        have e1 := co_app_r (a := ixs n) (b := l') (i := x.toNat) (by omega)
        rw [ixs_len'] at e1
        exact e1.trans (ec _ (by omega))
    have t0 : z = "threads" → n = m → ThrT n m 0 (ixs n ++ l') (ixs m) := fun _ _ => ⟨ixs_len' m, fun a ha => absurd ha (Nat.not_lt_zero _)⟩
    refine ⟨_, rfl, (n : Int), rfl, by omega, by omega, for_range (lo := 0) (n := (n : Int).toNat) (fun i σ H' => ∃ v6 l ls ds', σ = [some (.ref r), some (.str z), some (.int n), some (.int m), v6, some (.ref mk), some (.ref b)] ∧ SameBut r H H' ∧ H' r = some (.lst (ds'.map V.int)) ∧ H' mk = some (.lst (l.map V.int)) ∧ H' b = some (.lst (ls.map V.int)) ∧ ThrI n m i l ls ∧ (z = "threads" → n = m → ThrT n m i l ls))
      ⟨none, _, _, ds, rfl, (Same.but s2).trans (SameBut.new nb), by rw [upd_ne nrb]; exact s2 _ _ hL, by rw [upd_ne nbm]; exact hmk, upd_same, i0, t0⟩ (fun i σ H' hi hP => ?_) (fun σ H' hP => ?_)⟩
    · obtain ⟨v6, l, ls, ds', rfl, sb1, hr1, hm1, hb1, iv, tv⟩ := hP
      have hi : i < n := by omega
      have ll := iv.len
      have lsm := iv.cap
      have skip : ls = [] ∨ z ≠ "threads" → z = "threads" → n = m → ThrT n m (i + 1) l ls := by
        rintro (e | e) e2 e3
        · have := (tv e2 e3).many
          rw [e] at this
          have : 0 = m - i := this
          omega
        · exact absurd e2 e
      have stay : ls = [] ∨ z ≠ "threads" → ∀ (H4 : Hp) (ds4 : List Int), SameBut r H H4 → H4 r = some (.lst (ds4.map V.int)) → H4 mk = some (.lst (l.map V.int)) → H4 b = some (.lst (ls.map V.int)) → ∃ (v6' : Option V) (l0 ls0 ds0 : List Int), ([some (.ref r), some (.str z), some (.int n), some (.int m), some (.int (0 + (i : Int))), some (.ref mk), some (.ref b)] : List (Option V)) = [some (.ref r), some (.str z), some (.int n), some (.int m), v6', some (.ref mk), some (.ref b)] ∧ SameBut r H H4 ∧ H4 r = some (.lst (ds0.map V.int)) ∧ H4 mk = some (.lst (l0.map V.int)) ∧ H4 b = some (.lst (ls0.map V.int)) ∧ ThrI n m (i + 1) l0 ls0 ∧ (z = "threads" → n = m → ThrT n m (i + 1) l0 ls0) :=
        fun e H4 ds4 a1 a2 a3 a4 => ⟨_, l, ls, ds4, rfl, a1, a2, a3, a4, iv.skip, skip e⟩
      refine ⟨_, rfl, _, .inl ⟨_, .inl (.inl hb1), rfl⟩, ?_⟩
      by_cases ce : ls = []
      · rw [ce]
        refine iteF ?_
        exact stay (.inl ce) H' ds' sb1 hr1 hm1 hb1
      rw [show (List.map V.int ls).isEmpty = false by cases ls with | nil => exact absurd rfl ce | cons => rfl]
      refine iteT ?_
      refine ⟨_, rfl, rfl, _, rfl, ite2 (fun e1 => ?_) (fun e1 => ⟨_, rfl, r, ds', rfl, hr1, fun n0 ds0 => .inl ⟨n0, rfl, n0, 4, rfl, rfl, (show (0 : Int) < 4 by decide), _, _, rfl, rfl, _, rfl, ite2 (fun e2 => ?_) (fun e2 => ?_)⟩⟩)⟩
      rotate_right
      · exact stay (.inr fun e => e1 (decide_eq_true (congrArg V.str e))) _ ds0 (sb1.trans SameBut.upd) upd_same (by rw [upd_ne (Ne.symm nrm)]; exact hm1) (by rw [upd_ne (Ne.symm nrb)]; exact hb1)
      · have sb4 := sb1
        have hr4 := hr1
        have hm4 := hm1
        have hb4 := hb1
        refine ⟨_, rfl, _, rfl, _, rfl, _, rfl, _, rfl, r, b, ds', ls, rfl, nrb, hr4, hb4, ce, by omega, fun ds5 k hk => ?_⟩
        obtain ⟨j, ej, hj, fj⟩ := thr_at iv hk
        rw [ej]
        have hm5 : upd (upd H' r (.lst (ds5.map V.int))) b (.lst ((ls.eraseIdx k).map V.int)) mk = some (.lst (l.map V.int)) := by rw [upd_ne nbm, upd_ne (Ne.symm nrm)]; exact hm4
        refine ⟨_, _, rfl, rfl, mk, _, _, n + j, rfl, rfl, hm5, ixN_nat (by rw [List.length_map]; omega), ?_⟩
        refine ⟨_, l.set (n + j) (i : Int), ls.eraseIdx k, ds5, rfl, fun o u no ho => ?_, ?_, ?_, ?_, iv.step hk hj ej, fun e1 e2 => (tv e1 e2).step iv hk hj ej⟩
        · rw [upd_ne (ne_of_none ho nmk0), upd_ne (ne_of_none ho nb0), upd_ne no]
          exact sb4 o u no ho
        · rw [upd_ne nrm, upd_ne nrb, upd_same]
        · rw [upd_same, Int.zero_add, List.map_set]
        · rw [upd_ne (Ne.symm nbm), upd_same]
      · have sb4 : SameBut r H (upd H' r (.lst (ds0.map V.int))) := sb1.trans SameBut.upd
        have hr4 : upd H' r (.lst (ds0.map V.int)) r = some (.lst (ds0.map V.int)) := upd_same
        have hm4 : upd H' r (.lst (ds0.map V.int)) mk = some (.lst (l.map V.int)) := by rw [upd_ne (Ne.symm nrm)]; exact hm1
        have hb4 : upd H' r (.lst (ds0.map V.int)) b = some (.lst (ls.map V.int)) := by rw [upd_ne (Ne.symm nrb)]; exact hb1
        revert sb4 hr4 hm4 hb4
        generalize upd H' r (.lst (ds0.map V.int)) = H4
        intro sb4 hr4 hm4 hb4
        refine ⟨_, rfl, _, rfl, _, rfl, _, rfl, _, rfl, r, b, ds0, ls, rfl, nrb, hr4, hb4, ce, by omega, fun ds5 k hk => ?_⟩
        obtain ⟨j, ej, hj, fj⟩ := thr_at iv hk
        rw [ej]
        have hm5 : upd (upd H4 r (.lst (ds5.map V.int))) b (.lst ((ls.eraseIdx k).map V.int)) mk = some (.lst (l.map V.int)) := by rw [upd_ne nbm, upd_ne (Ne.symm nrm)]; exact hm4
        refine ⟨_, _, rfl, rfl, mk, _, _, n + j, rfl, rfl, hm5, ixN_nat (by rw [List.length_map]; omega), ?_⟩
        refine ⟨_, l.set (n + j) (i : Int), ls.eraseIdx k, ds5, rfl, fun o u no ho => ?_, ?_, ?_, ?_, iv.step hk hj ej, fun e1 e2 => (tv e1 e2).step iv hk hj ej⟩
        · rw [upd_ne (ne_of_none ho nmk0), upd_ne (ne_of_none ho nb0), upd_ne no]
          exact sb4 o u no ho
        · rw [upd_ne nrm, upd_ne nrb, upd_same]
        · rw [upd_same, Int.zero_add, List.map_set]
        · rw [upd_ne (Ne.symm nbm), upd_same]
    · obtain ⟨v6, l, ls, ds', rfl, sb1, hr1, hm1, hb1, iv, tv⟩ := hP
      rw [show (n : Int).toNat = n by omega] at iv tv
      exact ⟨_, rfl, q mk l ds' H' sb1 hr1 (Ne.symm nrm) nmk0 hm1 iv.len ⟨ls, iv, tv⟩⟩
end

section
variable {P : Program} {w : World} {K : PySem.W.Frag} {mg : Str → Option Value} {base : Heap}
/-! ### _law_drawn -/
theorem fam_threaded {z : Str} {n m : Nat} {l ls : List Int} (hz : z = "threads" ∨ z = "loose") (h : ThrI n m n l ls) (t : z = "threads" → n = m → ThrT n m n l ls) : FamM z n m l := by
  refine ⟨fun _ => h.strand, fun e e2 => ?_, fun e => ?_, fun e => ?_, fun e => ?_⟩
  · have t' := t e e2
    subst e2
    exact h.mated t'
  all_goals
    subst e
    exact absurd hz (by decide +kernel)
theorem fam_parts {n m : Nat} {l : List Int} : FamM "parts" n m l :=
  ⟨fun e => absurd e (by decide +kernel), fun e => absurd e (by decide +kernel), fun e => absurd e (by decide +kernel), fun e => absurd e (by decide +kernel), fun e => absurd e (by decide +kernel)⟩
def Two (z : Str) (N : Nat) (l : List Int) : Prop := (z ≠ "lonepairs" → N % 2 = 0 → ∀ v, l.count v = 0 ∨ l.count v = 2) ∧ ∀ v, l.count v ≤ 2
theorem fam_two {z : Str} {n m : Nat} {l : List Int} (hz : ¬(z = "threads" ∨ z = "loose")) (h : Two z (n + m) l) : FamM z n m l := by
  refine ⟨fun e => absurd e hz, fun e => absurd (.inl e) hz, fun e e2 v hv => ?_, fun e => h.2, fun e e2 v => ?_⟩
  · rcases h.1 (by subst e; decide +kernel) e2 v with c | c
    · exact absurd (List.count_pos_iff.mpr hv) (by omega)
    · exact c
  · rcases h.1 (by subst e; decide +kernel) e2 v with c | c <;> omega
theorem two_of {z : Str} {N i : Nat} {l ls : List Int} (h : PrI (decide (z = "lonepairs")) N i l ls) (e : ls.length < 2 ∨ i = N) : Two z N l := by
  refine ⟨fun nz hN v => ?_, h.most⟩
  rw [decide_eq_false nz] at h
  exact h.two e hN v
theorem fam_even {n m : Nat} {l : List Int} (h : (n + m) % 2 = 0 → ∀ v, l.count v % 2 = 0) : FamM "even" n m l :=
  ⟨fun e => absurd e (by decide +kernel), fun e => absurd e (by decide +kernel), fun e => absurd e (by decide +kernel), fun e => absurd e (by decide +kernel), fun _ e => h e⟩
def spDrawn : Sp := fun vs H Q _ => ∃ (r : Addr) (ds : List Int) (z : Str) (n m : Nat), vs = [.ref r, .str z, .int n, .int m] ∧ n ≤ 8 ∧ m ≤ 8 ∧ H r = some (.lst (ds.map V.int)) ∧
  ∀ (v : V) (l ds' : List Int) (H' : Hp), SameBut r H H' → H' r = some (.lst (ds'.map V.int)) → l.length = n + m → FamM z n m l → DGv H' v n m (blocksOf l) → Q v H'
theorem ok_law_drawn {f a_law_next a_law_pick a_law_from a_law_threaded a_law_joined : Addr} {fd fd_law_next fd_law_pick fd_law_from fd_law_threaded fd_law_joined : FuncData} (F : Fun K "_law_drawn" "_law_drawn" s_law_drawn f fd) (z_int : mg "int" = none) (z_list : mg "list" = none) (z_range : mg "range" = none) (z_len : mg "len" = none) (z_max : mg "max" = none)
    (G_law_next : FnOk P w K mg base CX0 1 a_law_next fd_law_next ["draws"] spNext) (g_law_next : mg "_law_next" = some (.ref a_law_next)) (k_law_next : PySem.W.keepIn K (.ref a_law_next) = true) (b_law_next : Binds K fd_law_next ["draws"] [])
    (G_law_pick : FnOk P w K mg base CX0 2 a_law_pick fd_law_pick ["draws", "left"] spPick) (g_law_pick : mg "_law_pick" = some (.ref a_law_pick)) (k_law_pick : PySem.W.keepIn K (.ref a_law_pick) = true) (b_law_pick : Binds K fd_law_pick ["draws", "left"] [])
    (G_law_from : FnOk P w K mg base CX0 2 a_law_from fd_law_from ["n", "m", "marks"] (spFrom K)) (g_law_from : mg "_law_from" = some (.ref a_law_from)) (k_law_from : PySem.W.keepIn K (.ref a_law_from) = true) (b_law_from : Binds K fd_law_from ["n", "m", "marks"] [])
    (G_law_threaded : FnOk P w K mg base CX0 3 a_law_threaded fd_law_threaded ["draws", "family", "n", "m"] spThreaded) (g_law_threaded : mg "_law_threaded" = some (.ref a_law_threaded)) (k_law_threaded : PySem.W.keepIn K (.ref a_law_threaded) = true) (b_law_threaded : Binds K fd_law_threaded ["draws", "family", "n", "m"] [])
    (G_law_joined : FnOk P w K mg base CX0 1 a_law_joined fd_law_joined ["marks", "links"] (spJoined K)) (g_law_joined : mg "_law_joined" = some (.ref a_law_joined)) (k_law_joined : PySem.W.keepIn K (.ref a_law_joined) = true) (b_law_joined : Binds K fd_law_joined ["marks", "links"] []) :
    FnOk P w K mg base CX0 4 f fd ["draws", "family", "n", "m"] spDrawn := by
  refine F.ok sc_law_drawn (fun vs H Q E h => ?_) (fun cdv A outer s H vs Q E hr h => ?_)
  · obtain ⟨r, ds, z, n, m, rfl, _⟩ := h
    rfl
  · obtain ⟨r, ds, z, n, m, rfl, hn, hm, hL, q⟩ := h
    refine ⟨_, (pss_cons (ps_if (pt_cmpR op_in_seq (pv 1) (pe_lst (pa_cons pe_str (pa_cons pe_str pa_nil))) (by with_unfolding_all rfl)) (pss_one (ps_ret (pe_call G_law_from (hr.mono (by decide)) rfl g_law_from k_law_from b_law_from .nil pass0 (pa_cons (pv 2) (pa_cons (pv 3) (pa_cons (pe_call G_law_threaded (hr.mono (by decide)) rfl g_law_threaded k_law_threaded b_law_threaded .nil pass0 (pa_cons (pv 0) (pa_cons (pv 1) (pa_cons (pv 2) (pa_cons (pv 3) pa_nil))))) pa_nil)))))) pss_nil)
  (pss_cons (ps_set (i := 4) sc_law_drawn.nd rfl (.inl rfl) (pe_lst pa_nil))
  (pss_cons (ps_if (pt_cmpR op_eq (pv 1) pe_str (nomark _)) (pss_cons (ps_for PassesOwn.never rfl (pi_range1 rfl z_range (pa_cons (pe_op op_add (pv 2) (pv 3)) pa_nil)) (pg_name (i := 5) sc_law_drawn.nd rfl (.inl rfl)) (pss_one (ps_expr (pe_bm PySem.F.plainAttrs_list PySem.F.slot_list_append PySem.F.type_list_append mt_append (pv 4) (pa_cons (pe_op op_mod (pe_callTy call_int1 (by rfl) z_int boot_int (pa_cons (pe_call G_law_next (hr.mono (by decide)) rfl g_law_next k_law_next b_law_next .nil pass0 (pa_cons (pv 0) pa_nil)) pa_nil)) (pe_op op_add (pe_callB (cr_max rfl) (by rfl) z_max boot_max (pa_cons (pe_op op_cat (pv 4) (pe_lst (pa_cons (pe_un un_neg pe_int) pa_nil))) pa_nil)) pe_int)) pa_nil)))))
  (pss_one (ps_ret (pe_call G_law_from (hr.mono (by decide)) rfl g_law_from k_law_from b_law_from .nil pass0 (pa_cons (pv 2) (pa_cons (pv 3) (pa_cons (pv 4) pa_nil))))))) pss_nil)
  (pss_cons (ps_set (i := 4) sc_law_drawn.nd rfl (.inl rfl) (pe_listRg rfl rfl z_list (prg_1 rfl z_range (pe_op op_add (pv 2) (pv 3)))))
  (pss_cons (ps_set (i := 6) sc_law_drawn.nd rfl (.inl rfl) (pe_listRg rfl rfl z_list (prg_1 rfl z_range (pe_op op_add (pv 2) (pv 3)))))
  (Evl.pss_cut (ps_for PassesOwn.never rfl (pi_range1 rfl z_range (pa_cons (pe_op op_add (pv 2) (pv 3)) pa_nil)) (pg_name (i := 7) sc_law_drawn.nd rfl (.inl rfl)) (pss_cons (ps_if (pt_cmpR op_lt (pe_callB call_len_seq (by rfl) z_len boot_len (pa_cons (pv 6) pa_nil)) pe_int (nomark _)) (pss_one ps_break) pss_nil)
  (pss_cons (ps_set (i := 8) sc_law_drawn.nd rfl (.inl rfl) (pe_bm PySem.F.plainAttrs_list PySem.F.slot_list_pop PySem.F.type_list_pop mt_popAt (pv 6) (pa_cons pe_int pa_nil)))
  (pss_one (ps_if (L2.PW.pt (pw_or (pt_cmpR op_ne (pv 1) pe_str (nomark _)) (pw_or1 (pt_cmpR op_gt (pe_op op_mod (pe_callTy call_int1 (by rfl) z_int boot_int (pa_cons (pe_call G_law_next (hr.mono (by decide)) rfl g_law_next k_law_next b_law_next .nil pass0 (pa_cons (pv 0) pa_nil)) pa_nil)) pe_int) pe_int (nomark _))))) (pss_one (ps_asg (pv 8) (pg_sub (pv 4) (pe_call G_law_pick (hr.mono (by decide)) rfl g_law_pick k_law_pick b_law_pick .nil pass0 (pa_cons (pv 0) (pa_cons (pv 6) pa_nil))) set_list))) pss_nil)))))
  (Evl.pss_cut (ps_if (L2.PW.pt (pw_and (pt_cmpR op_eq (pv 1) pe_str (nomark _)) (pw_and1 (pt_truth (pv 4) (by intro _; rfl))))) (pss_one (ps_for PassesOwn.never rfl (pi_range1 rfl z_range (pa_cons (pe_op op_mod (pe_callTy call_int1 (by rfl) z_int boot_int (pa_cons (pe_call G_law_next (hr.mono (by decide)) rfl g_law_next k_law_next b_law_next .nil pass0 (pa_cons (pv 0) pa_nil)) pa_nil)) pe_int) pa_nil)) (pg_name (i := 7) sc_law_drawn.nd rfl (.inl rfl)) (pss_cons (ps_set (i := 8) sc_law_drawn.nd rfl (.inl rfl) (pe_op op_mod (pe_callTy call_int1 (by rfl) z_int boot_int (pa_cons (pe_call G_law_next (hr.mono (by decide)) rfl g_law_next k_law_next b_law_next .nil pass0 (pa_cons (pv 0) pa_nil)) pa_nil)) (pe_callB call_len_seq (by rfl) z_len boot_len (pa_cons (pv 4) pa_nil))))
  (pss_one (ps_set (i := 4) sc_law_drawn.nd rfl (.inl rfl) (pe_call G_law_joined (hr.mono (by decide)) rfl g_law_joined k_law_joined b_law_joined .nil pass0 (pa_cons (pv 4) (pa_cons (pe_lst (pa_cons (pe_tup (pa_cons (pv 8) (pa_cons (pe_op op_mod (pe_callTy call_int1 (by rfl) z_int boot_int (pa_cons (pe_call G_law_next (hr.mono (by decide)) rfl g_law_next k_law_next b_law_next .nil pass0 (pa_cons (pv 0) pa_nil)) pa_nil)) (pe_callB call_len_seq (by rfl) z_len boot_len (pa_cons (pv 4) pa_nil))) pa_nil))) pa_nil)) pa_nil)))))))) pss_nil)
  (pss_one (ps_ret (pe_call G_law_from (hr.mono (by decide)) rfl g_law_from k_law_from b_law_from .nil pass0 (pa_cons (pv 2) (pa_cons (pv 3) (pa_cons (pv 4) pa_nil))))))))))))), ?_⟩
    have szl : 20000 ≤ sizeLine := by decide
    refine ⟨_, rfl, (by show 2 ≤ sizeLine; decide), fun p np => ⟨p, _, rfl, .inl (.inl (.inl upd_same)), rfl, rfl, _, rfl, ?_⟩⟩
    have nrp : r ≠ p := ne_of_none hL np
    have sb1 : SameBut r H (upd H p (.lst [.str "threads", .str "loose"])) := SameBut.new np
    have hr1 : upd H p (.lst [.str "threads", .str "loose"]) r = some (.lst (ds.map V.int)) := by rw [upd_ne nrp]; exact hL
    have s01 : Same H (upd H p (.lst [.str "threads", .str "loose"])) := same_upd np
    revert sb1 hr1 s01
    generalize upd H p (.lst [.str "threads", .str "loose"]) = H1
    intro sb1 hr1 s01
    refine ite2 (fun e => ?_) (fun e => ?_)
    · refine ⟨_, rfl, _, rfl, _, rfl, _, rfl, _, rfl, _, rfl, r, ds, z, n, m, rfl, hn, hm, hr1, fun D l ds' H2 sb2 hr2 nDr nD hD hl hx => ?_⟩
      refine ⟨n, m, D, l, rfl, .inl (.inl hD), by omega, by omega, fun v H3 s3 nv hv => ?_⟩
      obtain ⟨ls, iv, tv⟩ := hx
      refine q v l ds' H3 ((sb1.trans sb2).trans (Same.but s3)) (s3 _ _ hr2) hl (fam_threaded ?_ iv tv) hv
      by_cases c1 : z = "threads"
      · exact .inl c1
      · by_cases c2 : z = "loose"
        · exact .inr c2
        · have e' : "threads" = z ∨ "loose" = z := by simpa [inV, eqV] using e
          exact e'.elim (fun h => absurd h.symm c1) fun h => absurd h.symm c2
    have hz : ¬(z = "threads" ∨ z = "loose") := by
      rintro (rfl | rfl) <;> exact absurd e (by decide +kernel)
    refine ⟨(by show 0 ≤ sizeLine; decide), fun e0 ne0 => ?_⟩
    have sb2 : SameBut r H (upd H1 e0 (.lst [])) := sb1.trans (SameBut.new ne0)
    have nre : r ≠ e0 := ne_of_none hr1 ne0
    have hr2 : upd H1 e0 (.lst []) r = some (.lst (ds.map V.int)) := by rw [upd_ne nre]; exact hr1
    refine ⟨_, rfl, rfl, _, rfl, ite2 (fun e1 => ?_) (fun e1 => ?_)⟩
    · obtain rfl : z = "parts" := V.str.inj (of_decide_eq_true e1)
      refine ⟨_, rfl, _, rfl, (n : Int), (m : Int), rfl, rfl, (n : Int) + (m : Int), rfl, by omega, by omega, for_range (lo := 0) (n := ((n : Int) + (m : Int)).toNat) (fun i σ H' => ∃ (v5 : Option V) (l ds' : List Int), σ = [some (.ref r), some (.str "parts"), some (.int n), some (.int m), some (.ref e0), v5, none, none, none] ∧ SameBut r H H' ∧ H' r = some (.lst (ds'.map V.int)) ∧ H' e0 = some (.lst (l.map V.int)) ∧ l.length = i)
        ⟨none, [], ds, rfl, sb2, hr2, upd_same, rfl⟩ (fun i σ H' hi hP => ?_) (fun σ H' hP => ?_)⟩
      · obtain ⟨v5, l, ds', rfl, sb3, hr3, he3, el⟩ := hP
        refine ⟨_, rfl, .inl ⟨rfl, _, .inl (.inl he3)⟩, _, rfl, r, ds', rfl, hr3, fun n0 ds0 => .inl ⟨n0, rfl, ?_⟩⟩
        have sb4 : SameBut r H (upd H' r (.lst (ds0.map V.int))) := sb3.trans SameBut.upd
        have hr4 : upd H' r (.lst (ds0.map V.int)) r = some (.lst (ds0.map V.int)) := upd_same
        have he4 : upd H' r (.lst (ds0.map V.int)) e0 = some (.lst (l.map V.int)) := by rw [upd_ne (Ne.symm nre)]; exact he3
        revert sb4 hr4 he4
        generalize upd H' r (.lst (ds0.map V.int)) = H4
        intro sb4 hr4 he4
        refine ⟨_, rfl, 1, rfl, (by show 1 ≤ sizeLine; decide), fun c nc => ⟨_, _, _, _, rfl, rfl, by rw [upd_ne (ne_of_none he4 nc)]; exact he4, upd_same, by rw [List.length_map]; show l.length + 1 ≤ sizeLine; omega, fun d nd => ?_⟩⟩
        have ec : upd (upd H4 c (.lst [.int (-1)])) d (.lst (l.map V.int ++ [.int (-1)])) d = some (.lst ((l ++ [-1]).map V.int)) := by rw [upd_same, List.map_append]; rfl
        refine ⟨d, l ++ [-1], rfl, .inl (.inl ec), by rw [List.length_append]; exact Nat.succ_pos _, fun mx hmx hge => ?_⟩
        have h1 := hge (-1) (List.mem_append_right _ List.mem_cons_self)
        have s5 : Same H4 (upd (upd H4 c (.lst [.int (-1)])) d (.lst (l.map V.int ++ [.int (-1)]))) := Same.trans (same_upd nc) (same_upd nd)
        refine ⟨_, _, rfl, rfl, _, _, rfl, rfl, by omega, e0, _, _, rfl, rfl, s5 _ _ he4, by rw [List.length_map]; omega, ?_⟩
        refine ⟨_, l ++ [n0 % (mx + 2)], ds0, rfl, fun o u no ho => ?_, ?_, by rw [upd_same, List.map_append]; rfl, by rw [List.length_append, el]; rfl⟩
        · rw [upd_ne (ne_of_none ho (none_back s01 ne0))]
          exact s5 _ _ (sb4 o u no ho)
        · rw [upd_ne nre]
          exact s5 _ _ hr4
      · obtain ⟨v5, l, ds', rfl, sb3, hr3, he3, el⟩ := hP
        refine ⟨_, rfl, _, rfl, _, rfl, n, m, e0, l, rfl, .inl (.inl he3), by omega, by omega, fun v H4 s4 nv hv => ?_⟩
        exact q v l ds' H4 (sb3.trans (Same.but s4)) (s4 _ _ hr3) (by omega) fam_parts hv
    have s02 : Same H (upd H1 e0 (.lst [])) := Same.trans s01 (same_upd ne0)
    revert hr2 s02
    generalize upd H1 e0 (.lst []) = H2
    intro hr2 s02
    clear sb2 sb1 hr1 s01 ne0 nrp np
    have toN : ((n : Int) + (m : Int)).toNat = n + m := by omega
    refine ⟨_, rfl, _, rfl, (n : Int), (m : Int), rfl, rfl, (n : Int) + (m : Int), rfl, RgOk.of_le (by omega) (by omega) (by omega) (by omega), fun mk nmk => ?_⟩
    rw [rgV_ixs (by omega), toN]
    have s03 := Same.trans s02 (same_upd (o := .lst ((ixs (n + m)).map V.int)) nmk)
    have hm3 : upd H2 mk (.lst ((ixs (n + m)).map V.int)) mk = some (.lst ((ixs (n + m)).map V.int)) := upd_same
    have nm0 : H mk = none := none_back s02 nmk
    revert s03 hm3
    generalize upd H2 mk (.lst ((ixs (n + m)).map V.int)) = H3
    intro s03 hm3
    refine ⟨_, rfl, _, rfl, (n : Int), (m : Int), rfl, rfl, (n : Int) + (m : Int), rfl, RgOk.of_le (by omega) (by omega) (by omega) (by omega), fun b nb => ?_⟩
    rw [rgV_ixs (by omega), toN]
    have s04 := Same.trans s03 (same_upd (o := .lst ((ixs (n + m)).map V.int)) nb)
    have hb4 : upd H3 b (.lst ((ixs (n + m)).map V.int)) b = some (.lst ((ixs (n + m)).map V.int)) := upd_same
    have nb0 : H b = none := none_back s03 nb
    have nbm : mk ≠ b := ne_of_none hm3 nb
    have hm4 : upd H3 b (.lst ((ixs (n + m)).map V.int)) mk = some (.lst ((ixs (n + m)).map V.int)) := by rw [upd_ne nbm]; exact hm3
    have hr4 := s04 _ _ hL
    revert s04 hb4 hm4 hr4
    generalize upd H3 b (.lst ((ixs (n + m)).map V.int)) = H4
    intro s04 hb4 hm4 hr4
    clear s03 hm3 nb nmk hr2 s02
    have nrb : r ≠ b := ne_of_none hL nb0
    have nrm : r ≠ mk := ne_of_none hL nm0
    let lone : Bool := decide (z = "lonepairs")
    refine ⟨fun σ H' => ∃ (v5 v7 v8 : Option V) (l ds' ls : List Int), σ = [some (.ref r), some (.str z), some (.int n), some (.int m), some (.ref mk), v5, some (.ref b), v7, v8] ∧ SameBut r H H' ∧ H' r = some (.lst (ds'.map V.int)) ∧ H' mk = some (.lst (l.map V.int)) ∧ H' b = some (.lst (ls.map V.int)) ∧ l.length = n + m ∧ Two z (n + m) l, ?_, ?_⟩
    · refine ⟨_, rfl, _, rfl, (n : Int), (m : Int), rfl, rfl, (n : Int) + (m : Int), rfl, by omega, by omega, for_range (lo := 0) (n := ((n : Int) + (m : Int)).toNat) (fun i σ H' => ∃ (v5 v7 v8 : Option V) (l ds' ls : List Int), σ = [some (.ref r), some (.str z), some (.int n), some (.int m), some (.ref mk), v5, some (.ref b), v7, v8] ∧ SameBut r H H' ∧ H' r = some (.lst (ds'.map V.int)) ∧ H' mk = some (.lst (l.map V.int)) ∧ H' b = some (.lst (ls.map V.int)) ∧ PrI lone (n + m) i l ls)
        ⟨none, none, none, ixs (n + m), ds, ixs (n + m), rfl, Same.but s04, hr4, hm4, hb4, PrI.start lone (n + m)⟩ (fun i σ H' hi hP => ?_) (fun σ H' hP => ?_)⟩
      · obtain ⟨v5, v7, v8, l, ds', ls, rfl, sb5, hr5, hm5, hb5, iv⟩ := hP
        have lsm := iv.cap
        refine ⟨_, rfl, b, _, rfl, .inl (.inl (.inl hb5)), _, _, rfl, rfl, _, rfl, ite2 (fun e2 => ?_) (fun e2 => ?_)⟩
        · rw [List.length_map] at e2
          have e2 : ls.length < 2 := by have := of_decide_eq_true e2; omega
          exact ⟨_, _, _, l, ds', ls, rfl, sb5, hr5, hm5, hb5, iv.len, two_of iv (.inl e2)⟩
        rw [List.length_map] at e2
        have e2 : ¬ ls.length < 2 := fun z => e2 (decide_eq_true (by omega))
        obtain ⟨one, ls, rfl⟩ : ∃ one ls', ls = one :: ls' := by
          cases ls with
          | nil => exact absurd (Nat.zero_lt_two) e2
          | cons a b => exact ⟨a, b, rfl⟩
        rw [List.length_cons] at e2 lsm
        have ll := iv.len
        have nls : ls ≠ [] := fun e => by rw [e] at e2; exact e2 (by decide)
        refine ⟨_, rfl, .inl ⟨rfl, _, .inl (.inl hb5)⟩, b, _, _, 0, .int one, rfl, rfl, hb5, by omega, by omega, seqIx_nat (k := 0) (by rw [List.length_map]; exact Nat.succ_pos _), rfl, ?_⟩
        rw [show (List.map V.int (one :: ls)).eraseIdx 0 = ls.map V.int from rfl]
        have sb6 : SameBut r H (upd H' b (.lst (ls.map V.int))) := fun o u no ho => by rw [upd_ne (ne_of_none ho nb0)]; exact sb5 o u no ho
        have hr6 : upd H' b (.lst (ls.map V.int)) r = some (.lst (ds'.map V.int)) := by rw [upd_ne nrb]; exact hr5
        have hm6 : upd H' b (.lst (ls.map V.int)) mk = some (.lst (l.map V.int)) := by rw [upd_ne nbm]; exact hm5
        have hb6 : upd H' b (.lst (ls.map V.int)) b = some (.lst (ls.map V.int)) := upd_same
        revert sb6 hr6 hm6 hb6
        generalize upd H' b (.lst (ls.map V.int)) = H6
        intro sb6 hr6 hm6 hb6
        refine ⟨_, rfl, rfl, _, rfl, ?_⟩
        by_cases cz : z = "lonepairs"
        · rw [decide_eq_true (congrArg V.str cz)]
          refine iteF ?_
          have iv' : PrI true (n + m) i l (one :: ls) := by
            have e : lone = true := decide_eq_true cz
            rw [e] at iv
            exact iv
          refine ⟨_, rfl, r, ds', rfl, hr6, fun n0 ds0 => .inl ⟨n0, rfl, n0, 4, rfl, rfl, (show (0 : Int) < 4 by decide), _, _, rfl, rfl, _, rfl, ?_⟩⟩
          have sb7 : SameBut r H (upd H6 r (.lst (ds0.map V.int))) := sb6.trans SameBut.upd
          have hr7 : upd H6 r (.lst (ds0.map V.int)) r = some (.lst (ds0.map V.int)) := upd_same
          have hm7 : upd H6 r (.lst (ds0.map V.int)) mk = some (.lst (l.map V.int)) := by rw [upd_ne (Ne.symm nrm)]; exact hm6
          have hb7 : upd H6 r (.lst (ds0.map V.int)) b = some (.lst (ls.map V.int)) := by rw [upd_ne (Ne.symm nrb)]; exact hb6
          revert sb7 hr7 hm7 hb7
          generalize upd H6 r (.lst (ds0.map V.int)) = H7
          intro sb7 hr7 hm7 hb7
          refine ite2 (fun e3 => ?_) (fun e3 => ?_)
          rotate_left
          · refine ⟨_, _, _, l, ds0, ls, rfl, sb7, hr7, hm7, hb7, ?_⟩
            have e : lone = true := decide_eq_true cz
            rw [e]
            exact iv'.skip
          refine ⟨_, rfl, _, rfl, _, rfl, _, rfl, r, b, ds0, ls, rfl, nrb, hr7, hb7, nls, by omega, fun ds5 k hk => ?_⟩
          obtain ⟨pos, ep, hpos, _, _⟩ := iv.free (co ls k) (List.mem_cons_of_mem _ (co_mem hk))
          rw [ep]
          have hm8 : upd (upd H7 r (.lst (ds5.map V.int))) b (.lst ((ls.eraseIdx k).map V.int)) mk = some (.lst (l.map V.int)) := by rw [upd_ne nbm, upd_ne (Ne.symm nrm)]; exact hm7
          refine ⟨mk, _, _, pos, rfl, rfl, hm8, ixN_nat (by rw [List.length_map]; omega), ?_⟩
          refine ⟨_, _, _, l.set pos one, ds5, ls.eraseIdx k, rfl, fun o u no ho => ?_, ?_, ?_, ?_, iv.step hk hpos ep⟩
          · rw [upd_ne (ne_of_none ho nm0), upd_ne (ne_of_none ho nb0), upd_ne no]
            exact sb7 o u no ho
          · rw [upd_ne nrm, upd_ne nrb, upd_same]
          · rw [upd_same, List.map_set]
          · rw [upd_ne (Ne.symm nbm), upd_same]
        · rw [decide_eq_false fun e => cz (V.str.inj e)]
          refine iteT ?_
          have sb7 := sb6
          have hr7 := hr6
          have hm7 := hm6
          have hb7 := hb6
          refine ⟨_, rfl, _, rfl, _, rfl, _, rfl, r, b, ds', ls, rfl, nrb, hr7, hb7, nls, by omega, fun ds5 k hk => ?_⟩
          obtain ⟨pos, ep, hpos, _, _⟩ := iv.free (co ls k) (List.mem_cons_of_mem _ (co_mem hk))
          rw [ep]
          have hm8 : upd (upd H6 r (.lst (ds5.map V.int))) b (.lst ((ls.eraseIdx k).map V.int)) mk = some (.lst (l.map V.int)) := by rw [upd_ne nbm, upd_ne (Ne.symm nrm)]; exact hm7
          refine ⟨mk, _, _, pos, rfl, rfl, hm8, ixN_nat (by rw [List.length_map]; omega), ?_⟩
          refine ⟨_, _, _, l.set pos one, ds5, ls.eraseIdx k, rfl, fun o u no ho => ?_, ?_, ?_, ?_, iv.step hk hpos ep⟩
          · rw [upd_ne (ne_of_none ho nm0), upd_ne (ne_of_none ho nb0), upd_ne no]
            exact sb7 o u no ho
          · rw [upd_ne nrm, upd_ne nrb, upd_same]
          · rw [upd_same, List.map_set]
          · rw [upd_ne (Ne.symm nbm), upd_same]
      · obtain ⟨v5, v7, v8, l, ds', ls, rfl, sb5, hr5, hm5, hb5, iv⟩ := hP
        exact ⟨_, _, _, l, ds', ls, rfl, sb5, hr5, hm5, hb5, iv.len, two_of iv (.inr toN)⟩
    · rintro σ H5 ⟨v5, v7, v8, l, ds', ls, rfl, sb5, hr5, hm5, hb5, ll, tw⟩
      refine ⟨fun σ H' => ∃ (mk2 : Addr) (v5 v6 v7 v8 : Option V) (l ds' : List Int), σ = [some (.ref r), some (.str z), some (.int n), some (.int m), some (.ref mk2), v5, v6, v7, v8] ∧ SameBut r H H' ∧ H' r = some (.lst (ds'.map V.int)) ∧ H' mk2 = some (.lst (l.map V.int)) ∧ l.length = n + m ∧ FamM z n m l, ?_, ?_⟩
      · refine ⟨_, rfl, rfl, _, rfl, ite2 (fun e2 => ?_) (fun e2 => ?_)⟩
        · obtain rfl : z = "even" := V.str.inj (of_decide_eq_true e2)
          refine ⟨_, rfl, _, .inl ⟨_, .inl (.inl hm5), rfl⟩, ?_⟩
          have nl : "even" ≠ ("lonepairs" : Str) := by decide +kernel
          by_cases ce : l = []
          · rw [ce]
            exact iteF ⟨mk, _, _, _, _, l, ds', rfl, sb5, hr5, hm5, ll, fam_two hz tw⟩
          have lpos : 0 < l.length := List.length_pos_iff.mpr ce
          rw [show (List.map V.int l).isEmpty = false by cases l with | nil => exact absurd rfl ce | cons => rfl]
          refine iteT ?_
          refine ⟨_, rfl, r, ds', rfl, hr5, fun n0 ds0 => .inl ⟨n0, rfl, n0, 3, rfl, rfl, (show (0 : Int) < 3 by decide), n0 % 3, rfl, by omega, by omega, for_range (lo := 0) (n := (n0 % 3).toNat) (fun i σ H' => ∃ (mk2 : Addr) (v5 v6 v7 v8 : Option V) (l ds' : List Int), σ = [some (.ref r), some (.str "even"), some (.int n), some (.int m), some (.ref mk2), v5, v6, v7, v8] ∧ r ≠ mk2 ∧ SameBut r H H' ∧ H' r = some (.lst (ds'.map V.int)) ∧ H' mk2 = some (.lst (l.map V.int)) ∧ l.length = n + m ∧ 0 < l.length ∧ ((n + m) % 2 = 0 → ∀ v, l.count v % 2 = 0))
            ⟨mk, _, _, _, _, l, ds0, rfl, nrm, sb5.trans SameBut.upd, upd_same, by rw [upd_ne (Ne.symm nrm)]; exact hm5, ll, lpos, fun e v => ?_⟩ (fun i σ H' hi hP => ?_) (fun σ H' hP => ?_)⟩⟩
          · rcases tw.1 nl e v with c | c <;> omega
          · obtain ⟨mk2, v5, v6, v7, v8, l, ds', rfl, nr2, sb6, hr6, hm6, ll, lpos, ev⟩ := hP
            clear tw hm5 hr5 hb5 sb5 ce
            refine ⟨_, rfl, r, ds', rfl, hr6, fun n0 ds0 => .inl ⟨n0, rfl, ?_⟩⟩
            have sb7 : SameBut r H (upd H' r (.lst (ds0.map V.int))) := sb6.trans SameBut.upd
            have hr7 : upd H' r (.lst (ds0.map V.int)) r = some (.lst (ds0.map V.int)) := upd_same
            have hm7 : upd H' r (.lst (ds0.map V.int)) mk2 = some (.lst (l.map V.int)) := by rw [upd_ne (Ne.symm nr2)]; exact hm6
            revert sb7 hr7 hm7
            generalize upd H' r (.lst (ds0.map V.int)) = H7
            intro sb7 hr7 hm7
            refine ⟨_, rfl, mk2, _, rfl, .inl (.inl (.inl hm7)), ?_⟩
            rw [List.length_map]
            refine ⟨n0, _, rfl, rfl, by omega, ?_⟩
            have m1 := mod_lt8 n0 (show (0 : Int) < (l.length : Int) by omega)
            obtain ⟨x, hx, ex⟩ : ∃ x : Nat, x < l.length ∧ n0 % (l.length : Int) = (x : Int) := ⟨(n0 % (l.length : Int)).toNat, by omega, by omega⟩
            dsimp only
            rw [ex]
            refine ⟨_, rfl, _, rfl, _, rfl, r, ds0, rfl, hr7, fun n1 ds1 => .inl ⟨n1, rfl, ?_⟩⟩
            have sb8 : SameBut r H (upd H7 r (.lst (ds1.map V.int))) := sb7.trans SameBut.upd
            have hr8 : upd H7 r (.lst (ds1.map V.int)) r = some (.lst (ds1.map V.int)) := upd_same
            have hm8 : upd H7 r (.lst (ds1.map V.int)) mk2 = some (.lst (l.map V.int)) := by rw [upd_ne (Ne.symm nr2)]; exact hm7
            revert sb8 hr8 hm8
            generalize upd H7 r (.lst (ds1.map V.int)) = H8
            intro sb8 hr8 hm8
            refine ⟨_, rfl, mk2, _, rfl, .inl (.inl (.inl hm8)), ?_⟩
            rw [List.length_map]
            refine ⟨n1, _, rfl, rfl, by omega, ?_⟩
            have m2 := mod_lt8 n1 (show (0 : Int) < (l.length : Int) by omega)
            obtain ⟨y, hy, ey⟩ : ∃ y : Nat, y < l.length ∧ n1 % (l.length : Int) = (y : Int) := ⟨(n1 % (l.length : Int)).toNat, by omega, by omega⟩
            dsimp only
            rw [ey]
            refine ⟨(by show 2 ≤ sizeLine; decide), fun t nt => ⟨(by show 1 ≤ sizeLine; decide), fun p np => ?_⟩⟩
            have s9 : Same H8 (upd (upd H8 t (.tup [.int x, .int y])) p (.lst [.ref t])) := Same.trans (same_upd nt) (same_upd np)
            refine ⟨mk2, p, t, l, x, y, rfl, .inl (.inl (s9 _ _ hm8)), upd_same, same_upd np _ _ upd_same, hx, hy, by omega, fun D l' H10 s10 nD hD el => ?_⟩
            have s11 := Same.trans s9 s10
            refine ⟨D, _, _, _, _, l', ds1, rfl, ne_of_none (s9 _ _ hr8) nD, sb8.trans (Same.but s11), s11 _ _ hr8, hD, ?_, ?_, fun e v => ?_⟩
            · rw [el, jn_len]
              exact ll
            · rw [el, jn_len]
              exact lpos
            · rw [el]
              exact jn_even (ev e) v
          · obtain ⟨mk2, v5, v6, v7, v8, l, ds', rfl, nr2, sb6, hr6, hm6, ll, lpos, ev⟩ := hP
            exact ⟨mk2, _, _, _, _, l, ds', rfl, sb6, hr6, hm6, ll, fam_even ev⟩
        · exact ⟨mk, _, _, _, _, l, ds', rfl, sb5, hr5, hm5, ll, fam_two hz tw⟩
      · rintro σ H6 ⟨mk2, v5, v6, v7, v8, l, ds', rfl, sb6, hr6, hm6, ll, fm⟩
        refine ⟨_, rfl, _, rfl, _, rfl, n, m, mk2, l, rfl, .inl (.inl hm6), by omega, by omega, fun v H7 s7 nv hv => ?_⟩
        exact q v l ds' H7 (sb6.trans (Same.but s7)) (s7 _ _ hr6) ll fm hv
end

/-! ### tuples of tuples, put together and cut -/
theorem paired_drop {α β : Type} {F : α → β → Prop} : ∀ {l : List α} {m : List β} (i : Nat), Paired F l m → Paired F (l.drop i) (m.drop i)
  | _, _, 0, h => h
  | _, _, _ + 1, .nil => .nil
  | _, _, i + 1, .cons _ h => paired_drop i h
theorem paired_take {α β : Type} {F : α → β → Prop} : ∀ {l : List α} {m : List β} (i : Nat), Paired F l m → Paired F (l.take i) (m.take i)
  | _, _, 0, _ => .nil
  | _, _, _ + 1, .nil => .nil
  | _, _, i + 1, .cons a h => .cons a (paired_take i h)
theorem paired_app {α β : Type} {F : α → β → Prop} : ∀ {l l' : List α} {m m' : List β}, Paired F l m → Paired F l' m' → Paired F (l ++ l') (m ++ m')
  | _, _, _, _, .nil, h => h
  | _, _, _, _, .cons a h, h' => .cons a (paired_app h h')
theorem paired_rev {α β : Type} {F : α → β → Prop} : ∀ {l : List α} {m : List β}, Paired F l m → Paired F l.reverse m.reverse
  | _, _, .nil => .nil
  | _, _, .cons a h => by
    rw [List.reverse_cons, List.reverse_cons]
    exact paired_app (paired_rev h) (.cons a .nil)
def cutL {α : Type} (xs : List α) (lo hi : Option Int) : List α := (xs.drop (HT.sIx xs.length 0 lo)).take (HT.sIx xs.length xs.length hi - HT.sIx xs.length 0 lo)
theorem sIx_all (n : Nat) (h : HT.sIx n 0 none = 0 ∧ HT.sIx n n none = n) : True := trivial
def rCatTT : R2 := fun x y H Q => ∃ bs cs, TT H x bs ∧ TT H y cs ∧ bs.length + cs.length ≤ sizeLine ∧ ∀ v H', Same H H' → TT H' v (bs ++ cs) → Q v H'
theorem op_catTT {X : Cx} : OpR X (binaryOp .Add) rCatTT := by
  intro pins s σ H x y v u Q I rx ry h
  obtain ⟨bs, cs, ⟨a, ts, rfl, ha, pa⟩, ⟨b, us, rfl, hb, pb⟩, hz, q⟩ := h
  have la : ts.length = bs.length := pa.length
  have lb : us.length = cs.length := pb.length
  refine op_catA pins s σ H _ _ v u Q I rx ry ⟨a, b, ts, us, rfl, rfl, .inl (.inl ha), .inl (.inl hb), by omega, fun e => ?_, fun _ e => ?_, fun _ _ p np => ?_⟩
  · refine q _ H (Same.refl _) ⟨b, us, rfl, hb, ?_⟩
    subst e
    cases pa
    exact pb
  · refine q _ H (Same.refl _) ⟨a, ts, rfl, ha, ?_⟩
    subst e
    cases pb
    rw [List.append_nil]
    exact pa
  · have s1 := same_upd (o := .tup (ts ++ us)) np
    exact q _ _ s1 ⟨p, _, rfl, upd_same, paired_app (Paired.mapP pa fun _ _ h => h.same s1) (Paired.mapP pb fun _ _ h => h.same s1)⟩
def rSlTT : V → Option Int → Option Int → Hp → VK → Prop := fun x lo hi H Q => ∃ bs, TT H x bs ∧ ∀ v H', Same H H' → TT H' v (cutL bs lo hi) → Q v H'
theorem sl_TT {X : Cx} : SlR X rSlTT := by
  intro pins s σ H x v vl vu lo hi sl Q I rx hs pl pu h
  obtain ⟨bs, ⟨a, ts, rfl, ha, pa⟩, q⟩ := h
  have la : ts.length = bs.length := pa.length
  refine sl_tupA pins s σ H _ v vl vu lo hi sl Q I rx hs pl pu ⟨a, ts, rfl, .inl (.inl ha), fun e => ?_, fun _ p np => ?_⟩
  · refine q _ H (Same.refl _) ⟨a, ts, rfl, ha, ?_⟩
    unfold cutL
    rw [← la, e.1, e.2, la]
    show Paired (TP H) ts ((bs.drop 0).take (bs.length - 0))
    rw [List.drop_zero, Nat.sub_zero, List.take_length]
    exact pa
  · have s1 := same_upd (o := .tup (cutV ts lo hi)) np
    refine q _ _ s1 ⟨p, _, rfl, upd_same, ?_⟩
    unfold cutL cutV
    rw [← la]
    exact paired_take _ (paired_drop _ (Paired.mapP pa fun _ _ h => h.same s1))
theorem flat_le {c : Nat} : ∀ {bs : List (List Int)}, (∀ b ∈ bs, b.length ≤ c) → bs.flatten.length ≤ c * bs.length
  | [], _ => Nat.zero_le _
  | b :: bs, h => by
    rw [List.flatten_cons, List.length_append, List.length_cons, Nat.mul_succ]
    have := flat_le (bs := bs) fun b hb => h b (List.mem_cons_of_mem _ hb)
    have := h b List.mem_cons_self
    omega
theorem len_flat : ∀ {bs : List (List Int)}, (∀ b ∈ bs, b ≠ []) → bs.length ≤ bs.flatten.length
  | [], _ => Nat.le_refl _
  | b :: bs, h => by
    rw [List.flatten_cons, List.length_append, List.length_cons]
    have := len_flat (bs := bs) fun b hb => h b (List.mem_cons_of_mem _ hb)
    have := List.length_pos_iff.mpr (h b List.mem_cons_self)
    omega
/-- few blocks, each of few points -/
def Few (c : Nat) (bs : List (List Int)) : Prop := bs.length ≤ c ∧ ∀ b ∈ bs, b.length ≤ 13
theorem Few.ok {n m : Int} {bs : List (List Int)} (h : Few 40 bs) (hn : n.natAbs ≤ 1000) (hm : m.natAbs ≤ 1000) : DgOk n m bs := by
  have := flat_le h.2
  exact ⟨hn, hm, by have := h.1; omega, by have := h.1; omega⟩
theorem Few.cut {c : Nat} {bs : List (List Int)} (h : Few c bs) (i j : Nat) : Few c ((bs.drop i).take j) :=
  ⟨by have := h.1; rw [List.length_take, List.length_drop]; omega, fun b hb => h.2 b (List.mem_of_mem_drop (List.mem_of_mem_take hb))⟩
theorem Few.app {c d : Nat} {bs cs : List (List Int)} (h : Few c bs) (g : Few d cs) : Few (c + d) (bs ++ cs) :=
  ⟨by have := h.1; have := g.1; rw [List.length_append]; omega, fun b hb => (List.mem_append.mp hb).elim (h.2 b) (g.2 b)⟩
theorem Few.more {c d : Nat} {bs : List (List Int)} (h : Few c bs) (hd : c ≤ d) : Few d bs := ⟨Nat.le_trans h.1 hd, h.2⟩
theorem IsDg.few {n m : Int} {bs : List (List Int)} (h : IsDg n m bs) : Few 12 bs := by
  have hs := siz_iff.mp h.sz
  have e := h.pm.length_eq
  rw [ixs_len] at e
  have l1 := len_flat h.ne
  refine ⟨by omega, fun b hb => ?_⟩
  have := mem_len hb
  omega

theorem TP.butL {H H' : Hp} {r : Addr} {ys : List V} {v : V} {z : List Int} (hr : H r = some (.lst ys)) (s : SameBut r H H') (h : TP H v z) : TP H' v z := by
  obtain ⟨a, rfl, h⟩ := h
  exact ⟨a, rfl, s _ _ (ne_of h hr (fun z => nomatch z)) h⟩
theorem TT.butL {H H' : Hp} {r : Addr} {ys : List V} {v : V} {bs : List (List Int)} (hr : H r = some (.lst ys)) (s : SameBut r H H') (h : TT H v bs) : TT H' v bs := by
  obtain ⟨a, ts, rfl, h, pr⟩ := h
  exact ⟨a, ts, rfl, s _ _ (ne_of h hr (fun z => nomatch z)) h, Paired.mapP pr fun _ _ h => h.butL hr s⟩
theorem DGv.butL {H H' : Hp} {r : Addr} {ys : List V} {v : V} {n m : Int} {bs : List (List Int)} (hr : H r = some (.lst ys)) (s : SameBut r H H') (h : DGv H v n m bs) : DGv H' v n m bs := by
  obtain ⟨t, vb, rfl, h, tt⟩ := h
  exact ⟨t, vb, rfl, s _ _ (ne_of h hr (fun z => nomatch z)) h, tt.butL hr s⟩
/-- a diagram with these marks -/
def DgAt (H : Hp) (u : V) (n m : Int) (l : List Int) : Prop := DGv H u n m (blocksOf l) ∧ siz n m = true ∧ (l.length : Int) = n + m
theorem DgAt.dg {H : Hp} {u : V} {n m : Int} {l : List Int} (h : DgAt H u n m l) : IsDg n m (blocksOf l) := isDg_blocks h.2.1 h.2.2
theorem DgAt.ok {H : Hp} {u : V} {n m : Int} {l : List Int} (h : DgAt H u n m l) : DgOk n m (blocksOf l) := by
  have := siz_iff.mp h.2.1
  exact (h.dg.few.more (by decide)).ok (by omega) (by omega)
theorem DgAt.same {H H' : Hp} {u : V} {n m : Int} {l : List Int} (s : Same H H') (h : DgAt H u n m l) : DgAt H' u n m l := ⟨h.1.same s, h.2⟩
theorem DgAt.butL {H H' : Hp} {r : Addr} {ys : List V} {u : V} {n m : Int} {l : List Int} (hr : H r = some (.lst ys)) (s : SameBut r H H') (h : DgAt H u n m l) : DgAt H' u n m l := ⟨h.1.butL hr s, h.2⟩
theorem DgAt.ix {H : Hp} {t : Addr} {n m : Int} {l : List Int} (h : DgAt H (.ref t) n m l) : ∃ vb, H t = some (.tup [.int n, .int m, vb]) := by
  obtain ⟨⟨t', vb, e, h, _⟩, _⟩ := h
  obtain rfl := V.ref.inj e
  exact ⟨vb, h⟩
/-- the answer of a comparison is not computed -/
theorem bl_ex {b : Bool} {R : Bool → Prop} (h : R b) : ∃ k, V.bl b = V.bl k ∧ R k := ⟨b, rfl, h⟩
theorem smL_dL {z : List Int} {B : Nat} (h : ∀ x ∈ z, x.natAbs < 2 ^ 200) (hB : z.length ≤ B) : SmL 1 (1923 * B + 3) (dL z) := by
  have e := smL_list (ds := z.map PyData.int) (n := 0) (k := 1921) fun D hD => by
    obtain ⟨a, ha, rfl⟩ := List.mem_map.mp hD
    exact smL_int (h a ha)
  rw [List.length_map] at e
  exact e.more (by show 1923 * z.length + 3 ≤ 1923 * B + 3; omega)
theorem labL_mem {bs : List (List Int)} {N : Nat} : ∀ x ∈ labL bs N, 0 ≤ x ∧ x ≤ (bs.length : Int) := by
  have run : ∀ (bs : List (List Int)) (k : Nat) (ms : List Int) (B : Int), ((k + bs.length : Nat) : Int) ≤ B → (∀ x ∈ ms, 0 ≤ x ∧ x ≤ B) → ∀ x ∈ labFrom bs k ms, 0 ≤ x ∧ x ≤ B := by
    intro bs
    induction bs with
    | nil => exact fun _ _ _ _ h => h
    | cons b bs ih =>
      intro k ms B hk h
      rw [List.length_cons] at hk
      refine ih (k + 1) _ B (by omega) ?_
      clear ih
      induction b generalizing ms with
      | nil => exact h
      | cons p b ih2 =>
        refine ih2 _ fun x hx => ?_
        rcases List.mem_or_eq_of_mem_set hx with hx | rfl
        · exact h x hx
        · omega
  exact run bs 0 _ _ (by omega) fun x hx => by
    have := List.eq_of_mem_replicate hx
    omega
theorem smL_lab {n m : Int} {bs : List (List Int)} (h : IsDg n m bs) : SmL 1 25000 (dL (labL bs (n + m).toNat)) := by
  have hs := siz_iff.mp h.sz
  have f := h.few.1
  refine (smL_dL (B := 12) (fun x hx => ?_) (by rw [labL_len]; omega)).more (by decide)
  have := labL_mem x hx
  have : (12 : Nat) < 2 ^ 200 := by decide
  omega
theorem smL_dg {n m : Int} {bs : List (List Int)} (h : IsDg n m bs) : SmL 3 1000000 (dDG n m bs) := by
  have hs := siz_iff.mp h.sz
  have f := h.few
  have big : (12 : Nat) < 2 ^ 200 := by decide
  have e1 := smL_tuple (n := 1) (k := 25002) (ds := bs.map dT) fun D hD => by
    obtain ⟨b, hb, rfl⟩ := List.mem_map.mp hD
    refine (dT_small (z := b) fun k => ?_).more (by have := f.2 b hb; omega)
    rcases Nat.lt_or_ge k b.length with c | c
    · have := dg_pt h hb (co_mem c)
      omega
    · rw [co_ge c]
      decide
  rw [List.length_map] at e1
  have e1 : SmL 2 310000 (dTT bs) := e1.more (by have := f.1; omega)
  have e2 := smL_tuple (n := 2) (k := 310000) (ds := [.int n, .int m, dTT bs]) fun D hD => by
    have up : ∀ {x : Int}, x.natAbs < 2 ^ 200 → SmL 2 310000 (.int x) := fun hx => by
      obtain ⟨h1, h2, h3, h4⟩ := smL_int hx
      exact ⟨h1, Nat.le_trans h2 (by decide), h3, Nat.le_trans h4 (by decide)⟩
    rcases List.mem_cons.mp hD with rfl | hD
    · exact up (by omega)
    · rcases List.mem_cons.mp hD with rfl | hD
      · exact up (by omega)
      · rw [List.mem_singleton.mp hD]
        exact e1
  exact e2.more (by show (310000 + 2) * 3 + 3 ≤ 1000000; decide)
theorem few_pow {x : Int} (h : 0 ≤ x ∧ x ≤ 1000) : x.natAbs < 2 ^ 64 := by
  have : (1000 : Nat) < 2 ^ 64 := by decide
  omega

section
variable {P : Program} {w : World} {K : PySem.W.Frag} {mg : Str → Option Value} {base : Heap}
/-! ### the letters of texts -/
def twelve : Str := "abcdefghijkl"
def fresh (l : List Int) : Int := l.foldr (fun x y => if x + 1 > y then x + 1 else y) 0
theorem fresh_ge : ∀ {l : List Int} {x : Int}, x ∈ l → x + 1 ≤ fresh l
  | a :: l, x, h => by
    unfold fresh
    rw [List.foldr_cons]
    show _ ≤ if a + 1 > fresh l then a + 1 else fresh l
    rcases List.mem_cons.mp h with rfl | h
    · split <;> omega
    · have := fresh_ge h
      split <;> omega
theorem fresh_of : ∀ {l : List Int} {m : Int}, m ∈ l → (∀ y ∈ l, y ≤ m) → (∀ y ∈ l, 0 ≤ y) → fresh l = m + 1
  | [a], m, h, _, h0 => by
    rcases List.mem_cons.mp h with rfl | h
    · have := h0 m h
      show (if m + 1 > 0 then m + 1 else 0) = m + 1
      rw [if_pos (by omega)]
    · exact nomatch h
  | a :: b :: l, m, h, hm, h0 => by
    have ha := hm a (.head _)
    have h0a := h0 a (.head _)
    show (if a + 1 > fresh (b :: l) then a + 1 else fresh (b :: l)) = m + 1
    by_cases c : m ∈ b :: l
    · rw [fresh_of c (fun y hy => hm y (.tail _ hy)) (fun y hy => h0 y (.tail _ hy)), if_neg (by omega)]
    · rcases List.mem_cons.mp h with rfl | h
      · have lt : fresh (b :: l) ≤ m := by
          have : ∀ {l : List Int}, (∀ y ∈ l, y < m) → 0 ≤ m → fresh l ≤ m := by
            intro l
            induction l with
            | nil => intro _ h; exact h
            | cons x xs ih =>
              intro hx hm0
              have := ih (fun y hy => hx y (.tail _ hy)) hm0
              have := hx x (.head _)
              show (if x + 1 > fresh xs then x + 1 else fresh xs) ≤ m
              split <;> omega
          refine this (fun y hy => ?_) h0a
          have h1 := hm y (.tail _ hy)
          have : y ≠ m := fun e => c (e ▸ hy)
          omega
        rw [if_pos (by omega)]
      · exact absurd h c
theorem fresh_pos : ∀ (l : List Int), 0 ≤ fresh l
  | [] => Int.le_refl _
  | a :: l => by
    have := fresh_pos l
    show 0 ≤ if a + 1 > fresh l then a + 1 else fresh l
    split <;> omega
/-- the first letters -/
def firstL (k : Nat) : Str := ⟨(twelve.cps.toList.take k).toArray⟩
theorem cutS_take (t : Str) (k : Nat) : cutS t none (some (k : Int)) = ⟨(t.cps.toList.take k).toArray⟩ := by
  unfold cutS
  rw [HT.sIx_none, HT.sIx_nat, List.drop_zero, Nat.sub_zero]
  have e : t.cps.toList.take (Nat.min k t.length) = t.cps.toList.take k := by
    rw [List.take_eq_take_iff]
    show min (min k t.length) t.cps.toList.length = min k t.cps.toList.length
    have : t.cps.toList.length = t.length := rfl
    omega
  exact congrArg (fun z : List Nat => Str.mk z.toArray) e
theorem cutS_drop (t : Str) (k : Nat) : cutS t (some (k : Int)) none = ⟨(t.cps.toList.drop k).toArray⟩ := by
  unfold cutS
  rw [HT.sIx_none, HT.sIx_nat]
  have hl : t.cps.toList.length = t.length := rfl
  have e : (t.cps.toList.drop (Nat.min k t.length)).take (t.length - Nat.min k t.length) = t.cps.toList.drop k := by
    rw [List.take_of_length_le (by rw [List.length_drop]; omega)]
    by_cases c : k ≤ t.length
    · rw [show Nat.min k t.length = k from Nat.min_eq_left c]
    · rw [show Nat.min k t.length = t.length from Nat.min_eq_right (by omega), List.drop_of_length_le (by omega), List.drop_of_length_le (by omega)]
  exact congrArg (fun z : List Nat => Str.mk z.toArray) e
theorem cut_first (k : Nat) : cutS "abcdefghijkl" none (some (k : Int)) = firstL k := cutS_take _ k
def spNextL (K : PySem.W.Frag) : Sp := fun vs H Q _ => ∃ (a : Addr) (ns : List Int), vs = [.ref a] ∧ SqL K H a (ns.map V.int) ∧ (∀ y ∈ ns, 0 ≤ y ∧ y < 12) ∧ Q (.str (firstL ((fresh ns).toNat + 1))) H
theorem ok_next_letters {f : Addr} {fd : FuncData} {tL : Tok} (F : Fun K "_next_letters" "_next_letters" s_next_letters_ f fd) (z_max : mg "max" = none) (m_LETTERS : mg "LETTERS" = some (.str "abcdefghijkl" tL)) : FnOk P w K mg base CX0 1 f fd ["marks"] (spNextL K) := by
  have r_LETTERS : RelV (.str "abcdefghijkl") (.str "abcdefghijkl" tL) := ⟨_, rfl⟩
  refine F.ok sc_next_letters_ (fun vs H Q E h => ?_) (fun cdv A outer s H vs Q E hr h => ?_)
  · obtain ⟨a, ns, rfl, _⟩ := h
    rfl
  · obtain ⟨a, ns, rfl, ha, hn, q⟩ := h
    refine ⟨_, (pss_one (ps_ret (pe_slice sl_str (pe_glob rfl m_LETTERS r_LETTERS) po_none (po_some (pe_op op_add (pe_callBK (cr_maxDef (K := K) rfl rfl (room64 hr)) (by rfl) z_max boot_max (pa_cons (pv 0) pa_nil) (pk_cons (pe_un un_neg pe_int) pk_nil)) pe_int))))), ?_⟩
    have go : ∀ k : Int, fresh ns = k + 1 → rSlS (.str "abcdefghijkl") none (some (k + 2)) H Q := fun k e => by
      refine ⟨_, rfl, by decide, ?_⟩
      have k0 := fresh_pos ns
      rw [show k + 2 = (((fresh ns).toNat + 1 : Nat) : Int) by omega, cut_first]
      exact q
    refine ⟨_, rfl, _, rfl, a, ns, -1, rfl, rfl, ha, fun e => ⟨_, _, rfl, rfl, ?_⟩, fun m hm hge => ⟨_, _, rfl, rfl, ?_⟩⟩
    · exact ⟨_, rfl, go (-1) (by rw [e]; rfl)⟩
    · exact ⟨_, rfl, go m (fresh_of hm hge fun y hy => (hn y hy).1)⟩
def roomB (v : Option Int) (k : Nat) : Bool := match v with
  | none => decide (k < 8)
  | some n => decide (k < 12) && decide ((k : Int) - n < 8)
def oV : Option Int → V
  | none => .non
  | some n => .int n
def spRoom (K : PySem.W.Frag) : Sp := fun vs H Q _ => ∃ (v : Option Int) (a : Addr) (ns : List Int), vs = [oV v, .ref a] ∧ SqL K H a (ns.map V.int) ∧ Q (.bl (roomB v ns.length)) H
theorem ok_has_room {f : Addr} {fd : FuncData} {t8 t12 : Tok} (F : Fun K "_has_room" "_has_room" s_has_room_ f fd) (z_len : mg "len" = none) (m_MOST_ON_A_SIDE : mg "MOST_ON_A_SIDE" = some (.int 8 t8)) (m_MOST_POINTS : mg "MOST_POINTS" = some (.int 12 t12)) : FnOk P w K mg base CX0 1 f fd ["n", "marks"] (spRoom K) := by
  have r_MOST_ON_A_SIDE : RelV (.int 8) (.int 8 t8) := ⟨_, rfl⟩
  have r_MOST_POINTS : RelV (.int 12) (.int 12 t12) := ⟨_, rfl⟩
  refine F.ok sc_has_room_ (fun vs H Q E h => ?_) (fun cdv A outer s H vs Q E hr h => ?_)
  · obtain ⟨v, a, ns, rfl, _⟩ := h
    rfl
  · obtain ⟨v, a, ns, rfl, ha, q⟩ := h
    refine ⟨_, (pss_cons (ps_if (pt_cmpR op_isN (pv 0) pe_non (nomark _)) (pss_one (ps_ret (pe_cmpR op_lt (pe_callB call_len_seq (by rfl) z_len boot_len (pa_cons (pv 1) pa_nil)) (pe_glob rfl m_MOST_ON_A_SIDE r_MOST_ON_A_SIDE) (nomark _)))) pss_nil)
  (pss_one (ps_ret (pe_and (pe_cmpR op_lt (pe_callB call_len_seq (by rfl) z_len boot_len (pa_cons (pv 1) pa_nil)) (pe_glob rfl m_MOST_POINTS r_MOST_POINTS) (nomark _)) (pe_one (pe_cmpR op_lt (pe_op op_sub (pe_callB call_len_seq (by rfl) z_len boot_len (pa_cons (pv 1) pa_nil)) (pv 0)) (pe_glob rfl m_MOST_ON_A_SIDE r_MOST_ON_A_SIDE) (nomark _))))))), ?_⟩
    cases v with
    | none =>
      refine ⟨_, rfl, rfl, _, rfl, iteT ⟨_, rfl, a, _, rfl, .inl ha, _, _, rfl, rfl, ?_⟩⟩
      rw [List.length_map]
      have e : decide ((ns.length : Int) < 8) = roomB none ns.length := by
        show _ = decide _
        exact decide_eq_decide.mpr (by omega)
      rw [← e] at q
      exact q
    | some n =>
      refine ⟨_, rfl, rfl, _, rfl, iteF ?_⟩
      refine ⟨_, rfl, a, _, rfl, .inl ha, _, _, rfl, rfl, _, rfl, ?_⟩
      rw [List.length_map]
      have q : Q (.bl (decide (ns.length < 12) && decide ((ns.length : Int) - n < 8))) H := q
      by_cases c : ns.length < 12
      · rw [decide_eq_true c, Bool.true_and] at q
        rw [decide_eq_true (show ((ns.length : Int) < 12) by omega)]
        refine iteT ⟨_, rfl, a, _, rfl, .inl ha, _, rfl, _, _, rfl, rfl, _, _, rfl, rfl, ?_⟩
        rw [List.length_map]
        exact q
      · rw [decide_eq_false c, Bool.false_and] at q
        rw [decide_eq_false (show ¬ ((ns.length : Int) < 12) by omega)]
        exact iteF q
end

open TL
/-- the letters of marks, and the text of marks -/
def tw (c : Int) : Nat := twelve.cps.toList.getD c.toNat 0
def sg (c : Int) : Str := ⟨#[tw c]⟩
def txtL (n : Int) (l : List Int) : List Nat := (l.take n.toNat).map tw ++ 124 :: (l.drop n.toNat).map tw
def txtM (n : Int) (l : List Int) : Str := ⟨(txtL n l).toArray⟩
theorem tw_at {c : Int} (h0 : 0 ≤ c) (h : c < 12) : atI twelve.cps.toList c = some (tw c) := by
  obtain ⟨k, rfl⟩ : ∃ k : Nat, c = (k : Int) := ⟨c.toNat, by omega⟩
  refine atI_nat ?_
  have : k < 12 := by omega
  show twelve.cps.toList[k]? = some (twelve.cps.toList.getD k 0)
  rw [List.getD_eq_getElem?_getD, List.getElem?_eq_getElem (show k < twelve.cps.toList.length by show k < 12; exact this)]
  rfl
theorem join_sg : ∀ l : List Int, Txt.join "" (l.map sg) = ⟨(l.map tw).toArray⟩ := by
  intro l
  refine ext_tl ?_
  rw [join_eq, tl_join]
  have run : ∀ l : List Int, joinL [] ((l.map sg).map tl) = l.map tw := by
    intro l
    induction l with
    | nil => rfl
    | cons a l ih =>
      cases l with
      | nil => rfl
      | cons b l =>
        show tl (sg a) ++ ([] ++ joinL [] (((b :: l).map sg).map tl)) = _
        rw [ih]
        rfl
  exact run l
theorem mk_len (l : List Nat) : (⟨l.toArray⟩ : Str).length = l.length := len_tl _
theorem txt_glue (N : Nat) (l : List Int) : (⟨((l.take N).map tw).toArray⟩ : Str) ++ "|" ++ ⟨((l.drop N).map tw).toArray⟩ = txtM (N : Int) l := by
  refine ext_tl ?_
  rw [tl_append, tl_append, tl_mk, tl_mk]
  show _ = txtL (N : Int) l
  unfold txtL
  rw [List.append_assoc]
  rfl
theorem sum_sg (l : List Int) : ((l.map sg).map (fun x => x.length)).sum = l.length := by
  induction l with
  | nil => rfl
  | cons a l ih =>
    rw [List.map_cons, List.map_cons, List.sum_cons, ih, List.length_cons]
    show 1 + l.length = _
    omega
theorem cutM_to {α : Type} {g : α → V} {l : List α} (b : Nat) : cutV (l.map g) none (some (b : Int)) = (l.take b).map g := by
  show ((l.map g).drop _).take _ = _
  rw [HT.sIx_none, HT.sIx_nat, List.drop_zero, Nat.sub_zero, List.length_map, ← List.map_take]
  congr 1
  rw [List.take_eq_take_iff]
  omega
theorem cutM_from {α : Type} {g : α → V} {l : List α} (b : Nat) : cutV (l.map g) (some (b : Int)) none = (l.drop b).map g := by
  show ((l.map g).drop _).take _ = _
  rw [HT.sIx_none, HT.sIx_nat, List.length_map, ← List.map_drop, List.take_of_length_le (by rw [List.length_map, List.length_drop]; omega)]
  congr 1
  by_cases c : b ≤ l.length
  · rw [Nat.min_eq_left c]
  · rw [Nat.min_eq_right (by omega), List.drop_of_length_le (by omega), List.drop_of_length_le (by omega)]
section
variable {P : Program} {w : World} {K : PySem.W.Frag} {mg : Str → Option Value} {base : Heap}
/-! ### text_of -/
def spTextOf (CD : Addr) : Sp := fun vs H Q E => ∃ (v : V) (n m : Int) (bs : List (List Int)), vs = [v] ∧ DGv H v n m bs ∧ DgOk n m bs ∧
  ((¬ IsDg n m bs ∧ ∀ H', Same H H' → E (.ref CD) none H') ∨ ∃ l : List Int, bs = blocksOf l ∧ siz n m = true ∧ (l.length : Int) = n + m ∧ ∀ H', Same H H' → Q (.str (txtM n (labL (blocksOf l) l.length))) H')
theorem lab_small {l : List Int} {n m : Int} (hs : siz n m = true) (hl : (l.length : Int) = n + m) : ∀ x ∈ labL (blocksOf l) l.length, 0 ≤ x ∧ x < 12 := fun x hx => by
  have f := (isDg_blocks hs hl).few.1
  have z := siz_iff.mp hs
  rw [labL_marks] at hx
  obtain ⟨c, hc, rfl⟩ := List.mem_map.mp hx
  have lt := List.idxOf_lt_length_of_mem ((seenL_mem l [] c).mpr (.inr hc))
  have : (blocksOf l).length = (seenL [] l).length := by unfold blocksOf; exact List.length_map ..
  omega
theorem ok_text_of {f CD a_labels : Addr} {fd fd_labels : FuncData} {tL : Tok} (F : Fun K "text_of" "text_of" s_text_of f fd) (m_LETTERS : mg "LETTERS" = some (.str "abcdefghijkl" tL))
    (G_labels : FnOk P w K mg base (L2.CX P w) 4 a_labels fd_labels ["diagram"] (spLabels CD)) (g_labels : mg "labels" = some (.ref a_labels)) (k_labels : PySem.W.keepIn K (.ref a_labels) = true) (b_labels : Binds K fd_labels ["diagram"] []) :
    FnOk P w K mg base (L2.CX P w) 5 f fd ["diagram"] (spTextOf CD) := by
  have r_LETTERS : RelV (.str "abcdefghijkl") (.str "abcdefghijkl" tL) := ⟨_, rfl⟩
  refine F.okX sc_text_of (fun vs H Q E h => ?_) (fun cdv A outer s H vs Q E hr h => ?_)
  · obtain ⟨v, n, m, bs, rfl, _⟩ := h
    rfl
  · obtain ⟨v, n, m, bs, rfl, hv, hb, q⟩ := h
    refine ⟨_, (pss_cons (ps_setLc (i := 1) (own := [("mark", 3)]) rfl sc_text_of.nd rfl rfl (sw_true rfl rfl rfl (by decide +kernel)) (pi_list (pe_call G_labels (hr.mono (by decide)) rfl g_labels k_labels b_labels .nil (passes_call (takes_of rfl rfl rfl rfl) (fun _ _ _ _ h => h)) (pa_cons (pv 0) pa_nil))) (blkOk_by (N := ["diagram", "letters", "n", "mark"]) (sc := defScope s_text_of) (by first | decide +kernel | rfl)) (fun _ _ _ _ _ => (pg_name (i := 3) sc_text_of.nd rfl (.inl rfl))) (fun _ _ _ _ _ => pts_nil) (fun _ _ _ _ _ => (pe_ix ix_str (pe_glob rfl m_LETTERS r_LETTERS) (pv 3) (fun _ _ => rfl))))
  (pss_cons (ps_set (i := 2) sc_text_of.nd rfl (.inl rfl) (pe_ix ix_tup (pv 0) pe_int (fun _ _ => rfl)))
  (pss_one (ps_ret (pe_op op_add_str (pe_op op_add_str (pe_join pe_str (pe_slice sl_list (pv 1) po_none (po_some (pv 2)))) pe_str) (pe_join pe_str (pe_slice sl_list (pv 1) (po_some (pv 2)) po_none))))))), ?_⟩
    have szl : 20000 ≤ sizeLine := by decide
    rcases q with ⟨nd, q⟩ | ⟨l, rfl, hs, hl, q⟩
    · exact ⟨_, rfl, v, n, m, _, rfl, hv, hb, fun _ H' s' => q H' s', fun dg => absurd dg nd⟩
    have dg := isDg_blocks hs hl
    have z := siz_iff.mp hs
    refine ⟨_, rfl, v, n, m, _, rfl, hv, hb, (fun nd => absurd dg nd), fun _ D H1 s1 nD hD => ?_⟩
    have lL := labL_len (blocksOf l) l.length
    have mem := lab_small hs hl
    rw [show (n + m).toNat = l.length by omega] at hD
    generalize labL (blocksOf l) l.length = L at hD lL mem q
    obtain ⟨t, vb, rfl, ht, _⟩ := DGv.same s1 hv
    refine ⟨D, rfl, ⟨_, .inl (.inl hD)⟩, fun B nB => ?_⟩
    have hBD : D ≠ B := ne_of_none hD nB
    refine lc_list (xs := L.map V.int) (fun i H' => SameBut B H1 H' ∧ H' B = some (.lst (((L.take i).map sg).map V.str))) ⟨SameBut.upd, upd_same⟩ (fun i H' hi hP => .inl (.inl (hP.1 _ _ hBD hD))) (fun i y H' hi hP => ?_) (fun H' hP => ?_)
    · obtain ⟨sb, hB⟩ := hP
      rw [List.getElem?_map] at hi
      cases ew : L[i]? with
      | none =>
        rw [ew] at hi
        exact nomatch hi
      | some c =>
        rw [ew] at hi
        have hy : V.int c = y := Option.some.inj hi
        rw [← hy]
        obtain ⟨hlt, hget⟩ := List.getElem?_eq_some_iff.mp ew
        obtain ⟨c0, c1⟩ := mem c (hget ▸ List.getElem_mem hlt)
        refine ⟨rfl, ?_⟩
        refine ⟨_, rfl, twelve, c, tw c, rfl, rfl, by decide, tw_at c0 c1, _, hB, ?_, sb.trans SameBut.upd, ?_⟩
        · rw [List.length_map, List.length_map, List.length_take]
          omega
        · rw [upd_same, List.take_succ, ew]
          show some (HO.lst (((L.take i).map sg).map V.str ++ [V.str (sg c)])) = some (HO.lst (((L.take i ++ [c]).map sg).map V.str))
          rw [List.map_append, List.map_append]
          rfl
    · obtain ⟨sb, hB⟩ := hP
      rw [List.length_map, List.take_length] at hB
      have sH : Same H1 H' := fun c o e => sb _ _ (ne_of_none e nB) e
      refine ⟨_, rfl, t, _, 0, .int n, rfl, rfl, .inl (.inl (sH _ _ ht)), atI_nat (j := 0) rfl, ?_⟩
      obtain ⟨N, rfl⟩ : ∃ N : Nat, n = (N : Int) := ⟨n.toNat, by omega⟩
      have go : ∀ g : List Int, g.length ≤ 12 → ((g.map sg).map (fun x => x.length)).sum + (g.map sg).length * ("" : Str).length ≤ 16777216 := fun g hg => by
        rw [sum_sg]
        show _ + _ * 0 ≤ _
        omega
      refine ⟨⟨_, rfl⟩, _, rfl, _, rfl, _, rfl, B, _, rfl, .inl (.inl hB), fun p1 np1 => ?_⟩
      have c1 : cutV ((L.map sg).map V.str) none (some (N : Int)) = ((L.take N).map sg).map V.str := by rw [cutM_to, List.map_take, List.map_take, List.map_take]
      rw [c1]
      have q1' := same_upd (o := .lst (((L.take N).map sg).map V.str)) np1
      refine ⟨"", p1, (L.take N).map sg, rfl, rfl, .inl (.inl (.inl upd_same)), go _ (by rw [List.length_take]; omega), ?_⟩
      rw [join_sg]
      refine ⟨_, _, rfl, rfl, ?_, ⟨_, rfl⟩, _, rfl, _, rfl, _, rfl, B, _, rfl, .inl (.inl (q1' _ _ hB)), fun p2 np2 => ?_⟩
      · rw [mk_len, List.length_map, List.length_take]
        show _ + 1 ≤ _
        omega
      have c2 : cutV ((L.map sg).map V.str) (some (N : Int)) none = ((L.drop N).map sg).map V.str := by rw [cutM_from, List.map_drop, List.map_drop, List.map_drop]
      rw [c2]
      have q2' := same_upd (o := .lst (((L.drop N).map sg).map V.str)) np2
      refine ⟨"", p2, (L.drop N).map sg, rfl, rfl, .inl (.inl (.inl upd_same)), go _ (by rw [List.length_drop]; omega), ?_⟩
      rw [join_sg]
      refine ⟨_, _, rfl, rfl, ?_, ?_⟩
      · rw [len_tl, tl_append, tl_mk, mk_len, List.length_append, List.length_map, List.length_map, List.length_take, List.length_drop]
        show _ + 1 + _ ≤ _
        omega
      · rw [txt_glue]
        exact q _ (Same.trans s1 (Same.trans sH (Same.trans q1' q2')))
end

/-! ### Malformed(at): the class with its own __init__ -/
section
variable {P : Program} {w : World} {K : PySem.W.Frag} {mg : Str → Option Value} {base : Heap}
def spInitM (K : PySem.W.Frag) : Sp := fun vs H Q _ => ∃ (a C : Addr) (v : V), vs = [.ref a, v] ∧ OexC K C ∧ PySem.W.findIn K (.ref C) "at" = some none ∧ H a = some (exo a C none) ∧
  ∀ dx, H dx = none → dx ≠ a → Q .non (upd (upd H dx (exd dx [(("at" : Str), v)])) a (exo a C (some dx)))
theorem ok_Malformed_init {f : Addr} {fd : FuncData} (F : Fun K "__init__" "Malformed.__init__" s_Malformed_init f fd) : FnOk P w K mg base CX0 1 f fd ["self", "at"] (spInitM K) := by
  refine F.ok sc_Malformed_init (fun vs H Q E h => ?_) (fun cdv A outer s H vs Q E hr h => ?_)
  · obtain ⟨a, C, v, rfl, _⟩ := h
    rfl
  · obtain ⟨a, C, v, rfl, T, hn, ha, q⟩ := h
    refine ⟨_, pss_one (ps_ost (pv 0) (pv 1)), ?_⟩
    exact ⟨_, rfl, _, rfl, a, C, rfl, T, hn, .inl ⟨ha, fun dx nd ne => q dx nd ne⟩⟩
/-- what is known of the class -/
structure MalC (K : PySem.W.Frag) (mg : Str → Option Value) (C fI : Addr) : Prop where
  gc : mg "Malformed" = some (.ref C)
  T : OexC K C
  na : PySem.W.findIn K (.ref C) "at" = some none
  iC : PySem.W.findIn K (.ref C) "__init__" = some (some (.ref fI))
  tI : PySem.W.typeIn K (.ref fI) = some (.type "function")
theorem mal_made {C : Addr} {v : V} {H : Hp} {E : XK} (T : OexC K C) (hn : PySem.W.findIn K (.ref C) "at" = some none) (q : ∀ d H', Same H H' → H d = none → H' d = some (.xd [(("at" : Str), v)]) → E (.ref C) (some d) H') :
    ([v] : List V).length ≤ 1000 ∧ ∀ a, H a = none → spInitM K (.ref a :: ([v] ++ [])) (upd H a (exo a C none))
      (fun u H2 => u = .non ∧ ∃ (d : Addr) (fs : List (Str × V)), H2 a = some (exo a C (some d)) ∧ H2 d = some (exd d fs) ∧ H d = none ∧ E (.ref C) (some d) (upd (del H2 a) d (.xd fs))) (fun _ _ _ => False) := by
  refine ⟨(by show 1 ≤ 1000; decide), fun a na => ⟨a, C, v, rfl, T, hn, upd_same, fun dx nd ne => ⟨rfl, dx, [(("at" : Str), v)], upd_same, ?_, ?_, ?_⟩⟩⟩
  · rw [upd_ne ne, upd_same]
  · rwa [upd_ne ne] at nd
  · have nd2 : H dx = none := by rwa [upd_ne ne] at nd
    refine q dx _ (fun b o hb => ?_) nd2 upd_same
    have b1 : b ≠ dx := ne_of_none hb nd2
    have b2 : b ≠ a := ne_of_none hb na
    rw [upd_ne b1, del_ne b2, upd_ne b2, upd_ne b1, upd_ne b2]
    exact hb
end

section
variable {P : Program} {w : World} {K : PySem.W.Frag} {mg : Str → Option Value} {base : Heap}
/-! ### read_diagram -/
def ixL (c : Nat) : Int := ((twelve.cps.toList.idxOf c : Nat) : Int)
def nextOk (n : Option Int) (l : List Int) (c : Nat) : Bool := roomB n l.length && decide (c ∈ (firstL ((fresh l).toNat + 1)).cps.toList)
/-- what is read of signs: the index of the first fault, or the size above and the marks -/
def rdGo : Option Int → List Int → Nat → List Nat → Int ⊕ (Int × List Int)
  | none, _, i, [] => .inl (i : Nat)
  | some k, l, _, [] => .inr (k, l)
  | n, l, i, c :: cs => if c = 124 ∧ n = none then rdGo (some (l.length : Nat)) l (i + 1) cs else if nextOk n l c = true then rdGo n (l ++ [ixL c]) (i + 1) cs else .inl (i : Nat)
theorem rdGo_cons (n : Option Int) (l : List Int) (i c : Nat) (cs : List Nat) : rdGo n l i (c :: cs) = if c = 124 ∧ n = none then rdGo (some (l.length : Nat)) l (i + 1) cs else if nextOk n l c = true then rdGo n (l ++ [ixL c]) (i + 1) cs else .inl (i : Nat) := by
  cases n <;> rfl
def rdX (x : Str) : Int ⊕ (Int × List Int) := rdGo none [] 0 x.cps.toList
def GoodR : Option Int → List Int → Prop
  | none, l => l.length ≤ 8
  | some k, l => 0 ≤ k ∧ k ≤ 8 ∧ k ≤ (l.length : Int) ∧ l.length ≤ 12 ∧ (l.length : Int) - k ≤ 8
theorem first_sub {k c : Nat} (h : c ∈ (firstL k).cps.toList) : c ∈ twelve.cps.toList := List.mem_of_mem_take h
theorem ix_twelve : ∀ c ∈ twelve.cps.toList, Txt.index0 "abcdefghijkl" ⟨#[c]⟩ = some (twelve.cps.toList.idxOf c) := by decide +kernel
theorem ixL_in {c : Nat} (h : c ∈ twelve.cps.toList) : 0 ≤ ixL c ∧ ixL c < 12 := by
  have := List.idxOf_lt_length_of_mem h
  have e : twelve.cps.toList.length = 12 := by decide +kernel
  unfold ixL
  omega
theorem bar_eq (c : Nat) : decide (V.str ⟨#[c]⟩ = V.str "|") = decide (c = 124) := by
  refine decide_eq_decide.mpr ⟨fun h => ?_, fun h => by rw [h]; rfl⟩
  have h1 : (⟨#[c]⟩ : Str) = "|" := V.str.inj h
  have h2 : [c] = ("|" : Str).cps.toList := congrArg (fun z : Str => z.cps.toList) h1
  exact (List.cons.inj h2).1
theorem non_eq (n : Option Int) : decide (oV n = V.non) = n.isNone := by
  cases n with
  | none => rfl
  | some k => exact decide_eq_false (fun h => nomatch h)
theorem GoodR.bar {l : List Int} (h : GoodR none l) : GoodR (some (l.length : Nat)) l := by
  have h : l.length ≤ 8 := h
  show 0 ≤ ((l.length : Nat) : Int) ∧ _
  omega
theorem GoodR.more {n : Option Int} {l : List Int} {x : Int} (h : GoodR n l) (r : roomB n l.length = true) : GoodR n (l ++ [x]) := by
  cases n with
  | none =>
    have r : decide (l.length < 8) = true := r
    show (l ++ [x]).length ≤ 8
    rw [List.length_append]
    show l.length + 1 ≤ 8
    exact of_decide_eq_true r
  | some k =>
    have r : (decide (l.length < 12) && decide ((l.length : Int) - k < 8)) = true := r
    rw [Bool.and_eq_true, decide_eq_true_eq, decide_eq_true_eq] at r
    have h : 0 ≤ k ∧ k ≤ 8 ∧ k ≤ (l.length : Int) ∧ l.length ≤ 12 ∧ (l.length : Int) - k ≤ 8 := h
    show 0 ≤ k ∧ k ≤ 8 ∧ k ≤ ((l ++ [x]).length : Int) ∧ (l ++ [x]).length ≤ 12 ∧ ((l ++ [x]).length : Int) - k ≤ 8
    rw [List.length_append]
    show 0 ≤ k ∧ k ≤ 8 ∧ k ≤ ((l.length + 1 : Nat) : Int) ∧ l.length + 1 ≤ 12 ∧ ((l.length + 1 : Nat) : Int) - k ≤ 8
    omega
def spReadD (CM : Addr) : Sp := fun vs H Q E => ∃ (x : Str), vs = [.str x] ∧ x.cps.all (· < 128) = true ∧ x.length ≤ 1000 ∧
  (∀ i, rdX x = .inl i → ∀ d H', Same H H' → H d = none → H' d = some (.xd [(("at" : Str), .int i)]) → E (.ref CM) (some d) H') ∧
  (∀ n l, rdX x = .inr (n, l) → siz n ((l.length : Int) - n) = true → (∀ y ∈ l, 0 ≤ y ∧ y < 12) → ∀ v H', Same H H' → DGv H' v n ((l.length : Int) - n) (blocksOf l) → Q v H')
theorem ok_read_diagram {f CB CM fI a_from_labels a_has_room_ a_next_letters_ : Addr} {fd fdI fd_from_labels fd_has_room_ fd_next_letters_ : FuncData} {tL : Tok} (F : Fun K "read_diagram" "read_diagram" s_read_diagram f fd) (m_LETTERS : mg "LETTERS" = some (.str "abcdefghijkl" tL)) (z_len : mg "len" = none) (z_enumerate : mg "enumerate" = none)
    (OX_Malformed : MalC K mg CM fI) (G_Malformed_init : FnOk P w K mg base CX0 1 fI fdI ["self", "at"] (spInitM K)) (b_Malformed_init : Binds K fdI ["self", "at"] [])
    (G_from_labels : FnOk P w K mg base (L2.CX P w) 3 a_from_labels fd_from_labels ["n", "m", "marks"] (spFromLabels K CB)) (g_from_labels : mg "from_labels" = some (.ref a_from_labels)) (k_from_labels : PySem.W.keepIn K (.ref a_from_labels) = true) (b_from_labels : Binds K fd_from_labels ["n", "m", "marks"] [])
    (G_has_room_ : FnOk P w K mg base CX0 1 a_has_room_ fd_has_room_ ["n", "marks"] (spRoom K)) (g_has_room_ : mg "_has_room" = some (.ref a_has_room_)) (k_has_room_ : PySem.W.keepIn K (.ref a_has_room_) = true) (b_has_room_ : Binds K fd_has_room_ ["n", "marks"] [])
    (G_next_letters_ : FnOk P w K mg base CX0 1 a_next_letters_ fd_next_letters_ ["marks"] (spNextL K)) (g_next_letters_ : mg "_next_letters" = some (.ref a_next_letters_)) (k_next_letters_ : PySem.W.keepIn K (.ref a_next_letters_) = true) (b_next_letters_ : Binds K fd_next_letters_ ["marks"] []) :
    FnOk P w K mg base (L2.CX P w) 4 f fd ["text"] (spReadD CM) := by
  have r_LETTERS : RelV (.str "abcdefghijkl") (.str "abcdefghijkl" tL) := ⟨_, rfl⟩
  refine F.okX sc_read_diagram (fun vs H Q E h => ?_) (fun cdv A outer s H vs Q E hr h => ?_)
  · obtain ⟨x, rfl, _⟩ := h
    rfl
  · obtain ⟨x, rfl, hx, hl, q1, q2⟩ := h
    refine ⟨_, (pss_cons (ps_set (i := 1) sc_read_diagram.nd rfl (.inl rfl) pe_non)
  (pss_cons (ps_set (i := 2) sc_read_diagram.nd rfl (.inl rfl) (pe_lst pa_nil))
  (pss_cons (ps_for (passes_of rfl) rfl (pi_enumS rfl z_enumerate (pa_cons (pv 0) pa_nil)) (pg_tup rfl (pgs_cons (pg_name (i := 3) sc_read_diagram.nd rfl (.inl rfl)) (pgs_cons (pg_name (i := 4) sc_read_diagram.nd rfl (.inl rfl)) pgs_nil))) (pss_one (ps_if (L2.PW.pt (pw_and (pt_cmpR op_eq (pv 4) pe_str (nomark _)) (pw_and1 (pt_cmpR op_isN (pv 1) pe_non (nomark _))))) (pss_one (ps_set (i := 1) sc_read_diagram.nd rfl (.inl rfl) (pe_callB call_len_seq (by rfl) z_len boot_len (pa_cons (pv 2) pa_nil)))) (pss_one (ps_if (L2.PW.pt (pw_and (pt_val (pe_call G_has_room_ (hr.mono (by decide)) rfl g_has_room_ k_has_room_ b_has_room_ .nil pass0 (pa_cons (pv 1) (pa_cons (pv 2) pa_nil)))) (pw_and1 (pt_cmpR op_in_sign (pv 4) (pe_call G_next_letters_ (hr.mono (by decide)) rfl g_next_letters_ k_next_letters_ b_next_letters_ .nil pass0 (pa_cons (pv 2) pa_nil)) (by with_unfolding_all rfl))))) (pss_one (ps_expr (pe_bm PySem.F.plainAttrs_list PySem.F.slot_list_append PySem.F.type_list_append mt_append (pv 2) (pa_cons (pe_bmS PySem.F.plainAttrs_str PySem.F.slot_str_index PySem.F.type_str_index (mt_indexX rfl (takes_of rfl rfl rfl rfl)) (pe_glob rfl m_LETTERS r_LETTERS) (pa_cons (pv 4) pa_nil)) pa_nil)))) (pss_one (ps_raise rfl (takes_of rfl rfl rfl rfl) (pmk_oex OX_Malformed.T OX_Malformed.iC OX_Malformed.tI G_Malformed_init (hr.mono (by decide)) b_Malformed_init .nil pass0 rfl OX_Malformed.gc (pa_cons (pv 3) pa_nil)))))))))
  (pss_cons (ps_if (pt_cmpR op_isN (pv 1) pe_non (nomark _)) (pss_one (ps_raise rfl (takes_of rfl rfl rfl rfl) (pmk_oex OX_Malformed.T OX_Malformed.iC OX_Malformed.tI G_Malformed_init (hr.mono (by decide)) b_Malformed_init .nil pass0 rfl OX_Malformed.gc (pa_cons (pe_callB call_len_str (by rfl) z_len boot_len (pa_cons (pv 0) pa_nil)) pa_nil)))) pss_nil)
  (pss_one (ps_ret (pe_call G_from_labels (hr.mono (by decide)) rfl g_from_labels k_from_labels b_from_labels .nil (passes_call (takes_of rfl rfl rfl rfl) (fun _ _ _ _ h => h)) (pa_cons (pv 1) (pa_cons (pe_op op_sub (pe_callB call_len_seq (by rfl) z_len boot_len (pa_cons (pv 2) pa_nil)) (pv 1)) (pa_cons (pv 2) pa_nil)))))))))), ?_⟩
    have szl : 20000 ≤ sizeLine := by decide
    refine ⟨(by show 0 ≤ sizeLine; omega), fun B nB => ?_⟩
    have sB : Same H (upd H B (.lst ((([] : List Int)).map V.int))) := same_upd nB
    refine ⟨_, rfl, x, rfl, hx, for_it walk_enumS (fun i σ H' => ∃ (n : Option Int) (l : List Int) (v3 v4 : Option V), σ = [some (.str x), some (oV n), some (.ref B), v3, v4] ∧ SameBut B H H' ∧ H' B = some (.lst (l.map V.int)) ∧ GoodR n l ∧ (∀ y ∈ l, 0 ≤ y ∧ y < 12) ∧ l.length ≤ i ∧ rdGo n l i (x.cps.toList.drop i) = rdX x)
      ⟨none, [], none, none, rfl, SameBut.upd, upd_same, Nat.zero_le 8, (fun y hy => nomatch hy), Nat.le_refl _, rfl⟩ (fun i σ H' _ _ => trivial) (fun i y σ H3 H4 hi hP hy => ?_) (fun σ H' hP => ?_)⟩
    · obtain ⟨n, l, v3, v4, rfl, sb, hB, gr, hm, li, er⟩ := hP
      obtain ⟨p, u, y', rfl, np, rfl, ex, ey⟩ := hy
      obtain rfl : V.int (i : Nat) = u := Option.some.inj ex
      obtain ⟨c, ec, rfl⟩ := Option.map_eq_some_iff.mp ey
      have ed : x.cps.toList.drop i = c :: x.cps.toList.drop (i + 1) := by
        have hi2 : i < x.cps.toList.length := hi
        rw [List.drop_eq_getElem_cons hi2]
        have : x.cps.toList[i]? = some c := by rw [Array.getElem?_toList]; exact ec
        rw [List.getElem?_eq_getElem hi2] at this
        rw [Option.some.inj this]
      rw [ed, rdGo_cons] at er
      have nBp : B ≠ p := ne_of_none hB np
      refine ⟨p, _, rfl, .inl (.inl upd_same), rfl, _, _, rfl, _, _, rfl, rfl, ?_⟩
      have sb4 : SameBut B H (upd H3 p (.tup [.int (i : Nat), .str ⟨#[c]⟩])) := sb.trans (fun b o nb hb => same_upd np b o hb)
      have hB4 : upd H3 p (.tup [.int (i : Nat), .str ⟨#[c]⟩]) B = some (.lst (l.map V.int)) := same_upd np _ _ hB
      revert sb4 hB4
      generalize upd H3 p (.tup [.int (i : Nat), .str ⟨#[c]⟩]) = H5
      intro sb4 hB4
      refine ⟨_, rfl, rfl, _, rfl, ?_⟩
      rw [bar_eq]
      by_cases cb : c = 124 ∧ n = none
      · obtain ⟨rfl, rfl⟩ := cb
        rw [if_pos ⟨rfl, rfl⟩] at er
        refine iteT ⟨_, rfl, rfl, _, rfl, iteT ⟨_, rfl, B, _, rfl, .inl (.inl (.inl hB4)), ?_⟩⟩
        rw [List.length_map]
        exact ⟨some (l.length : Nat), l, _, _, rfl, sb4, hB4, gr.bar, hm, by omega, er⟩
      · rw [if_neg cb] at er
        unfold nextOk at er
        have sH : Same H H5 := fun b o e => sb4 b o (ne_of_none e nB) e
        have hlx : x.cps.size ≤ 1000 := hl
        have hi2 : i < x.cps.size := hi
        rcases (show c ≠ 124 ∨ (c = 124 ∧ ∃ k, n = some k) from by
          by_cases c1 : c = 124
          · cases n with
            | none => exact absurd ⟨c1, rfl⟩ cb
            | some k => exact .inr ⟨c1, k, rfl⟩
          · exact .inl c1) with c1 | ⟨c1, k, en⟩
        · rw [decide_eq_false c1]
          refine iteF ?_
          refine ⟨_, rfl, _, rfl, n, B, l, rfl, .inl (.inl hB4), _, rfl, ?_⟩
          cases hr2 : roomB n l.length with
          | false =>
            rw [hr2, Bool.false_and] at er
            exact iteF (iteF ⟨_, rfl, mal_made OX_Malformed.T OX_Malformed.na fun d H' s' nd hd => q1 _ er.symm d H' (Same.trans sH s') (none_back sH nd) hd⟩)
          | true =>
            rw [hr2, Bool.true_and] at er
            refine iteT ⟨_, rfl, _, rfl, B, l, rfl, .inl (.inl hB4), hm, c, _, rfl, rfl, _, rfl, ?_⟩
            by_cases ci : c ∈ (firstL ((fresh l).toNat + 1)).cps.toList
            · rw [decide_eq_true ci]
              rw [if_pos (decide_eq_true ci)] at er
              have ci2 := first_sub ci
              refine iteT ⟨_, rfl, .inl ⟨rfl, _, .inl (.inl hB4)⟩, rfl, _, rfl, _, _, rfl, rfl, fun k hk => ?_, fun hk => ?_⟩
              · rw [ix_twelve c ci2] at hk
                obtain rfl := Option.some.inj hk
                refine ⟨B, _, _, rfl, rfl, hB4, by rw [List.length_map]; omega, ?_⟩
                refine ⟨n, l ++ [ixL c], _, _, rfl, sb4.trans SameBut.upd, ?_, gr.more hr2, ?_, ?_, er⟩
                · rw [upd_same, List.map_append]
                  rfl
                · intro y hy
                  rcases List.mem_append.mp hy with hy | hy
                  · exact hm y hy
                  · rw [List.mem_singleton.mp hy]
                    exact ixL_in ci2
                · rw [List.length_append]
                  show l.length + 1 ≤ i + 1
                  omega
              · rw [ix_twelve c ci2] at hk
                exact nomatch hk
            · rw [decide_eq_false ci]
              rw [if_neg (by rw [decide_eq_false ci]; exact Bool.false_ne_true)] at er
              exact iteF ⟨_, rfl, mal_made OX_Malformed.T OX_Malformed.na fun d H' s' nd hd => q1 _ er.symm d H' (Same.trans sH s') (none_back sH nd) hd⟩
        · rw [decide_eq_true c1]
          refine iteT ⟨_, rfl, rfl, _, rfl, ?_⟩
          have e0 : decide (oV n = V.non) = false := by rw [non_eq, en]; rfl
          rw [e0]
          refine iteF ?_
          refine ⟨_, rfl, _, rfl, n, B, l, rfl, .inl (.inl hB4), _, rfl, ?_⟩
          cases hr2 : roomB n l.length with
          | false =>
            rw [hr2, Bool.false_and] at er
            exact iteF (iteF ⟨_, rfl, mal_made OX_Malformed.T OX_Malformed.na fun d H' s' nd hd => q1 _ er.symm d H' (Same.trans sH s') (none_back sH nd) hd⟩)
          | true =>
            rw [hr2, Bool.true_and] at er
            refine iteT ⟨_, rfl, _, rfl, B, l, rfl, .inl (.inl hB4), hm, c, _, rfl, rfl, _, rfl, ?_⟩
            by_cases ci : c ∈ (firstL ((fresh l).toNat + 1)).cps.toList
            · rw [decide_eq_true ci]
              rw [if_pos (decide_eq_true ci)] at er
              have ci2 := first_sub ci
              refine iteT ⟨_, rfl, .inl ⟨rfl, _, .inl (.inl hB4)⟩, rfl, _, rfl, _, _, rfl, rfl, fun k hk => ?_, fun hk => ?_⟩
              · rw [ix_twelve c ci2] at hk
                obtain rfl := Option.some.inj hk
                refine ⟨B, _, _, rfl, rfl, hB4, by rw [List.length_map]; omega, ?_⟩
                refine ⟨n, l ++ [ixL c], _, _, rfl, sb4.trans SameBut.upd, ?_, gr.more hr2, ?_, ?_, er⟩
                · rw [upd_same, List.map_append]
                  rfl
                · intro y hy
                  rcases List.mem_append.mp hy with hy | hy
                  · exact hm y hy
                  · rw [List.mem_singleton.mp hy]
                    exact ixL_in ci2
                · rw [List.length_append]
                  show l.length + 1 ≤ i + 1
                  omega
              · rw [ix_twelve c ci2] at hk
                exact nomatch hk
            · rw [decide_eq_false ci]
              rw [if_neg (by rw [decide_eq_false ci]; exact Bool.false_ne_true)] at er
              exact iteF ⟨_, rfl, mal_made OX_Malformed.T OX_Malformed.na fun d H' s' nd hd => q1 _ er.symm d H' (Same.trans sH s') (none_back sH nd) hd⟩
    · obtain ⟨n, l, v3, v4, rfl, sb, hB, gr, hm, li, er⟩ := hP
      have hlx : x.cps.size ≤ 1000 := hl
      have sH : Same H H' := fun b o e => sb b o (ne_of_none e nB) e
      rw [show x.cps.toList.drop x.cps.size = [] from List.drop_of_length_le (Nat.le_refl x.cps.size)] at er
      cases n with
      | none =>
        have er : Sum.inl ((x.cps.size : Nat) : Int) = rdX x := er
        exact ⟨_, rfl, rfl, _, rfl, iteT ⟨_, rfl, x, rfl, (by show x.cps.size ≤ _; omega), mal_made OX_Malformed.T OX_Malformed.na fun d H9 s' nd hd => q1 _ er.symm d H9 (Same.trans sH s') (none_back sH nd) hd⟩⟩
      | some k =>
        have er : Sum.inr (k, l) = rdX x := er
        have gr : 0 ≤ k ∧ k ≤ 8 ∧ k ≤ (l.length : Int) ∧ l.length ≤ 12 ∧ (l.length : Int) - k ≤ 8 := gr
        have sz : siz k ((l.length : Int) - k) = true := siz_iff.mpr (by omega)
        refine ⟨_, rfl, rfl, _, rfl, iteF ⟨_, rfl, _, rfl, B, _, rfl, .inl (.inl (.inl hB)), _, rfl, _, _, rfl, rfl, _, rfl, ?_⟩⟩
        rw [List.length_map]
        exact ⟨k, _, B, l, rfl, .inl (.inl hB), by omega, (fun z => by rw [sz] at z; exact nomatch z), fun _ => ⟨fun z => absurd (by omega) z, fun _ v H9 s9 dv => q2 k l er.symm sz hm v H9 (Same.trans sH s9) dv⟩⟩
end

theorem fresh_snoc (l : List Int) (a : Int) : fresh (l ++ [a]) = if a + 1 > fresh l then a + 1 else fresh l := by
  induction l with
  | nil => rfl
  | cons b l ih =>
    show (if b + 1 > fresh (l ++ [a]) then b + 1 else fresh (l ++ [a])) = if a + 1 > (if b + 1 > fresh l then b + 1 else fresh l) then a + 1 else (if b + 1 > fresh l then b + 1 else fresh l)
    rw [ih]
    repeat' split
    all_goals omega
theorem occ_twelve : ∀ c ∈ twelve.cps.toList, Builtin.Str.occurrences "abcdefghijkl" ⟨#[c]⟩ 0 ("abcdefghijkl" : Str).length 1 = [twelve.cps.toList.idxOf c] := by decide +kernel
def faultI (r : Int ⊕ (Int × List Int)) : Int := match r with
  | .inl i => i
  | .inr _ => -1
def BarAt (i : Nat) : Option Int → List Int → Int → Prop
  | none, l, b => b = -1 ∧ l.length = i
  | some k, l, b => b = k ∧ l.length + 1 = i
theorem no_bar : ¬ (124 : Nat) ∈ twelve.cps.toList := by decide +kernel
theorem room_iff {n : Option Int} {l : List Int} {i : Nat} {b : Int} (g : GoodR n l) (h : BarAt i n l b) : roomB n l.length = !(decide ((0 : Int) + (i : Int) - b - 1 = 8) || decide ((l.length : Int) = 12)) := by
  cases n with
  | none =>
    have g : l.length ≤ 8 := g
    obtain ⟨h1, h2⟩ := h
    show decide (l.length < 8) = _
    by_cases c : l.length < 8
    · rw [decide_eq_true c, decide_eq_false (by omega), decide_eq_false (by omega)]
      rfl
    · rw [decide_eq_false c, decide_eq_true (show (0 : Int) + (i : Int) - b - 1 = 8 by omega)]
      rfl
  | some k =>
    have g : 0 ≤ k ∧ k ≤ 8 ∧ k ≤ (l.length : Int) ∧ l.length ≤ 12 ∧ (l.length : Int) - k ≤ 8 := g
    obtain ⟨h1, h2⟩ := h
    show (decide (l.length < 12) && decide ((l.length : Int) - k < 8)) = _
    by_cases c : l.length < 12
    · rw [decide_eq_true c, decide_eq_false (show ¬ (l.length : Int) = 12 by omega), Bool.or_false, Bool.true_and]
      by_cases c2 : (l.length : Int) - k < 8
      · rw [decide_eq_true c2, decide_eq_false (by omega)]
        rfl
      · rw [decide_eq_false c2, decide_eq_true (by omega)]
        rfl
    · rw [decide_eq_false c, decide_eq_true (show (l.length : Int) = 12 by omega), Bool.or_true]
      rfl
theorem GoodR.le {n : Option Int} {l : List Int} (g : GoodR n l) : l.length ≤ 12 := by
  cases n with
  | none =>
    have g : l.length ≤ 8 := g
    omega
  | some k => exact g.2.2.2.1
theorem BarAt.more {i : Nat} {n : Option Int} {l : List Int} {b z : Int} (h : BarAt i n l b) : BarAt (i + 1) n (l ++ [z]) b := by
  cases n with
  | none => exact ⟨h.1, by rw [List.length_append]; show l.length + 1 = _; rw [h.2]⟩
  | some k => exact ⟨h.1, by rw [List.length_append]; show l.length + 1 + 1 = _; rw [h.2]⟩
theorem int_eq (a b : Int) : decide (V.int a = V.int b) = decide (a = b) := decide_eq_decide.mpr ⟨V.int.inj, congrArg _⟩
section
variable {P : Program} {w : World} {K : PySem.W.Frag} {mg : Str → Option Value} {base : Heap}
/-! ### _law_fault -/
def spFault : Sp := fun vs H Q _ => ∃ (x : Str), vs = [.str x] ∧ x.length ≤ 1000 ∧ ∀ H', Same H H' → Q (.int (faultI (rdX x))) H'
theorem ok_law_fault {f : Addr} {fd : FuncData} (F : Fun K "_law_fault" "_law_fault" s_law_fault f fd) (z_len : mg "len" = none) (z_range : mg "range" = none) (z_max : mg "max" = none) : FnOk P w K mg base CX0 1 f fd ["text"] spFault := by
  refine F.ok sc_law_fault (fun vs H Q E h => ?_) (fun cdv A outer s H vs Q E hr h => ?_)
  · obtain ⟨x, rfl, _⟩ := h
    rfl
  · obtain ⟨x, rfl, hl, q⟩ := h
    refine ⟨_, (pss_cons (ps_set (i := 1) sc_law_fault.nd rfl (.inl rfl) (pe_lst pa_nil))
  (pss_cons (ps_set (i := 2) sc_law_fault.nd rfl (.inl rfl) (pe_un un_neg pe_int))
  (pss_cons (ps_for PassesOwn.never rfl (pi_range1 rfl z_range (pa_cons (pe_callB call_len_str (by rfl) z_len boot_len (pa_cons (pv 0) pa_nil)) pa_nil)) (pg_name (i := 3) sc_law_fault.nd rfl (.inl rfl)) (pss_cons (ps_set (i := 4) sc_law_fault.nd rfl (.inl rfl) (pe_ix ix_str (pv 0) (pv 3) (fun _ _ => rfl)))
  (pss_one (ps_if (pt_cmpR op_eq (pv 4) pe_str (nomark _)) (pss_cons (ps_if (pt_cmpR op_ge (pv 2) pe_int (nomark _)) (pss_one (ps_ret (pv 3))) pss_nil)
  (pss_one (ps_set (i := 2) sc_law_fault.nd rfl (.inl rfl) (pv 3)))) (pss_cons (ps_set (i := 5) sc_law_fault.nd rfl (.inl rfl) (pe_op op_sub (pe_op op_sub (pv 3) (pv 2)) pe_int))
  (pss_cons (ps_set (i := 6) sc_law_fault.nd rfl (.inl rfl) pe_int)
  (pss_cons (ps_for PassesOwn.never rfl (pi_list (pv 1)) (pg_name (i := 7) sc_law_fault.nd rfl (.inl rfl)) (pss_one (ps_set (i := 6) sc_law_fault.nd rfl (.inl rfl) (pe_callB (call_max2 rfl) (by rfl) z_max boot_max (pa_cons (pv 6) (pa_cons (pe_op op_add (pv 7) pe_int) pa_nil))))))
  (pss_cons (ps_if (L2.PW.pt (pw_or (pt_cmpR op_notIn_sign (pv 4) (pe_slice sl_str pe_str po_none (po_some (pe_op op_add (pv 6) pe_int))) (by with_unfolding_all rfl)) (pw_or (pt_cmpR op_eq (pv 5) pe_int (nomark _)) (pw_or1 (pt_cmpR op_eq (pe_callB call_len_seq (by rfl) z_len boot_len (pa_cons (pv 1) pa_nil)) pe_int (nomark _)))))) (pss_one (ps_ret (pv 3))) pss_nil)
  (pss_one (ps_expr (pe_bm PySem.F.plainAttrs_list PySem.F.slot_list_append PySem.F.type_list_append mt_append (pv 1) (pa_cons (pe_bm PySem.F.plainAttrs_str PySem.F.slot_str_index PySem.F.type_str_index mt_sindex pe_str (pa_cons (pv 4) pa_nil)) pa_nil))))))))))))
  (pss_one (ps_ret (pe_ifExp (pt_cmpR op_ge (pv 2) pe_int (nomark _)) (pe_un un_neg pe_int) (pe_callB call_len_str (by rfl) z_len boot_len (pa_cons (pv 0) pa_nil)))))))), ?_⟩
    have szl : 20000 ≤ sizeLine := by decide
    refine ⟨(by show 0 ≤ sizeLine; omega), fun B nB => ?_⟩
    refine ⟨_, rfl, ?_⟩
    have hlx : x.cps.size ≤ 1000 := hl
    have hlen : x.length = x.cps.size := rfl
    refine ⟨_, rfl, x, rfl, by omega, _, rfl, by omega, by omega, for_range (lo := 0) (n := x.cps.size) (fun i σ H' => ∃ (b : Int) (n : Option Int) (l : List Int) (v3 v4 v5 v6 v7 : Option V), σ = [some (.str x), some (.ref B), some (.int b), v3, v4, v5, v6, v7] ∧ SameBut B H H' ∧ H' B = some (.lst (l.map V.int)) ∧ GoodR n l ∧ (∀ y ∈ l, 0 ≤ y ∧ y < 12) ∧ BarAt i n l b ∧ rdGo n l i (x.cps.toList.drop i) = rdX x)
      ⟨-1, none, [], none, none, none, none, none, rfl, SameBut.upd, upd_same, Nat.zero_le 8, (fun y hy => nomatch hy), ⟨rfl, rfl⟩, rfl⟩ (fun i σ H3 hi hP => ?_) (fun σ H' hP => ?_)⟩
    · obtain ⟨b, n, l, v3, v4, v5, v6, v7, rfl, sb, hB, gr, hm, ba, er⟩ := hP
      have hi2 : i < x.cps.toList.length := hi
      obtain ⟨c, ec⟩ : ∃ c, x.cps.toList[i]? = some c := ⟨_, List.getElem?_eq_getElem hi2⟩
      have ed : x.cps.toList.drop i = c :: x.cps.toList.drop (i + 1) := by
        rw [List.drop_eq_getElem_cons hi2]
        rw [List.getElem?_eq_getElem hi2] at ec
        rw [Option.some.inj ec]
      rw [ed, rdGo_cons] at er
      have e0 : (0 : Int) + (i : Int) = ((i : Nat) : Int) := Int.zero_add _
      have sH : Same H H3 := fun b o e => sb b o (ne_of_none e nB) e
      have out : rdX x = .inl ((i : Nat) : Int) → Q (.int ((0 : Int) + (i : Int))) H3 := fun e => by
        have := q H3 sH
        rw [e] at this
        rw [e0]
        exact this
      refine ⟨_, rfl, _, rfl, x, _, c, rfl, rfl, by omega, by rw [e0]; exact atI_nat ec, ?_⟩
      refine ⟨_, rfl, rfl, _, rfl, ?_⟩
      rw [bar_eq]
      by_cases c1 : c = 124
      · rw [decide_eq_true c1]
        refine iteT ⟨_, rfl, _, _, rfl, rfl, _, rfl, ?_⟩
        cases n with
        | none =>
          obtain ⟨rfl, ll⟩ := ba
          rw [if_pos ⟨c1, rfl⟩] at er
          refine iteF ⟨_, rfl, ?_⟩
          exact ⟨_, some (l.length : Nat), l, _, _, _, _, _, rfl, sb, hB, gr.bar, hm, ⟨by omega, by omega⟩, er⟩
        | some k =>
          have gr0 : 0 ≤ k := gr.1
          obtain ⟨rfl, ll⟩ := ba
          rw [if_neg (fun z => nomatch z.2)] at er
          have no : nextOk (some b) l c = false := by
            unfold nextOk
            rw [decide_eq_false (fun z => no_bar (by rw [← c1]; exact first_sub z)), Bool.and_false]
          rw [no, if_neg Bool.false_ne_true] at er
          rw [decide_eq_true (show b ≥ 0 by omega)]
          exact iteT ⟨_, rfl, out er.symm⟩
      · rw [decide_eq_false c1]
        rw [if_neg (fun z => c1 z.1)] at er
        refine iteF ?_
        refine ⟨_, rfl, _, rfl, _, _, rfl, rfl, _, _, rfl, rfl, ?_⟩
        refine ⟨_, rfl, B, rfl, ⟨_, .inl (.inl hB)⟩, for_list (xs := l.map V.int) (fun j σ H' => ∃ (v7 : Option V), H' = H3 ∧ σ = [some (.str x), some (.ref B), some (.int b), some (.int ((0 : Int) + (i : Int))), some (.str ⟨#[c]⟩), some (.int ((0 : Int) + (i : Int) - b - 1)), some (.int (fresh (l.take j))), v7])
          ⟨v7, rfl, rfl⟩ (fun j σ H' hj ⟨_, e, _⟩ => by subst e; exact .inl (.inl hB)) (fun j y σ H' hj hP => ?_) (fun σ H' hP => ?_)⟩
        · obtain ⟨v7, rfl, rfl⟩ := hP
          have hj2 : j < l.length := by
            have := (List.getElem?_eq_some_iff.mp hj).1
            rw [List.length_map] at this
            exact this
          rw [List.getElem?_map, List.getElem?_eq_getElem hj2] at hj
          have hy : V.int l[j] = y := Option.some.inj hj
          rw [← hy]
          refine ⟨_, rfl, _, rfl, _, _, rfl, rfl, _, _, rfl, ?_⟩
          have e : fresh (l.take (j + 1)) = if l[j] + 1 > fresh (l.take j) then l[j] + 1 else fresh (l.take j) := by
            rw [List.take_succ, List.getElem?_eq_getElem hj2]
            exact fresh_snoc _ _
          refine ⟨some (.int l[j]), rfl, ?_⟩
          rw [e]
          rfl
        · obtain ⟨v7, rfl, rfl⟩ := hP
          rw [List.length_map, List.take_length]
          unfold nextOk at er
          rw [room_iff gr ba] at er
          have f0 := fresh_pos l
          refine ⟨_, rfl, _, rfl, _, _, rfl, rfl, _, rfl, _, rfl, by decide, c, _, rfl, rfl, _, rfl, ?_⟩
          rw [show fresh l + 1 = (((fresh l).toNat + 1 : Nat) : Int) by omega, cut_first]
          by_cases ci : c ∈ (firstL ((fresh l).toNat + 1)).cps.toList
          · have ci2 := first_sub ci
            rw [decide_eq_true ci] at er ⊢
            refine iteF ⟨_, rfl, rfl, _, rfl, ?_⟩
            rw [int_eq]
            by_cases d8 : (0 : Int) + (i : Int) - b - 1 = 8
            · rw [decide_eq_true d8] at er ⊢
              have er : Sum.inl ((i : Nat) : Int) = rdX x := er
              exact iteT (iteT ⟨_, rfl, out er.symm⟩)
            · rw [decide_eq_false d8] at er ⊢
              refine iteF ⟨_, rfl, B, _, rfl, .inl (.inl (.inl hB)), rfl, _, rfl, ?_⟩
              rw [List.length_map, int_eq]
              by_cases d12 : (l.length : Int) = 12
              · rw [decide_eq_true d12] at er ⊢
                have er : Sum.inl ((i : Nat) : Int) = rdX x := er
                exact iteT ⟨_, rfl, out er.symm⟩
              · rw [decide_eq_false d12] at er ⊢
                have er : rdGo n (l ++ [ixL c]) (i + 1) (x.cps.toList.drop (i + 1)) = rdX x := er
                refine iteF ⟨_, rfl, .inl ⟨rfl, _, .inl (.inl hB)⟩, rfl, _, rfl, _, _, _, _, rfl, rfl, occ_twelve c ci2, B, _, _, rfl, rfl, hB, by rw [List.length_map]; have := gr.le; omega, ?_⟩
                have rm : roomB n l.length = true := by rw [room_iff gr ba, decide_eq_false d8, decide_eq_false d12]; rfl
                refine ⟨b, n, l ++ [ixL c], _, _, _, _, _, rfl, sb.trans SameBut.upd, ?_, gr.more rm, ?_, ba.more, er⟩
                · rw [upd_same, List.map_append]
                  rfl
                · intro y hy
                  rcases List.mem_append.mp hy with hy | hy
                  · exact hm y hy
                  · rw [List.mem_singleton.mp hy]
                    exact ixL_in ci2
          · rw [decide_eq_false ci] at er ⊢
            rw [Bool.and_false, if_neg Bool.false_ne_true] at er
            exact iteT (iteT ⟨_, rfl, out er.symm⟩)
    · obtain ⟨b, n, l, v3, v4, v5, v6, v7, rfl, sb, hB, gr, hm, ba, er⟩ := hP
      have sH : Same H H' := fun b o e => sb b o (ne_of_none e nB) e
      rw [show x.cps.toList.drop x.cps.size = [] from List.drop_of_length_le (Nat.le_refl x.cps.size)] at er
      refine ⟨_, rfl, _, _, rfl, rfl, _, rfl, ?_⟩
      have qq := q H' sH
      cases n with
      | none =>
        obtain ⟨rfl, ll⟩ := ba
        have er : Sum.inl ((x.cps.size : Nat) : Int) = rdX x := er
        rw [← er] at qq
        exact iteF ⟨_, rfl, x, rfl, by omega, qq⟩
      | some k =>
        have gr0 : 0 ≤ k := gr.1
        obtain ⟨rfl, ll⟩ := ba
        have er : Sum.inr (b, l) = rdX x := er
        rw [← er] at qq
        rw [decide_eq_true (show b ≥ 0 by omega)]
        exact iteT ⟨_, rfl, qq⟩
end

structure ErrM (K : PySem.W.Frag) (C : Addr) : Prop where
  bc : PySem.W.subIn K (.ref C) (.type "BaseException") = some true
  hd : PySem.W.hasDictIn K C = true
  ty : PySem.W.typeIn K (.ref C) = some (.type "type")
  sl : PySem.W.subIn K (.ref C) (.ref C) = some true
structure WorE (K : PySem.W.Frag) (mg : Str → Option Value) (CE CM : Addr) : Prop where
  ge : mg "WorthError" = some (.ref CE)
  x_m : ExcC K CM
  k_m : PySem.W.kitOne K (.ref CM) (.ref CE) = some true
section
variable {P : Program} {w : World} {K : PySem.W.Frag} {mg : Str → Option Value} {base : Heap}
/-! ### _law_told, _law_refuses -/
def spToldX : Sp := fun vs H Q _ => ∃ (x : Str), vs = [.str x] ∧ x.cps.all (· < 128) = true ∧ x.length ≤ 1000 ∧ (∀ i, rdX x = .inl i → ∀ H', Same H H' → Q (.int i) H') ∧
  (∀ n l, rdX x = .inr (n, l) → siz n ((l.length : Int) - n) = true → (∀ y ∈ l, 0 ≤ y ∧ y < 12) → ∀ v H', Same H H' → DGv H' v n ((l.length : Int) - n) (blocksOf l) → Q v H')
theorem ok_told17 {f CM CE fI a_read_diagram : Addr} {fd fd_read_diagram : FuncData} (F : Fun K "_law_told" "_law_told" s_law_told f fd) (z_isinstance : mg "isinstance" = none) (OX_Malformed : MalC K mg CM fI) (XM : XfC K CM) (ZM : ErrM K CM) (TE : WorE K mg CE CM)
    (G_read_diagram : FnOk P w K mg base (L2.CX P w) 4 a_read_diagram fd_read_diagram ["text"] (spReadD CM)) (g_read_diagram : mg "read_diagram" = some (.ref a_read_diagram)) (k_read_diagram : PySem.W.keepIn K (.ref a_read_diagram) = true) (b_read_diagram : Binds K fd_read_diagram ["text"] []) :
    FnOk P w K mg base CX0 5 f fd ["text"] spToldX := by
  have gc_Malformed := OX_Malformed.gc
  have m_WorthError := TE.ge
  have r_WorthError : RelV (.ref CE) (.ref CE) := rfl
  have eM := PySem.W.exm_ref ZM.bc ZM.hd ZM.ty ZM.sl
  refine F.ok sc_law_told (fun vs H Q E h => ?_) (fun cdv A outer s H vs Q E hr1 h => ?_)
  · obtain ⟨x, rfl, _⟩ := h
    rfl
  · obtain ⟨x, rfl, hx, hl, q1, q2⟩ := h
    refine ⟨_, (pss_cons (ps_try_as (i := 1) (Wout := fun _ _ _ _ => False) rfl rfl sc_law_told.nd rfl rfl ⟨rfl, by decide, .inl gc_Malformed⟩ takes0 (fun W pn xe tk _ => by exact (pss_one (ps_ret (pe_callS G_read_diagram (hr1.mono (by decide)) rfl g_read_diagram k_read_diagram b_read_diagram (fun σ => passAt tk σ) (pa_cons (pv 0) pa_nil))))) (fun ax oe cls dx pn hz hf => by exact (pss_one (ps_if (pt_val (pe_callB (call_isED hz hf) (by rfl) z_isinstance boot_isinstance (pa_cons (pv 1) (pa_cons (pe_glob rfl m_WorthError r_WorthError) pa_nil)))) (pss_one (ps_ret (pe_xf XM OX_Malformed.na hz hf (pv 1)))) pss_nil))))
  (pss_one (ps_ret pe_non))), ?_⟩
    refine ⟨_, rfl, x, rfl, hx, hl, fun i er dd H' s' nd hd => ?_, fun n l er sz hm v H' s' dv => ?_⟩
    · refine ⟨true, eM, fun _ ax nx => ?_, fun z => nomatch z⟩
      exact ⟨_, rfl, CM, dd, _, _, _, true, rfl, rfl, hd, TE.x_m, rfl, fun _ r => r, TE.k_m, _, rfl, iteT ⟨_, rfl, rfl, rfl, dd, _, .int i, rfl, hd, rfl, q1 i er H' s'⟩⟩
    · exact q2 n l er sz hm v H' s' dv
def spRefX : Sp := fun vs H Q _ => ∃ (v : V) (n m : Int) (bs : List (List Int)), vs = [v] ∧ DGv H v n m bs ∧ DgOk n m bs ∧ ¬ IsDg n m bs ∧ ∀ H', Same H H' → Q (.bl true) H'
theorem ok_refuses17 {f CD a_text_of : Addr} {fd fd_text_of : FuncData} (F : Fun K "_law_refuses" "_law_refuses" s_law_refuses f fd) (gc_NotDiagram : mg "NotDiagram" = some (.ref CD)) (ZD : ErrM K CD)
    (G_text_of : FnOk P w K mg base (L2.CX P w) 5 a_text_of fd_text_of ["diagram"] (spTextOf CD)) (g_text_of : mg "text_of" = some (.ref a_text_of)) (k_text_of : PySem.W.keepIn K (.ref a_text_of) = true) (b_text_of : Binds K fd_text_of ["diagram"] []) :
    FnOk P w K mg base CX0 6 f fd ["diagram"] spRefX := by
  have eD := PySem.W.exm_ref ZD.bc ZD.hd ZD.ty ZD.sl
  refine F.ok sc_law_refuses (fun vs H Q E h => ?_) (fun cdv A outer s H vs Q E hr1 h => ?_)
  · obtain ⟨v, n, m, bs, rfl, _⟩ := h
    rfl
  · obtain ⟨v, n, m, bs, rfl, hv, hb, nd, q⟩ := h
    refine ⟨_, (pss_cons (ps_try_only (Wout := fun _ _ _ _ => False) rfl rfl ⟨rfl, by decide, .inl gc_NotDiagram⟩ takes0 (fun W pn xe tk _ => by exact (pss_one (ps_expr (pe_callS G_text_of (hr1.mono (by decide)) rfl g_text_of k_text_of b_text_of (fun σ => passAt tk σ) (pa_cons (pv 0) pa_nil))))) (fun ax oe cls dx pn hz hf => by exact (pss_one (ps_ret pe_bl))))
  (pss_one (ps_ret pe_bl))), ?_⟩
    exact ⟨_, rfl, v, n, m, bs, rfl, hv, hb, .inl ⟨nd, fun H' s' => ⟨true, eD, fun _ ax nx => q H' s', fun z => (nomatch z)⟩⟩⟩
end

open TL
theorem op_mul_str {X : Cx} : OpR X (binaryOp .Mult) (fun x y H Q => ∃ (i : Str) (n : Int), x = .str i ∧ y = .int n ∧ MulOk i n ∧ Q (.str (Txt.mul i n)) H) := by
  intro pins s σ H x y v u Q I rx ry h
  obtain ⟨i, n, rfl, rfl, hc, q⟩ := h
  obtain ⟨t, rfl⟩ := rx
  obtain ⟨t', rfl⟩ := ry
  exact PySem.SB.mul hc (fun t2 k => ⟨.str _, H, I.tok k, ⟨_, rfl⟩, q⟩)
section
variable {P : Program} {w : World} {K : PySem.W.Frag} {mg : Str → Option Value} {base : Heap}
/-! ### _law_spoilt of a text -/
def Asc (x : Str) : Prop := x.cps.all (· < 128) = true
theorem asc_iff {x : Str} : Asc x ↔ ∀ c ∈ x.cps.toList, c < 128 := by
  unfold Asc
  rw [← Array.all_toList, List.all_eq_true]
  exact ⟨fun h c hc => of_decide_eq_true (h c hc), fun h c hc => decide_eq_true (h c hc)⟩
theorem asc_cut {x : Str} (lo hi : Option Int) (h : Asc x) : Asc (cutS x lo hi) := asc_iff.mpr fun c hc => asc_iff.mp h c (List.mem_of_mem_drop (List.mem_of_mem_take hc))
theorem asc_app {x y : Str} (h : Asc x) (g : Asc y) : Asc (x ++ y) := asc_iff.mpr fun c hc => by
  have hc : c ∈ tl (x ++ y) := hc
  rw [tl_append] at hc
  exact (List.mem_append.mp hc).elim (asc_iff.mp h c) (asc_iff.mp g c)
theorem len_app (x y : Str) : (x ++ y).length = x.length + y.length := by rw [len_tl, tl_append, List.length_append, ← len_tl, ← len_tl]
theorem fold_a : ∀ (k : Nat) (z : Array Nat), ((List.replicate k #[97]).foldl (· ++ ·) z).toList = z.toList ++ List.replicate k 97
  | 0, z => (List.append_nil _).symm
  | k + 1, z => by
    show ((List.replicate k #[97]).foldl (· ++ ·) (z ++ #[97])).toList = _
    rw [fold_a k, Array.toList_append, List.append_assoc]
    rfl
theorem mul_a {n : Int} (h : 2 ≤ n) : Txt.mul "a" n = ⟨(List.replicate n.toNat 97).toArray⟩ := by
  refine ext_tl ?_
  have e1 : ¬ n < 1 := by omega
  have e2 : (n == 1 || ("a" : Str).length == 0) = false := by
    rw [show (("a" : Str).length == 0) = false from rfl, Bool.or_false]
    exact beq_false_of_ne (by omega)
  unfold Txt.mul
  rw [if_neg e1, e2, if_neg Bool.false_ne_true]
  exact fold_a n.toNat #[]
theorem mulOk_a {n : Int} (h : 2 ≤ n) (g : n ≤ 1100) : MulOk "a" n := by
  have e3 : ("a" : Str).length = 1 := rfl
  refine ⟨?_, fun _ _ => ?_, fun _ _ => ?_⟩
  · rw [decide_eq_false (by omega), decide_eq_false (by omega)]
    rfl
  · rw [e3]
    have : (1 : Int) ≤ (2 ^ 63 - 1) / n := by
      rw [Int.le_ediv_iff_mul_le (by omega)]
      omega
    omega
  · rw [e3]
    have szl : 20000 ≤ sizeLine := by decide
    exact decide_eq_false (by omega)
theorem asc_twelve : Asc twelve := by
  unfold Asc
  decide +kernel
def elevenS : Str := "abcdklm|A- "
theorem eleven_at : ∀ g, g < 11 → elevenS.cps.toList[g]? = some (elevenS.cps.toList.getD g 0) ∧ elevenS.cps.toList.getD g 0 < 128 := by decide +kernel
def spSpoiltX : Sp := fun vs H Q _ => ∃ (r : Addr) (ds : List Int) (x : Str), vs = [.ref r, .str x] ∧ H r = some (.lst (ds.map V.int)) ∧ Asc x ∧ x.length ≤ 1000 ∧
  ∀ (y : Str) (ds' : List Int) (H' : Hp), Asc y → y.length ≤ 2 * x.length + 12 → SameBut r H H' → H' r = some (.lst (ds'.map V.int)) → Q (.str y) H'
theorem ok_spoilt17 {f a_law_next : Addr} {fd fd_law_next : FuncData} (F : Fun K "_law_spoilt" "_law_spoilt" s_law_spoilt f fd) (z_int : mg "int" = none) (z_len : mg "len" = none)
    (G_law_next : FnOk P w K mg base CX0 1 a_law_next fd_law_next ["draws"] spNext) (g_law_next : mg "_law_next" = some (.ref a_law_next)) (k_law_next : PySem.W.keepIn K (.ref a_law_next) = true) (b_law_next : Binds K fd_law_next ["draws"] []) : FnOk P w K mg base CX0 2 f fd ["draws", "text"] spSpoiltX := by
  refine F.ok sc_law_spoilt (fun vs H Q E h => ?_) (fun cdv A outer s H vs Q E hr h => ?_)
  · obtain ⟨r, ds, x, rfl, _⟩ := h
    rfl
  · obtain ⟨r, ds, x, rfl, hL, hx, hl, q⟩ := h
    refine ⟨_, (pss_cons (ps_set (i := 2) sc_law_spoilt.nd rfl (.inl rfl) (pe_op op_mod (pe_callTy call_int1 (by rfl) z_int boot_int (pa_cons (pe_call G_law_next (hr.mono (by decide)) rfl g_law_next k_law_next b_law_next .nil pass0 (pa_cons (pv 0) pa_nil)) pa_nil)) (pe_op op_add (pe_callB call_len_str (by rfl) z_len boot_len (pa_cons (pv 1) pa_nil)) pe_int)))
  (pss_cons (ps_set (i := 3) sc_law_spoilt.nd rfl (.inl rfl) (pe_ix ix_str pe_str (pe_op op_mod (pe_callTy call_int1 (by rfl) z_int boot_int (pa_cons (pe_call G_law_next (hr.mono (by decide)) rfl g_law_next k_law_next b_law_next .nil pass0 (pa_cons (pv 0) pa_nil)) pa_nil)) pe_int) (fun _ _ => rfl)))
  (pss_cons (ps_set (i := 4) sc_law_spoilt.nd rfl (.inl rfl) (pe_op op_mod (pe_callTy call_int1 (by rfl) z_int boot_int (pa_cons (pe_call G_law_next (hr.mono (by decide)) rfl g_law_next k_law_next b_law_next .nil pass0 (pa_cons (pv 0) pa_nil)) pa_nil)) pe_int))
  (pss_cons (ps_if (pt_cmpR op_eq (pv 4) pe_int (nomark _)) (pss_one (ps_ret (pe_op op_add_str (pe_op op_add_str (pe_slice sl_str (pv 1) po_none (po_some (pv 2))) (pv 3)) (pe_slice sl_str (pv 1) (po_some (pv 2)) po_none)))) pss_nil)
  (pss_cons (ps_if (pt_cmpR op_eq (pv 4) pe_int (nomark _)) (pss_one (ps_ret (pe_op op_add_str (pe_slice sl_str (pv 1) po_none (po_some (pv 2))) (pe_slice sl_str (pv 1) (po_some (pe_op op_add (pv 2) pe_int)) po_none)))) pss_nil)
  (pss_cons (ps_if (pt_cmpR op_eq (pv 4) pe_int (nomark _)) (pss_one (ps_ret (pe_op op_add_str (pe_op op_add_str (pe_slice sl_str (pv 1) po_none (po_some (pv 2))) (pv 3)) (pe_slice sl_str (pv 1) (po_some (pe_op op_add (pv 2) pe_int)) po_none)))) pss_nil)
  (pss_cons (ps_if (pt_cmpR op_eq (pv 4) pe_int (nomark _)) (pss_one (ps_ret (pe_op op_add_str (pe_slice sl_str pe_str po_none (po_some (pv 2))) (pv 1)))) pss_nil)
  (pss_cons (ps_if (pt_cmpR op_eq (pv 4) pe_int (nomark _)) (pss_one (ps_ret (pe_op op_add_str (pv 1) (pe_op op_mul_str pe_str (pe_op op_add (pv 2) pe_int))))) pss_nil)
  (pss_one (ps_ret (pv 1))))))))))), ?_⟩
    have szl : 20000 ≤ sizeLine := by decide
    refine ⟨_, rfl, r, ds, rfl, hL, fun n0 ds0 => .inl ⟨n0, rfl, ?_⟩⟩
    have sb1 : SameBut r H (upd H r (.lst (ds0.map V.int))) := SameBut.upd
    have hr1 : upd H r (.lst (ds0.map V.int)) r = some (.lst (ds0.map V.int)) := upd_same
    revert sb1 hr1
    generalize upd H r (.lst (ds0.map V.int)) = H1
    intro sb1 hr1
    refine ⟨_, rfl, x, rfl, by omega, _, _, rfl, rfl, n0, _, rfl, rfl, by omega, ?_⟩
    refine ⟨_, rfl, r, ds0, rfl, hr1, fun n1 ds1 => .inl ⟨n1, rfl, ?_⟩⟩
    have sb2 : SameBut r H1 (upd H1 r (.lst (ds1.map V.int))) := SameBut.upd
    have hr2 : upd H1 r (.lst (ds1.map V.int)) r = some (.lst (ds1.map V.int)) := upd_same
    have sb2 := sb1.trans sb2
    revert sb2 hr2
    generalize upd H1 r (.lst (ds1.map V.int)) = H2
    intro sb2 hr2
    obtain ⟨k, hk, ek⟩ : ∃ k : Nat, k < x.length + 1 ∧ n0 % ((x.length : Nat) + 1 : Int) = (k : Int) := ⟨(n0 % ((x.length : Nat) + 1 : Int)).toNat, by have := mod_lt8 n0 (show (0 : Int) < (x.length : Nat) + 1 by omega); omega, by have := mod_lt8 n0 (show (0 : Int) < (x.length : Nat) + 1 by omega); omega⟩
    obtain ⟨g, hg, eg⟩ : ∃ g : Nat, g < 11 ∧ n1 % 11 = (g : Int) := ⟨(n1 % 11).toNat, by have := mod_lt8 n1 (show (0 : Int) < 11 by decide); omega, by have := mod_lt8 n1 (show (0 : Int) < 11 by decide); omega⟩
    obtain ⟨ea, eb⟩ := eleven_at g hg
    generalize elevenS.cps.toList.getD g 0 = c at ea eb
    refine ⟨n1, _, rfl, rfl, (show (0 : Int) < 11 by decide), elevenS, _, c, rfl, rfl, by decide, by show atI _ (n1 % 11) = _; rw [eg]; exact atI_nat ea, ?_⟩
    refine ⟨_, rfl, r, ds1, rfl, sb2, fun n2 ds2 => .inl ⟨n2, rfl, n2, _, rfl, rfl, (show (0 : Int) < 6 by decide), ?_⟩⟩
    have fin : ∀ y : Str, Asc y → y.length ≤ 2 * x.length + 12 → Q (.str y) (upd H2 r (.lst (ds2.map V.int))) := fun y hy ly => q y ds2 _ hy ly (hr2.trans SameBut.upd) upd_same
    generalize upd H2 r (.lst (ds2.map V.int)) = H3 at fin
    have mm := mod_lt8 n0 (show (0 : Int) < ((x.length : Nat) : Int) + 1 by omega)
    have hc : Asc ⟨#[c]⟩ := asc_iff.mpr fun d hd => by rw [List.mem_singleton.mp hd]; exact eb
    have lc : (⟨#[c]⟩ : Str).length = 1 := rfl
    have lt : (twelve : Str).length = 12 := by decide +kernel
    have ht : Asc twelve := asc_twelve
    have c1 : ∀ lo hi, (cutS x lo hi).length ≤ x.length := fun lo hi => cutS_length x lo hi
    have two : ∀ lo hi lo2 hi2, (cutS x lo hi ++ cutS x lo2 hi2).length ≤ 2 * x.length := fun lo hi lo2 hi2 => by
      have a1 := c1 lo hi
      have a2 := c1 lo2 hi2
      rw [len_app]
      omega
    have three : ∀ lo hi lo2 hi2, (cutS x lo hi ++ ⟨#[c]⟩ ++ cutS x lo2 hi2).length ≤ 2 * x.length + 1 := fun lo hi lo2 hi2 => by
      have a1 := c1 lo hi
      have a2 := c1 lo2 hi2
      rw [len_app, len_app, lc]
      omega
    have l2 : ∀ a b : Str, a.length ≤ 3000 → b.length ≤ 3000 → a.length + b.length ≤ sizeLine := fun a b h1 h2 => by omega
    have lx : ∀ lo hi, (cutS x lo hi).length ≤ 3000 := fun lo hi => Nat.le_trans (c1 lo hi) (by omega)
    have lx2 : ∀ lo hi, (cutS x lo hi ++ ⟨#[c]⟩).length ≤ 3000 := fun lo hi => by
      have a1 := c1 lo hi
      rw [len_app, lc]
      omega
    refine ⟨_, rfl, rfl, _, rfl, ite2 (fun _ => ?_) (fun _ => ?_)⟩
    · exact ⟨_, rfl, _, rfl, _, rfl, x, rfl, by omega, _, rfl, _, _, rfl, rfl, l2 _ _ (lx _ _) (by rw [lc]; omega), _, rfl, _, rfl, _, rfl, x, rfl, by omega, _, _, rfl, rfl, l2 _ _ (lx2 _ _) (lx _ _), fin _ (asc_app (asc_app (asc_cut _ _ hx) hc) (asc_cut _ _ hx)) (Nat.le_trans (three _ _ _ _) (by omega))⟩
    refine ⟨_, rfl, rfl, _, rfl, ite2 (fun _ => ?_) (fun _ => ?_)⟩
    · exact ⟨_, rfl, _, rfl, _, rfl, x, rfl, by omega, _, rfl, _, rfl, _, _, rfl, rfl, _, rfl, x, rfl, by omega, _, _, rfl, rfl, l2 _ _ (lx _ _) (lx _ _), fin _ (asc_app (asc_cut _ _ hx) (asc_cut _ _ hx)) (Nat.le_trans (two _ _ _ _) (by omega))⟩
    refine ⟨_, rfl, rfl, _, rfl, ite2 (fun _ => ?_) (fun _ => ?_)⟩
    · exact ⟨_, rfl, _, rfl, _, rfl, x, rfl, by omega, _, rfl, _, _, rfl, rfl, l2 _ _ (lx _ _) (by rw [lc]; omega), _, rfl, _, rfl, _, _, rfl, rfl, _, rfl, x, rfl, by omega, _, _, rfl, rfl, l2 _ _ (lx2 _ _) (lx _ _), fin _ (asc_app (asc_app (asc_cut _ _ hx) hc) (asc_cut _ _ hx)) (Nat.le_trans (three _ _ _ _) (by omega))⟩
    have ct : ∀ lo hi, (cutS twelve lo hi).length ≤ 12 := fun lo hi => by
      have := cutS_length twelve lo hi
      omega
    refine ⟨_, rfl, rfl, _, rfl, ite2 (fun _ => ?_) (fun _ => ?_)⟩
    · refine ⟨_, rfl, _, rfl, twelve, rfl, by omega, _, rfl, _, _, rfl, rfl, l2 _ _ (Nat.le_trans (ct _ _) (by omega)) (by omega), fin _ (asc_app (asc_cut _ _ ht) hx) ?_⟩
      rw [len_app]
      have := ct none (some (n0 % ((x.length : Nat) + 1 : Int)))
      refine Nat.le_trans (Nat.add_le_add_right (ct _ _) _) (by omega)
    refine ⟨_, rfl, rfl, _, rfl, ite2 (fun _ => ?_) (fun _ => ?_)⟩
    · refine ⟨_, rfl, _, rfl, _, _, rfl, rfl, _, _, rfl, rfl, mulOk_a (by omega) (by omega), ?_⟩
      rw [mul_a (by omega)]
      have la : ∀ k : Nat, (⟨(List.replicate k 97).toArray⟩ : Str).length = k := fun k => by rw [len_tl, tl_mk, List.length_replicate]
      refine ⟨_, _, rfl, rfl, l2 _ _ (by omega) (by rw [la]; omega), fin _ (asc_app hx (asc_iff.mpr fun d hd => ?_)) ?_⟩
      · have : d = 97 := List.eq_of_mem_replicate hd
        omega
      · rw [len_app, la]
        omega
    exact ⟨_, rfl, fin x hx (by omega)⟩
end

open TL
/-! ### canonical marks and their texts -/
def RG (l : List Int) : Prop := ∀ a v b, l = a ++ v :: b → 0 ≤ v ∧ v ≤ fresh a
theorem RG.nil : RG [] := fun a v b h => by
  have := congrArg List.length h
  rw [List.length_append, List.length_cons] at this
  have e : ([] : List Int).length = 0 := rfl
  omega
theorem RG.init {l : List Int} {v : Int} (h : RG (l ++ [v])) : RG l := fun a x b e => h a x (b ++ [v]) (by rw [e, List.append_assoc]; rfl)
theorem RG.last {l : List Int} {v : Int} (h : RG (l ++ [v])) : 0 ≤ v ∧ v ≤ fresh l := h l v [] rfl
theorem RG.snoc {l : List Int} {v : Int} (h : RG l) (h0 : 0 ≤ v) (h1 : v ≤ fresh l) : RG (l ++ [v]) := fun a x b e => by
  rcases List.eq_nil_or_concat b with rfl | ⟨b', z, rfl⟩
  · obtain ⟨e1, e2⟩ := List.append_inj' e rfl
    obtain rfl : v = x := (List.cons.inj e2).1
    rw [← e1]
    exact ⟨h0, h1⟩
  · have e' : l ++ [v] = (a ++ x :: b') ++ [z] := by rw [e, List.append_assoc, List.concat_eq_append]; rfl
    exact h a x b' (List.append_inj' e' rfl).1
def canon (l : List Int) : List Int := l.map fun v => (((seenL [] l).idxOf v : Nat) : Int)
theorem canon_lab (l : List Int) : labL (blocksOf l) l.length = canon l := labL_marks l
theorem in_seen {l : List Int} {v : Int} (h : v ∈ l) : v ∈ seenL [] l := (seenL_mem l [] v).mpr (.inr h)
theorem canon_snoc (l : List Int) (v : Int) : canon (l ++ [v]) = canon l ++ [if v ∈ seenL [] l then (((seenL [] l).idxOf v : Nat) : Int) else (((seenL [] l).length : Nat) : Int)] := by
  unfold canon
  rw [seenL_snoc, List.map_append]
  by_cases c : v ∈ seenL [] l
  · rw [if_pos c, if_pos c]
    rfl
  · rw [if_neg c, if_neg c]
    congr 1
    · refine List.map_congr_left fun x hx => ?_
      rw [List.idxOf_append, if_pos (in_seen hx)]
    · show [(((seenL [] l ++ [v]).idxOf v : Nat) : Int)] = _
      rw [List.idxOf_append, if_neg c, List.idxOf_cons_self, Nat.zero_add]
theorem snoc_ind {p : List Int → Prop} (h0 : p []) (h1 : ∀ l v, p l → p (l ++ [v])) : ∀ l, p l := by
  intro l
  have run : ∀ (k : Nat) (l : List Int), l.length = k → p l := by
    intro k
    induction k with
    | zero => intro l hl; rw [List.length_eq_zero_iff.mp hl]; exact h0
    | succ k ih =>
      intro l hl
      rcases List.eq_nil_or_concat l with rfl | ⟨l', z, rfl⟩
      · exact h0
      · rw [List.concat_eq_append] at hl ⊢
        refine h1 l' z (ih l' ?_)
        rw [List.length_append] at hl
        have : [z].length = 1 := rfl
        omega
  exact run _ l rfl
theorem canon_fresh (l : List Int) : fresh (canon l) = (((seenL [] l).length : Nat) : Int) := by
  refine snoc_ind (p := fun l => fresh (canon l) = (((seenL [] l).length : Nat) : Int)) rfl (fun l v ih => ?_) l
  show fresh (canon (l ++ [v])) = (((seenL [] (l ++ [v])).length : Nat) : Int)
  rw [canon_snoc, fresh_snoc, seenL_snoc, ih]
  by_cases c : v ∈ seenL [] l
  · rw [if_pos c, if_pos c]
    have := List.idxOf_lt_length_of_mem c
    rw [if_neg (by omega)]
  · rw [if_neg c, if_neg c, List.length_append, if_pos (by omega)]
    rfl
theorem canon_RG (l : List Int) : RG (canon l) := by
  refine snoc_ind (p := fun l => RG (canon l)) RG.nil (fun l v ih => ?_) l
  show RG (canon (l ++ [v]))
  rw [canon_snoc]
  refine ih.snoc ?_ ?_
  · split <;> omega
  · rw [canon_fresh]
    by_cases c : v ∈ seenL [] l
    · rw [if_pos c]
      have := List.idxOf_lt_length_of_mem c
      omega
    · rw [if_neg c]
      omega
theorem ixs_snoc (k : Nat) : ixs (k + 1) = ixs k ++ [(k : Int)] := by
  unfold ixs
  rw [List.range_succ, List.map_append]
  rfl
theorem ixs_idx {k : Nat} {v : Int} (h : v ∈ ixs k) : (((ixs k).idxOf v : Nat) : Int) = v := by
  obtain ⟨h0, h1⟩ := mem_ixs.mp h
  have hl := List.idxOf_lt_length_of_mem h
  have e := List.getElem_idxOf hl
  have c := co_ixs (N := k) (i := (ixs k).idxOf v) (by rw [ixs_len'] at hl; exact hl)
  have g := co_get hl
  rw [List.getElem?_eq_getElem hl, e] at g
  rw [← c]
  exact (Option.some.inj g).symm
theorem canon_of (l : List Int) : RG l → seenL [] l = ixs (fresh l).toNat ∧ canon l = l := by
  refine snoc_ind (p := fun l => RG l → seenL [] l = ixs (fresh l).toNat ∧ canon l = l) (fun _ => ⟨rfl, rfl⟩) (fun l v ih h => ?_) l
  obtain ⟨e1, e2⟩ := ih h.init
  obtain ⟨h0, h1⟩ := h.last
  have f0 := fresh_pos l
  rw [seenL_snoc, canon_snoc, fresh_snoc, e1, e2]
  by_cases c : v < fresh l
  · have m : v ∈ ixs (fresh l).toNat := mem_ixs.mpr ⟨h0, by omega⟩
    rw [if_pos m, if_pos m, if_neg (by omega), ixs_idx m]
    exact ⟨rfl, rfl⟩
  · have m : v ∉ ixs (fresh l).toNat := fun z => by
      have := (mem_ixs.mp z).2
      omega
    rw [if_neg m, if_neg m, if_pos (by omega), ixs_len']
    refine ⟨?_, ?_⟩
    · rw [show (v + 1).toNat = (fresh l).toNat + 1 by omega, ixs_snoc, show (((fresh l).toNat : Nat) : Int) = v by omega]
    · rw [show (((fresh l).toNat : Nat) : Int) = v by omega]
theorem lab_RG {l : List Int} (h : RG l) : labL (blocksOf l) l.length = l := by rw [canon_lab, (canon_of l h).2]
theorem tw_facts : ∀ k, k < 12 → twelve.cps.toList.getD k 0 ≠ 124 ∧ twelve.cps.toList.idxOf (twelve.cps.toList.getD k 0) = k ∧ twelve.cps.toList[k]? = some (twelve.cps.toList.getD k 0) ∧ twelve.cps.toList.getD k 0 < 128 := by decide +kernel
theorem ix_tw {v : Int} (h0 : 0 ≤ v) (h1 : v < 12) : ixL (tw v) = v ∧ tw v ≠ 124 := by
  obtain ⟨a, b, _⟩ := tw_facts v.toNat (by omega)
  refine ⟨?_, a⟩
  show ((twelve.cps.toList.idxOf (twelve.cps.toList.getD v.toNat 0) : Nat) : Int) = v
  rw [b]
  omega
theorem tw_first {v : Int} {k : Nat} (h0 : 0 ≤ v) (h1 : v < 12) (h : v.toNat < k) : tw v ∈ (firstL k).cps.toList := by
  have e := (tw_facts v.toNat (by omega)).2.2.1
  show tw v ∈ twelve.cps.toList.take k
  refine List.mem_iff_getElem?.mpr ⟨v.toNat, ?_⟩
  rw [List.getElem?_take_of_lt h]
  exact e
theorem tw_ix : ∀ c ∈ twelve.cps.toList, twelve.cps.toList.getD (twelve.cps.toList.idxOf c) 0 = c := by decide +kernel
theorem first_ix {k c : Nat} (h : c ∈ (firstL k).cps.toList) : twelve.cps.toList.idxOf c < k := by
  have h : c ∈ twelve.cps.toList.take k := h
  have e : twelve.cps.toList.idxOf c = (twelve.cps.toList.take k).idxOf c := by
    conv => lhs; rw [← List.take_append_drop k twelve.cps.toList]
    rw [List.idxOf_append, if_pos h]
  have := List.idxOf_lt_length_of_mem h
  rw [List.length_take] at this
  omega
/-- reading on over letters -/
theorem rd_run (n : Option Int) (cs : List Nat) : ∀ (B l : List Int) (i : Nat), RG (l ++ B) → (∀ y ∈ B, y < 12) → (∀ k, l.length ≤ k → k < l.length + B.length → roomB n k = true) → rdGo n l i (B.map tw ++ cs) = rdGo n (l ++ B) (i + B.length) cs
  | [], l, i, _, _, _ => by
    rw [List.append_nil]
    rfl
  | v :: B, l, i, rg, hm, hr => by
    obtain ⟨h0, h1⟩ := rg l v B rfl
    have h12 := hm v (.head _)
    obtain ⟨e1, e2⟩ := ix_tw h0 h12
    have f0 := fresh_pos l
    show rdGo n l i (tw v :: (B.map tw ++ cs)) = _
    rw [rdGo_cons, if_neg (fun z => e2 z.1)]
    have ok : nextOk n l (tw v) = true := by
      unfold nextOk
      rw [hr l.length (Nat.le_refl _) (by rw [List.length_cons]; omega), decide_eq_true (tw_first h0 h12 (by omega))]
      rfl
    rw [if_pos ok, e1, rd_run n cs B (l ++ [v]) (i + 1) (by rw [List.append_assoc]; exact rg) (fun y hy => hm y (.tail _ hy)) (fun k hk1 hk2 => hr k (by rw [List.length_append] at hk1; omega) (by rw [List.length_append] at hk2; rw [List.length_cons]; have : [v].length = 1 := rfl; omega)), List.append_assoc, List.length_cons, show i + 1 + B.length = i + (B.length + 1) by omega]
    rfl
theorem rd_txt {n : Int} {L : List Int} (rg : RG L) (hm : ∀ y ∈ L, y < 12) (h0 : 0 ≤ n) (h8 : n ≤ 8) (hn : n ≤ L.length) (hl : L.length ≤ 12) (h2 : (L.length : Int) - n ≤ 8) : rdX (txtM n L) = .inr (n, L) := by
  obtain ⟨N, rfl⟩ : ∃ N : Nat, n = (N : Int) := ⟨n.toNat, by omega⟩
  have lt : (L.take N).length = N := by rw [List.length_take]; omega
  have ld : (L.drop N).length = L.length - N := List.length_drop
  have e : L.take N ++ L.drop N = L := List.take_append_drop N L
  show rdGo none [] 0 ((L.take N).map tw ++ 124 :: (L.drop N).map tw) = _
  have rgt : RG (L.take N) := fun a v b h => by
    have e2 : L = a ++ v :: (b ++ L.drop N) := by
      conv => lhs; rw [← e, h, List.append_assoc]
      rfl
    exact rg a v _ e2
  rw [rd_run none _ (L.take N) [] 0 (by rw [List.nil_append]; exact rgt) (fun y hy => hm y (List.mem_of_mem_take hy)) (fun k _ hk => by
    have : ([] : List Int).length = 0 := rfl
    exact decide_eq_true (show k < 8 by omega)), List.nil_append, rdGo_cons, if_pos ⟨rfl, rfl⟩, lt]
  have := rd_run (some ((N : Nat) : Int)) [] (L.drop N) (L.take N) (0 + N + 1) (by rw [e]; exact rg) (fun y hy => hm y (List.mem_of_mem_drop hy)) (fun k hk1 hk2 => by
    show (decide (k < 12) && decide ((k : Int) - (N : Int) < 8)) = true
    rw [decide_eq_true (by omega), decide_eq_true (by omega)]
    rfl)
  rw [List.append_nil, e] at this
  rw [this]
  rfl
/-- what is read is canonical, and its text is what was read -/
def preT : Option Int → List Int → List Nat
  | none, l => l.map tw
  | some k, l => txtL k l
theorem rd_back : ∀ (cs : List Nat) (n : Option Int) (l : List Int) (i : Nat) (k : Int) (L : List Int), rdGo n l i cs = .inr (k, L) → RG l → (∀ u, n = some u → 0 ≤ u ∧ u ≤ (l.length : Int)) → preT n l ++ cs = txtL k L ∧ RG L
  | [], none, l, i, k, L, h, _, _ => nomatch h
  | [], some u, l, i, k, L, h, rg, _ => by
    have h : Sum.inr (u, l) = (Sum.inr (k, L) : Int ⊕ (Int × List Int)) := h
    obtain ⟨rfl, rfl⟩ := Prod.mk.inj (Sum.inr.inj h)
    rw [List.append_nil]
    exact ⟨rfl, rg⟩
  | c :: cs, n, l, i, k, L, h, rg, hu => by
    rw [rdGo_cons] at h
    by_cases cb : c = 124 ∧ n = none
    · obtain ⟨rfl, rfl⟩ := cb
      rw [if_pos ⟨rfl, rfl⟩] at h
      obtain ⟨a, b⟩ := rd_back cs _ l (i + 1) k L h rg (fun u hu => by rw [← Option.some.inj hu]; omega)
      refine ⟨?_, b⟩
      rw [← a]
      show l.map tw ++ 124 :: cs = txtL ((l.length : Nat) : Int) l ++ cs
      unfold txtL
      rw [show (((l.length : Nat) : Int)).toNat = l.length from rfl, List.take_length, List.drop_length, List.append_assoc]
      rfl
    · rw [if_neg cb] at h
      by_cases ok : nextOk n l c = true
      · rw [if_pos ok] at h
        have ok2 := ok
        unfold nextOk at ok2
        rw [Bool.and_eq_true, decide_eq_true_eq] at ok2
        have c12 := first_sub ok2.2
        have ci := first_ix ok2.2
        have f0 := fresh_pos l
        have x0 : 0 ≤ ixL c := Int.natCast_nonneg _
        have x1 : ixL c ≤ fresh l := by unfold ixL; omega
        have tx : tw (ixL c) = c := tw_ix c c12
        obtain ⟨a, b⟩ := rd_back cs n (l ++ [ixL c]) (i + 1) k L h (rg.snoc x0 x1) (fun u e => by
          have := hu u e
          rw [List.length_append]
          omega)
        refine ⟨?_, b⟩
        rw [← a]
        have key : preT n (l ++ [ixL c]) = preT n l ++ [c] := by
          cases n with
          | none =>
            show (l ++ [ixL c]).map tw = l.map tw ++ [c]
            rw [List.map_append]
            show _ ++ [tw (ixL c)] = _
            rw [tx]
          | some u =>
            have := hu u rfl
            show txtL u (l ++ [ixL c]) = txtL u l ++ [c]
            unfold txtL
            rw [List.take_append_of_le_length (by omega), List.drop_append_of_le_length (by omega), List.map_append, List.append_assoc]
            show _ ++ 124 :: (_ ++ [tw (ixL c)]) = _
            rw [tx]
            rfl
        rw [key, List.append_assoc]
        rfl
      · rw [if_neg ok] at h
        exact nomatch h
theorem rd_text {x : Str} {k : Int} {L : List Int} (h : rdX x = .inr (k, L)) : txtM k L = x ∧ RG L := by
  obtain ⟨a, b⟩ := rd_back _ none [] 0 k L h RG.nil (fun u e => nomatch e)
  refine ⟨?_, b⟩
  refine ext_tl ?_
  show txtL k L = x.cps.toList
  rw [← a]
  rfl
theorem rd_nat : ∀ (cs : List Nat) (n : Option Int) (l : List Int) (i : Nat) (k : Int), rdGo n l i cs = .inl k → 0 ≤ k ∧ k ≤ ((i + cs.length : Nat) : Int)
  | [], none, l, i, k, h => by
    have h : Sum.inl ((i : Nat) : Int) = (Sum.inl k : Int ⊕ (Int × List Int)) := h
    rw [← Sum.inl.inj h]
    omega
  | [], some u, l, i, k, h => nomatch h
  | c :: cs, n, l, i, k, h => by
    rw [rdGo_cons] at h
    rw [List.length_cons]
    split at h
    · have := rd_nat cs _ _ _ k h
      omega
    · split at h
      · have := rd_nat cs _ _ _ k h
        omega
      · rw [← Sum.inl.inj h]
        omega
theorem txt_asc {n : Int} {L : List Int} (h : ∀ y ∈ L, 0 ≤ y ∧ y < 12) : Asc (txtM n L) := asc_iff.mpr fun c hc => by
  have hc : c ∈ (L.take n.toNat).map tw ++ 124 :: (L.drop n.toNat).map tw := hc
  have one : ∀ y ∈ L, tw y < 128 := fun y hy => by
    obtain ⟨a, b⟩ := h y hy
    exact (tw_facts y.toNat (by omega)).2.2.2
  rcases List.mem_append.mp hc with hc | hc
  · obtain ⟨y, hy, rfl⟩ := List.mem_map.mp hc
    exact one y (List.mem_of_mem_take hy)
  · rcases List.mem_cons.mp hc with rfl | hc
    · decide
    · obtain ⟨y, hy, rfl⟩ := List.mem_map.mp hc
      exact one y (List.mem_of_mem_drop hy)
theorem txt_len {n : Int} {L : List Int} : (txtM n L).length = L.length + 1 := by
  rw [len_tl]
  show ((L.take n.toNat).map tw ++ 124 :: (L.drop n.toNat).map tw).length = _
  rw [List.length_append, List.length_cons, List.length_map, List.length_map, List.length_take, List.length_drop]
  omega
theorem txt_cut (N : Nat) (L : List Int) : cutS ⟨(L.map tw).toArray⟩ none (some (N : Int)) ++ "|" ++ cutS ⟨(L.map tw).toArray⟩ (some (N : Int)) none = txtM (N : Int) L := by
  rw [cutS_take, cutS_drop, ← txt_glue]
  show (⟨(((L.map tw).take N)).toArray⟩ : Str) ++ "|" ++ ⟨((L.map tw).drop N).toArray⟩ = _
  rw [← List.map_take, ← List.map_drop]
theorem rd_empty : rdX "" = .inl 0 := rfl
theorem rd_bar : rdX "|" = .inr (0, []) := by decide +kernel
theorem bad17 : ¬ IsDg 1 1 [[0]] := fun h => by
  have := h.pm.length_eq
  exact absurd this (by decide)

theorem eqv17 : PyData.eqv (dDG 0 0 []) (dDG 0 0 []) = true := by
  unfold dDG dTT
  simp [PyData.eqv, PyData.eqvAll]
section
variable {P : Program} {w : World} {K : PySem.W.Frag} {mg : Str → Option Value} {base : Heap}
/-! ### law -/
def spLaw (K : PySem.W.Frag) : Sp := fun vs H Q _ => ∃ (a : Addr) (ns : List Int), vs = [.ref a] ∧ SqL K H a (ns.map V.int) ∧ ns.length ≤ 63 ∧ ∀ H', Q (.bl true) H'
theorem ok_law {f CD a_law_draws a_law_next a_law_family a_law_drawn a_law_other_side a_law_marks a_law_spoilt a_law_fault a_law_told a_law_refuses a_text_of : Addr} {fd fd_law_draws fd_law_next fd_law_family fd_law_drawn fd_law_other_side fd_law_marks fd_law_spoilt fd_law_fault fd_law_told fd_law_refuses fd_text_of : FuncData} (F : Fun K "law" "law" s_law f fd)
    (z_repr : mg "repr" = none) (z_int : mg "int" = none) (z_range : mg "range" = none) (z_tuple : mg "tuple" = none) (z_isinstance : mg "isinstance" = none)
    (G_law_draws : FnOk P w K mg base CX0 2 a_law_draws fd_law_draws ["script"] (spDraws K)) (g_law_draws : mg "_law_draws" = some (.ref a_law_draws)) (k_law_draws : PySem.W.keepIn K (.ref a_law_draws) = true) (b_law_draws : Binds K fd_law_draws ["script"] [])
    (G_law_next : FnOk P w K mg base CX0 1 a_law_next fd_law_next ["draws"] spNext) (g_law_next : mg "_law_next" = some (.ref a_law_next)) (k_law_next : PySem.W.keepIn K (.ref a_law_next) = true) (b_law_next : Binds K fd_law_next ["draws"] [])
    (G_law_family : FnOk P w K mg base CX0 2 a_law_family fd_law_family ["draws"] spFamily) (g_law_family : mg "_law_family" = some (.ref a_law_family)) (k_law_family : PySem.W.keepIn K (.ref a_law_family) = true) (b_law_family : Binds K fd_law_family ["draws"] [])
    (G_law_drawn : FnOk P w K mg base CX0 4 a_law_drawn fd_law_drawn ["draws", "family", "n", "m"] spDrawn) (g_law_drawn : mg "_law_drawn" = some (.ref a_law_drawn)) (k_law_drawn : PySem.W.keepIn K (.ref a_law_drawn) = true) (b_law_drawn : Binds K fd_law_drawn ["draws", "family", "n", "m"] [])
    (G_law_other_side : FnOk P w K mg base CX0 2 a_law_other_side fd_law_other_side ["draws", "family", "n", "most"] spOther) (g_law_other_side : mg "_law_other_side" = some (.ref a_law_other_side)) (k_law_other_side : PySem.W.keepIn K (.ref a_law_other_side) = true) (b_law_other_side : Binds K fd_law_other_side ["draws", "family", "n", "most"] [])
    (G_law_marks : FnOk P w K mg base CX0 1 a_law_marks fd_law_marks ["diagram"] spMarks) (g_law_marks : mg "_law_marks" = some (.ref a_law_marks)) (k_law_marks : PySem.W.keepIn K (.ref a_law_marks) = true) (b_law_marks : Binds K fd_law_marks ["diagram"] [])
    (G_law_spoilt : FnOk P w K mg base CX0 2 a_law_spoilt fd_law_spoilt ["draws", "text"] spSpoiltX) (g_law_spoilt : mg "_law_spoilt" = some (.ref a_law_spoilt)) (k_law_spoilt : PySem.W.keepIn K (.ref a_law_spoilt) = true) (b_law_spoilt : Binds K fd_law_spoilt ["draws", "text"] [])
    (G_law_fault : FnOk P w K mg base CX0 1 a_law_fault fd_law_fault ["text"] spFault) (g_law_fault : mg "_law_fault" = some (.ref a_law_fault)) (k_law_fault : PySem.W.keepIn K (.ref a_law_fault) = true) (b_law_fault : Binds K fd_law_fault ["text"] [])
    (G_law_told : FnOk P w K mg base CX0 5 a_law_told fd_law_told ["text"] spToldX) (g_law_told : mg "_law_told" = some (.ref a_law_told)) (k_law_told : PySem.W.keepIn K (.ref a_law_told) = true) (b_law_told : Binds K fd_law_told ["text"] [])
    (G_law_refuses : FnOk P w K mg base CX0 6 a_law_refuses fd_law_refuses ["diagram"] spRefX) (g_law_refuses : mg "_law_refuses" = some (.ref a_law_refuses)) (k_law_refuses : PySem.W.keepIn K (.ref a_law_refuses) = true) (b_law_refuses : Binds K fd_law_refuses ["diagram"] [])
    (G_text_of : FnOk P w K mg base (L2.CX P w) 5 a_text_of fd_text_of ["diagram"] (spTextOf CD)) (g_text_of : mg "text_of" = some (.ref a_text_of)) (k_text_of : PySem.W.keepIn K (.ref a_text_of) = true) (b_text_of : Binds K fd_text_of ["diagram"] []) :
    FnG P w K mg base 7 f fd ["script"] (spLaw K) := by
  refine F.okG sc_law (fun vs H Q E h => ?_) (fun cdv A outer s H vs Q E hgu hr h => ?_)
  · obtain ⟨a, ns, rfl, _⟩ := h
    rfl
  · obtain ⟨sc, ns, rfl, hS, hlen, q⟩ := h
    refine ⟨_, (pss_cons (ps_set (i := 1) sc_law.nd rfl (.inl rfl) (pe_call G_law_draws (hr.mono (by decide)) rfl g_law_draws k_law_draws b_law_draws .nil pass0 (pa_cons (pv 0) pa_nil)))
  (pss_cons (ps_expr (pe_bm0 PySem.F.plainAttrs_list PySem.F.slot_list_reverse PySem.F.type_list_reverse mt_reverse (pv 1)))
  (pss_cons (ps_for PassesOwn.never rfl (pi_range1 rfl z_range (pa_cons pe_int pa_nil)) (pg_name (i := 2) sc_law.nd rfl (.inl rfl)) (pss_cons (ps_set (i := 3) sc_law.nd rfl (.inl rfl) (pe_call G_law_family (hr.mono (by decide)) rfl g_law_family k_law_family b_law_family .nil pass0 (pa_cons (pv 1) pa_nil)))
  (pss_cons (ps_set (i := 4) sc_law.nd rfl (.inl rfl) (pe_op op_mod (pe_callTy call_int1 (by rfl) z_int boot_int (pa_cons (pe_call G_law_next (hr.mono (by decide)) rfl g_law_next k_law_next b_law_next .nil pass0 (pa_cons (pv 1) pa_nil)) pa_nil)) pe_int))
  (pss_cons (ps_set (i := 5) sc_law.nd rfl (.inl rfl) (pe_call G_law_drawn (hr.mono (by decide)) rfl g_law_drawn k_law_drawn b_law_drawn .nil pass0 (pa_cons (pv 1) (pa_cons (pv 3) (pa_cons (pv 4) (pa_cons (pe_call G_law_other_side (hr.mono (by decide)) rfl g_law_other_side k_law_other_side b_law_other_side .nil pass0 (pa_cons (pv 1) (pa_cons (pv 3) (pa_cons (pv 4) (pa_cons pe_int pa_nil))))) pa_nil))))))
  (pss_cons (ps_set (i := 6) sc_law.nd rfl (.inl rfl) (pe_join pe_str (pe_lc (own := [("mark", 11)]) rfl sc_law.nd (pi_list (pe_call G_law_marks (hr.mono (by decide)) rfl g_law_marks k_law_marks b_law_marks .nil pass0 (pa_cons (pv 5) pa_nil))) (blkOk_by (N := ["script", "draws", "j", "family", "n", "diagram", "letters", "text", "given", "at", "told", "mark"]) (sc := defScope s_law) (by first | decide +kernel | rfl)) (fun _ _ _ _ _ => (pg_name (i := 11) sc_law.nd rfl (.inl rfl))) (fun _ _ _ _ _ => pts_nil) (fun _ _ _ _ _ => (pe_ix (ix_str) pe_str (pv 11) (fun _ _ => rfl))))))
  (pss_cons (ps_set (i := 7) sc_law.nd rfl (.inl rfl) (pe_op op_add_str (pe_op op_add_str (pe_slice sl_str (pv 6) po_none (po_some (pv 4))) pe_str) (pe_slice sl_str (pv 6) (po_some (pv 4)) po_none)))
  (pss_cons (ps_if (L2.PW.pt (pw_or (pt_cmpR op_ne (pe_call G_text_of (hr.mono (by decide)) rfl g_text_of k_text_of b_text_of .nil passL (pa_cons (pv 5) pa_nil)) (pv 7) (nomark _)) (pw_or1 (pt_cmpR op_ne (pe_callB (cr_reprD hgu (room65 hr)) (by rfl) z_repr boot_repr (pa_cons (pe_call G_law_told (hr.mono (by decide)) rfl g_law_told k_law_told b_law_told .nil pass0 (pa_cons (pv 7) pa_nil)) pa_nil)) (pe_callB (cr_reprD hgu (room65 hr)) (by rfl) z_repr boot_repr (pa_cons (pv 5) pa_nil)) (nomark _))))) (pss_one (ps_ret pe_bl)) pss_nil)
  (pss_one (ps_for PassesOwn.never rfl (pi_list (pe_lst (pa_cons (pe_call G_law_spoilt (hr.mono (by decide)) rfl g_law_spoilt k_law_spoilt b_law_spoilt .nil pass0 (pa_cons (pv 1) (pa_cons (pv 7) pa_nil))) (pa_cons (pe_call G_law_spoilt (hr.mono (by decide)) rfl g_law_spoilt k_law_spoilt b_law_spoilt .nil pass0 (pa_cons (pv 1) (pa_cons (pe_call G_law_spoilt (hr.mono (by decide)) rfl g_law_spoilt k_law_spoilt b_law_spoilt .nil pass0 (pa_cons (pv 1) (pa_cons (pv 7) pa_nil))) pa_nil))) pa_nil)))) (pg_name (i := 8) sc_law.nd rfl (.inl rfl)) (pss_cons (ps_set (i := 9) sc_law.nd rfl (.inl rfl) (pe_call G_law_fault (hr.mono (by decide)) rfl g_law_fault k_law_fault b_law_fault .nil pass0 (pa_cons (pv 8) pa_nil)))
  (pss_cons (ps_set (i := 10) sc_law.nd rfl (.inl rfl) (pe_call G_law_told (hr.mono (by decide)) rfl g_law_told k_law_told b_law_told .nil pass0 (pa_cons (pv 8) pa_nil)))
  (pss_one (ps_if (pt_cmpR op_ge (pv 9) pe_int (nomark _)) (pss_one (ps_if (pt_cmpR op_ne (pe_callB (cr_reprD hgu (room65 hr)) (by rfl) z_repr boot_repr (pa_cons (pv 10) pa_nil)) (pe_callB (cr_reprD hgu (room65 hr)) (by rfl) z_repr boot_repr (pa_cons (pv 9) pa_nil)) (nomark _)) (pss_one (ps_ret pe_bl)) pss_nil)) (pss_one (ps_if (L2.PW.pt (pw_or (pt_not (pt_val (pe_callB call_isi (by rfl) z_isinstance boot_isinstance (pa_cons (pv 10) (pa_cons (pe_bltn rfl z_tuple boot_tuple (show RelV (V.ty "tuple") (Value.type "tuple") from rfl)) pa_nil))))) (pw_or1 (pt_cmpR op_ne (pe_call G_text_of (hr.mono (by decide)) rfl g_text_of k_text_of b_text_of .nil passL (pa_cons (pv 10) pa_nil)) (pv 8) (nomark _))))) (pss_one (ps_ret pe_bl)) pss_nil)))))))))))))))
  (pss_one (ps_ret (pe_and (pe_call G_law_refuses (hr.mono (by decide)) rfl g_law_refuses k_law_refuses b_law_refuses .nil pass0 (pa_cons (pe_tup (pa_cons pe_int (pa_cons pe_int (pa_cons (pe_tup (pa_cons (pe_tup (pa_cons pe_int pa_nil)) pa_nil)) pa_nil)))) pa_nil)) (pe_and (pe_cmpR op_eq (pe_call G_law_told (hr.mono (by decide)) rfl g_law_told k_law_told b_law_told .nil pass0 (pa_cons pe_str pa_nil)) pe_int (nomark _)) (pe_one (pe_cmpR (op_eqD (room64 hr)) (pe_call G_law_told (hr.mono (by decide)) rfl g_law_told k_law_told b_law_told .nil pass0 (pa_cons pe_str pa_nil)) (pe_tup (pa_cons pe_int (pa_cons pe_int (pa_cons (pe_tup pa_nil) pa_nil)))) (nomark _)))))))))), ?_⟩
    have szl : 20000 ≤ sizeLine := by decide
    have szw : (1000000 : Nat) ≤ 16777216 := by decide
    refine ⟨_, rfl, sc, ns, rfl, hS, hlen, fun H1 r ds s1 nr hL => ?_⟩
    refine ⟨_, rfl, .inl ⟨rfl, _, .inl (.inl hL)⟩, r, _, rfl, rfl, hL, ?_⟩
    have hr1 : upd H1 r (.lst (ds.map V.int).reverse) r = some (.lst (ds.reverse.map V.int)) := by rw [upd_same, List.map_reverse]
    revert hr1
    generalize upd H1 r (.lst (ds.map V.int).reverse) = H2
    generalize ds.reverse = ds
    intro hr1
    clear hL s1 nr hS
    refine ⟨2, rfl, by decide, by decide, for_range (lo := 0) (n := 2) (fun j σ H' => ∃ (v2 v3 v4 v5 v6 v7 v8 v9 v10 : Option V) (ds : List Int), σ = [some (.ref sc), some (.ref r), v2, v3, v4, v5, v6, v7, v8, v9, v10, none] ∧ H' r = some (.lst (ds.map V.int)))
      ⟨none, none, none, none, none, none, none, none, none, ds, rfl, hr1⟩ (fun j σ H3 hj hP => ?_) (fun σ H3 hP => ?_)⟩
    · obtain ⟨v2, v3, v4, v5, v6, v7, v8, v9, v10, ds, rfl, hr3⟩ := hP
      refine ⟨_, rfl, r, ds, rfl, hr3, fun z ds0 H4 mz sb4 hr4 => ?_⟩
      refine ⟨_, rfl, r, ds0, rfl, hr4, fun n0 ds1 => .inl ⟨n0, rfl, n0, 6, rfl, rfl, (show (0 : Int) < 6 by decide), ?_⟩⟩
      have mo := mod_lt8 n0 (show (0 : Int) < 6 by decide)
      obtain ⟨n, hn, en⟩ : ∃ n : Nat, n < 6 ∧ n0 % 6 = (n : Int) := ⟨(n0 % 6).toNat, by omega, by omega⟩
      dsimp only
      rw [en]
      have hr5 : upd H4 r (.lst (ds1.map V.int)) r = some (.lst (ds1.map V.int)) := upd_same
      revert hr5
      generalize upd H4 r (.lst (ds1.map V.int)) = H5
      intro hr5
      refine ⟨_, rfl, _, rfl, _, rfl, _, rfl, _, rfl, _, rfl, r, ds1, z, n, 5, rfl, by omega, by omega, by decide, hr5, fun m ds2 H6 m0 m4 _ _ sb6 hr6 => ?_⟩
      obtain ⟨m, rfl⟩ := Int.eq_ofNat_of_zero_le m0
      refine ⟨r, ds2, z, n, m, rfl, by omega, by omega, hr6, fun v l ds3 H7 sb7 hr7 hl fm hv => ?_⟩
      have d7 : DgAt H7 v n m l := ⟨hv, siz_iff.mpr (by omega), by omega⟩
      have en2 : ((n : Int) + (m : Int)).toNat = l.length := by omega
      have dg := d7.dg
      -- letters
      refine ⟨⟨_, rfl⟩, _, rfl, v, n, m, _, rfl, d7.1, dg, by have := dg.few.1; omega, fun D H8 s8 nD hD => ?_⟩
      rw [en2] at hD
      have lL := labL_len (blocksOf l) l.length
      have mem := lab_small d7.2.1 (l := l) (by omega)
      have rg : RG (labL (blocksOf l) l.length) := by rw [canon_lab]; exact canon_RG l
      have bl : blocksOf (labL (blocksOf l) l.length) = blocksOf l := blocks_lab l
      generalize eL : labL (blocksOf l) l.length = L at hD lL mem rg bl
      have hr8 := s8 _ _ hr7
      have d8 := d7.same s8
      clear s8 nD hv d7 sb7 hr7 fm
      refine ⟨D, rfl, ⟨_, .inl (.inl hD)⟩, fun B nB => ?_⟩
      have hBD : D ≠ B := ne_of_none hD nB
      refine lc_list (xs := L.map V.int) (fun i H' => SameBut B H8 H' ∧ H' B = some (.lst (((L.take i).map sg).map V.str))) ⟨SameBut.upd, upd_same⟩ (fun i H' hi hP => .inl (.inl (hP.1 _ _ hBD hD))) (fun i y H' hi hP => ?_) (fun H' hP => ?_)
      · obtain ⟨sb, hB⟩ := hP
        rw [List.getElem?_map] at hi
        cases ew : L[i]? with
        | none =>
          rw [ew] at hi
          exact nomatch hi
        | some c =>
          rw [ew] at hi
          have hy : V.int c = y := Option.some.inj hi
          rw [← hy]
          obtain ⟨hlt, hget⟩ := List.getElem?_eq_some_iff.mp ew
          obtain ⟨c0, c1⟩ := mem c (hget ▸ List.getElem_mem hlt)
          refine ⟨rfl, ?_⟩
          refine ⟨_, rfl, twelve, c, tw c, rfl, rfl, by decide, tw_at c0 c1, _, hB, ?_, sb.trans SameBut.upd, ?_⟩
          · rw [List.length_map, List.length_map, List.length_take]
            omega
          · rw [upd_same, List.take_succ, ew]
            show some (HO.lst (((L.take i).map sg).map V.str ++ [V.str (sg c)])) = some (HO.lst (((L.take i ++ [c]).map sg).map V.str))
            rw [List.map_append, List.map_append]
            rfl
      · obtain ⟨sb, hB⟩ := hP
        rw [List.length_map, List.take_length] at hB
        have sH : Same H8 H' := fun c o e => sb _ _ (ne_of_none e nB) e
        have hr9 := sH _ _ hr8
        have d9 := d8.same sH
        clear hD hr8 d8 sb hBD
        refine ⟨"", B, L.map sg, rfl, rfl, .inl (.inl (.inl hB)), by rw [sum_sg]; show _ + _ * 0 ≤ _; omega, ?_⟩
        rw [join_sg]
        have ll : (⟨(L.map tw).toArray⟩ : Str).length = L.length := by rw [mk_len, List.length_map]
        have lc : ∀ a b, (cutS ⟨(L.map tw).toArray⟩ a b).length ≤ L.length := fun a b => by
          have := cutS_length ⟨(L.map tw).toArray⟩ a b
          rw [ll] at this
          exact this
        have l12 : L.length ≤ 12 := by omega
        refine ⟨_, rfl, _, rfl, _, rfl, _, rfl, by omega, _, _, rfl, rfl, by have := lc none (some (n : Int)); show _ + 1 ≤ _; omega, _, rfl, _, rfl, _, rfl, _, rfl, by omega, _, _, rfl, rfl, ?_, ?_⟩
        · have a1 := lc none (some (n : Int))
          have a2 := lc (some (n : Int)) none
          rw [len_app]
          show _ + 1 + _ ≤ _
          omega
        rw [txt_cut]
        have er0 : rdX (txtM (n : Int) L) = .inr ((n : Int), L) := rd_txt rg (fun y hy => (mem y hy).2) (by omega) (by omega) (by omega) l12 (by omega)
        have at0 : Asc (txtM (n : Int) L) := txt_asc mem
        have lt0 : (txtM (n : Int) L).length ≤ 13 := by rw [txt_len]; omega
        have ok := d9.ok
        refine ⟨_, rfl, v, n, m, _, rfl, d9.1, ok, .inr ⟨l, rfl, d9.2.1, by omega, fun H9 s9 => ?_⟩⟩
        rw [eL]
        refine ⟨_, rfl, rfl, _, rfl, ite_same ?_⟩
        have d9 := d9.same s9
        have hr9 := s9 _ _ hr9
        clear s9 hB
        have same17 : ∀ (n' : Int) (L' : List Int), rdX (txtM (n : Int) L) = .inr (n', L') → n' = (n : Int) ∧ L' = L := fun n' L' e => by
          rw [er0] at e
          obtain ⟨e1, e2⟩ := Prod.mk.inj (Sum.inr.inj e)
          exact ⟨e1.symm, e2.symm⟩
        generalize txtM (n : Int) L = tx at er0 at0 lt0 same17
        refine ⟨_, rfl, tx, rfl, at0, by omega, (fun i e => by rw [er0] at e; exact nomatch e), fun n' L' e sz _ v' H10 s10 dv => ?_⟩
        obtain ⟨rfl, rfl⟩ := same17 n' L' e
        rw [bl, show (L'.length : Int) - (n : Int) = (m : Int) by omega] at dv
        have sm := smL_dg dg
        refine ⟨v', _, rfl, dv.dp, sm.shaped (by decide), sm.sho, sm.wide (by decide), ?_⟩
        refine ⟨_, rfl, v, _, rfl, (d9.same s10).1.dp, sm.shaped (by decide), sm.sho, sm.wide (by decide), ?_⟩
        generalize PyData.shown _ = X
        refine ⟨rfl, _, rfl, ite_same ?_⟩
        have hr10 := s10 _ _ hr9
        clear d9 s10 dv sm ok hr9 e sz
        refine ⟨_, rfl, _, rfl, r, ds3, tx, rfl, hr10, at0, by omega, fun y1 ds4 H11 a1 l1 sb11 hr11 => ⟨_, rfl, _, rfl, _, rfl, r, ds4, tx, rfl, hr11, at0, by omega, fun y2 ds5 H12 a2 l2 sb12 hr12 => ⟨r, ds5, y2, rfl, hr12, a2, by omega, fun y3 ds6 H13 a3 l3 sb13 hr13 => ?_⟩⟩⟩
        refine ⟨(by show 2 ≤ sizeLine; omega), fun G nG => ?_⟩
        have hrG : upd H13 G (.lst [.str y1, .str y3]) r = some (.lst (ds6.map V.int)) := same_upd nG _ _ hr13
        have hG : upd H13 G (.lst [.str y1, .str y3]) G = some (.lst ([y1, y3].map V.str)) := upd_same
        revert hrG hG
        generalize upd H13 G (.lst [.str y1, .str y3]) = H14
        intro hrG hG
        refine ⟨G, rfl, ⟨_, .inl (.inl hG)⟩, for_list (xs := [y1, y3].map V.str) (fun j' σ H' => ∃ (v8 v9 v10 : Option V), σ = [some (.ref sc), some (.ref r), some (.int (0 + (j : Int))), some (.str z), some (.int (n : Int)), some v, some (.str ⟨(L'.map tw).toArray⟩), some (.str tx), v8, v9, v10, none] ∧ H' r = some (.lst (ds6.map V.int)) ∧ H' G = some (.lst ([y1, y3].map V.str)))
          ⟨v8, v9, v10, rfl, hrG, hG⟩ (fun i σ H' _ ⟨_, _, _, _, _, h⟩ => .inl (.inl h)) (fun i y σ H15 hi hP => ?_) (fun σ H15 hP => ?_)⟩
        · obtain ⟨v8, v9, v10, rfl, hr15, hG15⟩ := hP
          obtain ⟨g, rfl, ag, lg⟩ : ∃ g : Str, V.str g = y ∧ Asc g ∧ g.length ≤ 1000 := by
            have my := List.mem_of_getElem? hi
            obtain ⟨g, hg, e⟩ := List.mem_map.mp my
            refine ⟨g, e, ?_⟩
            rcases List.mem_cons.mp hg with rfl | hg
            · exact ⟨a1, by omega⟩
            · rw [List.mem_singleton.mp hg]
              exact ⟨a3, by omega⟩
          refine ⟨_, rfl, g, rfl, lg, fun H16 s16 => ?_⟩
          refine ⟨_, rfl, g, rfl, ag, lg, fun u e H17 s17 => ?_, fun n' L2 e sz rg2 v' H17 s17 dv => ?_⟩
          · have b := rd_nat _ _ _ _ _ e
            have lg2 : g.cps.toList.length ≤ 1000 := lg
            rw [e, show faultI (Sum.inl u) = u from rfl]
            refine ⟨_, rfl, _, _, rfl, rfl, _, rfl, ?_⟩
            have big : (2000 : Nat) < 2 ^ 200 := by decide
            have sm := smL_int (i := u) (by omega)
            refine if_pos_of (decide_eq_true b.1) ⟨_, rfl, .int u, _, rfl, .int u, sm.shaped (by decide), sm.sho, sm.wide (by decide), ?_⟩
            refine ⟨_, rfl, .int u, _, rfl, .int u, sm.shaped (by decide), sm.sho, sm.wide (by decide), ?_⟩
            generalize PyData.shown _ = X
            refine ⟨rfl, _, rfl, ite_same ?_⟩
            exact ⟨_, _, _, rfl, s17 _ _ (s16 _ _ hr15), s17 _ _ (s16 _ _ hG15)⟩
          · rw [e]
            have dL : DgAt H17 v' n' ((L2.length : Int) - n') L2 := ⟨dv, sz, by omega⟩
            obtain ⟨ty, rfl⟩ : ∃ t, v' = .ref t := by
              obtain ⟨⟨t, _, e, _⟩, _⟩ := dL
              exact ⟨t, e⟩
            obtain ⟨vb, hty⟩ := dL.ix
            obtain ⟨ex, rgL⟩ := rd_text e
            refine ⟨_, rfl, _, _, rfl, rfl, _, rfl, iteF ?_⟩
            refine ⟨_, rfl, _, _, _, _, true, rfl, .ty _, .base (.tup hty), kit_ty (by decide +kernel), _, rfl, iteF ?_⟩
            refine ⟨_, rfl, _, n', _, _, rfl, dL.1, dL.ok, .inr ⟨L2, rfl, sz, by omega, fun H18 s18 => ?_⟩⟩
            rw [lab_RG rgL, ex]
            refine ⟨_, rfl, rfl, _, rfl, ite_same ?_⟩
            have up := Same.trans s16 (Same.trans s17 s18)
            exact ⟨_, _, _, rfl, up _ _ hr15, up _ _ hG15⟩
        · obtain ⟨v8, v9, v10, rfl, hr15, hG15⟩ := hP
          exact ⟨_, _, _, _, _, _, _, _, _, _, rfl, hr15⟩
    · obtain ⟨v2, v3, v4, v5, v6, v7, v8, v9, v10, ds, rfl, hr3⟩ := hP
      refine ⟨(by show 1 ≤ sizeLine; omega), fun p1 np1 => ⟨(by show 1 ≤ sizeLine; omega), fun p2 np2 => ⟨(by show 3 ≤ sizeLine; omega), fun p3 np3 => ?_⟩⟩⟩
      have w1 := same_upd (o := .tup [.int 0]) np1
      have w2 := same_upd (o := .tup [.ref p1]) np2
      have w3 := same_upd (o := .tup [.int 1, .int 1, .ref p2]) np3
      have db : DGv (upd (upd (upd H3 p1 (.tup [.int 0])) p2 (.tup [.ref p1])) p3 (.tup [.int 1, .int 1, .ref p2])) (.ref p3) 1 1 [[0]] :=
        ⟨p3, .ref p2, rfl, upd_same, p2, _, rfl, w3 _ _ upd_same, .cons ⟨p1, rfl, w3 _ _ (w2 _ _ upd_same)⟩ .nil⟩
      have ob : DgOk 1 1 [[0]] := ⟨by decide, by decide, by decide, by decide⟩
      refine ⟨.ref p3, 1, 1, _, rfl, db, ob, bad17, fun H4 s4 => ⟨_, rfl, ?_⟩⟩
      refine iteT ⟨"", rfl, by decide +kernel, by decide +kernel, (fun i e H5 s5 => ?_), fun n' L' e => by rw [rd_empty] at e; exact nomatch e⟩
      rw [rd_empty] at e
      obtain rfl := Sum.inl.inj e
      refine ⟨rfl, _, rfl, if_pos_of (decide_eq_true rfl) ?_⟩
      refine ⟨"|", rfl, by decide +kernel, by decide +kernel, (fun i e => by rw [rd_bar] at e; exact nomatch e), fun n' L' e sz rg v' H6 s6 dv => ?_⟩
      rw [rd_bar] at e
      obtain ⟨rfl, rfl⟩ := Prod.mk.inj (Sum.inr.inj e)
      refine ⟨(by show 0 ≤ sizeLine; omega), fun p4 np4 => ⟨(by show 3 ≤ sizeLine; omega), fun p5 np5 => ?_⟩⟩
      have w4 := same_upd (o := .tup []) np4
      have w5 := same_upd (o := .tup [.int 0, .int 0, .ref p4]) np5
      have d5 : DGv (upd (upd H6 p4 (.tup [])) p5 (.tup [.int 0, .int 0, .ref p4])) (.ref p5) 0 0 [] :=
        ⟨p5, .ref p4, rfl, upd_same, p4, [], rfl, w5 _ _ upd_same, .nil⟩
      have dv : DGv (upd (upd H6 p4 (.tup [])) p5 (.tup [.int 0, .int 0, .ref p4])) v' 0 0 [] := dv.same (Same.trans w4 w5)
      have sh : SeqAt.shaped (dDG 0 0 []) = true := (smL_dg (n := 0) (m := 0) (isDg_blocks (marks := []) (by decide) rfl)).shaped (by decide)
      refine ⟨dDG 0 0 [], dDG 0 0 [], dv.dp, d5.dp, sh, sh, ?_⟩
      rw [eqv17]
      exact q _
end

theorem all_mk {P : Program} {w : World} {K : PySem.W.Frag} {h : Heap} {mg : Str → Option Value} {fa : Addr} (X : K.In h) (G : h.Ns mainGlobals mg) (hfa : mg "law" = some (.ref fa))
    {f_law_number : Addr} {od_law_number an_law_number : Option Addr} {sl_law_number : Array (Option Value)} {oc_law_number kV_law_number dc_law_number pm_law_number cd_law_number ct_law_number : Value}
    {f_law_next : Addr} {od_law_next an_law_next : Option Addr} {sl_law_next : Array (Option Value)} {oc_law_next kV_law_next dc_law_next pm_law_next cd_law_next ct_law_next : Value}
    {f_law_draws : Addr} {od_law_draws an_law_draws : Option Addr} {sl_law_draws : Array (Option Value)} {oc_law_draws kV_law_draws dc_law_draws pm_law_draws cd_law_draws ct_law_draws : Value}
    {f_is_size_ : Addr} {od_is_size_ an_is_size_ : Option Addr} {sl_is_size_ : Array (Option Value)} {oc_is_size_ kV_is_size_ dc_is_size_ pm_is_size_ cd_is_size_ ct_is_size_ : Value}
    {f_check_size_ : Addr} {od_check_size_ an_check_size_ : Option Addr} {sl_check_size_ : Array (Option Value)} {oc_check_size_ kV_check_size_ dc_check_size_ pm_check_size_ cd_check_size_ ct_check_size_ : Value}
    {f_is_diagram : Addr} {od_is_diagram an_is_diagram : Option Addr} {sl_is_diagram : Array (Option Value)} {oc_is_diagram kV_is_diagram dc_is_diagram pm_is_diagram cd_is_diagram ct_is_diagram : Value}
    {f_check_diagram : Addr} {od_check_diagram an_check_diagram : Option Addr} {sl_check_diagram : Array (Option Value)} {oc_check_diagram kV_check_diagram dc_check_diagram pm_check_diagram cd_check_diagram ct_check_diagram : Value}
    {f_labels : Addr} {od_labels an_labels : Option Addr} {sl_labels : Array (Option Value)} {oc_labels kV_labels dc_labels pm_labels cd_labels ct_labels : Value}
    {f_from_labels : Addr} {od_from_labels an_from_labels : Option Addr} {sl_from_labels : Array (Option Value)} {oc_from_labels kV_from_labels dc_from_labels pm_from_labels cd_from_labels ct_from_labels : Value}
    {f_law_seen : Addr} {od_law_seen an_law_seen : Option Addr} {sl_law_seen : Array (Option Value)} {oc_law_seen kV_law_seen dc_law_seen pm_law_seen cd_law_seen ct_law_seen : Value}
    {f_law_from : Addr} {od_law_from an_law_from : Option Addr} {sl_law_from : Array (Option Value)} {oc_law_from kV_law_from dc_law_from pm_law_from cd_law_from ct_law_from : Value}
    {f_law_marks : Addr} {od_law_marks an_law_marks : Option Addr} {sl_law_marks : Array (Option Value)} {oc_law_marks kV_law_marks dc_law_marks pm_law_marks cd_law_marks ct_law_marks : Value}
    {f_law_pick : Addr} {od_law_pick an_law_pick : Option Addr} {sl_law_pick : Array (Option Value)} {oc_law_pick kV_law_pick dc_law_pick pm_law_pick cd_law_pick ct_law_pick : Value}
    {f_law_family : Addr} {od_law_family an_law_family : Option Addr} {sl_law_family : Array (Option Value)} {oc_law_family kV_law_family dc_law_family pm_law_family cd_law_family ct_law_family : Value}
    {f_law_other_side : Addr} {od_law_other_side an_law_other_side : Option Addr} {sl_law_other_side : Array (Option Value)} {oc_law_other_side kV_law_other_side dc_law_other_side pm_law_other_side cd_law_other_side ct_law_other_side : Value}
    {f_law_joined : Addr} {od_law_joined an_law_joined : Option Addr} {sl_law_joined : Array (Option Value)} {oc_law_joined kV_law_joined dc_law_joined pm_law_joined cd_law_joined ct_law_joined : Value}
    {f_law_threaded : Addr} {od_law_threaded an_law_threaded : Option Addr} {sl_law_threaded : Array (Option Value)} {oc_law_threaded kV_law_threaded dc_law_threaded pm_law_threaded cd_law_threaded ct_law_threaded : Value}
    {f_law_drawn : Addr} {od_law_drawn an_law_drawn : Option Addr} {sl_law_drawn : Array (Option Value)} {oc_law_drawn kV_law_drawn dc_law_drawn pm_law_drawn cd_law_drawn ct_law_drawn : Value}
    {f_next_letters_ : Addr} {od_next_letters_ an_next_letters_ : Option Addr} {sl_next_letters_ : Array (Option Value)} {oc_next_letters_ kV_next_letters_ dc_next_letters_ pm_next_letters_ cd_next_letters_ ct_next_letters_ : Value}
    {f_has_room_ : Addr} {od_has_room_ an_has_room_ : Option Addr} {sl_has_room_ : Array (Option Value)} {oc_has_room_ kV_has_room_ dc_has_room_ pm_has_room_ cd_has_room_ ct_has_room_ : Value}
    {f_text_of : Addr} {od_text_of an_text_of : Option Addr} {sl_text_of : Array (Option Value)} {oc_text_of kV_text_of dc_text_of pm_text_of cd_text_of ct_text_of : Value}
    {f_Malformed_init : Addr} {od_Malformed_init an_Malformed_init : Option Addr} {sl_Malformed_init : Array (Option Value)} {oc_Malformed_init kV_Malformed_init dc_Malformed_init pm_Malformed_init cd_Malformed_init ct_Malformed_init : Value}
    {f_read_diagram : Addr} {od_read_diagram an_read_diagram : Option Addr} {sl_read_diagram : Array (Option Value)} {oc_read_diagram kV_read_diagram dc_read_diagram pm_read_diagram cd_read_diagram ct_read_diagram : Value}
    {f_law_fault : Addr} {od_law_fault an_law_fault : Option Addr} {sl_law_fault : Array (Option Value)} {oc_law_fault kV_law_fault dc_law_fault pm_law_fault cd_law_fault ct_law_fault : Value}
    {f_law_told : Addr} {od_law_told an_law_told : Option Addr} {sl_law_told : Array (Option Value)} {oc_law_told kV_law_told dc_law_told pm_law_told cd_law_told ct_law_told : Value}
    {f_law_refuses : Addr} {od_law_refuses an_law_refuses : Option Addr} {sl_law_refuses : Array (Option Value)} {oc_law_refuses kV_law_refuses dc_law_refuses pm_law_refuses cd_law_refuses ct_law_refuses : Value}
    {f_law_spoilt : Addr} {od_law_spoilt an_law_spoilt : Option Addr} {sl_law_spoilt : Array (Option Value)} {oc_law_spoilt kV_law_spoilt dc_law_spoilt pm_law_spoilt cd_law_spoilt ct_law_spoilt : Value}
    {f_law : Addr} {od_law an_law : Option Addr} {sl_law : Array (Option Value)} {oc_law kV_law dc_law pm_law cd_law ct_law : Value}
    {CB : Addr}
    {CD : Addr}
    {tm_MOST_ON_A_SIDE : Tok}
    {tm_MOST_POINTS : Tok}
    {tm_LETTERS : Tok}
    {CM N_Malformed : Addr} {nm_Malformed q_Malformed : Str} {bs_Malformed bm_Malformed sub_Malformed : List Value} {sn_Malformed : List Str} {ab_Malformed : Bool} {col_Malformed : Option Bool} {dd_Malformed : Option Addr} {m0_Malformed m1_Malformed m2_Malformed m3_Malformed m5_Malformed : Option Value}
    {CE : Addr}
    (a_law_number : PySem.W.nsIn K mainGlobals "_law_number" = some (some (.ref f_law_number))) (l_law_number : K.lookup f_law_number = some ⟨oc_law_number, od_law_number, .func (PySem.W.fnOf "_law_number" "_law_number" (defArgs s_law_number) (defBody s_law_number) (defScope s_law_number) .none kV_law_number dc_law_number pm_law_number an_law_number cd_law_number ct_law_number), sl_law_number⟩) (c_law_number : PySem.W.codeIn K cd_law_number "_law_number" = true) (k_law_number : PySem.W.keepIn K (.ref f_law_number) = true)
    (a_law_next : PySem.W.nsIn K mainGlobals "_law_next" = some (some (.ref f_law_next))) (l_law_next : K.lookup f_law_next = some ⟨oc_law_next, od_law_next, .func (PySem.W.fnOf "_law_next" "_law_next" (defArgs s_law_next) (defBody s_law_next) (defScope s_law_next) .none kV_law_next dc_law_next pm_law_next an_law_next cd_law_next ct_law_next), sl_law_next⟩) (c_law_next : PySem.W.codeIn K cd_law_next "_law_next" = true) (k_law_next : PySem.W.keepIn K (.ref f_law_next) = true)
    (a_law_draws : PySem.W.nsIn K mainGlobals "_law_draws" = some (some (.ref f_law_draws))) (l_law_draws : K.lookup f_law_draws = some ⟨oc_law_draws, od_law_draws, .func (PySem.W.fnOf "_law_draws" "_law_draws" (defArgs s_law_draws) (defBody s_law_draws) (defScope s_law_draws) .none kV_law_draws dc_law_draws pm_law_draws an_law_draws cd_law_draws ct_law_draws), sl_law_draws⟩) (c_law_draws : PySem.W.codeIn K cd_law_draws "_law_draws" = true) (k_law_draws : PySem.W.keepIn K (.ref f_law_draws) = true)
    (a_is_size_ : PySem.W.nsIn K mainGlobals "_is_size" = some (some (.ref f_is_size_))) (l_is_size_ : K.lookup f_is_size_ = some ⟨oc_is_size_, od_is_size_, .func (PySem.W.fnOf "_is_size" "_is_size" (defArgs s_is_size_) (defBody s_is_size_) (defScope s_is_size_) .none kV_is_size_ dc_is_size_ pm_is_size_ an_is_size_ cd_is_size_ ct_is_size_), sl_is_size_⟩) (c_is_size_ : PySem.W.codeIn K cd_is_size_ "_is_size" = true) (k_is_size_ : PySem.W.keepIn K (.ref f_is_size_) = true)
    (a_check_size_ : PySem.W.nsIn K mainGlobals "_check_size" = some (some (.ref f_check_size_))) (l_check_size_ : K.lookup f_check_size_ = some ⟨oc_check_size_, od_check_size_, .func (PySem.W.fnOf "_check_size" "_check_size" (defArgs s_check_size_) (defBody s_check_size_) (defScope s_check_size_) .none kV_check_size_ dc_check_size_ pm_check_size_ an_check_size_ cd_check_size_ ct_check_size_), sl_check_size_⟩) (c_check_size_ : PySem.W.codeIn K cd_check_size_ "_check_size" = true) (k_check_size_ : PySem.W.keepIn K (.ref f_check_size_) = true)
    (a_is_diagram : PySem.W.nsIn K mainGlobals "is_diagram" = some (some (.ref f_is_diagram))) (l_is_diagram : K.lookup f_is_diagram = some ⟨oc_is_diagram, od_is_diagram, .func (PySem.W.fnOf "is_diagram" "is_diagram" (defArgs s_is_diagram) (defBody s_is_diagram) (defScope s_is_diagram) .none kV_is_diagram dc_is_diagram pm_is_diagram an_is_diagram cd_is_diagram ct_is_diagram), sl_is_diagram⟩) (c_is_diagram : PySem.W.codeIn K cd_is_diagram "is_diagram" = true) (k_is_diagram : PySem.W.keepIn K (.ref f_is_diagram) = true)
    (a_check_diagram : PySem.W.nsIn K mainGlobals "check_diagram" = some (some (.ref f_check_diagram))) (l_check_diagram : K.lookup f_check_diagram = some ⟨oc_check_diagram, od_check_diagram, .func (PySem.W.fnOf "check_diagram" "check_diagram" (defArgs s_check_diagram) (defBody s_check_diagram) (defScope s_check_diagram) .none kV_check_diagram dc_check_diagram pm_check_diagram an_check_diagram cd_check_diagram ct_check_diagram), sl_check_diagram⟩) (c_check_diagram : PySem.W.codeIn K cd_check_diagram "check_diagram" = true) (k_check_diagram : PySem.W.keepIn K (.ref f_check_diagram) = true)
    (a_labels : PySem.W.nsIn K mainGlobals "labels" = some (some (.ref f_labels))) (l_labels : K.lookup f_labels = some ⟨oc_labels, od_labels, .func (PySem.W.fnOf "labels" "labels" (defArgs s_labels) (defBody s_labels) (defScope s_labels) .none kV_labels dc_labels pm_labels an_labels cd_labels ct_labels), sl_labels⟩) (c_labels : PySem.W.codeIn K cd_labels "labels" = true) (k_labels : PySem.W.keepIn K (.ref f_labels) = true)
    (a_from_labels : PySem.W.nsIn K mainGlobals "from_labels" = some (some (.ref f_from_labels))) (l_from_labels : K.lookup f_from_labels = some ⟨oc_from_labels, od_from_labels, .func (PySem.W.fnOf "from_labels" "from_labels" (defArgs s_from_labels) (defBody s_from_labels) (defScope s_from_labels) .none kV_from_labels dc_from_labels pm_from_labels an_from_labels cd_from_labels ct_from_labels), sl_from_labels⟩) (c_from_labels : PySem.W.codeIn K cd_from_labels "from_labels" = true) (k_from_labels : PySem.W.keepIn K (.ref f_from_labels) = true)
    (a_law_seen : PySem.W.nsIn K mainGlobals "_law_seen" = some (some (.ref f_law_seen))) (l_law_seen : K.lookup f_law_seen = some ⟨oc_law_seen, od_law_seen, .func (PySem.W.fnOf "_law_seen" "_law_seen" (defArgs s_law_seen) (defBody s_law_seen) (defScope s_law_seen) .none kV_law_seen dc_law_seen pm_law_seen an_law_seen cd_law_seen ct_law_seen), sl_law_seen⟩) (c_law_seen : PySem.W.codeIn K cd_law_seen "_law_seen" = true) (k_law_seen : PySem.W.keepIn K (.ref f_law_seen) = true)
    (a_law_from : PySem.W.nsIn K mainGlobals "_law_from" = some (some (.ref f_law_from))) (l_law_from : K.lookup f_law_from = some ⟨oc_law_from, od_law_from, .func (PySem.W.fnOf "_law_from" "_law_from" (defArgs s_law_from) (defBody s_law_from) (defScope s_law_from) .none kV_law_from dc_law_from pm_law_from an_law_from cd_law_from ct_law_from), sl_law_from⟩) (c_law_from : PySem.W.codeIn K cd_law_from "_law_from" = true) (k_law_from : PySem.W.keepIn K (.ref f_law_from) = true)
    (a_law_marks : PySem.W.nsIn K mainGlobals "_law_marks" = some (some (.ref f_law_marks))) (l_law_marks : K.lookup f_law_marks = some ⟨oc_law_marks, od_law_marks, .func (PySem.W.fnOf "_law_marks" "_law_marks" (defArgs s_law_marks) (defBody s_law_marks) (defScope s_law_marks) .none kV_law_marks dc_law_marks pm_law_marks an_law_marks cd_law_marks ct_law_marks), sl_law_marks⟩) (c_law_marks : PySem.W.codeIn K cd_law_marks "_law_marks" = true) (k_law_marks : PySem.W.keepIn K (.ref f_law_marks) = true)
    (a_law_pick : PySem.W.nsIn K mainGlobals "_law_pick" = some (some (.ref f_law_pick))) (l_law_pick : K.lookup f_law_pick = some ⟨oc_law_pick, od_law_pick, .func (PySem.W.fnOf "_law_pick" "_law_pick" (defArgs s_law_pick) (defBody s_law_pick) (defScope s_law_pick) .none kV_law_pick dc_law_pick pm_law_pick an_law_pick cd_law_pick ct_law_pick), sl_law_pick⟩) (c_law_pick : PySem.W.codeIn K cd_law_pick "_law_pick" = true) (k_law_pick : PySem.W.keepIn K (.ref f_law_pick) = true)
    (a_law_family : PySem.W.nsIn K mainGlobals "_law_family" = some (some (.ref f_law_family))) (l_law_family : K.lookup f_law_family = some ⟨oc_law_family, od_law_family, .func (PySem.W.fnOf "_law_family" "_law_family" (defArgs s_law_family) (defBody s_law_family) (defScope s_law_family) .none kV_law_family dc_law_family pm_law_family an_law_family cd_law_family ct_law_family), sl_law_family⟩) (c_law_family : PySem.W.codeIn K cd_law_family "_law_family" = true) (k_law_family : PySem.W.keepIn K (.ref f_law_family) = true)
    (a_law_other_side : PySem.W.nsIn K mainGlobals "_law_other_side" = some (some (.ref f_law_other_side))) (l_law_other_side : K.lookup f_law_other_side = some ⟨oc_law_other_side, od_law_other_side, .func (PySem.W.fnOf "_law_other_side" "_law_other_side" (defArgs s_law_other_side) (defBody s_law_other_side) (defScope s_law_other_side) .none kV_law_other_side dc_law_other_side pm_law_other_side an_law_other_side cd_law_other_side ct_law_other_side), sl_law_other_side⟩) (c_law_other_side : PySem.W.codeIn K cd_law_other_side "_law_other_side" = true) (k_law_other_side : PySem.W.keepIn K (.ref f_law_other_side) = true)
    (a_law_joined : PySem.W.nsIn K mainGlobals "_law_joined" = some (some (.ref f_law_joined))) (l_law_joined : K.lookup f_law_joined = some ⟨oc_law_joined, od_law_joined, .func (PySem.W.fnOf "_law_joined" "_law_joined" (defArgs s_law_joined) (defBody s_law_joined) (defScope s_law_joined) .none kV_law_joined dc_law_joined pm_law_joined an_law_joined cd_law_joined ct_law_joined), sl_law_joined⟩) (c_law_joined : PySem.W.codeIn K cd_law_joined "_law_joined" = true) (k_law_joined : PySem.W.keepIn K (.ref f_law_joined) = true)
    (a_law_threaded : PySem.W.nsIn K mainGlobals "_law_threaded" = some (some (.ref f_law_threaded))) (l_law_threaded : K.lookup f_law_threaded = some ⟨oc_law_threaded, od_law_threaded, .func (PySem.W.fnOf "_law_threaded" "_law_threaded" (defArgs s_law_threaded) (defBody s_law_threaded) (defScope s_law_threaded) .none kV_law_threaded dc_law_threaded pm_law_threaded an_law_threaded cd_law_threaded ct_law_threaded), sl_law_threaded⟩) (c_law_threaded : PySem.W.codeIn K cd_law_threaded "_law_threaded" = true) (k_law_threaded : PySem.W.keepIn K (.ref f_law_threaded) = true)
    (a_law_drawn : PySem.W.nsIn K mainGlobals "_law_drawn" = some (some (.ref f_law_drawn))) (l_law_drawn : K.lookup f_law_drawn = some ⟨oc_law_drawn, od_law_drawn, .func (PySem.W.fnOf "_law_drawn" "_law_drawn" (defArgs s_law_drawn) (defBody s_law_drawn) (defScope s_law_drawn) .none kV_law_drawn dc_law_drawn pm_law_drawn an_law_drawn cd_law_drawn ct_law_drawn), sl_law_drawn⟩) (c_law_drawn : PySem.W.codeIn K cd_law_drawn "_law_drawn" = true) (k_law_drawn : PySem.W.keepIn K (.ref f_law_drawn) = true)
    (a_next_letters_ : PySem.W.nsIn K mainGlobals "_next_letters" = some (some (.ref f_next_letters_))) (l_next_letters_ : K.lookup f_next_letters_ = some ⟨oc_next_letters_, od_next_letters_, .func (PySem.W.fnOf "_next_letters" "_next_letters" (defArgs s_next_letters_) (defBody s_next_letters_) (defScope s_next_letters_) .none kV_next_letters_ dc_next_letters_ pm_next_letters_ an_next_letters_ cd_next_letters_ ct_next_letters_), sl_next_letters_⟩) (c_next_letters_ : PySem.W.codeIn K cd_next_letters_ "_next_letters" = true) (k_next_letters_ : PySem.W.keepIn K (.ref f_next_letters_) = true)
    (a_has_room_ : PySem.W.nsIn K mainGlobals "_has_room" = some (some (.ref f_has_room_))) (l_has_room_ : K.lookup f_has_room_ = some ⟨oc_has_room_, od_has_room_, .func (PySem.W.fnOf "_has_room" "_has_room" (defArgs s_has_room_) (defBody s_has_room_) (defScope s_has_room_) .none kV_has_room_ dc_has_room_ pm_has_room_ an_has_room_ cd_has_room_ ct_has_room_), sl_has_room_⟩) (c_has_room_ : PySem.W.codeIn K cd_has_room_ "_has_room" = true) (k_has_room_ : PySem.W.keepIn K (.ref f_has_room_) = true)
    (a_text_of : PySem.W.nsIn K mainGlobals "text_of" = some (some (.ref f_text_of))) (l_text_of : K.lookup f_text_of = some ⟨oc_text_of, od_text_of, .func (PySem.W.fnOf "text_of" "text_of" (defArgs s_text_of) (defBody s_text_of) (defScope s_text_of) .none kV_text_of dc_text_of pm_text_of an_text_of cd_text_of ct_text_of), sl_text_of⟩) (c_text_of : PySem.W.codeIn K cd_text_of "text_of" = true) (k_text_of : PySem.W.keepIn K (.ref f_text_of) = true)
    (l_Malformed_init : K.lookup f_Malformed_init = some ⟨oc_Malformed_init, od_Malformed_init, .func (PySem.W.fnOf "__init__" "Malformed.__init__" (defArgs s_Malformed_init) (defBody s_Malformed_init) (defScope s_Malformed_init) .none kV_Malformed_init dc_Malformed_init pm_Malformed_init an_Malformed_init cd_Malformed_init ct_Malformed_init), sl_Malformed_init⟩) (c_Malformed_init : PySem.W.codeIn K cd_Malformed_init "Malformed.__init__" = true) (k_Malformed_init : PySem.W.keepIn K (.ref f_Malformed_init) = true)
    (a_read_diagram : PySem.W.nsIn K mainGlobals "read_diagram" = some (some (.ref f_read_diagram))) (l_read_diagram : K.lookup f_read_diagram = some ⟨oc_read_diagram, od_read_diagram, .func (PySem.W.fnOf "read_diagram" "read_diagram" (defArgs s_read_diagram) (defBody s_read_diagram) (defScope s_read_diagram) .none kV_read_diagram dc_read_diagram pm_read_diagram an_read_diagram cd_read_diagram ct_read_diagram), sl_read_diagram⟩) (c_read_diagram : PySem.W.codeIn K cd_read_diagram "read_diagram" = true) (k_read_diagram : PySem.W.keepIn K (.ref f_read_diagram) = true)
    (a_law_fault : PySem.W.nsIn K mainGlobals "_law_fault" = some (some (.ref f_law_fault))) (l_law_fault : K.lookup f_law_fault = some ⟨oc_law_fault, od_law_fault, .func (PySem.W.fnOf "_law_fault" "_law_fault" (defArgs s_law_fault) (defBody s_law_fault) (defScope s_law_fault) .none kV_law_fault dc_law_fault pm_law_fault an_law_fault cd_law_fault ct_law_fault), sl_law_fault⟩) (c_law_fault : PySem.W.codeIn K cd_law_fault "_law_fault" = true) (k_law_fault : PySem.W.keepIn K (.ref f_law_fault) = true)
    (a_law_told : PySem.W.nsIn K mainGlobals "_law_told" = some (some (.ref f_law_told))) (l_law_told : K.lookup f_law_told = some ⟨oc_law_told, od_law_told, .func (PySem.W.fnOf "_law_told" "_law_told" (defArgs s_law_told) (defBody s_law_told) (defScope s_law_told) .none kV_law_told dc_law_told pm_law_told an_law_told cd_law_told ct_law_told), sl_law_told⟩) (c_law_told : PySem.W.codeIn K cd_law_told "_law_told" = true) (k_law_told : PySem.W.keepIn K (.ref f_law_told) = true)
    (a_law_refuses : PySem.W.nsIn K mainGlobals "_law_refuses" = some (some (.ref f_law_refuses))) (l_law_refuses : K.lookup f_law_refuses = some ⟨oc_law_refuses, od_law_refuses, .func (PySem.W.fnOf "_law_refuses" "_law_refuses" (defArgs s_law_refuses) (defBody s_law_refuses) (defScope s_law_refuses) .none kV_law_refuses dc_law_refuses pm_law_refuses an_law_refuses cd_law_refuses ct_law_refuses), sl_law_refuses⟩) (c_law_refuses : PySem.W.codeIn K cd_law_refuses "_law_refuses" = true) (k_law_refuses : PySem.W.keepIn K (.ref f_law_refuses) = true)
    (a_law_spoilt : PySem.W.nsIn K mainGlobals "_law_spoilt" = some (some (.ref f_law_spoilt))) (l_law_spoilt : K.lookup f_law_spoilt = some ⟨oc_law_spoilt, od_law_spoilt, .func (PySem.W.fnOf "_law_spoilt" "_law_spoilt" (defArgs s_law_spoilt) (defBody s_law_spoilt) (defScope s_law_spoilt) .none kV_law_spoilt dc_law_spoilt pm_law_spoilt an_law_spoilt cd_law_spoilt ct_law_spoilt), sl_law_spoilt⟩) (c_law_spoilt : PySem.W.codeIn K cd_law_spoilt "_law_spoilt" = true) (k_law_spoilt : PySem.W.keepIn K (.ref f_law_spoilt) = true)
    (a_law : PySem.W.nsIn K mainGlobals "law" = some (some (.ref f_law))) (l_law : K.lookup f_law = some ⟨oc_law, od_law, .func (PySem.W.fnOf "law" "law" (defArgs s_law) (defBody s_law) (defScope s_law) .none kV_law dc_law pm_law an_law cd_law ct_law), sl_law⟩) (c_law : PySem.W.codeIn K cd_law "law" = true) (k_law : PySem.W.keepIn K (.ref f_law) = true)
    (zn_int : PySem.W.nsIn K mainGlobals "int" = some none)
    (zn_range : PySem.W.nsIn K mainGlobals "range" = some none)
    (zn_len : PySem.W.nsIn K mainGlobals "len" = some none)
    (zn_list : PySem.W.nsIn K mainGlobals "list" = some none)
    (zn_tuple : PySem.W.nsIn K mainGlobals "tuple" = some none)
    (zn_max : PySem.W.nsIn K mainGlobals "max" = some none)
    (zn_min : PySem.W.nsIn K mainGlobals "min" = some none)
    (zn_all : PySem.W.nsIn K mainGlobals "all" = some none)
    (zn_sorted : PySem.W.nsIn K mainGlobals "sorted" = some none)
    (zn_repr : PySem.W.nsIn K mainGlobals "repr" = some none)
    (zn_isinstance : PySem.W.nsIn K mainGlobals "isinstance" = some none)
    (zn_enumerate : PySem.W.nsIn K mainGlobals "enumerate" = some none)
    (n_BadNumber : PySem.W.nsIn K mainGlobals "BadNumber" = some (some (.ref CB)))
    (x_BadNumber : PySem.W.excIn K CB [.type "ValueError", .type "Exception", .type "BaseException", .type "object"] "ValueError.__new__" = true)
    (kc_BadNumber : PySem.W.keepIn K (.ref CB) = true)
    (bc_BadNumber : PySem.W.subIn K (.ref CB) (.type "BaseException") = some true)
    (tc_BadNumber : PySem.W.typeIn K (.ref CB) = some (.type "type"))
    (n_NotDiagram : PySem.W.nsIn K mainGlobals "NotDiagram" = some (some (.ref CD)))
    (x_NotDiagram : PySem.W.excIn K CD [.type "ValueError", .type "Exception", .type "BaseException", .type "object"] "ValueError.__new__" = true)
    (kc_NotDiagram : PySem.W.keepIn K (.ref CD) = true)
    (bc_NotDiagram : PySem.W.subIn K (.ref CD) (.type "BaseException") = some true)
    (tc_NotDiagram : PySem.W.typeIn K (.ref CD) = some (.type "type"))
    (n_MOST_ON_A_SIDE : PySem.W.nsIn K mainGlobals "MOST_ON_A_SIDE" = some (some (.int 8 tm_MOST_ON_A_SIDE)))
    (n_MOST_POINTS : PySem.W.nsIn K mainGlobals "MOST_POINTS" = some (some (.int 12 tm_MOST_POINTS)))
    (n_LETTERS : PySem.W.nsIn K mainGlobals "LETTERS" = some (some (.str "abcdefghijkl" tm_LETTERS)))
    (n_Malformed : PySem.W.nsIn K mainGlobals "Malformed" = some (some (.ref CM)))
    (x_Malformed : K.lookup CM = some (excClassObj nm_Malformed q_Malformed CM N_Malformed bs_Malformed bm_Malformed true sn_Malformed sub_Malformed ab_Malformed col_Malformed dd_Malformed m0_Malformed m1_Malformed m2_Malformed m3_Malformed m5_Malformed "ValueError.__new__"))
    (r_Malformed : PySem.HandSPX.refsVE bm_Malformed = true)
    (sa_Malformed : PySem.W.findIn K (.ref CM) "__setattr__" = some (some (.builtin "object.__setattr__")))
    (ga_Malformed : PySem.W.findIn K (.ref CM) "__getattribute__" = some (some (.builtin "BaseException.__getattribute__")))
    (gg_Malformed : PySem.W.findIn K (.ref CM) "__getattr__" = some none)
    (na_Malformed : PySem.W.findIn K (.ref CM) "at" = some none)
    (ii_Malformed : PySem.W.findIn K (.ref CM) "__init__" = some (some (.ref f_Malformed_init)))
    (kc_Malformed : PySem.W.keepIn K (.ref CM) = true)
    (ec_Malformed : PySem.W.subIn K (.ref CM) (.type "BaseException") = some true)
    (tc_Malformed : PySem.W.typeIn K (.ref CM) = some (.type "type"))
    (hd_Malformed : PySem.W.hasDictIn K CM = true)
    (ti_Malformed : PySem.W.typeIn K (.ref f_Malformed_init) = some (.type "function"))
    (ss_Malformed : PySem.W.subIn K (.ref CM) (.ref CM) = some true)
    (n_WorthError : PySem.W.nsIn K mainGlobals "WorthError" = some (some (.ref CE)))
    (hn_cls : PySem.W.specialIn K (.builtin "object.__class__") "__get__" = some (some (.builtin "getset_descriptor.__get__")))
    (ht_cls : PySem.W.takesIn K (.builtin "object.__class__") = some true)
    (ha_Malformed : PySem.W.findIn K (.ref CM) "__class__" = some (some (.builtin "object.__class__")))
    (hm_Malformed : PySem.W.mroIn K CM (.type "object") = some true)
    (kME : PySem.W.kitOne K (.ref CM) (.ref CE) = some true)
    (hd_NotDiagram : PySem.W.hasDictIn K CD = true)
    (ss_NotDiagram : PySem.W.subIn K (.ref CD) (.ref CD) = some true)
    : ∃ fd : FuncData, (∀ (s : Shared) (v : Value), BindsTo s fd ⟨[v], []⟩ [("script", v)]) ∧ ∀ base : Heap, K.In base → base.Ns mainGlobals mg → FnG P w K mg base 7 fa fd ["script"] (spLaw K) := by
  have e := hfa.symm.trans (PySem.W.mg_of X G a_law)
  cases e
  have F_law_number := fun_mk (st := s_law_number) l_law_number c_law_number k_law_number
  have g_law_number := PySem.W.mg_of X G a_law_number
  have b_law_number := F_law_number.binds (ps := ["cell"]) fun _ _ _ _ _ _ us hl => match us, hl with | [_], _ => rfl
  have F_law_next := fun_mk (st := s_law_next) l_law_next c_law_next k_law_next
  have g_law_next := PySem.W.mg_of X G a_law_next
  have b_law_next := F_law_next.binds (ps := ["draws"]) fun _ _ _ _ _ _ us hl => match us, hl with | [_], _ => rfl
  have F_law_draws := fun_mk (st := s_law_draws) l_law_draws c_law_draws k_law_draws
  have g_law_draws := PySem.W.mg_of X G a_law_draws
  have b_law_draws := F_law_draws.binds (ps := ["script"]) fun _ _ _ _ _ _ us hl => match us, hl with | [_], _ => rfl
  have F_is_size_ := fun_mk (st := s_is_size_) l_is_size_ c_is_size_ k_is_size_
  have g_is_size_ := PySem.W.mg_of X G a_is_size_
  have b_is_size_ := F_is_size_.binds (ps := ["n", "m"]) fun _ _ _ _ _ _ us hl => match us, hl with | [_, _], _ => rfl
  have F_check_size_ := fun_mk (st := s_check_size_) l_check_size_ c_check_size_ k_check_size_
  have g_check_size_ := PySem.W.mg_of X G a_check_size_
  have b_check_size_ := F_check_size_.binds (ps := ["n", "m"]) fun _ _ _ _ _ _ us hl => match us, hl with | [_, _], _ => rfl
  have F_is_diagram := fun_mk (st := s_is_diagram) l_is_diagram c_is_diagram k_is_diagram
  have g_is_diagram := PySem.W.mg_of X G a_is_diagram
  have b_is_diagram := F_is_diagram.binds (ps := ["diagram"]) fun _ _ _ _ _ _ us hl => match us, hl with | [_], _ => rfl
  have F_check_diagram := fun_mk (st := s_check_diagram) l_check_diagram c_check_diagram k_check_diagram
  have g_check_diagram := PySem.W.mg_of X G a_check_diagram
  have b_check_diagram := F_check_diagram.binds (ps := ["diagram"]) fun _ _ _ _ _ _ us hl => match us, hl with | [_], _ => rfl
  have F_labels := fun_mk (st := s_labels) l_labels c_labels k_labels
  have g_labels := PySem.W.mg_of X G a_labels
  have b_labels := F_labels.binds (ps := ["diagram"]) fun _ _ _ _ _ _ us hl => match us, hl with | [_], _ => rfl
  have F_from_labels := fun_mk (st := s_from_labels) l_from_labels c_from_labels k_from_labels
  have g_from_labels := PySem.W.mg_of X G a_from_labels
  have b_from_labels := F_from_labels.binds (ps := ["n", "m", "marks"]) fun _ _ _ _ _ _ us hl => match us, hl with | [_, _, _], _ => rfl
  have F_law_seen := fun_mk (st := s_law_seen) l_law_seen c_law_seen k_law_seen
  have g_law_seen := PySem.W.mg_of X G a_law_seen
  have b_law_seen := F_law_seen.binds (ps := ["marks"]) fun _ _ _ _ _ _ us hl => match us, hl with | [_], _ => rfl
  have F_law_from := fun_mk (st := s_law_from) l_law_from c_law_from k_law_from
  have g_law_from := PySem.W.mg_of X G a_law_from
  have b_law_from := F_law_from.binds (ps := ["n", "m", "marks"]) fun _ _ _ _ _ _ us hl => match us, hl with | [_, _, _], _ => rfl
  have F_law_marks := fun_mk (st := s_law_marks) l_law_marks c_law_marks k_law_marks
  have g_law_marks := PySem.W.mg_of X G a_law_marks
  have b_law_marks := F_law_marks.binds (ps := ["diagram"]) fun _ _ _ _ _ _ us hl => match us, hl with | [_], _ => rfl
  have F_law_pick := fun_mk (st := s_law_pick) l_law_pick c_law_pick k_law_pick
  have g_law_pick := PySem.W.mg_of X G a_law_pick
  have b_law_pick := F_law_pick.binds (ps := ["draws", "left"]) fun _ _ _ _ _ _ us hl => match us, hl with | [_, _], _ => rfl
  have F_law_family := fun_mk (st := s_law_family) l_law_family c_law_family k_law_family
  have g_law_family := PySem.W.mg_of X G a_law_family
  have b_law_family := F_law_family.binds (ps := ["draws"]) fun _ _ _ _ _ _ us hl => match us, hl with | [_], _ => rfl
  have F_law_other_side := fun_mk (st := s_law_other_side) l_law_other_side c_law_other_side k_law_other_side
  have g_law_other_side := PySem.W.mg_of X G a_law_other_side
  have b_law_other_side := F_law_other_side.binds (ps := ["draws", "family", "n", "most"]) fun _ _ _ _ _ _ us hl => match us, hl with | [_, _, _, _], _ => rfl
  have F_law_joined := fun_mk (st := s_law_joined) l_law_joined c_law_joined k_law_joined
  have g_law_joined := PySem.W.mg_of X G a_law_joined
  have b_law_joined := F_law_joined.binds (ps := ["marks", "links"]) fun _ _ _ _ _ _ us hl => match us, hl with | [_, _], _ => rfl
  have F_law_threaded := fun_mk (st := s_law_threaded) l_law_threaded c_law_threaded k_law_threaded
  have g_law_threaded := PySem.W.mg_of X G a_law_threaded
  have b_law_threaded := F_law_threaded.binds (ps := ["draws", "family", "n", "m"]) fun _ _ _ _ _ _ us hl => match us, hl with | [_, _, _, _], _ => rfl
  have F_law_drawn := fun_mk (st := s_law_drawn) l_law_drawn c_law_drawn k_law_drawn
  have g_law_drawn := PySem.W.mg_of X G a_law_drawn
  have b_law_drawn := F_law_drawn.binds (ps := ["draws", "family", "n", "m"]) fun _ _ _ _ _ _ us hl => match us, hl with | [_, _, _, _], _ => rfl
  have F_next_letters_ := fun_mk (st := s_next_letters_) l_next_letters_ c_next_letters_ k_next_letters_
  have g_next_letters_ := PySem.W.mg_of X G a_next_letters_
  have b_next_letters_ := F_next_letters_.binds (ps := ["marks"]) fun _ _ _ _ _ _ us hl => match us, hl with | [_], _ => rfl
  have F_has_room_ := fun_mk (st := s_has_room_) l_has_room_ c_has_room_ k_has_room_
  have g_has_room_ := PySem.W.mg_of X G a_has_room_
  have b_has_room_ := F_has_room_.binds (ps := ["n", "marks"]) fun _ _ _ _ _ _ us hl => match us, hl with | [_, _], _ => rfl
  have F_text_of := fun_mk (st := s_text_of) l_text_of c_text_of k_text_of
  have g_text_of := PySem.W.mg_of X G a_text_of
  have b_text_of := F_text_of.binds (ps := ["diagram"]) fun _ _ _ _ _ _ us hl => match us, hl with | [_], _ => rfl
  have F_Malformed_init := fun_mk (st := s_Malformed_init) l_Malformed_init c_Malformed_init k_Malformed_init
  have b_Malformed_init := F_Malformed_init.binds (ps := ["self", "at"]) fun _ _ _ _ _ _ us hl => match us, hl with | [_, _], _ => rfl
  have F_read_diagram := fun_mk (st := s_read_diagram) l_read_diagram c_read_diagram k_read_diagram
  have g_read_diagram := PySem.W.mg_of X G a_read_diagram
  have b_read_diagram := F_read_diagram.binds (ps := ["text"]) fun _ _ _ _ _ _ us hl => match us, hl with | [_], _ => rfl
  have F_law_fault := fun_mk (st := s_law_fault) l_law_fault c_law_fault k_law_fault
  have g_law_fault := PySem.W.mg_of X G a_law_fault
  have b_law_fault := F_law_fault.binds (ps := ["text"]) fun _ _ _ _ _ _ us hl => match us, hl with | [_], _ => rfl
  have F_law_told := fun_mk (st := s_law_told) l_law_told c_law_told k_law_told
  have g_law_told := PySem.W.mg_of X G a_law_told
  have b_law_told := F_law_told.binds (ps := ["text"]) fun _ _ _ _ _ _ us hl => match us, hl with | [_], _ => rfl
  have F_law_refuses := fun_mk (st := s_law_refuses) l_law_refuses c_law_refuses k_law_refuses
  have g_law_refuses := PySem.W.mg_of X G a_law_refuses
  have b_law_refuses := F_law_refuses.binds (ps := ["diagram"]) fun _ _ _ _ _ _ us hl => match us, hl with | [_], _ => rfl
  have F_law_spoilt := fun_mk (st := s_law_spoilt) l_law_spoilt c_law_spoilt k_law_spoilt
  have g_law_spoilt := PySem.W.mg_of X G a_law_spoilt
  have b_law_spoilt := F_law_spoilt.binds (ps := ["draws", "text"]) fun _ _ _ _ _ _ us hl => match us, hl with | [_, _], _ => rfl
  have F_law := fun_mk (st := s_law) l_law c_law k_law
  have g_law := PySem.W.mg_of X G a_law
  have b_law := F_law.binds (ps := ["script"]) fun _ _ _ _ _ _ us hl => match us, hl with | [_], _ => rfl
  have z_int := PySem.W.mg_none_of X G zn_int
  have z_range := PySem.W.mg_none_of X G zn_range
  have z_len := PySem.W.mg_none_of X G zn_len
  have z_list := PySem.W.mg_none_of X G zn_list
  have z_tuple := PySem.W.mg_none_of X G zn_tuple
  have z_max := PySem.W.mg_none_of X G zn_max
  have z_min := PySem.W.mg_none_of X G zn_min
  have z_all := PySem.W.mg_none_of X G zn_all
  have z_sorted := PySem.W.mg_none_of X G zn_sorted
  have z_repr := PySem.W.mg_none_of X G zn_repr
  have z_isinstance := PySem.W.mg_none_of X G zn_isinstance
  have z_enumerate := PySem.W.mg_none_of X G zn_enumerate
  have E_BadNumber : ErrC K mg "BadNumber" CB := ⟨PySem.W.mg_of X G n_BadNumber, x_BadNumber, kc_BadNumber, bc_BadNumber, tc_BadNumber⟩
  have E_NotDiagram : ErrC K mg "NotDiagram" CD := ⟨PySem.W.mg_of X G n_NotDiagram, x_NotDiagram, kc_NotDiagram, bc_NotDiagram, tc_NotDiagram⟩
  have m_MOST_ON_A_SIDE := PySem.W.mg_of X G n_MOST_ON_A_SIDE
  have m_MOST_POINTS := PySem.W.mg_of X G n_MOST_POINTS
  have m_LETTERS := PySem.W.mg_of X G n_LETTERS
  have OX_Malformed : MalC K mg CM f_Malformed_init := ⟨PySem.W.mg_of X G n_Malformed, ⟨⟨_, _, _, _, _, _, _, _, _, _, _, _, _, _, _, x_Malformed, r_Malformed⟩, sa_Malformed, ec_Malformed, tc_Malformed, kc_Malformed⟩, na_Malformed, ii_Malformed, ti_Malformed⟩
  have XM : XfC K CM := ⟨ga_Malformed, gg_Malformed, ec_Malformed, hd_Malformed⟩
  have ZM : ErrM K CM := ⟨ec_Malformed, hd_Malformed, tc_Malformed, ss_Malformed⟩
  have TE : WorE K mg CE CM := ⟨PySem.W.mg_of X G n_WorthError, ⟨ga_Malformed, gg_Malformed, ec_Malformed, hd_Malformed, ha_Malformed, hn_cls, ht_cls, hm_Malformed⟩, kME⟩
  have ZD : ErrM K CD := ⟨bc_NotDiagram, hd_NotDiagram, tc_NotDiagram, ss_NotDiagram⟩
  have gc_NotDiagram := PySem.W.mg_of X G n_NotDiagram
  refine ⟨PySem.W.fnOf "law" "law" (defArgs s_law) (defBody s_law) (defScope s_law) .none kV_law dc_law pm_law an_law cd_law ct_law, fun s v => .of_eq rfl, fun base _ _ => ?_⟩
  have G_law_number := ok_plain (P := P) (w := w) (mg := mg) (base := base) (F := F_law_number)
  have G_law_next := ok_next (P := P) (w := w) (mg := mg) (base := base) (F := F_law_next)
  have G_law_draws := ok_draws (P := P) (w := w) (mg := mg) (base := base) (F := F_law_draws) (z_range := z_range) (z_int := z_int) (G_law_number := G_law_number) (g_law_number := g_law_number) (k_law_number := k_law_number) (b_law_number := b_law_number)
  have G_is_size_ := ok_is_size_ (P := P) (w := w) (mg := mg) (base := base) (F := F_is_size_) (m_MOST_ON_A_SIDE := m_MOST_ON_A_SIDE) (m_MOST_POINTS := m_MOST_POINTS)
  have G_check_size_ := ok_check_size_ (P := P) (w := w) (mg := mg) (base := base) (F := F_check_size_) (T := E_BadNumber) (G_is_size_ := G_is_size_) (g_is_size_ := g_is_size_) (k_is_size_ := k_is_size_) (b_is_size_ := b_is_size_)
  have G_is_diagram := ok_is_diagram (P := P) (w := w) (mg := mg) (base := base) (F := F_is_diagram) (z_len := z_len) (z_list := z_list) (z_range := z_range) (z_sorted := z_sorted) (z_all := z_all) (G_is_size_ := G_is_size_) (g_is_size_ := g_is_size_) (k_is_size_ := k_is_size_) (b_is_size_ := b_is_size_)
  have G_check_diagram := ok_check_diagram (P := P) (w := w) (mg := mg) (base := base) (F := F_check_diagram) (T := E_NotDiagram) (G_is_diagram := G_is_diagram) (g_is_diagram := g_is_diagram) (k_is_diagram := k_is_diagram) (b_is_diagram := b_is_diagram)
  have G_labels := ok_labels (P := P) (w := w) (mg := mg) (base := base) (F := F_labels) (z_enumerate := z_enumerate) (z_range := z_range) (G_check_diagram := G_check_diagram) (g_check_diagram := g_check_diagram) (k_check_diagram := k_check_diagram) (b_check_diagram := b_check_diagram)
  have G_from_labels := ok_from_labels (P := P) (w := w) (mg := mg) (base := base) (F := F_from_labels) (T := E_BadNumber) (z_len := z_len) (z_enumerate := z_enumerate) (z_tuple := z_tuple) (G_check_size_ := G_check_size_) (g_check_size_ := g_check_size_) (k_check_size_ := k_check_size_) (b_check_size_ := b_check_size_)
  have G_law_seen := ok_law_seen (P := P) (w := w) (mg := mg) (base := base) (F := F_law_seen)
  have G_law_from := ok_law_from (P := P) (w := w) (mg := mg) (base := base) (F := F_law_from) (z_tuple := z_tuple) (z_range := z_range) (G_law_seen := G_law_seen) (g_law_seen := g_law_seen) (k_law_seen := k_law_seen) (b_law_seen := b_law_seen)
  have G_law_marks := ok_law_marks (P := P) (w := w) (mg := mg) (base := base) (F := F_law_marks) (z_len := z_len) (z_range := z_range)
  have G_law_pick := ok_law_pick (P := P) (w := w) (mg := mg) (base := base) (F := F_law_pick) (z_int := z_int) (z_len := z_len) (G_law_next := G_law_next) (g_law_next := g_law_next) (k_law_next := k_law_next) (b_law_next := b_law_next)
  have G_law_family := ok_law_family (P := P) (w := w) (mg := mg) (base := base) (F := F_law_family) (z_int := z_int) (G_law_next := G_law_next) (g_law_next := g_law_next) (k_law_next := k_law_next) (b_law_next := b_law_next)
  have G_law_other_side := ok_law_other_side (P := P) (w := w) (mg := mg) (base := base) (F := F_law_other_side) (z_int := z_int) (G_law_next := G_law_next) (g_law_next := g_law_next) (k_law_next := k_law_next) (b_law_next := b_law_next)
  have G_law_joined := ok_law_joined (P := P) (w := w) (mg := mg) (base := base) (F := F_law_joined) (z_min := z_min) (z_max := z_max)
  have G_law_threaded := ok_law_threaded (P := P) (w := w) (mg := mg) (base := base) (F := F_law_threaded) (z_int := z_int) (z_list := z_list) (z_range := z_range) (G_law_next := G_law_next) (g_law_next := g_law_next) (k_law_next := k_law_next) (b_law_next := b_law_next) (G_law_pick := G_law_pick) (g_law_pick := g_law_pick) (k_law_pick := k_law_pick) (b_law_pick := b_law_pick)
  have G_law_drawn := ok_law_drawn (P := P) (w := w) (mg := mg) (base := base) (F := F_law_drawn) (z_int := z_int) (z_list := z_list) (z_range := z_range) (z_len := z_len) (z_max := z_max) (G_law_next := G_law_next) (g_law_next := g_law_next) (k_law_next := k_law_next) (b_law_next := b_law_next) (G_law_pick := G_law_pick) (g_law_pick := g_law_pick) (k_law_pick := k_law_pick) (b_law_pick := b_law_pick) (G_law_from := G_law_from) (g_law_from := g_law_from) (k_law_from := k_law_from) (b_law_from := b_law_from) (G_law_threaded := G_law_threaded) (g_law_threaded := g_law_threaded) (k_law_threaded := k_law_threaded) (b_law_threaded := b_law_threaded) (G_law_joined := G_law_joined) (g_law_joined := g_law_joined) (k_law_joined := k_law_joined) (b_law_joined := b_law_joined)
  have G_next_letters_ := ok_next_letters (P := P) (w := w) (mg := mg) (base := base) (F := F_next_letters_) (z_max := z_max) (m_LETTERS := m_LETTERS)
  have G_has_room_ := ok_has_room (P := P) (w := w) (mg := mg) (base := base) (F := F_has_room_) (z_len := z_len) (m_MOST_ON_A_SIDE := m_MOST_ON_A_SIDE) (m_MOST_POINTS := m_MOST_POINTS)
  have G_text_of := ok_text_of (P := P) (w := w) (mg := mg) (base := base) (F := F_text_of) (m_LETTERS := m_LETTERS) (G_labels := G_labels) (g_labels := g_labels) (k_labels := k_labels) (b_labels := b_labels)
  have G_Malformed_init := ok_Malformed_init (P := P) (w := w) (mg := mg) (base := base) (F := F_Malformed_init)
  have G_read_diagram := ok_read_diagram (P := P) (w := w) (mg := mg) (base := base) (F := F_read_diagram) (m_LETTERS := m_LETTERS) (z_len := z_len) (z_enumerate := z_enumerate) (OX_Malformed := OX_Malformed) (G_Malformed_init := G_Malformed_init) (b_Malformed_init := b_Malformed_init) (G_from_labels := G_from_labels) (g_from_labels := g_from_labels) (k_from_labels := k_from_labels) (b_from_labels := b_from_labels) (G_has_room_ := G_has_room_) (g_has_room_ := g_has_room_) (k_has_room_ := k_has_room_) (b_has_room_ := b_has_room_) (G_next_letters_ := G_next_letters_) (g_next_letters_ := g_next_letters_) (k_next_letters_ := k_next_letters_) (b_next_letters_ := b_next_letters_)
  have G_law_fault := ok_law_fault (P := P) (w := w) (mg := mg) (base := base) (F := F_law_fault) (z_len := z_len) (z_range := z_range) (z_max := z_max)
  have G_law_told := ok_told17 (P := P) (w := w) (mg := mg) (base := base) (F := F_law_told) (z_isinstance := z_isinstance) (OX_Malformed := OX_Malformed) (XM := XM) (ZM := ZM) (TE := TE) (G_read_diagram := G_read_diagram) (g_read_diagram := g_read_diagram) (k_read_diagram := k_read_diagram) (b_read_diagram := b_read_diagram)
  have G_law_refuses := ok_refuses17 (P := P) (w := w) (mg := mg) (base := base) (F := F_law_refuses) (gc_NotDiagram := gc_NotDiagram) (ZD := ZD) (G_text_of := G_text_of) (g_text_of := g_text_of) (k_text_of := k_text_of) (b_text_of := b_text_of)
  have G_law_spoilt := ok_spoilt17 (P := P) (w := w) (mg := mg) (base := base) (F := F_law_spoilt) (z_int := z_int) (z_len := z_len) (G_law_next := G_law_next) (g_law_next := g_law_next) (k_law_next := k_law_next) (b_law_next := b_law_next)
  exact ok_law (P := P) (w := w) (mg := mg) (base := base) (F := F_law) (z_repr := z_repr) (z_int := z_int) (z_range := z_range) (z_tuple := z_tuple) (z_isinstance := z_isinstance) (G_law_draws := G_law_draws) (g_law_draws := g_law_draws) (k_law_draws := k_law_draws) (b_law_draws := b_law_draws) (G_law_next := G_law_next) (g_law_next := g_law_next) (k_law_next := k_law_next) (b_law_next := b_law_next) (G_law_family := G_law_family) (g_law_family := g_law_family) (k_law_family := k_law_family) (b_law_family := b_law_family) (G_law_drawn := G_law_drawn) (g_law_drawn := g_law_drawn) (k_law_drawn := k_law_drawn) (b_law_drawn := b_law_drawn) (G_law_other_side := G_law_other_side) (g_law_other_side := g_law_other_side) (k_law_other_side := k_law_other_side) (b_law_other_side := b_law_other_side) (G_law_marks := G_law_marks) (g_law_marks := g_law_marks) (k_law_marks := k_law_marks) (b_law_marks := b_law_marks) (G_law_spoilt := G_law_spoilt) (g_law_spoilt := g_law_spoilt) (k_law_spoilt := k_law_spoilt) (b_law_spoilt := b_law_spoilt) (G_law_fault := G_law_fault) (g_law_fault := g_law_fault) (k_law_fault := k_law_fault) (b_law_fault := b_law_fault) (G_law_told := G_law_told) (g_law_told := g_law_told) (k_law_told := k_law_told) (b_law_told := b_law_told) (G_law_refuses := G_law_refuses) (g_law_refuses := g_law_refuses) (k_law_refuses := k_law_refuses) (b_law_refuses := b_law_refuses) (G_text_of := G_text_of) (g_text_of := g_text_of) (k_text_of := k_text_of) (b_text_of := b_text_of)
end T
open PySem PySem.W PyProof.Rows
set_option maxHeartbeats 0 in
theorem PySem.Challenge.cw_threadworth_k17_texts_of_diagrams_holds : PySem.Challenge.rw_threadworth_k17_texts_of_diagrams.Holds := by
  w_on; o_law; k_head; (case hw => w_witness2)
  k_fill
  refine L2.walk_ofG (l := PySem.Challenge.rw_threadworth_k17_texts_of_diagrams) (n := 63) (k := 7) (x := "script") (sp := fun w => T.spLaw _) rfl (by decide) rfl ⟨rfl, by decide, by decide⟩ (fun w h Y => PySem.W.kIn_of Y) ?F (fun _ _ a ns hl hS => ⟨a, ns, rfl, hS, hl, fun _ => rfl⟩)
  case F =>
    intro w mg fa h KX G hmg
    refine' T.all_mk KX G hmg ?a_law_number ?l_law_number ?c_law_number ?k_law_number ?a_law_next ?l_law_next ?c_law_next ?k_law_next ?a_law_draws ?l_law_draws ?c_law_draws ?k_law_draws ?a_is_size_ ?l_is_size_ ?c_is_size_ ?k_is_size_ ?a_check_size_ ?l_check_size_ ?c_check_size_ ?k_check_size_ ?a_is_diagram ?l_is_diagram ?c_is_diagram ?k_is_diagram ?a_check_diagram ?l_check_diagram ?c_check_diagram ?k_check_diagram ?a_labels ?l_labels ?c_labels ?k_labels ?a_from_labels ?l_from_labels ?c_from_labels ?k_from_labels ?a_law_seen ?l_law_seen ?c_law_seen ?k_law_seen ?a_law_from ?l_law_from ?c_law_from ?k_law_from ?a_law_marks ?l_law_marks ?c_law_marks ?k_law_marks ?a_law_pick ?l_law_pick ?c_law_pick ?k_law_pick ?a_law_family ?l_law_family ?c_law_family ?k_law_family ?a_law_other_side ?l_law_other_side ?c_law_other_side ?k_law_other_side ?a_law_joined ?l_law_joined ?c_law_joined ?k_law_joined ?a_law_threaded ?l_law_threaded ?c_law_threaded ?k_law_threaded ?a_law_drawn ?l_law_drawn ?c_law_drawn ?k_law_drawn ?a_next_letters_ ?l_next_letters_ ?c_next_letters_ ?k_next_letters_ ?a_has_room_ ?l_has_room_ ?c_has_room_ ?k_has_room_ ?a_text_of ?l_text_of ?c_text_of ?k_text_of ?l_Malformed_init ?c_Malformed_init ?k_Malformed_init ?a_read_diagram ?l_read_diagram ?c_read_diagram ?k_read_diagram ?a_law_fault ?l_law_fault ?c_law_fault ?k_law_fault ?a_law_told ?l_law_told ?c_law_told ?k_law_told ?a_law_refuses ?l_law_refuses ?c_law_refuses ?k_law_refuses ?a_law_spoilt ?l_law_spoilt ?c_law_spoilt ?k_law_spoilt ?a_law ?l_law ?c_law ?k_law ?zn_int ?zn_range ?zn_len ?zn_list ?zn_tuple ?zn_max ?zn_min ?zn_all ?zn_sorted ?zn_repr ?zn_isinstance ?zn_enumerate ?n_BadNumber ?x_BadNumber ?kc_BadNumber ?bc_BadNumber ?tc_BadNumber ?n_NotDiagram ?x_NotDiagram ?kc_NotDiagram ?bc_NotDiagram ?tc_NotDiagram ?n_MOST_ON_A_SIDE ?n_MOST_POINTS ?n_LETTERS ?n_Malformed ?x_Malformed ?r_Malformed ?sa_Malformed ?ga_Malformed ?gg_Malformed ?na_Malformed ?ii_Malformed ?kc_Malformed ?ec_Malformed ?tc_Malformed ?hd_Malformed ?ti_Malformed ?ss_Malformed ?n_WorthError ?hn_cls ?ht_cls ?ha_Malformed ?hm_Malformed ?kME ?hd_NotDiagram ?ss_NotDiagram
    (case a_law_number => k_is); (case l_law_number => k_is); (case c_law_number => k_is); (case k_law_number => k_is); (case a_law_next => k_is); (case l_law_next => k_is); (case c_law_next => k_is); (case k_law_next => k_is)
    (case a_law_draws => k_is); (case l_law_draws => k_is); (case c_law_draws => k_is); (case k_law_draws => k_is); (case a_is_size_ => k_is); (case l_is_size_ => k_is); (case c_is_size_ => k_is); (case k_is_size_ => k_is)
    (case a_check_size_ => k_is); (case l_check_size_ => k_is); (case c_check_size_ => k_is); (case k_check_size_ => k_is); (case a_is_diagram => k_is); (case l_is_diagram => k_is); (case c_is_diagram => k_is); (case k_is_diagram => k_is)
    (case a_check_diagram => k_is); (case l_check_diagram => k_is); (case c_check_diagram => k_is); (case k_check_diagram => k_is); (case a_labels => k_is); (case l_labels => k_is); (case c_labels => k_is); (case k_labels => k_is)
    (case a_from_labels => k_is); (case l_from_labels => k_is); (case c_from_labels => k_is); (case k_from_labels => k_is); (case a_law_seen => k_is); (case l_law_seen => k_is); (case c_law_seen => k_is); (case k_law_seen => k_is)
    (case a_law_from => k_is); (case l_law_from => k_is); (case c_law_from => k_is); (case k_law_from => k_is); (case a_law_marks => k_is); (case l_law_marks => k_is); (case c_law_marks => k_is); (case k_law_marks => k_is)
    (case a_law_pick => k_is); (case l_law_pick => k_is); (case c_law_pick => k_is); (case k_law_pick => k_is); (case a_law_family => k_is); (case l_law_family => k_is); (case c_law_family => k_is); (case k_law_family => k_is)
    (case a_law_other_side => k_is); (case l_law_other_side => k_is); (case c_law_other_side => k_is); (case k_law_other_side => k_is); (case a_law_joined => k_is); (case l_law_joined => k_is); (case c_law_joined => k_is); (case k_law_joined => k_is)
    (case a_law_threaded => k_is); (case l_law_threaded => k_is); (case c_law_threaded => k_is); (case k_law_threaded => k_is); (case a_law_drawn => k_is); (case l_law_drawn => k_is); (case c_law_drawn => k_is); (case k_law_drawn => k_is)
    (case a_next_letters_ => k_is); (case l_next_letters_ => k_is); (case c_next_letters_ => k_is); (case k_next_letters_ => k_is); (case a_has_room_ => k_is); (case l_has_room_ => k_is); (case c_has_room_ => k_is); (case k_has_room_ => k_is)
    (case a_text_of => k_is); (case l_text_of => k_is); (case c_text_of => k_is); (case k_text_of => k_is); (case a_read_diagram => k_is); (case l_read_diagram => k_is); (case c_read_diagram => k_is); (case k_read_diagram => k_is)
    (case a_law_fault => k_is); (case l_law_fault => k_is); (case c_law_fault => k_is); (case k_law_fault => k_is); (case a_law_told => k_is); (case l_law_told => k_is); (case c_law_told => k_is); (case k_law_told => k_is)
    (case a_law_refuses => k_is); (case l_law_refuses => k_is); (case c_law_refuses => k_is); (case k_law_refuses => k_is); (case a_law_spoilt => k_is); (case l_law_spoilt => k_is); (case c_law_spoilt => k_is); (case k_law_spoilt => k_is)
    (case a_law => k_is); (case l_law => k_is); (case c_law => k_is); (case k_law => k_is); (case zn_int => k_is); (case zn_range => k_is); (case zn_len => k_is); (case zn_list => k_is)
    (case zn_tuple => k_is); (case zn_max => k_is); (case zn_min => k_is); (case zn_all => k_is); (case zn_sorted => k_is); (case zn_repr => k_is); (case zn_isinstance => k_is); (case zn_enumerate => k_is)
    (case n_BadNumber => k_is); (case x_BadNumber => k_exc); (case kc_BadNumber => k_is); (case bc_BadNumber => k_is); (case tc_BadNumber => k_is); (case n_NotDiagram => k_is); (case x_NotDiagram => k_exc); (case kc_NotDiagram => k_is)
    (case bc_NotDiagram => k_is); (case tc_NotDiagram => k_is); (case n_MOST_ON_A_SIDE => k_is); (case n_MOST_POINTS => k_is); (case n_LETTERS => k_is); (case n_Malformed => k_is); (case x_Malformed => k_is); (case r_Malformed => rfl)
    (case sa_Malformed => k_is); (case ga_Malformed => k_is); (case gg_Malformed => k_is); (case na_Malformed => k_is); (case ii_Malformed => k_is); (case kc_Malformed => k_is); (case ec_Malformed => k_is); (case tc_Malformed => k_is)
    (case hd_Malformed => k_is); (case ti_Malformed => k_is); (case ss_Malformed => first | rfl | k_is); (case n_WorthError => k_is); (case hn_cls => k_is); (case ht_cls => k_is); (case ha_Malformed => k_is); (case hm_Malformed => k_is)
    (case kME => kit_is); (case hd_NotDiagram => k_is); (case ss_NotDiagram => first | rfl | k_is); (case l_Malformed_init => k_is); (case c_Malformed_init => k_is); (case k_Malformed_init => k_is)
