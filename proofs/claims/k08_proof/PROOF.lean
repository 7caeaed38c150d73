import PyProof.Rows.All
import Wide.All
import OpenK.AllK
import Wide.FinOn
import PyProof.EqAt
import PyProof.EqKinds
import PyProof.TupleCall
import HandS.ForExc
import HandS.Comp
import HandS.Iter
import HandS.Gcd
import HandS.Wide
import HandS.Evl
import HandS.Defaults
import HandS.ExcIs
import HandS.TupAny
import HandS.TupMul
import HandS.Walk
import HandS.Rev
import HandS.TupAny
import HandS.TupMul
import HandS.Style
import HandS.IsInst
import HandS.StrMore
import HandS.Text
import HandS.Codes
import HandS.ExcInit
import HandS.ExcField
import HandS.SortRule
import KE.SortData
import PyProof.ReprRoads
import PyProof.ReprLen
import PyProof.CallFns
import PyProof.Rows.RegStrFacts
import KE.GoesMore
import HandS.CallLocal
import HandS.HotCalls
import HandS.ExcCtx
import HandS.Words
import PyProof.Seq
import KE.KExcIs
import HandS.ExcOwn
import HandS.List
import PySem.Challenge.RW_threadworth_k08_bounds_of_numbers_and_po
set_option Elab.async false
set_option linter.all false
set_option maxRecDepth 100000
set_option maxHeartbeats 4000000
namespace T
open PySem PySem.Spec PyProof.Rows L2
/-! ### the mathematics of worlds and numbers -/
def primes : List Int := [2, 3, 5, 7, 11, 13, 17, 19, 23, 29, 31]
def isW (p d : Int) : Bool := if p = 0 then (if -20 ≤ d then decide (d ≤ 20) else false) else (if inV (.int p) (primes.map V.int) = true then (if 0 ≤ d then decide (d < p) else false) else false)
theorem inV_ints {p : Int} : ∀ {l : List Int}, inV (.int p) (l.map V.int) = true → p ∈ l
  | [], h => by cases h
  | x :: l, h => by
    have h1 : ((eqV (.int x) (.int p)) || inV (.int p) (l.map V.int)) = true := h
    rcases (Bool.or_eq_true _ _).mp h1 with h | h
    · have : x = p := of_decide_eq_true (show decide (x = p) = true by simpa [eqV] using h)
      rw [this]
      exact List.mem_cons_self
    · exact List.mem_cons_of_mem _ (inV_ints h)
theorem isW_prime {p d : Int} (h : isW p d = true) (hp : p ≠ 0) : p ∈ primes ∧ 0 ≤ d ∧ d < p := by
  unfold isW at h
  rw [if_neg hp] at h
  by_cases e : inV (.int p) (primes.map V.int) = true
  · rw [if_pos e] at h
    by_cases e2 : 0 ≤ d
    · rw [if_pos e2] at h
      exact ⟨inV_ints e, e2, of_decide_eq_true h⟩
    · rw [if_neg e2] at h
      cases h
  · rw [if_neg e] at h
    cases h
theorem prime_pos {p : Int} (h : p ∈ primes) : 2 ≤ p ∧ p ≤ 31 := by
  simp only [primes, List.mem_cons, List.not_mem_nil, or_false] at h
  omega
theorem inv_exN : ∀ p ∈ [2, 3, 5, 7, 11, 13, 17, 19, 23, 29, 31], ∀ r, r < p → r ≠ 0 → ∃ k, k < p ∧ (k * r) % p = 1 := by decide +kernel
theorem inv_ex {p : Int} (hp : p ∈ primes) {r : Int} (h0 : 0 ≤ r) (h1 : r < p) (hr : r ≠ 0) : ∃ k : Int, 1 ≤ k ∧ k < p ∧ k * r % p = 1 := by
  obtain ⟨n, rfl⟩ := Int.eq_ofNat_of_zero_le (show 0 ≤ p by have := prime_pos hp; omega)
  obtain ⟨m, rfl⟩ := Int.eq_ofNat_of_zero_le h0
  have hn : n ∈ [2, 3, 5, 7, 11, 13, 17, 19, 23, 29, 31] := by
    simp only [primes, List.mem_cons, List.not_mem_nil, or_false] at hp ⊢
    omega
  obtain ⟨k, hk, e⟩ := inv_exN n hn m (by omega) (by omega)
  refine ⟨(k : Int), ?_, by omega, ?_⟩
  · rcases Nat.eq_zero_or_pos k with z | z
    · subst z
      rw [Nat.zero_mul, Nat.zero_mod] at e
      cases e
    · omega
  · have : ((k * m % n : Nat) : Int) = ((1 : Nat) : Int) := by rw [e]
    rw [← Int.natCast_mul, ← Int.natCast_emod, e]
    rfl
/-- lowest terms -/
def gI (a b : Int) : Int := ((Nat.gcd a.natAbs b.natAbs : Nat) : Int)
def low (a b : Int) : Int × Int := if b < 0 then ((-a) / gI a b, (-b) / gI a b) else (a / gI a b, b / gI a b)
theorem gI_pos {a b : Int} (hb : b ≠ 0) : 0 < gI a b := by
  have : 0 < Nat.gcd a.natAbs b.natAbs := Nat.gcd_pos_of_pos_right _ (by omega)
  unfold gI
  omega
theorem gI_le {a b : Int} (hb : b ≠ 0) : gI a b ≤ b.natAbs := by
  have := Nat.gcd_le_right (m := a.natAbs) (n := b.natAbs) (by omega)
  unfold gI
  omega
theorem fdiv_negg (a g : Int) (hg : 0 ≤ g) : a.fdiv (-g) = (-a) / g := by
  rw [← Int.fdiv_eq_ediv_of_nonneg _ hg, ← Int.neg_fdiv_neg (-a) g, Int.neg_neg]
/-- the number a / b -/
def bad (p b : Int) : Prop := b = 0 ∨ (0 < p ∧ b % p = 0)
def IsNum (p a b x y : Int) : Prop := (0 < p ∧ y = 1 ∧ 0 ≤ x ∧ x < p ∧ (x * b - a) % p = 0) ∨ (¬ 0 < p ∧ (x, y) = low a b)
theorem inv_solves {p a b k : Int} (hp : 0 < p) (e : k * (b % p) % p = 1) (h1 : 1 < p) : ((a * k % p) * b - a) % p = 0 := by
  have e1 : (k * b) % p = 1 := by
    rw [Int.mul_emod, Int.emod_emod_of_dvd _ (Int.dvd_refl p), ← Int.mul_emod] at e
    exact e
  have d1 : p ∣ k * b - 1 := by
    apply Int.dvd_of_emod_eq_zero
    rw [Int.sub_emod, e1, Int.emod_eq_of_lt (by omega) h1]
    simp
  have d2 : p ∣ a * k - a * k % p := Int.dvd_self_sub_emod
  apply Int.emod_eq_zero_of_dvd
  have : (a * k % p) * b - a = a * (k * b - 1) - (a * k - a * k % p) * b := by
    rw [Int.mul_sub, Int.sub_mul, Int.mul_assoc]
    omega
  rw [this]
  exact Int.dvd_sub (Int.dvd_mul_of_dvd_right d1) (Int.dvd_mul_of_dvd_left d2)
theorem num_unique {p a b x y x' y' : Int} (hp : p = 0 ∨ p ∈ primes) (hb : ¬ bad p b) (h : IsNum p a b x y) (h' : IsNum p a b x' y') : x = x' ∧ y = y' := by
  rcases h with ⟨h0, e1, l1, u1, m1⟩ | ⟨h0, e1⟩
  · rcases h' with ⟨_, e2, l2, u2, m2⟩ | ⟨h0', _⟩
    · refine ⟨?_, e1.trans e2.symm⟩
      rcases hp with rfl | hp
      · omega
      · have hp2 := prime_pos hp
        have hbp : b % p ≠ 0 := fun z => hb (.inr ⟨h0, z⟩)
        obtain ⟨k, k1, k2, ek⟩ := inv_ex hp (Int.emod_nonneg b (by omega)) (Int.emod_lt_of_pos b h0) hbp
        have e1 : (k * b) % p = 1 := by
          rw [Int.mul_emod, Int.emod_emod_of_dvd _ (Int.dvd_refl p), ← Int.mul_emod] at ek
          exact ek
        have d1 : p ∣ k * b - 1 := by
          apply Int.dvd_of_emod_eq_zero
          rw [Int.sub_emod, e1, Int.emod_eq_of_lt (show (0:Int) ≤ 1 by omega) (show (1:Int) < p by omega)]
          simp
        have d2 : p ∣ (x * b - a) - (x' * b - a) := Int.dvd_sub (Int.dvd_of_emod_eq_zero m1) (Int.dvd_of_emod_eq_zero m2)
        have d3 : p ∣ x - x' := by
          have e : x - x' = k * ((x * b - a) - (x' * b - a)) - (x - x') * (k * b - 1) := by
            have e3 : (x * b - a) - (x' * b - a) = (x - x') * b := by
              rw [Int.sub_mul]
              omega
            rw [e3, Int.mul_sub, Int.mul_one, ← Int.mul_assoc, Int.mul_comm k (x - x'), Int.mul_assoc]
            omega
          rw [e]
          exact Int.dvd_sub (Int.dvd_mul_of_dvd_right d2) (Int.dvd_mul_of_dvd_right d1)
        obtain ⟨c, ec⟩ := d3
        have hc : c = 0 := by
          rcases Int.lt_trichotomy c 0 with z | z | z
          · have : p * c ≤ p * (-1) := Int.mul_le_mul_of_nonneg_left (by omega) (by omega)
            omega
          · exact z
          · have : p * 1 ≤ p * c := Int.mul_le_mul_of_nonneg_left (by omega) (by omega)
            omega
        rw [hc, Int.mul_zero] at ec
        omega
    · exact absurd h0 h0'
  · rcases h' with ⟨h0', _⟩ | ⟨_, e2⟩
    · exact absurd h0' h0
    · have := e1.trans e2.symm
      exact ⟨congrArg Prod.fst this, congrArg Prod.snd this⟩
end T

/-! ### defs that are called where nothing is being shown (no repr is under way): what the law's own def may know -/
namespace L2
open PySem PySem.Spec PyProof.Rows
structure FnG (P : Program) (w : World) (K : PySem.W.Frag) (mg : Str → Option Value) (base : Heap) (k : Nat) (f : Addr) (fd : FuncData) (ps : List Str) (sp : Sp) : Prop where
  len : ∀ vs H Q E, sp vs H Q E → vs.length = ps.length
  run : ∀ (A : Around) (outer : List Env) (s : Shared) (H : Hp) (args : Args) (us : List Value) (vs : List V) (Q : VK) (E : XK), A.guards = some [] → Room k A → Env0 P w K mg base A outer s H →
    BindsTo s fd args (ps.zip us) → Vals vs us → sp vs H Q E → codeAny (model P w) A (.call (.ref f) args) (CR CX0 outer P w H s Q E) s
theorem CE_of {P : Program} {w : World} {K : PySem.W.Frag} {mg : Str → Option Value} {base : Heap} {N : List Str} {qual : Str} {scope : Scope} {f : Addr} {cdv : Value} {A : Around} {outer : List Env} {s s' : Shared} {H H' : Hp} {E : XK} {Q : VK} {σ' : St} {v : V} {u : Value}
    (J : Inv (cxOf CX0 P w K mg base N qual scope f cdv A outer s H E) [] σ' H' s') (rv : RelV v u) (q : Q v H') : CE outer P w H s Q u s' := ⟨v, H', J.os, J.bare, J.base, J.hok, rv, q⟩
theorem Fun.okG {P : Program} {w : World} {K : PySem.W.Frag} {mg : Str → Option Value} {base : Heap} {x qual : Str} {st : Stmt} {f : Addr} {fd : FuncData} {N ps : List Str} {k : Nat} {sp : Sp} (F : Fun K x qual st f fd) (S : FnScope N ps (defScope st))
    (len : ∀ vs H Q E, sp vs H Q E → vs.length = ps.length)
    (hbody : ∀ (cdv : Value) (A : Around) (outer : List Env) (s : Shared) (H : Hp) (vs : List V) (Q : VK) (E : XK), (A.deeper (envOfC qual (defScope st) s.heap.objs.size f cdv)).guards = some [] →
      Room k (A.deeper (envOfC qual (defScope st) s.heap.objs.size f cdv)) → sp vs H Q E →
      ∃ t, PSs (cxOf CX0 P w K mg base N qual (defScope st) f cdv A outer s H E).nox (defBody st) t ∧ t { nx := fun _ H' => Q .non H', rt := Q } (start N vs) H) : FnG P w K mg base (k + 1) f fd ps sp := by
  obtain ⟨oc, od, kV, doc, pm, an, cdv, ct, osl, rfl, lk, hcd⟩ := F.ex
  refine ⟨len, fun A outer s H args us vs Q E hgu hr e0 hb r hsp => ?_⟩
  have keep := fun b o (e : base.get? b = some o) => (e0.bs b o e).1
  have inK : K.In s.heap := e0.mod.kin.keeps keep
  refine codeAny_call_function hr.depth (inK _ _ lk) rfl S.co S.gen rfl (PySem.W.codeRec_of inK hcd) (hb _ _ _ _ ?_)
  refine wpAny_newFunctionEnv_cells S.kind (fun ⟨n, v⟩ hy => ?_) fun env he s1 xx => ?_
  · exact (S.par n (List.of_mem_zip hy).1).elim .inl fun q => .inr ⟨q, PySem.W.cellsFrom_some _ _ _ (.inl q)⟩
  · subst he
    refine ⟨(e0.mod.nolimit.keeps keep).keeps xx.toInCall.keep, codeAny_func ?_⟩
    obtain ⟨t, ht, hq⟩ := hbody cdv A outer s H vs Q E hgu (hr.deeper _) hsp
    have I := inv_start (CX := CX0) (E := E) S hr.hd e0 (len _ _ _ _ hsp) r xx
    refine wpAny_mono (ht.nox.run [] s1 _ H _ I hq) (fun fl s' hs => ?_) fun e s' hs => hs
    rcases fl with _ | _ | _ | u
    · obtain ⟨σ', H', J, q⟩ := hs
      exact CE_of (v := V.non) (u := Value.none) J rfl q
    · exact hs.elim fun _ z => z.elim fun _ z => z.2.elim
    · exact hs.elim fun _ z => z.elim fun _ z => z.2.elim
    · obtain ⟨v, σ', H', J, rv, q⟩ := hs
      exact CE_of J rv q
end L2

namespace L2
open PySem PySem.Spec PyProof.Rows
/-- the law's def, called by the claim's caller: nothing is being shown there -/
theorem goes_at {P : Program} {w : World} {K : PySem.W.Frag} {mg mb : Str → Option Value} {k : Nat} {fa a : Addr} {fd : FuncData} {x : Str} {sp : Sp} {t : Shared} {vs : List Value} {xs : List V} {H : Hp}
    (KX : K.In t.heap) (hns : t.heap.Ns mainGlobals mg) (hb : t.heap.Ns builtinsNs mb) (hbb : ∀ y : Str, y ≠ "__name__" → mb y = bootBuiltins y) (hlim : t.heap.NoLimit) (hg : t.gens = #[])
    (ha : t.heap.get? a = some { cls := .type "list", data := .seq vs.toArray }) (hr : Room k callerA)
    (F : ∀ base : Heap, K.In base → base.Ns mainGlobals mg → FnG P w K mg base k fa fd [x] sp) (hbind : ∀ (s : Shared) (u : Value), BindsTo s fd ⟨[u], []⟩ [(x, u)])
    (hO : Only H) (hsp : sp [.ref a] H (fun v _ => v = .bl true) fun _ _ _ => False) (hok : HOk P w H t.heap) (hA : ∀ b, H b ≠ none → b = a) (hK : H a ≠ none → K.lookup a = none) :
    codeAny (model P w) callerA (.call (.ref fa) ⟨[.ref a], []⟩) (fun r s' => r = .ok (.ret (.bool true)) ∧ OldK t.heap s'.heap ∧ s'.os = t.os ∧ AllBare s'.gens) t := by
  have free : ∀ {b : Addr}, (H b ≠ none → False) → H b = none := fun {b} z => by
    rcases e : H b with _ | u
    · rfl
    · exact (z (by rw [e]; exact fun q => nomatch q)).elim
  have ns : ∀ {b : Addr} {m : Str → Option Value}, t.heap.Ns b m → (hidT t.heap H).Ns b m := fun {b m} z => by
    obtain ⟨o, es, ep, e, d, r⟩ := z
    refine ⟨o, es, ep, hidT_get e (free fun z => ?_), d, r⟩
    rw [hA b z, ha] at e
    cases e
    cases d
  have inB : K.In (hidT t.heap H) := fun b o e => hidT_get (KX b o e) (free fun z => by
    have eb := hA b z
    rw [eb] at z e
    rw [hK z] at e
    cases e)
  obtain ⟨mc, l1, l2⟩ := hlim
  have env : Env0 P w K mg (hidT t.heap H) callerA [] t H := ⟨rfl, ⟨inB, ns hns, ⟨mb, ns hb, hbb⟩, ⟨mc, ns l1, l2⟩⟩, fun b o e => of_hidT e, Nat.le_of_eq (hidT_size _ _), trivial, fun b hb => (nomatch hb), hok, .of_eq hg⟩
  refine codeAny_mono ((F _ inB (ns hns)).run callerA [] t H _ [.ref a] [.ref a] _ _ rfl hr env (hbind t (.ref a)) (.cons rfl .nil) hsp) fun r s' h => ?_
  rcases r with e | fl
  · exact (show False from h).elim
  · rcases fl with _ | _ | _ | u
    · exact (show False from h).elim
    · exact (show False from h).elim
    · exact (show False from h).elim
    · obtain ⟨v, H', os, bare, un, hok', rv, q⟩ := h
      obtain rfl : v = .bl true := q
      obtain rfl : u = Value.bool true := rv
      refine ⟨rfl, OldK.of_keep fun b o e => ?_, os, bare⟩
      rcases hO b with z | ⟨ob, ys, z⟩
      · exact un.keep b o e z (fun z => nomatch z) (fun z => nomatch z)
      · have e1 := (hok b _ z).1
        rw [e] at e1
        rw [Option.some.inj e1]
        exact (hok' b _ (un.frzs b ob _ z)).1
theorem walk_ofG {l : PySem.W.OpenLaw} {n k : Nat} {q : Program} {loose : List Str} {XP : (Str → Option Value) → Heap → Prop} {YP : World → Heap → Prop} {d : DefRec} {K : Params → PySem.W.Frag} {sp : World → Sp} {x : Str}
    (hn : l.most = some n) (hn2 : n ≤ sizeLine) (hdf : d.params.defaults = []) (hr : Room k callerA) (hY : ∀ (w : World) (h : Heap), YP w h → (K w.params).In h)
    (F : ∀ (w : World) (mg : Str → Option Value) (fa : Addr) (h : Heap), (K w.params).In h → h.Ns mainGlobals mg → mg d.name = some (.ref fa) →
      ∃ fd : FuncData, (∀ (s : Shared) (u : Value), BindsTo s fd ⟨[u], []⟩ [(x, u)]) ∧ ∀ base : Heap, (K w.params).In base → base.Ns mainGlobals mg → FnG l.prog w (K w.params) mg base k fa fd [x] (sp w))
    (hsp : ∀ (w : World) (H : Hp) (a : Addr) (ns : List Int), ns.length ≤ n → SqL (K w.params) H a (ns.map V.int) → sp w [.ref a] H (fun v _ => v = .bl true) fun _ _ _ => False) :
    PySem.W.WalkO q loose XP YP l.row.toRowW d [] (fun f vs => PySem.call f vs) := by
  refine Att.attach_call hn hdf fun w s₀ t mg mb fa o pm cd doc a vs ns G Y ho hd hcd hmg hobj hints hlen hg => ?_
  have KX := hY w _ Y
  obtain ⟨fd, hb, hF⟩ := F w mg fa _ KX G.T.g hmg
  have rv : Vals (ns.map V.int) vs := vals_ints hints
  have lv := hints.length
  rcases hk : (K w.params).lookup a with _ | oa
  · refine goes_at (xs := ns.map V.int) (H := fun b => if b = a then some (.frz { cls := .type "list", data := .seq vs.toArray } (.lst (ns.map V.int))) else none) KX G.T.g G.T.b G.T.builtins G.T.nolimit hg hobj hr hF hb
      (fun b => ?_) (hsp w _ a ns hlen (.inl (.inr ⟨_, if_pos rfl⟩))) (fun b u z => ?_) (fun b z => Decidable.byContradiction fun c => z (if_neg c)) fun _ => hk
    · by_cases c : b = a
      · exact .inr ⟨_, _, if_pos c⟩
      · exact .inl (if_neg c)
    · by_cases c : b = a
      · have z' := (if_pos c).symm.trans z
        cases z'
        subst c
        exact ⟨hobj, by rw [List.length_map]; omega, vs, _, rv, hobj⟩
      · have z' := (if_neg c).symm.trans z
        cases z'
  · have e := (KX a oa hk).symm.trans hobj
    cases e
    exact goes_at (xs := ns.map V.int) (H := fun _ => none) KX G.T.g G.T.b G.T.builtins G.T.nolimit hg hobj hr hF hb (fun _ => .inl rfl)
      (hsp w _ a ns hlen (.inr ⟨_, vs.toArray, _, hk, rfl, rfl, rfl, by rw [List.size_toArray]; omega, rv⟩)) (fun b u z => nomatch z) (fun b z => (z rfl).elim) fun z => (z rfl).elim
end L2

namespace L2
open PySem PySem.Spec PyProof.Rows
/-! ### repr(data), where nothing is being shown -/
mutual
def wt : PyData → Nat
  | .none => 4
  | .bool _ => 5
  | .int _ => 1921
  | .str x => (reprText x).length
  | .list xs => wtAll xs + 3
  | .tuple xs => wtAll xs + 3
  | .dict _ => 0
def wtAll : List PyData → Nat
  | [] => 0
  | x :: xs => wt x + 2 + wtAll xs
end
mutual
theorem shown_wt : ∀ d : PyData, d.showable = true → d.hasDict = false → d.shown.length ≤ wt d
  | .none, _, _ => by simp only [PyData.shown, wt]; decide +kernel
  | .bool b, _, _ => by cases b <;> simp only [PyData.shown, wt] <;> decide +kernel
  | .int i, h, _ => by
    simp only [PyData.shown, wt]
    exact int_text_len_1921 (by simpa [PyData.showable] using h)
  | .str x, _, _ => by simp only [PyData.shown, wt]; exact Nat.le_refl _
  | .list xs, h, h2 => by
    simp only [PyData.showable] at h
    simp only [PyData.hasDict] at h2
    simp only [PyData.shown, wt]
    have h3 := shown_wtAll xs h h2
    have h4 := listText_len_le (PyData.shownAll xs)
    omega
  | .tuple xs, h, h2 => by
    simp only [PyData.showable] at h
    simp only [PyData.hasDict] at h2
    simp only [PyData.shown, wt]
    have h3 := shown_wtAll xs h h2
    have h4 := tupleText_len_le (PyData.shownAll xs)
    omega
  | .dict _, _, h2 => by simp [PyData.hasDict] at h2
theorem shown_wtAll : ∀ xs : List PyData, PyData.showableAll xs = true → PyData.hasDictAll xs = false → ((PyData.shownAll xs).map (·.length)).sum + 2 * (PyData.shownAll xs).length ≤ wtAll xs
  | [], _, _ => by simp [PyData.shownAll, wtAll]
  | x :: xs, h, h2 => by
    simp only [PyData.showableAll, Bool.and_eq_true] at h
    simp only [PyData.hasDictAll, Bool.or_eq_false_iff] at h2
    have h3 := shown_wt x h.1 h2.1
    have h4 := shown_wtAll xs h.2 h2.2
    simp only [PyData.shownAll, wtAll, List.map_cons, List.sum_cons, List.length_cons]
    omega
end
def rReprD (K : PySem.W.Frag) : List V → Hp → VK → Prop := fun xs H Q => ∃ x d, xs = [x] ∧ Dp K H x d ∧ SeqAt.shaped d = true ∧ d.showable = true ∧ wt d ≤ sizeLine ∧ Q (.str d.shown) H
theorem cr_reprD {X : Cx} (hg : X.A.guards = some []) (hu : X.A.units + 65 < cLine) : CallR X (.builtin "repr") (rReprD X.K) := by
  intro pins s σ H vs us Q I r h
  obtain ⟨x, d, rfl, hd, hs, hw, hz, q⟩ := h
  cases r with
  | cons rv rn =>
    rename_i v us'
    cases rn
    have hs' : (d.canLay0 && decide (d.depth ≤ 64)) = true := hs
    rw [Bool.and_eq_true] at hs'
    have nd := PyData.hasDict_of_canLay d hs'.1
    have dep : d.depth ≤ 64 := of_decide_eq_true hs'.2
    have sz := Nat.le_trans (shown_wt d hw nd) hz
    obtain ⟨as, rd⟩ := Dp.reads I d x v hd rv
    have ref : ∀ a : Addr, v = .ref a → wpAny (model X.prog X.w) X.A (call (.builtin "repr") [v]) (EP X pins σ Q) X.xe s := fun a e => by
      subst e
      exact repr_of_reads' rd hw (PyData.noDict_hsm nd) hg (by omega) (fun _ _ e => e) (fun h' u tk hk => ⟨.str _, H, I.kept (t' := tk) hk, ⟨u, rfl⟩, q⟩) sz
    cases hd with
    | non =>
      cases rv
      exact PySem.P.repr_of_none ⟨.str _, H, I.tok _, ⟨_, rfl⟩, by simpa only [PyData.shown] using q⟩
    | bl b =>
      cases rv
      exact PySem.P.repr_of_bool ⟨.str _, H, I.tok _, ⟨_, rfl⟩, by simpa only [PyData.shown] using q⟩
    | int i =>
      obtain ⟨t, rfl⟩ := rv
      exact PySem.P.repr_of_int (by simpa [PyData.showable] using hw) ⟨.str _, H, I.tok _, ⟨_, rfl⟩, by simpa only [PyData.shown] using q⟩
    | str y =>
      obtain ⟨t, rfl⟩ := rv
      exact PySem.P.repr_of_str ⟨.str _, H, I.tok _, ⟨_, rfl⟩, by simpa only [PyData.shown] using q⟩ (by simpa only [PyData.shown] using sz)
    | lst _ _ => exact ref _ rv
    | tup _ _ => exact ref _ rv
end L2

namespace T
/-! ### fractions -/
theorem low_pos {a : Int} {n : Nat} (hn : n ≠ 0) : low a (n : Int) = ((Rat.divInt a (n : Int)).num, ((Rat.divInt a (n : Int)).den : Int)) := by
  have e : Rat.divInt a (n : Int) = Rat.normalize a n hn := by
    show mkRat a n = _
    rw [Rat.mkRat_def, dif_neg hn]
  rw [e, Rat.normalize_eq]
  unfold low gI
  rw [if_neg (by omega), Int.natAbs_natCast]
  show (_, _) = (_, (((n / a.natAbs.gcd n : Nat)) : Int))
  rw [Int.natCast_ediv]
theorem low_rat {a b : Int} (hb : b ≠ 0) : low a b = ((Rat.divInt a b).num, ((Rat.divInt a b).den : Int)) := by
  by_cases c : 0 < b
  · obtain ⟨n, rfl⟩ := Int.eq_ofNat_of_zero_le (Int.le_of_lt c)
    exact low_pos (by omega)
  · obtain ⟨n, hn⟩ := Int.eq_ofNat_of_zero_le (show 0 ≤ -b by omega)
    have e : Rat.divInt a b = Rat.divInt (-a) (n : Int) := (Rat.divInt_eq_divInt_iff hb (by omega)).mpr (by rw [← hn, Int.mul_neg, Int.neg_mul])
    rw [e, ← low_pos (by omega), ← hn]
    unfold low gI
    rw [if_pos (by omega), if_neg (by omega), Int.natAbs_neg, Int.natAbs_neg]
theorem low_congr {a b a' b' : Int} (hb : b ≠ 0) (hb' : b' ≠ 0) (h : a * b' = a' * b) : low a b = low a' b' := by
  rw [low_rat hb, low_rat hb', (Rat.divInt_eq_divInt_iff hb hb').mpr h]
theorem low_q {a b u v : Int} (hb : b ≠ 0) (h : (u, v) = low a b) : Rat.divInt u v = Rat.divInt a b ∧ 0 < v := by
  rw [low_rat hb] at h
  have e1 : u = (Rat.divInt a b).num := congrArg Prod.fst h
  have e2 : v = ((Rat.divInt a b).den : Int) := congrArg Prod.snd h
  rw [e1, e2]
  exact ⟨Rat.num_divInt_den _, by have := (Rat.divInt a b).den_pos; omega⟩
theorem low_cross {a b u v : Int} (hb : b ≠ 0) (h : (u, v) = low a b) : u * b = a * v ∧ 0 < v := by
  obtain ⟨h1, h2⟩ := low_q hb h
  exact ⟨(Rat.divInt_eq_divInt_iff (by omega) hb).mp h1, h2⟩
/-- a number times a number: the parts may be reduced ahead or behind -/
theorem num_step {p A B u v a b u' v' : Int} (hp : p = 0 ∨ p ∈ primes) (hB : p = 0 → B ≠ 0) (hb0 : p = 0 → b ≠ 0) (hb1 : p ≠ 0 → b = 1) (hB1 : p ≠ 0 → B = 1) (h : IsNum p A B u v) (h' : IsNum p (u * a) (v * b) u' v') : IsNum p (A * a) (B * b) u' v' := by
  by_cases c : p = 0
  · obtain ⟨_, e⟩ := h.resolve_left (fun z => by omega)
    obtain ⟨_, e'⟩ := h'.resolve_left (fun z => by omega)
    obtain ⟨x1, x2⟩ := low_cross (hB c) e
    refine .inr ⟨by omega, e'.trans (low_congr (Int.mul_ne_zero (by omega) (hb0 c)) (Int.mul_ne_zero (hB c) (hb0 c)) ?_)⟩
    calc u * a * (B * b) = u * B * (a * b) := by rw [Int.mul_assoc, Int.mul_assoc]; congr 1; rw [← Int.mul_assoc, ← Int.mul_assoc, Int.mul_comm a B]
      _ = A * v * (a * b) := by rw [x1]
      _ = A * a * (v * b) := by rw [Int.mul_assoc, Int.mul_assoc]; congr 1; rw [← Int.mul_assoc, ← Int.mul_assoc, Int.mul_comm v a]
  · have hp2 := prime_pos (hp.resolve_left c)
    obtain ⟨h0, e1, l1, u1, m1⟩ := h.resolve_right (fun z => by omega)
    obtain ⟨_, e2, l2, u2, m2⟩ := h'.resolve_right (fun z => by omega)
    refine .inl ⟨h0, e2, l2, u2, ?_⟩
    rw [hB1 c, hb1 c]
    rw [hB1 c, Int.mul_one] at m1
    rw [hb1 c, e1] at m2
    have d1 := Int.dvd_of_emod_eq_zero m1
    have d2 := Int.dvd_of_emod_eq_zero m2
    apply Int.emod_eq_zero_of_dvd
    have e : u' * (1 * 1) - A * a = (u' * (1 * 1) - u * a) + (u - A) * a := by
      rw [Int.sub_mul]
      omega
    rw [e]
    exact Int.dvd_add d2 (Int.dvd_mul_of_dvd_left d1)
theorem low_small {a b u v : Int} (h : (u, v) = low a b) : u.natAbs ≤ a.natAbs ∧ v.natAbs ≤ b.natAbs := by
  have e1 := congrArg Prod.fst h
  have e2 := congrArg Prod.snd h
  unfold low at e1 e2
  by_cases c : b < 0
  · rw [if_pos c] at e1 e2
    have f1 : u = (-a) / gI a b := e1
    have f2 : v = (-b) / gI a b := e2
    have g1 := Int.natAbs_ediv_le_natAbs (-a) (gI a b)
    have g2 := Int.natAbs_ediv_le_natAbs (-b) (gI a b)
    rw [f1, f2]
    omega
  · rw [if_neg c] at e1 e2
    have f1 : u = a / gI a b := e1
    have f2 : v = b / gI a b := e2
    have g1 := Int.natAbs_ediv_le_natAbs a (gI a b)
    have g2 := Int.natAbs_ediv_le_natAbs b (gI a b)
    rw [f1, f2]
    omega
theorem num_small {p a b u v : Int} (hp : p = 0 ∨ p ∈ primes) (h : IsNum p a b u v) (ha : a.natAbs < 2 ^ 199) (hb : b.natAbs < 2 ^ 199) : u.natAbs < 2 ^ 200 ∧ v.natAbs < 2 ^ 200 := by
  rcases h with ⟨h0, rfl, h1, h2, _⟩ | ⟨_, h⟩
  · have := prime_pos (hp.resolve_left (by omega))
    omega
  · have := low_small h
    omega
theorem isW_cases {p d : Int} (hw : isW p d = true) : (p = 0 ∨ p ∈ primes) ∧ d.natAbs ≤ 31 := by
  by_cases c : p = 0
  · refine ⟨.inl c, ?_⟩
    unfold isW at hw
    rw [if_pos c] at hw
    by_cases h1 : -20 ≤ d
    · rw [if_pos h1] at hw
      have := of_decide_eq_true hw
      omega
    · rw [if_neg h1] at hw
      cases hw
  · obtain ⟨h1, h2, h3⟩ := isW_prime hw c
    have := prime_pos h1
    exact ⟨.inr h1, by omega⟩
end T

namespace T
open PySem PySem.Spec PyProof.Rows L2
/-! ### lists of integers as polynomials -/
def co (l : List Int) (k : Nat) : Int := l.getD k 0
theorem co_ge {l : List Int} {k : Nat} (h : l.length ≤ k) : co l k = 0 := by
  unfold co
  rw [List.getD_eq_getElem?_getD, List.getElem?_eq_none h]
  rfl
theorem co_get {l : List Int} {k : Nat} (h : k < l.length) : l[k]? = some (co l k) := by
  unfold co
  rw [List.getD_eq_getElem?_getD, List.getElem?_eq_getElem h]
  rfl
theorem co_mem {l : List Int} {k : Nat} (h : k < l.length) : co l k ∈ l := by
  have e := co_get h
  exact List.mem_of_getElem? e
theorem at_co {l : List Int} {k : Nat} (h : k < l.length) : atI (l.map V.int) (k : Int) = some (.int (co l k)) := atI_nat (by rw [List.getElem?_map, co_get h]; rfl)
theorem at_end {l : List Int} (h : l ≠ []) : atI (l.map V.int) (-1) = some (.int (co l (l.length - 1))) := by
  have hl : 0 < l.length := List.length_pos_iff.mpr h
  have e : l.map V.int = (l.take (l.length - 1)).map V.int ++ [V.int (co l (l.length - 1))] := by
    have e1 : l = l.take (l.length - 1) ++ [co l (l.length - 1)] := by
      have := List.take_succ (l := l) (i := l.length - 1)
      rw [show l.length - 1 + 1 = l.length by omega, List.take_length, co_get (by omega)] at this
      exact this
    conv => lhs; rw [e1]
    rw [List.map_append]
    rfl
  rw [e]
  exact atI_last _ _
/-- no 0 at the end -/
def Pol (l : List Int) : Prop := l = [] ∨ co l (l.length - 1) ≠ 0
theorem pol_len {l m : List Int} (hm : Pol m) (h : ∀ k, co l k = co m k) : m.length ≤ l.length := by
  rcases hm with rfl | hm
  · exact Nat.zero_le _
  · rcases Nat.lt_or_ge l.length m.length with c | c
    · rw [← h, co_ge (by omega)] at hm
      exact absurd rfl hm
    · exact c
theorem pol_ext {l m : List Int} (hl : Pol l) (hm : Pol m) (h : ∀ k, co l k = co m k) : l = m := by
  have h1 := pol_len hm h
  have h2 := pol_len hl (fun k => (h k).symm)
  refine List.ext_getElem? fun k => ?_
  rcases Nat.lt_or_ge k l.length with c | c
  · rw [co_get c, co_get (by omega), h]
  · rw [List.getElem?_eq_none c, List.getElem?_eq_none (by omega)]
theorem co_take {l : List Int} {s k : Nat} (h : ∀ i, s ≤ i → co l i = 0) : co (l.take s) k = co l k := by
  rcases Nat.lt_or_ge k s with c | c
  · unfold co
    rw [List.getD_eq_getElem?_getD, List.getD_eq_getElem?_getD, List.getElem?_take_of_lt c]
  · rw [h k c, co_ge (by rw [List.length_take]; omega)]
theorem pol_take {l : List Int} {s : Nat} (hs : s ≤ l.length) (h : s = 0 ∨ co l (s - 1) ≠ 0) (hz : ∀ i, s ≤ i → co l i = 0) : Pol (l.take s) := by
  rcases h with rfl | h
  · exact .inl rfl
  · by_cases c : s = 0
    · rw [c]
      exact .inl rfl
    · refine .inr ?_
      rw [List.length_take, Nat.min_eq_left hs, co_take hz]
      exact h
theorem co_map {f : Int → Int} (h0 : f 0 = 0) (l : List Int) (k : Nat) : co (l.map f) k = f (co l k) := by
  rcases Nat.lt_or_ge k l.length with c | c
  · have := co_get c
    unfold co
    rw [List.getD_eq_getElem?_getD, List.getElem?_map, List.getD_eq_getElem?_getD, this]
    rfl
  · rw [co_ge (by rw [List.length_map]; omega), co_ge c, h0]
theorem co_set {l : List Int} {i : Nat} {v : Int} (k : Nat) (h : i < l.length) : co (l.set i v) k = if k = i then v else co l k := by
  unfold co
  rw [List.getD_eq_getElem?_getD, List.getElem?_set]
  by_cases c : i = k
  · rw [if_pos c, if_pos c.symm, if_pos (by omega)]
    rfl
  · rw [if_neg c, if_neg (fun z => c z.symm), List.getD_eq_getElem?_getD]
theorem co_zeros (n k : Nat) : co (List.replicate n 0) k = 0 := by
  unfold co
  rw [List.getD_eq_getElem?_getD, List.getElem?_replicate]
  split <;> rfl
theorem map_set (l : List Int) (i : Nat) (v : Int) : (l.map V.int).set i (V.int v) = (l.set i v).map V.int := List.map_set.symm
/-! the value -/
def ev (x : Int) : List Int → Int
  | [] => 0
  | a :: r => a + x * ev x r
theorem ev_append (x : Int) (l : List Int) (a : Int) : ev x (l ++ [a]) = ev x l + x ^ l.length * a := by
  induction l with
  | nil => show a + x * 0 = 0 + x ^ 0 * a; rw [Int.pow_zero]; grind
  | cons b r ih =>
    show b + x * ev x (r ++ [a]) = b + x * ev x r + x ^ (r.length + 1) * a
    rw [ih, Int.pow_succ]
    grind
theorem ev_take (x : Int) {l : List Int} {i : Nat} (h : i < l.length) : ev x (l.take (i + 1)) = ev x (l.take i) + co l i * x ^ i := by
  have e : l.take (i + 1) = l.take i ++ [co l i] := by rw [List.take_succ, co_get h]; rfl
  rw [e, ev_append, List.length_take, Nat.min_eq_left (by omega), Int.mul_comm]
theorem ev_drop (x : Int) {l : List Int} {i : Nat} (h : i < l.length) : ev x (l.drop i) = co l i + x * ev x (l.drop (i + 1)) := by
  rw [List.drop_eq_getElem_cons h]
  have := co_get h
  rw [List.getElem?_eq_getElem h] at this
  rw [Option.some.inj this]
  rfl
/-! the product: what is there behind i rows, and j entries of the next -/
def row (one other : List Int) (i k : Nat) : Int := if i ≤ k then co one i * co other (k - i) else 0
def conv (one other : List Int) : Nat → Nat → Int
  | 0, _ => 0
  | i + 1, k => conv one other i k + row one other i k
theorem conv_more (one other : List Int) (k : Nat) : ∀ i, one.length ≤ i → conv one other i k = conv one other one.length k
  | 0, h => by rw [show one.length = 0 by omega]
  | i + 1, h => by
    by_cases c : one.length = i + 1
    · rw [c]
    · show conv one other i k + row one other i k = _
      rw [conv_more one other k i (by omega)]
      unfold row
      rw [co_ge (l := one) (by omega)]
      split <;> simp
theorem conv_top (one other : List Int) {k : Nat} : ∀ i, i ≤ one.length → i + other.length ≤ k + 1 → conv one other i k = 0
  | 0, _, _ => rfl
  | i + 1, h, hk => by
    show conv one other i k + row one other i k = 0
    rw [conv_top one other i (by omega) (by omega)]
    unfold row
    rw [if_pos (by omega), co_ge (l := other) (by omega)]
    simp
theorem conv_zero (one : List Int) (k : Nat) : ∀ i, conv one [] i k = 0
  | 0 => rfl
  | i + 1 => by
    show conv one [] i k + row one [] i k = 0
    rw [conv_zero one k i]
    unfold row
    rw [show co [] (k - i) = 0 from co_ge (Nat.zero_le _)]
    split <;> simp
theorem rep0 : ∀ n : Nat, (List.replicate n [V.int 0]).flatten = (List.replicate n (0 : Int)).map V.int
  | 0 => rfl
  | n + 1 => by
    rw [List.replicate_succ, List.flatten_cons, rep0 n, List.replicate_succ, List.map_cons]
    rfl
theorem ixN_nat {n j : Nat} (h : j < n) : ixN n (j : Int) = some j := by
  unfold ixN
  rw [if_pos (by omega), if_pos (by omega)]
  rfl
end T

/-! ### tuple * n for n = 0 and n = 1 -/
namespace L2
open PySem PySem.Spec PyProof.Rows
theorem tuple_mulX (l : Addr) (items : Array Value) (n : Nat) (dd : Option Addr) (sl : Array (Option Value)) (x : Int) (u : Tok) (c0 : (decide (x < -(2 ^ 63)) || decide (x ≥ 2 ^ 63)) = false) (c1 : (items.isEmpty || x == 1) = true) :
    Meets (Builtin.«tuple.__mul__» ⟨[.ref l, .int x u], []⟩) (fun _ R s => s.heap.get? l = some { cls := .type "tuple", dict := dd, data := .seq items n, slots := sl } ∧ R (.ok (.ret (Value.ref l))) s) :=
  .of_wp fun prog w A R s h => by
    obtain ⟨hp, g, d, tk, os⟩ := s
    obtain ⟨hl, h⟩ := h
    have f1 := AutoSeq1.idx_int
    wp_walk using wpAny_loadPart' hl
    repeat (first
      | (refine wpAny_ite_false (decide_eq_false (by rw [c0]; exact Bool.false_ne_true)) ?_; wp_walk using wpAny_loadPart' hl)
      | (refine wpAny_ite_true (decide_eq_true c1) ?_; wp_walk using wpAny_loadPart' hl))
    exact ⟨_, rfl, h⟩
theorem tuple_mulZ (l : Addr) (items : Array Value) (n : Nat) (dd : Option Addr) (sl : Array (Option Value)) (x : Int) (u : Tok) (c0 : (decide (x < -(2 ^ 63)) || decide (x ≥ 2 ^ 63)) = false) (c1 : (items.isEmpty || x == 1) = false) (c2 : (decide (x ≤ 0) || items.isEmpty) = true) :
    Meets (Builtin.«tuple.__mul__» ⟨[.ref l, .int x u], []⟩) (fun _ R s => s.heap.get? l = some { cls := .type "tuple", dict := dd, data := .seq items n, slots := sl } ∧
      R (.ok (.ret (Value.ref s.heap.objs.size))) { s with heap := s.heap.push { cls := Value.type "tuple", data := Data.seq #[] }, toks := s.toks }) :=
  .of_wp fun prog w A R s h => by
    obtain ⟨hp, g, d, tk, os⟩ := s
    obtain ⟨hl, h⟩ := h
    have f1 := AutoSeq1.idx_int
    wp_walk using wpAny_loadPart' hl
    repeat (first
      | (refine wpAny_ite_false (decide_eq_false (by rw [c0]; exact Bool.false_ne_true)) ?_; wp_walk using wpAny_loadPart' hl)
      | (refine wpAny_ite_false (decide_eq_false (by rw [c1]; exact Bool.false_ne_true)) ?_; wp_walk using wpAny_loadPart' hl)
      | (refine wpAny_ite_true (decide_eq_true c2) ?_; wp_walk using wpAny_loadPart' hl))
    exact ⟨_, rfl, h⟩
def rRepA (K : PySem.W.Frag) : R2 := fun x y H Q => ∃ l k xs, x = .ref l ∧ y = .int k ∧ SqT K H l xs ∧ xs ≠ [] ∧ 0 ≤ k ∧ k ≤ 1000 ∧ xs.length ≤ 1000 ∧ (k = 1 → Q (.ref l) H) ∧ (k ≠ 1 → ∀ p, H p = none → Q (.ref p) (upd H p (.tup (List.replicate k.toNat xs).flatten)))
section
variable {X : Cx}
theorem op_repA : OpR X (binaryOp .Mult) (rRepA X.K) := by
  intro pins s σ H x y v u Q I rx ry h
  obtain ⟨l, k, xs, rfl, rfl, hT, hne, h1, h2, hz, q1, q⟩ := h
  by_cases big : 2 ≤ k
  · exact op_repT pins s σ H _ _ v u Q I rx ry ⟨l, k, xs, rfl, rfl, hT, hne, big, h2, hz, q (by omega)⟩
  cases rx
  obtain ⟨t, rfl⟩ := ry
  obtain ⟨its, r, ⟨⟨cls, dd, data, sl⟩, ho, hc, n, hd⟩, hs⟩ := I.tuple hT
  simp only at hc hd
  subst hc hd
  have hle : its.length = xs.length := r.length.symm
  have hn : its ≠ [] := fun e => hne (by
    rw [e] at hle
    exact List.eq_nil_of_length_eq_zero hle.symm)
  have hi : its.toArray.isEmpty = false := by
    cases its with
    | nil => exact absurd rfl hn
    | cons a b => rfl
  have c0 : (decide (k < -(2 ^ 63)) || decide (k ≥ 2 ^ 63)) = false := by
    rw [decide_eq_false (by omega), decide_eq_false (by omega)] <;> rfl
  by_cases one : k = 1
  · have c1 : (its.toArray.isEmpty || k == 1) = true := by
      rw [hi, Bool.false_or]
      exact beq_iff_eq.mpr one
    exact wpAny_binaryOp_repeat_ref (T := "tuple") (U := "int") (by decide) ⟨_, ho, rfl⟩ (fun s' => typeIs_int s' k t) noFill_tuple_mul F.fills_int_mul F.slot_int_rmul repeat_tuple F.slot_int_index.lookup
      (call_meets F.slot_int_rmul (typeIs_int s k t) F.entry_int_rmul (F.args_int_rmul_2 _ _) (int_rmul_tuple k t l its.toArray n dd sl)
        ⟨ho, rfl, ⟨_, ho, rfl⟩, call_meets F.slot_tuple_mul ⟨_, ho, rfl⟩ F.entry_tuple_mul (F.args_tuple_mul_2 _ _) (tuple_mulX l its.toArray n dd sl k t c0 c1) ⟨ho, ⟨.ref l, H, I, rfl, q1 one⟩⟩⟩)
  · have zero : k = 0 := by omega
    have c1 : (its.toArray.isEmpty || k == 1) = false := by
      rw [hi, Bool.false_or]
      exact beq_eq_false_iff_ne.mpr one
    have c2 : (decide (k ≤ 0) || its.toArray.isEmpty) = true := by
      rw [hi, Bool.or_false]
      exact decide_eq_true (by omega)
    refine wpAny_binaryOp_repeat_ref (T := "tuple") (U := "int") (by decide) ⟨_, ho, rfl⟩ (fun s' => typeIs_int s' k t) noFill_tuple_mul F.fills_int_mul F.slot_int_rmul repeat_tuple F.slot_int_index.lookup
      (call_meets F.slot_int_rmul (typeIs_int s k t) F.entry_int_rmul (F.args_int_rmul_2 _ _) (int_rmul_tuple k t l its.toArray n dd sl)
        ⟨ho, rfl, ⟨_, ho, rfl⟩, call_meets F.slot_tuple_mul ⟨_, ho, rfl⟩ F.entry_tuple_mul (F.args_tuple_mul_2 _ _) (tuple_mulZ l its.toArray n dd sl k t c0 c1 c2) ⟨ho, ?_⟩⟩)
    refine ⟨.ref s.heap.objs.size, _, I.laid (t' := s.toks) (o := .tup (List.replicate k.toNat xs).flatten) (fun b ob q => Heap.get?_push_of_some _ q) (Nat.le_refl _) ?_, rfl, q one _ (I.hok.fresh (Nat.le_refl _))⟩
    rw [zero]
    exact ⟨Nat.zero_le _, [], .nil, IsTup.new _ _⟩
end
end L2

/-! ### enumerate over a tuple (the hand layer has it over a list) -/
namespace PySem
open Sem (wp)
open AutoSeq1 (wpAny_loadPart')
theorem new_enumT (t : Addr) (its : Array Value) (n : Nat) (dc : Option Addr) (sl : Array (Option Value)) :
    Meets (Builtin.«enumerate.__new__» ⟨[.type "enumerate", .ref t], []⟩) (fun _ R s => s.heap.get? t = some { cls := .type "tuple", dict := dc, data := .seq its n, slots := sl } ∧
      R (.ok (.ret (.ref (s.heap.push { cls := .type "tuple_iterator", data := .fields #[.ref t, .int 0 0] }).objs.size)))
        { s with heap := (s.heap.push { cls := .type "tuple_iterator", data := .fields #[.ref t, .int 0 0] }).push { cls := .type "enumerate", data := .fields #[.none, .bool false, .ref s.heap.objs.size, rawInt 0, .none, .none] } }) :=
  .of_wp fun prog w A R s both => by
    obtain ⟨hp, g, d, tk, os⟩ := s
    obtain ⟨ht, both⟩ := both
    have below := sub_enumerate
    have tup : Heap.IsTuple (Shared.heap ⟨hp, g, d, tk, os⟩) t its := ⟨_, ht, rfl, n, rfl⟩
    wp_walk using wpAny_loadPart' ht
    refine wpAny_stack_any fun _ => wpAny_pure ?_
    split
    · rename_i c _ _ _ _ _
      cases (c == Value.type "enumerate")
      · wp_walk using wpAny_loadPart' ht, wpAny_pyIter_tuple tup
        exact ⟨_, rfl, both⟩
      · wp_walk using wpAny_loadPart' ht, wpAny_pyIter_tuple tup
        exact ⟨_, rfl, both⟩
    · wp_walk using wpAny_loadPart' ht, wpAny_pyIter_tuple tup
      exact ⟨_, rfl, both⟩
section
variable {prog : Program} {w : World} {A : Around} {E : Value → Shared → Prop} {s : Shared}
theorem call_enumT {t : Addr} {its : Array Value} {Q : Value → Shared → Prop} (ht : s.heap.IsTuple t its)
    (q : ∀ h', IsEnum h' (s.heap.objs.size + 1) s.heap.objs.size 0 .none → h'.IsTupleIter s.heap.objs.size t 0 →
      (∀ b o, s.heap.get? b = some o → h'.get? b = some o) → Q (.ref (s.heap.objs.size + 1)) { s with heap := h' }) :
    wpAny (model prog w) A (call (.type "enumerate") [.ref t]) Q E s := by
  obtain ⟨⟨c, dc, da, sl⟩, ht, ec, n, ed⟩ := ht
  obtain rfl : c = .type "tuple" := ec
  obtain rfl : da = .seq its n := ed
  refine callType_new F.called_enumerate (by decide) (F.typeCall_enumerate_1 _) (F.newCall_enumerate_1 _) (fun ob => F.args_object_init_2 ob _) F.entry_enumerate_new (new_enumT t its n dc sl) ⟨ht, ?_⟩
  have sz : (s.heap.push { cls := .type "tuple_iterator", data := .fields #[.ref t, .int 0 0] }).objs.size = s.heap.objs.size + 1 := Heap.size_push ..
  show _ ∧ _
  rw [sz]
  have en : IsEnum ((s.heap.push { cls := .type "tuple_iterator", data := .fields #[.ref t, .int 0 0] }).push { cls := .type "enumerate", data := .fields #[.none, .bool false, .ref s.heap.objs.size, rawInt 0, .none, .none] })
      (s.heap.objs.size + 1) s.heap.objs.size 0 .none := by
    have z := Heap.get?_push_size (s.heap.push { cls := .type "tuple_iterator", data := .fields #[.ref t, .int 0 0] }) (o := { cls := .type "enumerate", data := .fields #[.none, .bool false, .ref s.heap.objs.size, rawInt 0, .none, .none] }) rfl
    rw [sz] at z
    exact z
  exact ⟨⟨_, en, rfl⟩, q _ en ⟨_, Heap.get?_push_of_some _ (Heap.get?_push_size _ rfl), rfl, rfl⟩ fun b o x => Heap.get?_push_of_some _ (Heap.get?_push_of_some _ x)⟩
end
end PySem
namespace L2
open PySem PySem.Spec PyProof.Rows
/-- the tuple at a, each item in a new pair behind its index -/
def IteT (K : PySem.W.Frag) (a : Addr) : It :=
  ⟨fun i H => ∃ (ys : List V) (y : V), SqT K H a ys ∧ ys[i]? = some y, fun i H v H' => ∃ p y, v = .ref p ∧ H p = none ∧ H' = upd H p (.tup [.int (i : Nat), y]) ∧ ∀ ys, SqT K H a ys → ys[i]? = some y,
    fun i H => ∃ ys : List V, SqT K H a ys ∧ ys.length = i⟩
theorem turn_enumT {P : Program} {w : World} {K : PySem.W.Frag} {elts : List Expr} {kk : Nat} {tp : Pos} (a e it : Addr) :
    Turn P w K (.Tuple elts kk tp) (IteT K a) [e, it] e (fun i h => (∃ old, IsEnum h e it ((i : Nat) : Int) old) ∧ h.IsTupleIter it a i ∧ (e ≠ it ∧ a ≠ it ∧ a ≠ e)) where
  mem := by simp
  obj := fun i h st b hb => by
    obtain ⟨⟨old, he⟩, ⟨o, ho, _, dd⟩, _⟩ := st
    rcases (show b = e ∨ b = it by simpa using hb) with rfl | rfl
    · exact ⟨_, he, fun v z => nomatch z⟩
    · exact ⟨o, ho, fun v z => by rw [dd] at z; exact nomatch z⟩
  keep := fun i h h' st k => by
    obtain ⟨⟨old, he⟩, ⟨o, ho, r⟩, ne⟩ := st
    exact ⟨⟨old, k e (by simp) _ he⟩, ⟨o, k it (by simp) _ ho, r⟩, ne⟩
  item := by
    intro X hP hw hK hc i pins s σ H E I hf st hg
    subst hP hw hK
    obtain ⟨⟨old, he⟩, hit, ne, nai, nae⟩ := st
    obtain ⟨ys, y, hq, hy⟩ := hg
    obtain ⟨its, rv, p, hz⟩ := I.tuple hq
    obtain ⟨u, hu, ru⟩ := rv.get hy
    have szE : e < s.heap.objs.size := Heap.lt_size he
    have szI : it < s.heap.objs.size := by
      obtain ⟨_, z, _⟩ := hit
      exact Heap.lt_size z
    have small : ∀ b ∈ [e, it], b < s.heap.objs.size := fun b hb => by
      rcases (show b = e ∨ b = it by simpa using hb) with rfl | rfl <;> assumption
    have D := Draws.tuple (prog := X.prog) (w := X.w) (A := X.A.in1) (I.ok.hd hc) it a nai its.toArray
    have hlt : i < its.toArray.size := by
      have := (List.getElem?_eq_some_iff.mp hu).1
      simpa using this
    refine wpAny_pyNext_enum_itemD D he ⟨hit, p⟩ hlt ne (by simp only [List.mem_cons, List.not_mem_nil, or_false, not_or]; exact ⟨ne, Ne.symm nae⟩) fun x h' tk hx ho st2 hT hsz hk => ?_
    obtain ⟨hit2, _⟩ := st2
    have ex : x = u := by
      have h2 : its.toArray[i]? = some u := by simpa using hu
      rw [h2] at hx
      exact (Option.some.inj hx).symm
    subst ex
    refine ⟨_, rfl, wpAny_letOwnedTupleGo_enum (s := { s with heap := h', toks := tk + 1 }) ho fun h'' he' sb => ?_⟩
    have hT2 : h''.get? s.heap.objs.size = some { cls := .type "tuple", data := .seq #[.int i tk, x] } := (sb.2 _ (Nat.ne_of_gt szE)).trans hT
    have okN : ObjOk X.prog X.w (upd H s.heap.objs.size (.tup [.int (i : Nat), y])) h'' s.heap.objs.size (.tup [.int (i : Nat), y]) :=
      ⟨by show 2 ≤ sizeLine; decide, [.int i tk, x], .cons ⟨_, rfl⟩ (.cons ru .nil), ⟨_, hT2, rfl, _, rfl⟩⟩
    have J : Inv X pins σ (upd H s.heap.objs.size (.tup [.int (i : Nat), y])) { s with heap := h'', toks := tk + 1 } :=
      I.turnedNew (ch := [e, it]) (fun b ob hb z => (sb.2 b (fun y => hb (by simp [y]))).trans (hk b ob (fun y => hb (by simp [y])) (fun y => hb (by simp [y])) z)) hf (Nat.le_refl _) okN
    refine ⟨.ref s.heap.objs.size, _, J, rfl, ⟨_, y, rfl, I.hok.fresh (Nat.le_refl _), rfl, fun zs hs => by rw [I.tuple_inj hs hq]; exact hy⟩, ⟨⟨x, ?_⟩, ?_, ne, nai, nae⟩, fun b hb => ?_⟩
    · rw [show ((i + 1 : Nat) : Int) = (i : Int) + 1 by omega]
      exact he'
    · obtain ⟨o, ho2, r⟩ := hit2
      exact ⟨o, (sb.2 it (Ne.symm ne)).trans ho2, r⟩
    · rw [upd_ne (Nat.ne_of_lt (small b hb))]
      exact (hf b hb).1
  done := by
    intro X hP hw hK hc i pins s σ H E I hf st hg
    subst hP hw hK
    obtain ⟨⟨old, he⟩, hit, ne, nai, nae⟩ := st
    obtain ⟨ys, hq, hle⟩ := hg
    obtain ⟨its, rv, p, hz⟩ := I.tuple hq
    have len : its.toArray.size = i := by
      have := rv.length
      simp
      omega
    obtain ⟨g0, g1, _, g3, g4, g5⟩ := hf it (by simp)
    rw [← len] at hit
    have D := Draws.tuple (prog := X.prog) (w := X.w) (A := X.A.in1) (I.ok.hd hc) it a nai its.toArray
    exact wpAny_pyNext_enum_endD D he ⟨hit, p⟩ fun h' eb => ⟨rfl, I.turned (t' := s.toks) (fun b o hb z => eb b o hb z) g0 g1 g3 g4 g5⟩
  self := fun A i s Q E st h => by
    obtain ⟨⟨_, he⟩, _⟩ := st
    exact wpAny_pyIter_enum he h
def iEnumT (K : PySem.W.Frag) (ta : TA) : TI := fun σ H R => ta σ H fun vs H1 => ∃ a ys, vs = [.ref a] ∧ SqT K H1 a ys ∧ R (IteT K a) H1
theorem pi_enumT {X : Cx} {e : Expr} {ta : TA} {p pos tp : Pos} {elts : List Expr} {kk : Nat} (hg : Gl X "enumerate") (hm : X.mg "enumerate" = none) (ha : PA X [e] ta) (hs : starEach [e] X.env = [(false, eval e X.env)] := by rfl) :
    PI X (.Tuple elts kk tp) (.Call (.Name "enumerate" p) [e] [] pos) (iEnumT X.K ta) := by
  refine ⟨fun pins s σ H R I h => Call_ (ld_blt I hg hm boot_enumerate (PyProof.Rows.callWith_type1 (thn (ha.run pos pins s σ H _ I h) fun us s1 ⟨vs, H1, I1, r1, q1⟩ => ?_) hs rfl))⟩
  obtain ⟨a, ys, rfl, hq, q⟩ := q1
  cases r1 with
  | cons r rr =>
    cases rr
    cases r
    obtain ⟨its, rv, p', hz⟩ := I1.tuple hq
    have hp' : s1.heap.IsTuple a its.toArray := p'
    have old : a < s1.heap.objs.size := by
      obtain ⟨o, ho, _⟩ := hp'
      exact Heap.lt_size ho
    refine call_enumT hp' fun h' he hit hk => wpAny_pyIter_enum he ?_
    refine ⟨s1.heap.objs.size + 1, [s1.heap.objs.size + 1, s1.heap.objs.size], _, _, H1, rfl, I1.kept (t' := s1.toks) hk, turn_enumT a (s1.heap.objs.size + 1) s1.heap.objs.size,
      ⟨⟨.none, he⟩, hit, Nat.succ_ne_self _, Nat.ne_of_lt old, Nat.ne_of_lt (Nat.lt_succ_of_lt old)⟩, fun b hb => ?_, q⟩
    have hle : s1.heap.objs.size ≤ b := by
      rcases (show b = s1.heap.objs.size + 1 ∨ b = s1.heap.objs.size by simpa using hb) with rfl | rfl
      · exact Nat.le_succ _
      · exact Nat.le_refl _
    exact I1.fpOk hle (I1.hok.fresh hle)
theorem walk_enumT {K : PySem.W.Frag} {a : Addr} {xs : List V} : Walk (IteT K a) xs.length (fun H => SqT K H a xs) (YPair (fun i => some (.int (i : Nat))) (fun i => xs[i]?)) :=
  ⟨fun i H hi h => ⟨xs, _, h, List.getElem?_eq_getElem hi⟩, fun H h => ⟨xs, h, rfl⟩, fun i H v H' hi h y => by
    obtain ⟨p, z, rfl, np, rfl, hz⟩ := y
    exact ⟨p, _, z, rfl, np, rfl, rfl, hz xs h⟩⟩
end L2

namespace T
/-! ### products by coefficients, division -/
def ms (f g : Nat → Int) : Nat → Nat → Int
  | 0, _ => 0
  | n + 1, k => ms f g n k + f n * g (k - n)
def mulc (f g : Nat → Int) (k : Nat) : Int := ms f g (k + 1) k
theorem conv_ms (l m : List Int) (k : Nat) : ∀ i, i ≤ k + 1 → conv l m i k = ms (co l) (co m) i k
  | 0, _ => rfl
  | i + 1, h => by
    show conv l m i k + row l m i k = ms (co l) (co m) i k + co l i * co m (k - i)
    rw [conv_ms l m k i (by omega)]
    unfold row
    rw [if_pos (by omega)]
theorem conv_past (l m : List Int) (k : Nat) : ∀ t, conv l m (k + 1 + t) k = conv l m (k + 1) k
  | 0 => rfl
  | t + 1 => by
    show conv l m (k + 1 + t) k + row l m (k + 1 + t) k = _
    rw [conv_past l m k t]
    unfold row
    rw [if_neg (by omega), Int.add_zero]
theorem conv_mulc (l m : List Int) (k : Nat) : conv l m l.length k = mulc (co l) (co m) k := by
  rw [← conv_more l m k (k + 1 + l.length) (by omega), conv_past, conv_ms l m k (k + 1) (Nat.le_refl _)]
  rfl
theorem ms_congr {f f' g g' : Nat → Int} {k : Nat} : ∀ n, (∀ i, i < n → f i = f' i) → (∀ i, g i = g' i) → ms f g n k = ms f' g' n k
  | 0, _, _ => rfl
  | n + 1, h, hg => by
    show ms f g n k + f n * g (k - n) = ms f' g' n k + f' n * g' (k - n)
    rw [ms_congr n (fun i hi => h i (by omega)) hg, h n (by omega), hg]
theorem ms_sub (f h g : Nat → Int) (k : Nat) : ∀ n, ms (fun i => f i - h i) g n k = ms f g n k - ms h g n k
  | 0 => by simp [ms]
  | n + 1 => by
    show ms (fun i => f i - h i) g n k + (f n - h n) * g (k - n) = ms f g n k + f n * g (k - n) - (ms h g n k + h n * g (k - n))
    rw [ms_sub f h g k n, Int.sub_mul]
    omega
theorem mulc_sub (f h g : Nat → Int) (k : Nat) : mulc (fun i => f i - h i) g k = mulc f g k - mulc h g k := ms_sub f h g k (k + 1)
theorem ms_zero {f g : Nat → Int} {k : Nat} : ∀ n, (∀ i, i < n → f i * g (k - i) = 0) → ms f g n k = 0
  | 0, _ => rfl
  | n + 1, h => by
    show ms f g n k + f n * g (k - n) = 0
    rw [ms_zero n (fun i hi => h i (by omega)), h n (by omega)]
    rfl
/-- a single term -/
def mono (s : Nat) (c : Int) (i : Nat) : Int := if i = s then c else 0
theorem ms_mono (s : Nat) (c : Int) (g : Nat → Int) (k : Nat) : ∀ n, ms (mono s c) g n k = if s < n then c * g (k - s) else 0
  | 0 => by rw [if_neg (Nat.not_lt_zero _)]; rfl
  | n + 1 => by
    show ms (mono s c) g n k + mono s c n * g (k - n) = _
    rw [ms_mono s c g k n]
    unfold mono
    by_cases h1 : s < n
    · rw [if_pos h1, if_neg (by omega), if_pos (by omega)]
      simp
    · by_cases h2 : n = s
      · rw [if_neg h1, if_pos h2, if_pos (by omega), h2, Int.zero_add]
      · rw [if_neg h1, if_neg h2, if_neg (by omega)]
        simp
theorem mulc_mono (s : Nat) (c : Int) (g : Nat → Int) (k : Nat) : mulc (mono s c) g k = if s ≤ k then c * g (k - s) else 0 := by
  unfold mulc
  rw [ms_mono]
  by_cases h : s ≤ k
  · rw [if_pos h, if_pos (by omega)]
  · rw [if_neg h, if_neg (by omega)]
theorem ms_add (f h g : Nat → Int) (k : Nat) : ∀ n, ms (fun i => f i + h i) g n k = ms f g n k + ms h g n k
  | 0 => by simp [ms]
  | n + 1 => by
    show ms (fun i => f i + h i) g n k + (f n + h n) * g (k - n) = ms f g n k + f n * g (k - n) + (ms h g n k + h n * g (k - n))
    rw [ms_add f h g k n, Int.add_mul]
    omega
theorem mulc_add (f h g : Nat → Int) (k : Nat) : mulc (fun i => f i + h i) g k = mulc f g k + mulc h g k := ms_add f h g k (k + 1)
/-- the topmost coefficient -/
theorem mulc_top {f g : Nat → Int} {n d : Nat} (hf : ∀ i, n < i → f i = 0) (hg : ∀ j, d < j → g j = 0) : mulc f g (n + d) = f n * g d := by
  unfold mulc
  have split : ∀ t, ms f g (n + 1 + t) (n + d) = ms f g (n + 1) (n + d) := fun t => by
    induction t with
    | zero => rfl
    | succ t ih =>
      show ms f g (n + 1 + t) (n + d) + f (n + 1 + t) * g (n + d - (n + 1 + t)) = _
      rw [ih, hf (n + 1 + t) (by omega)]
      simp
  rw [show n + d + 1 = n + 1 + d by omega, split]
  show ms f g n (n + d) + f n * g (n + d - n) = _
  rw [ms_zero n (fun i hi => by rw [hg (n + d - i) (by omega)]; simp), show n + d - n = d by omega, Int.zero_add]
/-- Q times other is one -/
def Sol (one other : List Int) (q : List Int) : Prop := ∀ k, mulc (co q) (co other) k = co one k
/-- how far a division has come: f, what is found; r, the rest; from L - d on every solution is f -/
structure Dv (one other : List Int) (f : Nat → Int) (r : Nat → Int) (L : Nat) : Prop where
  eq : ∀ k, co one k = mulc f (co other) k + r k
  rz : ∀ k, L ≤ k → r k = 0
  qs : ∀ q, Sol one other q → ∀ k, L ≤ k + (other.length - 1) → co q k = f k
theorem dv_start {one other : List Int} (ho : other ≠ []) (po : Pol other) : Dv one other (fun _ => 0) (co one) one.length := by
  have n0 := List.length_pos_iff.mpr ho
  have hc := po.resolve_left ho
  refine ⟨fun k => ?_, fun k h => co_ge h, fun q hq k hk => ?_⟩
  · rw [show mulc (fun _ => 0) (co other) k = 0 from ms_zero _ (fun i _ => by simp), Int.zero_add]
  · -- from the top of q down
    have top : ∀ t k, q.length ≤ k + t → one.length ≤ k + (other.length - 1) → co q k = 0 := fun t => by
      induction t with
      | zero => exact fun k h _ => co_ge h
      | succ t ih =>
        intro k h hk
        have hf : ∀ i, k < i → co q i = 0 := fun i hi => ih i (by omega) (by omega)
        have e := mulc_top (f := co q) (g := co other) (n := k) (d := other.length - 1) hf (fun j hj => co_ge (by omega))
        rw [hq, co_ge (by omega)] at e
        exact (Int.mul_eq_zero.mp e.symm).resolve_right hc
    exact top q.length k (by omega) hk
/-- the rest's topmost coefficient is a solution's coefficient times the other's topmost one -/
theorem dv_lead {one other : List Int} {f r : Nat → Int} {L : Nat} (h : Dv one other f r L) (ho : other ≠ []) (hL : other.length ≤ L) {q : List Int} (hq : Sol one other q) (hf : f (L - other.length) = 0) : r (L - 1) = co q (L - other.length) * co other (other.length - 1) := by
  have n0 := List.length_pos_iff.mpr ho
  have e1 : r (L - 1) = mulc (fun i => co q i - f i) (co other) (L - 1) := by
    rw [mulc_sub, hq]
    have := h.eq (L - 1)
    omega
  rw [e1, show L - 1 = (L - other.length) + (other.length - 1) by omega, mulc_top (n := L - other.length) (d := other.length - 1) (fun i hi => ?_) (fun j hj => co_ge (by omega)), hf, Int.sub_zero]
  have := h.qs q hq i (by omega)
  show co q i - f i = 0
  omega
/-- one step: the rest without part times the other, shifted -/
theorem dv_step {one other : List Int} {f r : Nat → Int} {L : Nat} (h : Dv one other f r L) (ho : other ≠ []) (po : Pol other) (hL : other.length ≤ L) (hf : f (L - other.length) = 0) {c : Int} (hc : c * co other (other.length - 1) = r (L - 1))
    {r' : Nat → Int} (hr : ∀ k, r' k = r k - (if L - other.length ≤ k then c * co other (k - (L - other.length)) else 0)) : Dv one other (fun i => f i + mono (L - other.length) c i) r' (L - 1) := by
  have n0 := List.length_pos_iff.mpr ho
  refine ⟨fun k => ?_, fun k hk => ?_, fun q hq k hk => ?_⟩
  · rw [mulc_add, mulc_mono, hr, h.eq k]
    omega
  · rw [hr]
    by_cases e : k = L - 1
    · rw [if_pos (by omega), e, show L - 1 - (L - other.length) = other.length - 1 by omega, hc]
      omega
    · rw [h.rz k (by omega)]
      by_cases e2 : L - other.length ≤ k
      · rw [if_pos e2, co_ge (l := other) (by omega)]
        simp
      · rw [if_neg e2]
        rfl
  · show co q k = f k + mono (L - other.length) c k
    unfold mono
    by_cases e : k = L - other.length
    · have e2 := dv_lead h ho hL hq hf
      rw [← hc] at e2
      have := Int.eq_of_mul_eq_mul_right (po.resolve_left ho) e2
      rw [if_pos e, e, hf, this, Int.zero_add]
    · rw [if_neg e, h.qs q hq k (by omega), Int.add_zero]
theorem dv_none {one other : List Int} {f r : Nat → Int} {L : Nat} (h : Dv one other f r L) (ho : other ≠ []) (hL : other.length ≤ L) (hf : f (L - other.length) = 0) (hc : ∀ c, c * co other (other.length - 1) ≠ r (L - 1)) (q : List Int) : ¬ Sol one other q :=
  fun hq => hc _ (dv_lead h ho hL hq hf).symm
theorem dv_end {one other : List Int} {f r : Nat → Int} {L : Nat} (h : Dv one other f r L) (ho : other ≠ []) (hL : L < other.length) : (∀ q, Sol one other q → (∀ k, co q k = f k) ∧ ∀ k, r k = 0) := by
  have n0 := List.length_pos_iff.mpr ho
  intro q hq
  have e : ∀ k, co q k = f k := fun k => h.qs q hq k (by omega)
  refine ⟨e, fun k => ?_⟩
  have h1 := h.eq k
  have h2 := hq k
  have h3 : mulc (co q) (co other) k = mulc f (co other) k := ms_congr _ (fun i _ => e i) (fun _ => rfl)
  omega
theorem dv_sol {one other q : List Int} {f r : Nat → Int} {L : Nat} (h : Dv one other f r L) (hq : ∀ k, co q k = f k) (hr : ∀ k, r k = 0) : Sol one other q := fun k => by
  have h1 := h.eq k
  have h3 : mulc (co q) (co other) k = mulc f (co other) k := ms_congr _ (fun i _ => hq i) (fun _ => rfl)
  rw [h3, h1, hr]
  omega
end T

/-! ### f(e, .., k = v, ..) in a try -/
namespace L2
open PySem PySem.Spec PyProof.Rows
def tCallNS (n m : Nat) (sp : Sp) (gV : List V → List V → List V) (E : St → XK) (t tk : TA) : TE := fun σ H Q => t σ H fun vs H1 => tk σ H1 fun zs H2 => vs.length = n ∧ zs.length = m ∧ sp (gV vs zs) H2 Q (E σ)
section
variable {X : Cx} {CX : CXT} {k n : Nat} {f : Addr} {fd : FuncData} {ps ks : List Str} {sp : Sp} {E : St → XK} {x : Str} {p pos : Pos} {e : Expr} {es : List Expr} {kws : List Keyword} {t tk : TA} {g : List Value → List Value → List Value} {gV : List V → List V → List V}
theorem run_fnNS {pins : List (Addr × Obj)} {σ : St} {H : Hp} {s : Shared} {Q : VK} {us ws : List Value} {vs zs : List V} (F : FnOk X.prog X.w X.K X.mg X.base CX k f fd ps sp) (hr : Room k X.A) (hb : KBn X.K fd ps n ks g gV) (hx : PassesAt CX X σ (E σ))
    (I : Inv X pins σ H s) (r : Vals vs us) (rz : Vals zs ws) (l1 : vs.length = n) (l2 : zs.length = ks.length) (h : sp (gV vs zs) H Q (E σ)) : wpAny (model X.prog X.w) X.A (call (.ref f) us (ks.zip ws)) (EP X pins σ Q) X.xe s := by
  have r2 := hb.rel r rz
  refine wpAny_call (codeAny_mono (F.run X.A X.stack s H ⟨us, ks.zip ws⟩ (g us ws) (gV vs zs) Q (E σ) hr I.env0 (hb.to s us ws I.kIn (r.length.symm.trans l1) (rz.length.symm.trans l2)) r2 h) fun r s' hq => ?_)
  cases r with
  | error e => exact hx pins H s e s' I hq
  | ok fl =>
    cases fl with
    | ret u => exact I.after hq
    | next => exact False.elim hq
    | brk => exact False.elim hq
    | cont => exact False.elim hq
theorem pe_callNS (F : FnOk X.prog X.w X.K X.mg X.base CX k f fd ps sp) (hr : Room k X.A) (hg : Gl X x) (hm : X.mg x = some (.ref f)) (hk : PySem.W.keepIn X.K (.ref f) = true) (hb : KBn X.K fd ps n ks g gV) (hx : ∀ σ, PassesAt CX X σ (E σ))
    (ha : PA X (e :: es) t) (hkw : PK X kws tk) (hall : (backToKw pos (keywordEach kws X.env)).all (·.1.isSome) = true := by rfl) (hks : (backToKw pos (keywordEach kws X.env)).filterMap (·.1) = ks := by rfl)
    (hdb : (x == ("__debug__" : Str)) = false := by decide) (he : starEach (e :: es) X.env = (false, eval e X.env) :: starEach es X.env := by rfl)
    (hpl : ((backTo pos (starEach (e :: es) X.env)).any (·.1) || (backToKw pos (keywordEach kws X.env)).any (·.1.isNone)) = false := by rfl) :
    PE X (.Call (.Name x p) (e :: es) kws pos) (tCallNS n ks.length sp gV E t tk) := by
  refine ⟨fun pins s σ H Q I h => ?_⟩
  refine wpAny_Call_Name_kw (ld_glob I hg hm ?_ hdb)
  refine PySem.W.callWith_KW (h₀ := X.base) I.ok.mod.kin hk hall (thn (ha.run pos pins s σ H _ I h) fun us s1 ⟨vs, H1, I1, r, q⟩ => ?_) hpl he
  refine thn (hkw.run pos pins s1 σ H1 _ I1 q) fun ws s2 ⟨zs, H2, I2, rz, l1, l2, q2⟩ => ⟨I2.kIn, ?_⟩
  rw [hks]
  exact run_fnNS F hr hb (hx σ) I2 r rz l1 l2 q2
end
end L2

/-! ### fe(e, ..), fe an expression that gives one of several defs -/
namespace L2
open PySem PySem.Spec PyProof.Rows
structure HeldX (P : Program) (w : World) (K : PySem.W.Frag) (mg : Str → Option Value) (base : Heap) (CX : CXT) (k : Nat) (f : Addr) (sp : Sp) : Prop where
  ex : ∃ (fd : FuncData) (ps : List Str), FnOk P w K mg base CX k f fd ps sp ∧ PySem.W.keepIn K (.ref f) = true ∧ Binds K fd ps []
def tCallE (S : Addr → Option Sp) (E : St → XK) (tf : TE) (t : TA) : TE := fun σ H Q => tf σ H fun y H1 => ∃ f sp, y = V.ref f ∧ S f = some sp ∧ t σ H1 fun vs H2 => sp vs H2 Q (E σ)
section
variable {X : Cx} {CX : CXT} {k : Nat} {E : St → XK} {p pos : Pos} {fe e : Expr} {es : List Expr} {tf : TE} {t : TA}
theorem pe_callE {S : Addr → Option Sp} (hf : PE X fe tf) (A : ∀ f sp, S f = some sp → HeldX X.prog X.w X.K X.mg X.base CX k f sp) (hr : Room k X.A) (hx : ∀ σ, PassesAt CX X σ (E σ)) (ha : PA X (e :: es) t)
    (ht : eval (.Call fe (e :: es) [] pos) X.env = (do callWith pos (← eval fe X.env) [] (backTo pos (starEach (e :: es) X.env)) (backToKw pos (keywordEach [] X.env))) := by rfl)
    (he : starEach (e :: es) X.env = (false, eval e X.env) :: starEach es X.env := by rfl) (hpl : (backTo pos (starEach es X.env)).any (·.1) = false := by rfl) : PE X (.Call fe (e :: es) [] pos) (tCallE S E tf t) := by
  refine ⟨fun pins s σ H Q I h => ?_⟩
  refine Call_ (thn (hf.run pins s σ H _ I h) fun u s1 ⟨y, H1, I1, ry, f, sp, ey, hS, q⟩ => ?_) ht
  subst ey
  obtain rfl : u = Value.ref f := ry
  obtain ⟨fd, ps, F, hk, hb⟩ := (A f sp hS).ex
  refine PySem.W.callWith_K (h₀ := X.base) I.ok.mod.kin hk (thn (ha.run pos pins s1 σ H1 _ I1 q) fun us s2 ⟨vs, H2, I2, r, q2⟩ => ⟨I2.kIn, ?_⟩) he hpl
  exact run_fnS F hr hb (hx σ) I2 r q2
end
end L2

/-! ### a plain list comprehension over a list within an except suite; defs whose errors have no context -/
namespace HotX
open PySem PySem.Spec PyProof.Rows
variable {prog : Program} {w : World} {A : Around} {E : Value → Shared → Prop} {s : Shared}
theorem list_over_hot {it l x1 : Addr} {i : Nat} {items : Array Value} {Q : Option Value → Shared → Prop} (hot : HotAt A x1 s.heap) (hit : s.heap.IsListIter it l i) (hl : s.heap.IsList l items) (hx : items[i]? = none)
    (hQ : ∀ h', (∀ b o, b ≠ it → s.heap.get? b = some o → h'.get? b = some o) → Q none { s with heap := h' }) : wpAny (model prog w) A (pyNext (.ref it)) Q E s := by
  obtain ⟨oi, gi, ci, di⟩ := id hit
  obtain ⟨ol, gl, _, nl, dl⟩ := hl
  obtain ⟨hh, o1, vs1, g1, d1, c1⟩ := hot
  have ne1 : x1 ≠ it := fun z => by
    rw [z, gi] at g1
    obtain rfl := Option.some.inj g1
    rw [di] at d1
    obtain rfl := Data.fields.inj d1
    exact nomatch (show (some (Value.none) : Option Value) = _ from c1.symm)
  unfold pyNext
  apply wpAny_bind
  apply wpAny_attempt
  apply wpAny_callSpecial?_slot (name := Str.ofString "__next__") hit.typeIs slot_listiter_next
  apply wpAny_call_entry slot_listiter_next hit.typeIs entry_listiter_next ?_ (args_listiter_next _)
  show wpAny _ _ (field (Value.ref it) 0 >>= _) _ _ s
  apply wpAny_bind
  apply wpAny_field gi di (x := Value.ref l) rfl
  show wpAny _ _ (if (Value.ref l == Value.none) = true then _ else _) _ _ s
  rw [if_neg (by exact Bool.false_ne_true)]
  show wpAny _ _ (field (Value.ref it) 1 >>= _) _ _ s
  apply wpAny_bind
  apply wpAny_field gi di (x := Value.int i 0) rfl
  show wpAny _ _ (seqItems? (Value.ref l) >>= _) _ _ s
  apply wpAny_bind
  apply wpAny_seqItems gl dl
  simp only [Int.toNat_natCast, hx]
  apply wpAny_bind
  apply wpAny_rule
  apply wpAny_bind
  apply wpAny_setField gi di (by simp)
  show wpAny _ _ (newExc (Value.type "StopIteration") [] >>= _) _ _ _
  apply wpAny_bind
  simp only [newExc, newTuple]
  apply wpAny_bind
  apply wpAny_newObj_type (hd := by size_fits)
  apply wpAny_bind
  apply wpAny_of_eq (a := Value.none) (by first | rfl | exact rfl)
  apply wpAny_newObj_type (hd := by size_fits)
  have k1 : (s.heap.update it (Obj.mapFields fun x => x.setIfInBounds 0 Value.none)).get? x1 = some o1 := (Heap.get?_update_other _ _ ne1.symm).trans g1
  have k2 : ∀ o o' : Obj, (((s.heap.update it (Obj.mapFields fun x => x.setIfInBounds 0 Value.none)).push o).push o').get? x1 = some o1 := fun o o' => Heap.get?_push_of_some _ (Heap.get?_push_of_some _ k1)
  have k3 := fun o o' => Heap.lt_size (k2 o o')
  refine raiseNew_hot (A := A.in1) (x1 := x1) ⟨hh, o1, vs1, k2 _ _, d1, c1⟩ (Nat.ne_of_lt (Heap.lt_size (Heap.get?_push_of_some _ k1))) (Heap.get?_push_size _ rfl) rfl (by first | (simp; done) | (simp; omega)) ?_
  apply wpAny_bind
  refine wpAny_isInstance (b := true) (T := "StopIteration") ⟨_, Heap.get?_update_self _ (Heap.get?_push_size _ rfl) rfl, rfl⟩ isSubtype_stop (wpAny_pure (hQ _ fun b o nb e => ?_))
  have e1 := (Heap.get?_update_other s.heap (Obj.mapFields fun x => x.setIfInBounds 0 Value.none) (Ne.symm nb)).trans e
  have e2 := Heap.get?_push_of_some { cls := Value.type "tuple", data := Data.seq #[] } e1
  rw [Heap.get?_update_other _ _ (Nat.ne_of_gt (Heap.lt_size e2))]
  exact Heap.get?_push_of_some _ e2
end HotX
namespace L2
open PySem PySem.Spec PyProof.Rows HotX
/-- the except suite's own exception stands, its context is None -/
def HotS (X : Cx) : Prop := ∃ p : Addr × Obj, p ∈ X.pn ∧ X.A.handled = some (.ref p.1) ∧ ∃ vs : Array Value, p.2.data = .fields vs ∧ vs[2]? = some .none
/-- [e for y in xs], e without effect: f of each item -/
def tLcMap (K : PySem.W.Frag) (tl : TE) (g : TG) (te : TE) (vs : List Nat) : TE := fun σ H Q => tl σ H fun x H1 => ∃ (a : Addr) (xs : List V) (f : V → V), x = .ref a ∧ SqL K H1 a xs ∧ xs.length < sizeLine ∧
  (∀ y ∈ xs, ∀ H2 : Hp, g y (wipe σ vs) H2 fun σ2 H3 => wipe σ2 vs = wipe σ vs ∧ te σ2 H3 fun z H4 => z = f y ∧ H4 = H2) ∧ ∀ D, H1 D = none → Q (.ref D) (upd H1 D (.lst (xs.map f)))
theorem pe_lcMap {X : Cx} {elt tg iter : Expr} {scope : Scope} {own : List (Str × Nat)} {pos : Pos} {tl : TE} {g : TG} {te : TE} (hotX : HotS X) (nd : X.N.Nodup) (walked : PE X iter tl) (okb : BlkOk X.N X.env.scope scope own)
    (pgAll : ∀ (s : Shared) (H : Hp) (C : Addr) (cl : List (Str × Addr)) (fp : List Addr), PG (X.blk s H scope (compEnvC scope cl C X.env) fp) tg g)
    (peAll : ∀ (s : Shared) (H : Hp) (C : Addr) (cl : List (Str × Addr)) (fp : List Addr), PE (X.blk s H scope (compEnvC scope cl C X.env) fp) elt te)
    (fold : ∀ x, foldedSetIterable iter X.env x = pure x := by intro _; rfl) : PE X (.ListComp elt [⟨tg, iter, [], 0⟩] scope pos) (tLcMap X.K tl g te (own.map (·.2))) := by
  refine ⟨fun pins s σ H Q I h => ?_⟩
  have frees : ∀ y ∈ scope.names, y.2 = .free → ∃ c, X.env.cells.lookup y.1 = some c := fun y hy e => (okb.free y hy e).elim (fun k => I.ok.has _ (.inl k)) (fun k => I.ok.has _ (.inr k))
  rw [eval_ListComp]
  refine wpAny_comprehension_free (use := none) rfl fold (closure_ok frees) okb.kind (fun y hy e => by rw [okb.uniq y hy, e]) (thn (walked.run pins s σ H _ I h) fun itv s1 gone => ?_)
  obtain ⟨x, H1, I1, rx, a, xs, f, rfl, sq, big, each, q⟩ := gone
  cases rx
  obtain ⟨its, vals, plain, _⟩ := I1.list sq
  have lenV : xs.length = its.length := vals.length
  refine wpAny_pyIter_list plain.isList ?_
  -- the iterator
  have I2 : Inv X pins σ H1 { s1 with heap := s1.heap.push { cls := .type "list_iterator", data := .fields #[.ref a, .int 0 0] } } := I1.kept (t' := s1.toks) fun b o e => Heap.get?_push_of_some _ e
  have fpI := I1.fpOk (H' := H1) (Nat.le_refl s1.heap.objs.size) (I1.hok.fresh (Nat.le_refl _))
  have itr : (s1.heap.push { cls := .type "list_iterator", data := .fields #[.ref a, .int 0 0] }).IsListIter s1.heap.objs.size a 0 := ⟨_, Heap.get?_push_size _ rfl, rfl, rfl⟩
  have plain2 : PlainL (s1.heap.push { cls := .type "list_iterator", data := .fields #[.ref a, .int 0 0] }) a its.toArray := by
    obtain ⟨o, n, e, r⟩ := plain
    exact ⟨o, n, Heap.get?_push_of_some _ e, r⟩
  have lt2 : s1.heap.objs.size < (s1.heap.push { cls := .type "list_iterator", data := .fields #[.ref a, .int 0 0] }).objs.size := by
    rw [Heap.size_push]
    exact Nat.lt_succ_self _
  generalize eit : s1.heap.objs.size = it at itr lt2 fpI ⊢
  generalize es2 : ({ s1 with heap := s1.heap.push { cls := .type "list_iterator", data := .fields #[.ref a, .int 0 0] } } : Shared) = s2 at I2 ⊢
  have itr : s2.heap.IsListIter it a 0 := by rw [← es2]; exact itr
  have plain2 : PlainL s2.heap a its.toArray := by rw [← es2]; exact plain2
  have lt2 : it < s2.heap.objs.size := by rw [← es2]; exact lt2
  clear es2 eit
  -- the new list
  apply wpAny_newObj_type (T := "list") (hd := by show 0 ≤ sizeLine; exact Nat.zero_le _)
  apply newEnv_comp
  have nD : H1 s2.heap.objs.size = none := I2.hok.fresh (Nat.le_refl _)
  have ne0 : it ≠ s2.heap.objs.size := Nat.ne_of_lt lt2
  have I3 : Inv X pins σ (upd H1 s2.heap.objs.size (.lst [])) { s2 with heap := s2.heap.push { cls := .type "list", data := .seq ([] : List Value).toArray } } :=
    I2.laid (t' := s2.toks) (fun b o e => Heap.get?_push_of_some _ e) (Nat.le_refl _) ⟨Nat.zero_le _, [], 0, .nil, Heap.get?_push_size _ rfl⟩
  have itr3 : (s2.heap.push { cls := .type "list", data := .seq ([] : List Value).toArray }).IsListIter it a 0 := by
    obtain ⟨o, e, c, d⟩ := itr
    exact ⟨o, Heap.get?_push_of_some _ e, c, d⟩
  have lt3 : it < (s2.heap.push { cls := .type "list", data := .seq ([] : List Value).toArray }).objs.size := by
    rw [Heap.size_push]
    exact Nat.lt_succ_of_lt lt2
  generalize s2.heap.objs.size = D at nD ne0 I3 ⊢
  have fp3 : FpOk X pins (upd H1 D (.lst [])) it := ⟨by rw [upd_ne ne0]; exact fpI.1, fpI.2⟩
  generalize es3 : ({ s2 with heap := s2.heap.push { cls := .type "list", data := .seq ([] : List Value).toArray } } : Shared) = s3 at I3 ⊢
  have itr3 : s3.heap.IsListIter it a 0 := by rw [← es3]; exact itr3
  have lt3 : it < s3.heap.objs.size := by rw [← es3]; exact lt3
  have ed : s3.drawn = s2.drawn ∧ s3.gens = s2.gens ∧ s3.toks = s2.toks ∧ s3.os = s2.os := by rw [← es3]; exact ⟨rfl, rfl, rfl, rfl⟩
  have frs3 : ∀ b ∈ [it], FpOk X pins (upd H1 D (.lst [])) b ∧ b < s3.heap.objs.size := fun b hb => by rw [List.mem_singleton.mp hb]; exact ⟨fp3, lt3⟩
  have I4 := block_start I3 okb nd frs3
  obtain ⟨hp, hpn, hah, hvs, hfd, hnn⟩ := hotX
  have pin3 := I3.pin hp (List.mem_append_left _ hpn)
  have nostk : hp.1 ∉ frs X.stack := fun hm => (List.mem_cons.mp (I3.stkSub hp.1 hm)).elim pin3.2.2.1 pin3.2.2.2.1
  have noit : hp.1 ≠ it := fp3.2.2.2.2.2 hp (List.mem_append_left _ hpn)
  clear es3
  have pg0 := pgAll s3 (upd H1 D (.lst [])) s3.heap.objs.size (cellsFrom (s3.heap.objs.size + 1) scope.names (cloFrom X.env.cells scope.names [])) [it]
  have pe0 := peAll s3 (upd H1 D (.lst [])) s3.heap.objs.size (cellsFrom (s3.heap.objs.size + 1) scope.names (cloFrom X.env.cells scope.names [])) [it]
  let ce := compEnvC scope (cellsFrom (s3.heap.objs.size + 1) scope.names (cloFrom X.env.cells scope.names [])) s3.heap.objs.size X.env
  have locs : ce.locals = s3.heap.objs.size := rfl
  have noC : upd H1 D (.lst []) s3.heap.objs.size = none := I3.hok.fresh (Nat.le_refl _)
  have fpC := I3.fpOk (H' := upd H1 D (.lst [])) (Nat.le_refl s3.heap.objs.size) noC
  have neDC : s3.heap.objs.size ≠ D := fun z => by
    rw [z, upd_same] at noC
    exact nomatch noC
  have noC1 : H1 s3.heap.objs.size = none := by
    rw [upd_ne neDC] at noC
    exact noC
  show codeAny _ _ (.compStart (.ListComp elt [⟨tg, iter, [], 0⟩] scope pos) 0 (.ref it) (.ref D) ce) (compPost (model X.prog X.w) X.A X.xe none (EP X pins σ Q) (.ref D) s3.heap.objs.size) _
  have itr4 : (pushCells (s3.heap.push { cls := .type "dict", data := .dict #[] }) scope.names).IsListIter it a 0 := by
    obtain ⟨o, e, c, d⟩ := itr3
    exact ⟨o, pushCells_keeps _ _ _ _ (Heap.get?_push_of_some _ e), c, d⟩
  generalize es4 : ({ s3 with heap := pushCells (s3.heap.push { cls := .type "dict", data := .dict #[] }) scope.names } : Shared) = s4 at I4 ⊢
  have itr4 : s4.heap.IsListIter it a 0 := by rw [← es4]; exact itr4
  clear es4
  have twice : ∀ (o o' : HO), upd (upd H1 D o) D o' = upd H1 D o' := fun o o' => by
    funext b
    by_cases e : b = D
    · rw [e, upd_same, upd_same]
    · rw [upd_ne e, upd_ne e, upd_ne e]
  have oldKept : ∀ o : HO, Same H1 (upd H1 D o) := fun o b u e => by rw [upd_ne (ne_of_none e nD)]; exact e
  have itFree : ∀ o : HO, upd H1 D o it = none := fun o => by rw [upd_ne ne0]; exact fpI.1
  have hotAt : ∀ {σ5 : St} {H5 : Hp} {s5 : Shared}, Inv (X.blk s3 (upd H1 D (.lst [])) scope ce [it]) [] σ5 H5 s5 → HotAt X.A hp.1 s5.heap := fun I5 =>
    ⟨hah, hp.2, hvs, I5.base.keep hp.1 hp.2 pin3.1 pin3.2.1 nostk (fun hm => noit (List.mem_singleton.mp hm)), hfd, hnn⟩
  have fixed : ∀ {σ5 : St} {H5 : Hp} {s5 : Shared}, Inv (X.blk s3 (upd H1 D (.lst [])) scope ce [it]) [] σ5 H5 s5 → H5 it = none → FpOk (X.blk s3 (upd H1 D (.lst [])) scope ce [it]) [] H5 it := fun I5 hn =>
    ⟨hn, (I5.ok.exf it List.mem_cons_self).1, I5.ok.exfs it List.mem_cons_self, .inl List.mem_cons_self, fun x c e => (I5.ok.exf it List.mem_cons_self).2 x c e, fun p hp => nomatch hp⟩
  have main : codeAny (model X.prog X.w) X.A (.compLoop (.ListComp elt [⟨tg, iter, [], 0⟩] scope pos) 0 (.ref it) (.ref D) ce) (compPost (model X.prog X.w) X.A X.xe none (EP X pins σ Q) (.ref D) s3.heap.objs.size) s4 := by
    refine compLoop_any (fun n s' => ∃ i, n = xs.length - i ∧ i ≤ xs.length ∧ Inv (X.blk s3 (upd H1 D (.lst [])) scope ce [it]) [] (wipe σ (own.map (·.2))) (upd H1 D (.lst ((xs.take i).map f))) s' ∧ s'.heap.IsListIter it a i) ?_ xs.length ⟨0, rfl, Nat.zero_le _, I4, itr4⟩
    rintro n s5 ⟨i, rfl, hi, I5, it5⟩
    obtain ⟨its5, vals5, plain5, _⟩ := I5.list (show SqL X.K _ a xs from (oldKept _).seq sq)
    obtain ⟨f0, f1, f2, f3, f4, f5⟩ := fixed I5 (itFree _)
    have len5 : xs.length = its5.length := vals5.length
    by_cases c : i < xs.length
    · obtain ⟨u, hu, ru⟩ := vals5.get (List.getElem?_eq_getElem c)
      refine wpAny_pyNext_list_item it5 plain5.isList (x := u) (by simpa using hu) fun h' next sb => ?_
      have I6 := I5.turned (h' := h') (t' := s5.toks) (fun b o hb e => (sb.2 b hb).trans e) f0 f1 f3 f4 f5
      obtain ⟨oi, ei, ci, di⟩ := next
      refine go_of (s := { s5 with heap := h' }) ei ci di (by decide) ?_
      have I6p := I6.pinned (fp := [it]) (fun b hb => by rw [List.mem_singleton.mp hb]; exact fixed I6 (itFree _)) (fun b hb => by rw [List.mem_singleton.mp hb]; exact ⟨oi, ei, fun v z => by rw [di] at z; cases z⟩)
      refine thnF (pg0.run _ _ _ _ xs[i] u _ I6p ru (each _ (List.getElem_mem c) _)) fun _ s7 ⟨σ7, H7, I7, hw, q7⟩ => ?_
      refine wpAny_tests_nil ?_
      rw [if_pos rfl]
      refine thnF (pe0.run _ s7 σ7 H7 _ I7 q7) fun z s8 ⟨yv, H8, I8, r8, ez, eH⟩ => ?_
      subst ez eH
      refine app_ok (X := X.blk s3 (upd H1 D (.lst [])) scope ce [it]) I8 upd_same (by rw [List.length_map, List.length_take]; omega) r8 fun s9 I9 => ?_
      have pinned := (I9.pin (it, oi) (List.mem_append_right _ (List.mem_append_right _ (mem_pinsAt List.mem_cons_self ei)))).1
      refine ⟨xs.length - (i + 1), by omega, i + 1, rfl, c, ?_, ⟨oi, pinned, ci, di⟩⟩
      have I10 := (I9.unpinned (pins := [])).weak (σ' := wipe σ (own.map (·.2))) (by rw [← hw, wipe_length]) fun j v e => by
        rw [← hw] at e
        exact (wipe_some e).1
      rw [twice, show (xs.take i).map f ++ [f xs[i]] = (xs.take (i + 1)).map f by rw [List.take_succ, List.getElem?_eq_getElem c, List.map_append]; rfl] at I10
      exact I10
    · obtain rfl : i = xs.length := by omega
      refine list_over_hot (hotAt I5) it5 plain5.isList (by simp; omega) fun h' kept => ?_
      have I6 := I5.turned (h' := h') (t' := s5.toks) kept f0 f1 f3 f4 f5
      have I7 : Inv X pins σ _ _ := I3.call' (ch := [it]) I6.os I6.base I6.hok I6.bare fun b hb => by
        have z := (frs3 b hb).1
        exact ⟨z.2.2.2.1, z.2.1, z.2.2.2.2.1, z.2.2.2.2.2⟩
      obtain ⟨m, hns, _⟩ := I6.loc
      obtain ⟨_, c1, c2, c3, c4, c5⟩ := fpC
      refine ⟨m, hns, fun h2 sb => ⟨.ref D, _, I7.turned (t' := s5.toks) (fun b o hb e => (sb.2 b hb).trans e) ?_ c1 c3 c4 c5, rfl, ?_⟩⟩
      · rw [upd_ne neDC]
        exact noC1
      · rw [List.take_length]
        exact q D nD
  exact codeAny_compStart_list main (wpAny_pyIter_listiter itr4 main)
end L2
namespace L2
open PySem PySem.Spec PyProof.Rows
/-- a def whose errors have no context -/
theorem Fun.okXN {P : Program} {w : World} {K : PySem.W.Frag} {mg : Str → Option Value} {base : Heap} {x qual : Str} {st : Stmt} {f : Addr} {fd : FuncData} {N ps : List Str} {k : Nat} {sp : Sp} (F : Fun K x qual st f fd) (S : FnScope N ps (defScope st))
    (len : ∀ vs H Q E, sp vs H Q E → vs.length = ps.length)
    (body : ∀ (cdv : Value) (A : Around) (outer : List Env) (s : Shared) (H : Hp) (vs : List V) (Q : VK) (E : XK), Room k (A.deeper (envOfC qual (defScope st) s.heap.objs.size f cdv)) → sp vs H Q E →
      ∃ t, PSs (cxOf (L2N.CX P w) P w K mg base N qual (defScope st) f cdv A outer s H E) (defBody st) t ∧ t { nx := fun _ H' => Q .non H', rt := Q } (start N vs) H) : FnOk P w K mg base (L2N.CX P w) (k + 1) f fd ps sp := by
  obtain ⟨_, _, _, _, _, _, _, _, _, rfl, known, coded⟩ := F.ex
  exact fn_of known coded S len fun A outer s H vs Q E room hsp => body _ A outer s H vs Q E room hsp
/-- what an except suite knows -/
theorem hotS_of {X : Cx} {a : Addr} {oe : Obj} {pn : List (Addr × Obj)} {cls : Value} {d : Option Addr} (hz : L2N.Zn cls d oe) (hf : ∃ vs, oe.data = .fields vs) : HotS (X.suite a ((a, oe) :: pn)) := by
  obtain ⟨vs, e⟩ := hf
  exact ⟨(a, oe), List.mem_cons_self, rfl, vs, e, hz.2.2 vs e⟩
end L2
namespace L2
open PySem PySem.Spec PyProof.Rows
theorem passLN {X : Cx} : Passes (L2N.CX X.prog X.w) X E0 := fun _ _ _ _ _ _ _ h => by
  obtain ⟨_, _, _, _, _, _, _, _, _, _, _, _, no⟩ := h
  exact no.elim
theorem takes0N {X : Cx} : L2N.Takes X (fun _ _ _ _ => False) := fun _ _ h => by
  obtain ⟨_, _, _, _, _, _, _, _, _, _, _, _, _, _, _, _, no⟩ := h
  exact no.elim
end L2
namespace L2
open PySem PySem.Spec PyProof.Rows
theorem pe_lcMapK {X : Cx} {K : PySem.W.Frag} {elt tg iter : Expr} {scope : Scope} {own : List (Str × Nat)} {pos : Pos} {tl : TE} {g : TG} {te : TE} (hK : X.K = K) (nd : X.N.Nodup) (walked : PE X iter tl) (okb : BlkOk X.N X.env.scope scope own)
    (pgAll : ∀ (s : Shared) (H : Hp) (C : Addr) (cl : List (Str × Addr)) (fp : List Addr), PG (X.blk s H scope (compEnvC scope cl C X.env) fp) tg g)
    (peAll : ∀ (s : Shared) (H : Hp) (C : Addr) (cl : List (Str × Addr)) (fp : List Addr), PE (X.blk s H scope (compEnvC scope cl C X.env) fp) elt te) (hotX : HotS X)
    (fold : ∀ x, foldedSetIterable iter X.env x = pure x := by intro _; rfl) : PE X (.ListComp elt [⟨tg, iter, [], 0⟩] scope pos) (tLcMap K tl g te (own.map (·.2))) := by
  subst hK
  exact pe_lcMap hotX nd walked okb pgAll peAll fold
end L2

/-! ### isinstance of a held error with a dict of its own -/
namespace L2
open PySem PySem.Spec PyProof.Rows
def rIsED (K : PySem.W.Frag) (cls : Value) (d : Option Addr) (a : Addr) : List V → Hp → VK → Prop := fun xs H Q =>
  ∃ (D dd : Addr) (fs : List (Str × V)) (c : V) (cv : Value) (b : Bool), cls = .ref D ∧ d = some dd ∧ H dd = some (.xd fs) ∧ ExcC K D ∧ xs = [.ref a, c] ∧ (∀ u, RelV c u → u = cv) ∧ PySem.W.kitOne K (.ref D) cv = some b ∧ Q (.bl b) H
theorem call_isED {X : Cx} {a : Addr} {oe : Obj} {pn : List (Addr × Obj)} {cls : Value} {d : Option Addr} (hz : Zc cls d oe) (hf : ∃ vs, oe.data = .fields vs) : CallR (X.suite a ((a, oe) :: pn)) (.builtin "isinstance") (rIsED X.K cls d a) := by
  intro pins s σ H xs us Q I r h
  obtain ⟨D, dd, fs, c, cv, b, rfl, rfl, ea, C, rfl, hcv, e, q⟩ := h
  obtain ⟨u1, u2, rfl, r1, r2⟩ : ∃ u1 u2, us = [u1, u2] ∧ RelV (.ref a) u1 ∧ RelV c u2 := by
    cases r with
    | cons rx rr =>
      cases rr with
      | cons rt rr =>
        cases rr
        exact ⟨_, _, rfl, rx, rt⟩
  obtain rfl : u1 = Value.ref a := r1
  obtain rfl := hcv _ r2
  have mine := (I.pin (a, oe) (List.mem_append_left _ List.mem_cons_self)).1
  obtain ⟨names, hn, _⟩ := I.hok dd _ ea
  obtain ⟨od, hod, _⟩ := lookIn_ns hn
  have J : PySem.W.InstAt s.heap a oe D (some od) := by
    refine ⟨mine, hz.1, ?_, ?_⟩
    · obtain ⟨vs, hv⟩ := hf
      unfold PySem.W.notCls
      rw [hv]
    · rw [hz.2]
      exact hod
  have some1 : (PySem.W.clsIn X.K D).isSome = true := by
    obtain ⟨cd, hc, _⟩ := PySem.W.any_some C.hd
    rw [hc]
    rfl
  exact PySem.W.kia_one (PySem.W.kitx_exc some1 C.hg C.hk C.hs C.ha C.hn C.ht C.hm) I.kIn J e (fun z => nomatch z) fun tk => ⟨.bl b, H, I.kept (t' := tk) fun _ _ z => z, rfl, q⟩
end L2

/-! ### a def that is called, within an except suite, with the exception that the suite holds -/
namespace L2
open PySem PySem.Spec PyProof.Rows
structure FnE (P : Program) (w : World) (K : PySem.W.Frag) (mg : Str → Option Value) (base : Heap) (k : Nat) (f : Addr) (fd : FuncData) (ps : List Str) (sp : Addr → Value → Option Addr → Sp) : Prop where
  len : ∀ a cls d vs H Q E, sp a cls d vs H Q E → vs.length = ps.length
  run : ∀ (A : Around) (outer : List Env) (s : Shared) (H : Hp) (args : Args) (us : List Value) (vs : List V) (Q : VK) (E : XK) (a : Addr) (oe : Obj) (cls : Value) (d : Option Addr), L2H.RoomH k A → L2H.Hot1 A (a, oe) → L2H.PinOk outer H s (a, oe) → Zc cls d oe → Env0 P w K mg base A outer s H →
    BindsTo s fd args (ps.zip us) → Vals vs us → sp a cls d vs H Q E → codeAny (model P w) A (.call (.ref f) args) (CR CX0 outer P w H s Q E) s
theorem Fun.okE {P : Program} {w : World} {K : PySem.W.Frag} {mg : Str → Option Value} {base : Heap} {x qual : Str} {st : Stmt} {f : Addr} {fd : FuncData} {N ps : List Str} {k : Nat} {sp : Addr → Value → Option Addr → Sp} (F : Fun K x qual st f fd) (S : FnScope N ps (defScope st))
    (len : ∀ a cls d vs H Q E, sp a cls d vs H Q E → vs.length = ps.length)
    (hbody : ∀ (cdv : Value) (A : Around) (outer : List Env) (s : Shared) (H : Hp) (vs : List V) (Q : VK) (E : XK) (a : Addr) (oe : Obj) (cls : Value) (d : Option Addr), Zc cls d oe → (∃ vs, oe.data = .fields vs) →
      L2H.RoomH k (A.deeper (envOfC qual (defScope st) s.heap.objs.size f cdv)) → sp a cls d vs H Q E →
      ∃ t, PSs (L2H.cxH CX0 P w K mg base N qual (defScope st) f cdv A outer s H E (a, oe)) (defBody st) t ∧ t { nx := fun _ H' => Q .non H', rt := Q } (start N vs) H) : FnE P w K mg base (k + 1) f fd ps sp := by
  obtain ⟨oc, od, kV, doc, pm, an, cdv, ct, osl, rfl, lk, hcd⟩ := F.ex
  refine ⟨len, fun A outer s H args us vs Q E a oe cls d hr hot hpin hz e0 hb r hsp => ?_⟩
  have keep := fun b o (e : base.get? b = some o) => (e0.bs b o e).1
  have inK : K.In s.heap := e0.mod.kin.keeps keep
  refine codeAny_call_function hr.depth (inK _ _ lk) rfl S.co S.gen rfl (PySem.W.codeRec_of inK hcd) (hb _ _ _ _ ?_)
  refine wpAny_newFunctionEnv_cells S.kind (fun ⟨n, v⟩ hy => ?_) fun env he s1 xx => ?_
  · exact (S.par n (List.of_mem_zip hy).1).elim .inl fun q => .inr ⟨q, PySem.W.cellsFrom_some _ _ _ (.inl q)⟩
  · subst he
    refine ⟨(e0.mod.nolimit.keeps keep).keeps xx.toInCall.keep, codeAny_func ?_⟩
    obtain ⟨t, ht, hq⟩ := hbody cdv A outer s H vs Q E a oe cls d hz ⟨_, hot.2.choose_spec.1⟩ (hr.deeper _) hsp
    have I := L2H.inv_startH (CX := CX0) (E := E) S hpin e0 (len _ _ _ _ _ _ _ hsp) r xx
    refine wpAny_mono (ht.run [] s1 _ H _ I hq) (fun fl s' hs => ?_) fun e s' hs => hs
    have fin : ∀ {σ' : St} {H' : Hp} {v : V} {u : Value}, Inv (L2H.cxH CX0 P w K mg base N qual (defScope st) f cdv A outer s H E (a, oe)) [] σ' H' s' → RelV v u → Q v H' → CE outer P w H s Q u s' :=
      fun {σ' H' v u} J rv q => ⟨v, H', J.os, J.bare, J.base, J.hok, rv, q⟩
    rcases fl with _ | _ | _ | u
    · obtain ⟨σ', H', J, q⟩ := hs
      exact fin (v := V.non) (u := Value.none) J rfl q
    · exact hs.elim fun _ z => z.elim fun _ z => z.2.elim
    · exact hs.elim fun _ z => z.elim fun _ z => z.2.elim
    · obtain ⟨v, σ', H', J, rv, q⟩ := hs
      exact fin J rv q
theorem roomE_of {k : Nat} {A : Around} (r : Room k A) (v : Option Value) : L2H.RoomH k (A.mark v) := ⟨r.dp, r.un⟩
def tCallX1 (sp : Addr → Value → Option Addr → Sp) (a : Addr) (cls : Value) (d : Option Addr) (t : TA) : TE := fun σ H Q => t σ H fun vs H1 => sp a cls d vs H1 Q E0
theorem pe_callX1 {X : Cx} {k : Nat} {f : Addr} {fd : FuncData} {ps : List Str} {sp : Addr → Value → Option Addr → Sp} {x : Str} {q pos : Pos} {e : Expr} {es : List Expr} {t : TA} {a : Addr} {oe : Obj} {cls : Value} {d : Option Addr} {pn : List (Addr × Obj)}
    (F : FnE X.prog X.w X.K X.mg X.base k f fd ps sp) (hr : Room k X.A) (hz : L2N.Zn cls d oe) (hf : ∃ vs, oe.data = .fields vs) (hg : Gl X x) (hm : X.mg x = some (.ref f)) (hk : PySem.W.keepIn X.K (.ref f) = true) (hb : Binds X.K fd ps [])
    (ha : PA (X.suite a ((a, oe) :: pn)) (e :: es) t) (hdb : (x == ("__debug__" : Str)) = false := by decide) (he : starEach (e :: es) X.env = (false, eval e X.env) :: starEach es X.env := by rfl) (hpl : (backTo pos (starEach es X.env)).any (·.1) = false := by rfl) :
    PE (X.suite a ((a, oe) :: pn)) (.Call (.Name x q) (e :: es) [] pos) (tCallX1 sp a cls d t) := by
  refine ⟨fun pins s σ H Q I h => ?_⟩
  refine wpAny_Call_Name_kw (ld_glob (X := X.suite a ((a, oe) :: pn)) I hg hm ?_ hdb)
  refine PySem.W.callWith_K (h₀ := X.base) I.ok.mod.kin hk (thn (ha.run pos pins s σ H _ I h) fun us s1 ⟨vs, H1, I1, r, q⟩ => ⟨I1.kIn, ?_⟩) he hpl
  have hl : us.length = ps.length := by rw [← r.length]; exact F.len _ _ _ _ _ _ _ q
  have b := hb s1 us I1.kIn (by rw [List.append_nil]; exact hl)
  rw [List.append_nil] at b
  have P1 := I1.pin (a, oe) (List.mem_append_left _ List.mem_cons_self)
  have hpin : L2H.PinOk (X.suite a ((a, oe) :: pn)).stack H1 s1 (a, oe) := ⟨P1.1, P1.2.1, fun hm => (List.mem_cons.mp (I1.stkSub a hm)).elim P1.2.2.1 P1.2.2.2.1, P1.2.2.2.2⟩
  have hot : L2H.Hot1 (X.suite a ((a, oe) :: pn)).A (a, oe) := by
    obtain ⟨vs, e⟩ := hf
    exact ⟨rfl, vs, e, hz.2.2 vs e⟩
  refine wpAny_call (codeAny_mono (F.run (X.suite a ((a, oe) :: pn)).A _ s1 H1 ⟨us, []⟩ us vs Q E0 a oe cls d (roomE_of hr _) hot hpin ⟨hz.1, hz.2.1⟩ I1.env0 b r q) fun r s' hq => ?_)
  cases r with
  | error e => exact hq.elim
  | ok fl =>
    cases fl with
    | ret u => exact I1.after hq
    | next => exact False.elim hq
    | brk => exact False.elim hq
    | cont => exact False.elim hq
/-- isinstance of that exception, in that def -/
def rIsEP (K : PySem.W.Frag) (cls : Value) (d : Option Addr) (a : Addr) : List V → Hp → VK → Prop := fun xs H Q => ∃ D : Addr, cls = .ref D ∧ d = none ∧ ExcC K D ∧ rIsE K D a xs H Q
theorem call_isEP {X : Cx} {a : Addr} {oe : Obj} {cls : Value} {d : Option Addr} (hp : (a, oe) ∈ X.pn) (hz : Zc cls d oe) (hf : ∃ vs, oe.data = .fields vs) : CallR X (.builtin "isinstance") (rIsEP X.K cls d a) := by
  intro pins s σ H xs us Q I r h
  obtain ⟨D, rfl, rfl, C, c, cv, b, rfl, hcv, e, q⟩ := h
  cases r with
  | cons rx rr =>
    cases rr with
    | cons rt rr =>
      cases rr
      cases rx
      have ec := hcv _ rt
      subst ec
      obtain ⟨hget, _⟩ := I.pin (a, oe) (List.mem_append.mpr (.inl hp))
      obtain ⟨vs, hv⟩ := hf
      have J : PySem.W.InstAt s.heap a oe D none := by
        obtain ⟨oc, od, oda, osl⟩ := oe
        obtain ⟨h1, h2⟩ := hz
        dsimp only at h1 h2 hv
        subst h1 h2 hv
        exact ⟨hget, rfl, rfl, trivial⟩
      exact PySem.W.kia_one (PySem.W.handS_kitx_exc C.hg C.hk C.hs C.hd C.ha C.hn C.ht C.hm) I.kIn J e (fun z => nomatch z) fun tk => ⟨.bl b, H, I.kept (t' := tk) fun _ _ z => z, rfl, q⟩
theorem call_isEH {P : Program} {w : World} {K : PySem.W.Frag} {mg : Str → Option Value} {base : Heap} {N : List Str} {qual : Str} {scope : Scope} {f : Addr} {cdv : Value} {A : Around} {outer : List Env} {s : Shared} {H : Hp} {E : XK} {a : Addr} {oe : Obj} {cls : Value} {d : Option Addr} (hz : Zc cls d oe) (hf : ∃ vs, oe.data = .fields vs) :
    CallR (L2H.cxH CX0 P w K mg base N qual scope f cdv A outer s H E (a, oe)) (.builtin "isinstance") (rIsEP K cls d a) :=
  call_isEP List.mem_cons_self hz hf
end L2

/-! ### a def that is called with the held exception, which may have a dict of its own: isinstance, and a field -/
namespace L2
open PySem PySem.Spec PyProof.Rows
def rIsEQ (K : PySem.W.Frag) (cls : Value) (d : Option Addr) (a : Addr) : List V → Hp → VK → Prop := fun xs H Q => rIsEP K cls d a xs H Q ∨ rIsED K cls d a xs H Q
theorem call_isEQ {X : Cx} {a : Addr} {oe : Obj} {cls : Value} {d : Option Addr} (hp : (a, oe) ∈ X.pn) (hz : Zc cls d oe) (hf : ∃ vs, oe.data = .fields vs) : CallR X (.builtin "isinstance") (rIsEQ X.K cls d a) := by
  intro pins s σ H xs us Q I r h
  rcases h with h | h
  · exact call_isEP hp hz hf pins s σ H xs us Q I r h
  obtain ⟨D, dd, fs, c, cv, b, rfl, rfl, ea, C, rfl, hcv, e, q⟩ := h
  obtain ⟨u1, u2, rfl, r1, r2⟩ : ∃ u1 u2, us = [u1, u2] ∧ RelV (.ref a) u1 ∧ RelV c u2 := by
    cases r with
    | cons rx rr =>
      cases rr with
      | cons rt rr =>
        cases rr
        exact ⟨_, _, rfl, rx, rt⟩
  obtain rfl : u1 = Value.ref a := r1
  obtain rfl := hcv _ r2
  have mine := (I.pin (a, oe) (List.mem_append.mpr (.inl hp))).1
  obtain ⟨names, hn, _⟩ := I.hok dd _ ea
  obtain ⟨od, hod, _⟩ := lookIn_ns hn
  have J : PySem.W.InstAt s.heap a oe D (some od) := by
    refine ⟨mine, hz.1, ?_, ?_⟩
    · obtain ⟨vs, hv⟩ := hf
      unfold PySem.W.notCls
      rw [hv]
    · rw [hz.2]
      exact hod
  have some1 : (PySem.W.clsIn X.K D).isSome = true := by
    obtain ⟨cd, hc, _⟩ := PySem.W.any_some C.hd
    rw [hc]
    rfl
  exact PySem.W.kia_one (PySem.W.kitx_exc some1 C.hg C.hk C.hs C.ha C.hn C.ht C.hm) I.kIn J e (fun z => nomatch z) fun tk => ⟨.bl b, H, I.kept (t' := tk) fun _ _ z => z, rfl, q⟩
theorem call_isEHQ {P : Program} {w : World} {K : PySem.W.Frag} {mg : Str → Option Value} {base : Heap} {N : List Str} {qual : Str} {scope : Scope} {f : Addr} {cdv : Value} {A : Around} {outer : List Env} {s : Shared} {H : Hp} {E : XK} {a : Addr} {oe : Obj} {cls : Value} {d : Option Addr} (hz : Zc cls d oe) (hf : ∃ vs, oe.data = .fields vs) :
    CallR (L2H.cxH CX0 P w K mg base N qual scope f cdv A outer s H E (a, oe)) (.builtin "isinstance") (rIsEQ K cls d a) :=
  call_isEQ List.mem_cons_self hz hf
theorem pe_xfP {X : Cx} {a C : Addr} {oe : Obj} {cls : Value} {d : Option Addr} {e : Expr} {te : TE} {pos : Pos} {n : Str} (hp : (a, oe) ∈ X.pn) (T : XfC X.K C) (hno : PySem.W.findIn X.K (.ref C) n = some none)
    (hz : Zc cls d oe) (hf : ∃ vs, oe.data = .fields vs) (he : PE X e te) (hb : attributeBase e n X.env (eval e X.env) = eval e X.env := by rfl) :
    PE X (.Attribute e n pos) (tXf a cls d C n te) := by
  refine ⟨fun pins s σ H Q I h => ?_⟩
  refine attr_of hb (thn (he.run pins s σ H _ I h) fun u s1 hh => ?_)
  obtain ⟨x, H1, I1, rx, ex, ec, dd, fs, v, ed, ea, l, q⟩ := hh
  subst ex
  obtain rfl : u = Value.ref a := rx
  subst ec
  subst ed
  obtain ⟨ha, _⟩ := I1.pin (a, oe) (List.mem_append.mpr (.inl hp))
  obtain ⟨vs, hd⟩ := hf
  have hx : ObjOk X.prog X.w H1 s1.heap dd (.xd fs) := I1.hok dd _ ea
  obtain ⟨mA, hns, hr⟩ := hx
  obtain ⟨od, ho, hl⟩ := lookIn_ns hns
  obtain ⟨u, hu, ru⟩ := RelO.some_of (v := v) (o := mA n) (by rw [← l]; exact hr n)
  have J : PySem.W.InstAt s1.heap a oe C (some od) := ⟨ha, hz.1, by unfold PySem.W.notCls; rw [hd] <;> rfl, by rw [hz.2]; exact ho⟩
  exact HandSPX.exc_get I1.kIn J T.ga T.gg T.exC (PySem.W.findObj_own T.hdC hno rfl (by rw [hl, hu])) (handed_of ru) ⟨v, H1, I1.tok _, ru, q⟩
end L2

/-! ### f(e, ..) in a try, where the last arguments have defaults -/
namespace L2
open PySem PySem.Spec PyProof.Rows
section
variable {X : Cx} {CX : CXT} {k : Nat} {f : Addr} {fd : FuncData} {ps : List Str} {ds : List Value} {dvs : List V} {sp : Sp} {E : St → XK} {x : Str} {p pos : Pos} {e : Expr} {es : List Expr} {t : TA}
def tCallSD (sp : Sp) (dvs : List V) (E : St → XK) (t : TA) : TE := fun σ H Q => t σ H fun vs H1 => sp (vs ++ dvs) H1 Q (E σ)
theorem run_fnSD {pins : List (Addr × Obj)} {σ : St} {H : Hp} {s : Shared} {Q : VK} {us : List Value} {vs : List V} (F : FnOk X.prog X.w X.K X.mg X.base CX k f fd ps sp) (hr : Room k X.A) (hb : Binds X.K fd ps ds) (hd : Vals dvs ds) (hx : PassesAt CX X σ (E σ))
    (I : Inv X pins σ H s) (r : Vals vs us) (h : sp (vs ++ dvs) H Q (E σ)) : wpAny (model X.prog X.w) X.A (call (.ref f) us) (EP X pins σ Q) X.xe s := by
  have rr := r.append hd
  have hl : (us ++ ds).length = ps.length := by rw [← rr.length]; exact F.len _ _ _ _ h
  refine wpAny_call (codeAny_mono (F.run X.A X.stack s H ⟨us, []⟩ (us ++ ds) (vs ++ dvs) Q (E σ) hr I.env0 (hb s us I.kIn (by rw [← hl, List.length_append])) rr h) fun r s' hq => ?_)
  cases r with
  | error e => exact hx pins H s e s' I hq
  | ok fl =>
    cases fl with
    | ret u => exact I.after hq
    | next => exact False.elim hq
    | brk => exact False.elim hq
    | cont => exact False.elim hq
theorem pe_callSD (F : FnOk X.prog X.w X.K X.mg X.base CX k f fd ps sp) (hr : Room k X.A) (hg : Gl X x) (hm : X.mg x = some (.ref f)) (hk : PySem.W.keepIn X.K (.ref f) = true) (hb : Binds X.K fd ps ds) (hd : Vals dvs ds) (hx : ∀ σ, PassesAt CX X σ (E σ))
    (ha : PA X (e :: es) t) (hdb : (x == ("__debug__" : Str)) = false := by decide) (he : starEach (e :: es) X.env = (false, eval e X.env) :: starEach es X.env := by rfl) (hpl : (backTo pos (starEach es X.env)).any (·.1) = false := by rfl) :
    PE X (.Call (.Name x p) (e :: es) [] pos) (tCallSD sp dvs E t) := by
  refine ⟨fun pins s σ H Q I h => ?_⟩
  refine wpAny_Call_Name_kw (ld_glob I hg hm ?_ hdb)
  refine PySem.W.callWith_K (h₀ := X.base) I.ok.mod.kin hk (thn (ha.run pos pins s σ H _ I h) fun us s1 ⟨vs, H1, I1, r, q⟩ => ⟨I1.kIn, ?_⟩) he hpl
  exact run_fnSD F hr hb hd (hx σ) I1 r q
end
end L2

/-! ### an own error with a field, raised by a def of the layer that knows of contexts -/
namespace L2N
open PySem PySem.Spec PyProof.Rows L2
theorem pmk_oexN {X : Cx} {CX' : CXT} {x : Str} {e : Expr} {es : List Expr} {ta : TA} {p pos : Pos} {C fI : Addr} {k : Nat} {fd : FuncData} {ps : List Str} {sp : Sp} {ds : List Value} {dvs : List V} (T : OexC X.K C)
    (iC : PySem.W.findIn X.K (.ref C) "__init__" = some (some (.ref fI))) (tI : PySem.W.typeIn X.K (.ref fI) = some (.type "function"))
    (G : FnOk X.prog X.w X.K X.mg X.base CX' k fI fd ps sp) (room : Room (k + 1) X.A) (bd : Binds X.K fd ps ds) (dv : Vals dvs ds) (out : Passes CX' X (fun _ _ _ => False)) (hg : Gl X x) (known : X.mg x = some (.ref C)) (args : PA X (e :: es) ta)
    (hdb : (x == ("__debug__" : Str)) = false := by decide) (he : starEach (e :: es) X.env = (false, eval e X.env) :: starEach es X.env := by rfl) (hpl : (backTo pos (starEach es X.env)).any (·.1) = false := by rfl) :
    L2N.PMk X (.Call (.Name x p) (e :: es) [] pos) (tMkO C sp dvs ta) := by
  intro pins s σ H Q inv h
  obtain ⟨_, _, _, _, bm, _, _, _, _, _, _, _, _, _, _, cls, bms⟩ := T.cls
  refine wpAny_Call_Name_kw (ld_glob inv hg known ?_ hdb)
  refine PySem.W.callWith_K (h₀ := X.base) inv.ok.mod.kin T.kC (thn (args.run pos pins s σ H _ inv h) fun us t ⟨vs, H1, J, rv, _, go⟩ => ⟨J.kIn, ?_⟩) he hpl
  obtain ⟨hp, gens, drawn, toks, os⟩ := t
  let a := hp.objs.size + 1
  let hp2 := (hp.push (PySem.W.kdv_tup us)).push (PySem.HandSPX.excO C hp.objs.size)
  have above : hp.objs.size ≤ a := Nat.le_succ _
  have fresh : H1 a = none := J.hok.fresh above
  have start := go a fresh
  have keeps : ∀ b o, hp.get? b = some o → hp2.get? b = some o := fun b o q => Heap.get?_push_of_some _ (Heap.get?_push_of_some _ q)
  have here : hp2.get? a = some (PySem.HandSPX.excO C hp.objs.size) := by
    show ((hp.push (PySem.W.kdv_tup us)).push (PySem.HandSPX.excO C hp.objs.size)).get? (hp.objs.size + 1) = _
    heap_get
  have J2 : Inv X pins σ (upd H1 a (exo a C none)) ⟨hp2, gens, drawn, toks, os⟩ := J.laid (t' := toks) (a := a) (o := exo a C none) (h' := hp2) keeps above (exo_ok here)
  have all : Vals (V.ref a :: (vs ++ dvs)) (Value.ref a :: (us ++ ds)) := .cons rfl (rv.append dv)
  have count : (Value.ref a :: us ++ ds).length = ps.length := (G.len _ _ _ _ start ▸ all.length).symm
  have small : us.length ≤ sizeLine := by
    have l := Paired.length rv
    rw [sizeLine_eq]
    omega
  refine wpAny_call (PySem.HandSPX.call_own F.excBase_ValueError (fun Y => PySem.HandSPX.refsVE_contains Y bm bms) (J.kIn _ _ cls) (PySem.W.looks_findIn J.kIn iC) (fun self => PySem.W.bind_fn J.kIn self tI) small
    (codeAny_mono (G.run _ X.stack _ _ ⟨Value.ref a :: us, []⟩ (Value.ref a :: (us ++ ds)) _ _ (fun _ _ _ => False) (room.make C us []) (J2.env0.make C us []) (bd _ (Value.ref a :: us) J2.kIn count) all start) fun r s' hr => ?_))
  cases r with
  | error er => exact out pins σ _ _ er s' J2 hr
  | ok fl =>
    cases fl with
    | next => exact hr.elim
    | brk => exact hr.elim
    | cont => exact hr.elim
    | ret u =>
      obtain ⟨v, H2, os2, bare2, un2, ok2, isn, rfl, d, fs, ea, ed, dn, q2⟩ := hr
      obtain ⟨h2, g2, d2, t2, os3⟩ := s'
      obtain ⟨t0, h0, J0, k0, n0, oe, gone⟩ := mk_end0 (d2 := d2) (t2 := t2) J above keeps un2 ok2 os2 bare2 ea ed dn
      exact ⟨isn, a, _, _, ⟨h0, g2, d2, t2, os3⟩, _, .ref C, some d, rfl, J0, k0, n0, oe, ⟨rfl, rfl, fun ws hw => by cases hw; rfl⟩, rfl, rfl, gone, rfl, bare2, raises_own T.exC T.tyC, q2⟩
end L2N

/-! ### sorted(list of data) -/
namespace L2
open PySem PySem.Spec PyProof.Rows
def rSortG (K : PySem.W.Frag) : List V → Hp → VK → Prop := fun vs H Q => ∃ (β : Type) (enc : β → PyData) (R : V → β → Prop) (a : Addr) (xs : List V) (bs : List β), vs = [V.ref a] ∧ SqL K H a xs ∧ (∀ x ∈ xs, ∃ t, x = V.ref t) ∧ Paired R xs bs ∧ Paired (fun x b => Dp K H x (enc b)) xs bs ∧
  PySem.W.AllAlike (bs.map enc) ∧ PySem.W.Sortable (bs.map enc) ∧ (∀ b ∈ bs, (enc b).depth ≤ 60) ∧ ∀ ys p, Paired R ys (bs.mergeSort (PySem.W.dataLe false enc)) → H p = none → Q (.ref p) (upd H p (.lst ys))
theorem each_of {β : Type} {R : V → β → Prop} : ∀ {us : List Value} {bs : List β}, Paired R (us.map backV) bs → PySem.W.EachIs (fun u b => R (backV u) b) us bs
  | [], _, h => by
    cases h
    exact .nil
  | u :: us, _, h => by
    cases h with
    | cons a t => exact .cons a (each_of t)
theorem of_each {β : Type} {R : V → β → Prop} : ∀ {us : List Value} {bs : List β}, PySem.W.EachIs (fun u b => R (backV u) b) us bs → Paired R (us.map backV) bs
  | _, _, .nil => .nil
  | _, _, .cons a t => .cons a (of_each t)
theorem each_and {α β : Type} {R S : α → β → Prop} : ∀ {us : List α} {bs : List β}, PySem.W.EachIs R us bs → PySem.W.EachIs S us bs → PySem.W.EachIs (fun u b => R u b ∧ S u b) us bs
  | _, _, .nil, .nil => .nil
  | _, _, .cons a t, .cons b u => .cons ⟨a, b⟩ (each_and t u)
theorem each_ref {β : Type} : ∀ {us : List Value} {bs : List β}, us.length = bs.length → (∀ u ∈ us, ∃ a, u = Value.ref a) → PySem.W.EachIs (fun u (_ : β) => ∃ a, u = Value.ref a) us bs
  | [], [], _, _ => .nil
  | u :: us, b :: bs, h, k => .cons (k u List.mem_cons_self) (each_ref (Nat.succ.inj h) fun v hv => k v (List.mem_cons_of_mem _ hv))
theorem each_mem {β : Type} {R : Value → β → Prop} {p : Value → Prop} (h : ∀ u b, R u b → p u) : ∀ {us : List Value} {bs : List β}, PySem.W.EachIs R us bs → ∀ u ∈ us, p u
  | _, _, .nil, u, hu => nomatch hu
  | _, _, .cons a t, u, hu => by
    rcases List.mem_cons.mp hu with rfl | hu
    · exact h _ _ a
    · exact each_mem h t u hu
theorem each_mono {β : Type} {R S : Value → β → Prop} (h : ∀ u b, R u b → S u b) : ∀ {us : List Value} {bs : List β}, PySem.W.EachIs R us bs → PySem.W.EachIs S us bs
  | _, _, .nil => .nil
  | _, _, .cons a t => .cons (h _ _ a) (each_mono h t)
theorem each_reads {X : Cx} {pins : List (Addr × Obj)} {σ : St} {H : Hp} {s : Shared} (I : Inv X pins σ H s) {β : Type} {enc : β → PyData} : ∀ {xs : List V} {us : List Value} {bs : List β}, Vals xs us → Paired (fun x b => Dp X.K H x (enc b)) xs bs → PySem.W.EachIs (fun v b => ∃ as, PySem.Reads s.heap v (enc b) as) us bs
  | _, _, _, .nil, .nil => .nil
  | _, _, _, .cons r t, .cons a u => .cons (Dp.reads I _ _ _ a r) (each_reads I t u)
section
variable {X : Cx}
theorem cr_sortedG (hu : X.A.units + 64 < cLine) : CallR X (.builtin "sorted") (rSortG X.K) := by
  intro pins s σ H vs us Q I r h
  obtain ⟨β, enc, R, a, xs, bs, rfl, hs, hx, pR, pD, al, so, dp, q⟩ := h
  obtain ⟨its, rv, hl, hz⟩ := I.list hs
  obtain ⟨u, rfl, ru⟩ := vals1 r
  obtain rfl : u = Value.ref a := ru
  obtain ⟨e1, e2⟩ := refs_back rv hx
  have er := each_reads I rv pD
  have lx : its.length = bs.length := by rw [← rv.length, pR.length]
  have eR : PySem.W.EachIs (fun u b => R (backV u) b) its bs := each_of (e1 ▸ pR)
  have eA := each_and eR (each_ref lx e2)
  refine PySem.W.sorted_data (enc := enc) hl.isList eA er al so (by rw [← lx, ← rv.length]; exact hz) (fun b hb => by have := dp b hb; omega) fun out ho eo => ?_
  obtain ⟨c, hc⟩ := PyProof.Rows.sortedAll_at s.heap its out.toArray
  have h3 : ∀ u ∈ out, ∃ a, u = Value.ref a := each_mem (fun _ _ h => h.2) eo
  have pO : Paired R (out.map backV) (bs.mergeSort (PySem.W.dataLe false enc)) := of_each (each_mono (fun _ _ h => h.1) eo)
  refine ⟨.ref (s.heap.objs.size + 1), upd H (s.heap.objs.size + 1) (.lst (out.map backV)), I.laid (t' := s.toks) (fun b o e => PyProof.Rows.sortedAll_old e) (Nat.le_succ _) ⟨?_, out, c, vals_back h3, hc⟩, rfl, q _ _ pO (I.hok.fresh (Nat.le_succ _))⟩
  rw [List.length_map, ho, ← lx, ← rv.length]
  exact hz
end
end L2

/-! ### str(data), and calls of defs that show data, where nothing is being shown -/
namespace L2
open PySem PySem.Spec PyProof.Rows
def rStrD (K : PySem.W.Frag) : List V → Hp → VK → Prop := fun xs H Q => ∃ a d, xs = [.ref a] ∧ Dp K H (.ref a) d ∧ SeqAt.shaped d = true ∧ d.showable = true ∧ wt d ≤ sizeLine ∧ Q (.str d.shown) H
theorem cr_strD {X : Cx} {K : PySem.W.Frag} (hK : X.K = K) (hg : X.A.guards = some []) (hu : X.A.units + 67 < cLine) : CallR X (.type "str") (rStrD K) := by
  subst hK
  intro pins s σ H vs us Q I r h
  obtain ⟨a, d, rfl, hd, hs, hw, hz, q⟩ := h
  cases r with
  | cons rv rn =>
    rename_i v us'
    cases rn
    have hs' : (d.canLay0 && decide (d.depth ≤ 64)) = true := hs
    rw [Bool.and_eq_true] at hs'
    have nd := PyData.hasDict_of_canLay d hs'.1
    have dep : d.depth ≤ 64 := of_decide_eq_true hs'.2
    have sz := Nat.le_trans (shown_wt d hw nd) hz
    obtain ⟨as, rd⟩ := Dp.reads I d (.ref a) v hd rv
    cases rv
    exact str_of_reads rd hw (PyData.noDict_hsm nd) hg (by omega) (fun _ _ e => e) (fun h' u tk hk => ⟨.str _, H, I.kept (t' := tk) hk, ⟨u, rfl⟩, q⟩) sz
section
variable {X : Cx} {k : Nat} {f : Addr} {fd : FuncData} {ps : List Str} {sp : Sp} {ds : List Value} {dvs : List V}
theorem run_fnG {pins : List (Addr × Obj)} {σ : St} {H : Hp} {s : Shared} {Q : VK} {us : List Value} {vs : List V} (hgu : X.A.guards = some []) (F : FnG X.prog X.w X.K X.mg X.base k f fd ps sp) (hr : Room k X.A) (hb : Binds X.K fd ps ds) (hd : Vals dvs ds)
    (I : Inv X pins σ H s) (r : Vals vs us) (h : sp (vs ++ dvs) H Q E0) : wpAny (model X.prog X.w) X.A (call (.ref f) us) (EP X pins σ Q) X.xe s := by
  have r2 : Vals (vs ++ dvs) (us ++ ds) := r.append hd
  have hl : (us ++ ds).length = ps.length := by rw [← r2.length]; exact F.len _ _ _ _ h
  refine wpAny_call (codeAny_mono (F.run X.A X.stack s H ⟨us, []⟩ (us ++ ds) (vs ++ dvs) Q E0 hgu hr I.env0 (hb s us I.kIn hl) r2 h) fun r s' hq => ?_)
  cases r with
  | error e => exact pass0 pins σ H s e s' I hq
  | ok fl =>
    cases fl with
    | ret u => exact I.after hq
    | next => exact False.elim hq
    | brk => exact False.elim hq
    | cont => exact False.elim hq
theorem pe_callG {x : Str} {e : Expr} {es : List Expr} {p pos : Pos} {t : TA} (hgu : X.A.guards = some []) (F : FnG X.prog X.w X.K X.mg X.base k f fd ps sp) (hr : Room k X.A) (hg : Gl X x) (hm : X.mg x = some (.ref f)) (hk : PySem.W.keepIn X.K (.ref f) = true) (hb : Binds X.K fd ps ds) (hd : Vals dvs ds)
    (ha : PA X (e :: es) t) (hdb : (x == ("__debug__" : Str)) = false := by decide) (he : starEach (e :: es) X.env = (false, eval e X.env) :: starEach es X.env := by rfl) (hpl : (backTo pos (starEach es X.env)).any (·.1) = false := by rfl) :
    PE X (.Call (.Name x p) (e :: es) [] pos) (tCall sp dvs E0 t) := by
  refine ⟨fun pins s σ H Q I h => ?_⟩
  refine wpAny_Call_Name_kw (ld_glob I hg hm ?_ hdb)
  refine PySem.W.callWith_K (h₀ := X.base) I.ok.mod.kin hk (thn (ha.run pos pins s σ H _ I h) fun us s1 ⟨vs, H1, I1, r, q⟩ => ⟨I1.kIn, ?_⟩) he hpl
  exact run_fnG hgu F hr hb hd I1 r q
end
end L2

namespace T
open PySem PySem.Spec PyProof.Rows L2
def SameBut (a : Addr) (H H' : Hp) : Prop := ∀ b o, b ≠ a → H b = some o → H' b = some o
theorem SameBut.refl (a : Addr) (H : Hp) : SameBut a H H := fun _ _ _ h => h
theorem SameBut.trans {a : Addr} {H H1 H2 : Hp} (x : SameBut a H H1) (y : SameBut a H1 H2) : SameBut a H H2 := fun b o n h => y b o n (x b o n h)
theorem SameBut.upd {a : Addr} {H : Hp} {o : HO} : SameBut a H (upd H a o) := fun b u n h => by rw [upd_ne n]; exact h
theorem SameBut.new {a p : Addr} {H : Hp} {o : HO} (h : H p = none) : SameBut a H (L2.upd H p o) := fun b u n e => by rw [upd_ne (ne_of_none e h)]; exact e
theorem Same.but {a : Addr} {H H' : Hp} (h : Same H H') : SameBut a H H' := fun b o _ e => h b o e
theorem same_upd {H : Hp} {p : Addr} {o : HO} (h : H p = none) : Same H (upd H p o) := fun b x e => by
  rw [upd_ne (ne_of_none e h)]
  exact e
theorem upd_self {H : Hp} {a : Addr} {o : HO} (h : H a = some o) : upd H a o = H := by
  funext b
  unfold upd
  by_cases e : b = a
  · rw [if_pos e, e, h]
  · rw [if_neg e]
theorem Same.mut {H H' : Hp} {p : Addr} {o : HO} (e : Same H H') (h : H p = none) : Same H (upd H' p o) := fun a u ha => by
  rw [upd_ne (ne_of_none ha h)]
  exact e a u ha
theorem map_int_get {ns : List Int} {i : Nat} {y : V} (hi : (ns.map V.int)[i]? = some y) : ∃ z, ns[i]? = some z ∧ y = V.int z := by
  rw [List.getElem?_map] at hi
  cases e : ns[i]? with
  | none =>
    rw [e] at hi
    cases hi
  | some z =>
    rw [e] at hi
    exact ⟨z, rfl, (Option.some.inj hi).symm⟩
theorem small_of {n : Nat} (h : n ≤ 100000) : n < sizeLine := Nat.lt_of_le_of_lt h (by decide)
structure ErrC (K : PySem.W.Frag) (mg : Str → Option Value) (x : Str) (C : Addr) : Prop where
  gc : mg x = some (.ref C)
  xC : PySem.W.excIn K C [.type "ValueError", .type "Exception", .type "BaseException", .type "object"] "ValueError.__new__" = true
  kc : PySem.W.keepIn K (.ref C) = true
  bc : PySem.W.subIn K (.ref C) (.type "BaseException") = some true
  tc : PySem.W.typeIn K (.ref C) = some (.type "type")
/-- a def whose defaults stand somewhere (called with all its arguments) -/
structure FunA (K : PySem.W.Frag) (x qual : Str) (st : Stmt) (f : Addr) (fd : FuncData) : Prop where
  ex : ∃ (oc : Value) (od : Option Addr) (dV kV doc pm : Value) (an : Option Addr) (cdv ct : Value) (osl : Array (Option Value)),
    fd = PySem.W.fnOf x qual (defArgs st) (defBody st) (defScope st) dV kV doc pm an cdv ct ∧ K.lookup f = some ⟨oc, od, .func fd, osl⟩ ∧ PySem.W.codeIn K cdv qual = true
  kp : PySem.W.keepIn K (.ref f) = true
section
variable {P : Program} {w : World} {K : PySem.W.Frag} {mg : Str → Option Value} {base : Heap}
theorem FunA.okX {x qual : Str} {st : Stmt} {f : Addr} {fd : FuncData} {N ps : List Str} {k : Nat} {sp : Sp} (F : FunA K x qual st f fd) (S : FnScope N ps (defScope st)) (len : ∀ vs H Q E, sp vs H Q E → vs.length = ps.length)
    (hbody : ∀ (cdv : Value) (A : Around) (outer : List Env) (s : Shared) (H : Hp) (vs : List V) (Q : VK) (E : XK), Room k (A.deeper (envOfC qual (defScope st) s.heap.objs.size f cdv)) → sp vs H Q E →
      ∃ t, PSs (cxOf (L2.CX P w) P w K mg base N qual (defScope st) f cdv A outer s H E) (defBody st) t ∧ t { nx := fun _ H' => Q .non H', rt := Q } (start N vs) H) : FnOk P w K mg base (L2.CX P w) (k + 1) f fd ps sp := by
  obtain ⟨oc, od, dV, kV, doc, pm, an, cdv, ct, osl, rfl, lk, hcd⟩ := F.ex
  exact fn_of lk hcd S len fun A outer s H vs Q E hr hsp => hbody cdv A outer s H vs Q E hr hsp
end
theorem if_pos_of {b : Bool} {A B : Prop} (h : b = true) (x : A) : if b = true then A else B := by
  rw [if_pos h]
  exact x
theorem if_neg_of {b : Bool} {A B : Prop} (h : ¬ b = true) (x : B) : if b = true then A else B := by
  rw [if_neg h]
  exact x
theorem sqT_same {K : PySem.W.Frag} {H H' : Hp} {a : Addr} {xs : List V} (e : Same H H') (h : SqT K H a xs) : SqT K H' a xs := by
  rcases h with (h | ⟨o, h⟩) | h
  · exact .inl (.inl (e _ _ h))
  · exact .inl (.inr ⟨o, e _ _ h⟩)
  · exact .inr h
section
variable {P : Program} {w : World} {K : PySem.W.Frag} {mg : Str → Option Value} {base : Heap}
theorem room64 {k : Nat} {A : Around} (hr : Room k A) : A.units + 64 < cLine := by have := hr.un; omega
theorem room65 {k : Nat} {A : Around} (hr : Room k A) : A.units + 65 < cLine := by have := hr.un; omega
theorem inV_primes {p : Int} : inV (.int p) [.int 2, .int 3, .int 5, .int 7, .int 11, .int 13, .int 17, .int 19, .int 23, .int 29, .int 31] = inV (.int p) (primes.map V.int) := rfl
end
theorem sqT_but {K : PySem.W.Frag} {H H' : Hp} {r a : Addr} {xs : List V} (e : SameBut r H H') (n : a ≠ r) (h : SqT K H a xs) : SqT K H' a xs := by
  rcases h with (h | ⟨o, h⟩) | h
  · exact .inl (.inl (e _ _ n h))
  · exact .inl (.inr ⟨o, e _ _ n h⟩)
  · exact .inr h
theorem at_tab {xs : List Int} {i : Int} (h0 : 0 ≤ i) (h1 : i < xs.length) : atI (xs.map V.int) i = some (.int (xs.getD i.toNat 0)) := by
  obtain ⟨n, rfl⟩ := Int.eq_ofNat_of_zero_le h0
  have hn : n < xs.length := by omega
  refine atI_nat ?_
  rw [List.getElem?_map, List.getElem?_eq_getElem hn, List.getD_eq_getElem?_getD, show ((n : Nat) : Int).toNat = n from rfl, List.getElem?_eq_getElem hn]
  rfl
theorem mod_lt8 (n : Int) {m : Int} (h : 0 < m) : 0 ≤ n % m ∧ n % m < m := ⟨Int.emod_nonneg _ (by omega), Int.emod_lt_of_pos _ h⟩
def wtab : List Int := [0, 0, 0, 2, 3, 5, 7, 31]
theorem wtab_in : ∀ k : Nat, k < 8 → wtab.getD k 0 = 0 ∨ (wtab.getD k 0 ≠ 0 ∧ inV (.int (wtab.getD k 0)) (primes.map V.int) = true ∧ 2 ≤ wtab.getD k 0) := by decide
/-! ### isinstance of the error that an except suite holds -/
def rIsE' (K : PySem.W.Frag) (cls : Value) (d : Option Addr) (a : Addr) : List V → Hp → VK → Prop := fun xs H Q => ∃ D : Addr, cls = .ref D ∧ d = none ∧ ExcC K D ∧ rIsE K D a xs H Q
theorem call_isE' {X : Cx} {a : Addr} {oe : Obj} {pn : List (Addr × Obj)} {cls : Value} {d : Option Addr} (hz : Zc cls d oe) (hf : ∃ vs, oe.data = .fields vs) : CallR (X.suite a ((a, oe) :: pn)) (.builtin "isinstance") (rIsE' X.K cls d a) := by
  intro pins s σ H xs us Q I r h
  obtain ⟨D, rfl, rfl, C, h⟩ := h
  exact call_isE C hz hf pins s σ H xs us Q I r h
theorem pe_indexK {X : Cx} {K : PySem.W.Frag} {o e : Expr} {to : TE} {t : TA} {apos cpos : Pos} (hK : X.K = K) (ho : PE X o to) (ha : PA X [e] t)
    (hb : attributeBase o "index" X.env (eval o X.env) = eval o X.env := by rfl)
    (hf : ((backTo cpos (starEach [e] X.env)).all (fun x => !x.1) && (backToKw cpos (keywordEach [] X.env)).all (fun x => x.1.isSome) && decide ([e].length + ([] : List Keyword).length + (if ([] : List Keyword).isEmpty then 0 else 1) < 30)) = true := by rfl)
    (hl : (apos.endLine == cpos.line) = true := by rfl) (hs : starEach [e] X.env = (false, eval e X.env) :: starEach [] X.env := by rfl) (hp : (backTo cpos (starEach [] X.env)).any (·.1) = false := by rfl) :
    PE X (.Call (.Attribute o "index" apos) [e] [] cpos) (tBM K "list" (rIndex K) to t) := by
  subst hK
  exact pe_bm PySem.F.plainAttrs_list PySem.F.slot_list_index PySem.F.type_list_index mt_index ho ha hb hf hl hs hp
/-! ### values without depth -/
inductive Val1 (H : Hp) : V → PyData → Prop
  | non : Val1 H .non .none
  | bl (b : Bool) : Val1 H (.bl b) (.bool b)
  | str (x : Str) : Val1 H (.str x) (.str x)
  | pair {t : Addr} {u v : Int} : H t = some (.tup [.int u, .int v]) → Val1 H (.ref t) (.tuple [.int u, .int v])
theorem Val1.dp {K : PySem.W.Frag} {H : Hp} {x : V} {d : PyData} (h : Val1 H x d) : Dp K H x d := by
  cases h with
  | non => exact .non
  | bl b => exact .bl b
  | str x => exact .str x
  | pair h => exact .tup (.inl (.inl h)) (.cons (.int _) (.cons (.int _) .nil))
theorem Val1.but {H H' : Hp} {D : Addr} {ys : List V} {x : V} {d : PyData} (s : SameBut D H H') (hD : H D = some (.lst ys)) (h : Val1 H x d) : Val1 H' x d := by
  cases h with
  | non => exact .non
  | bl b => exact .bl b
  | str x => exact .str x
  | pair h => exact .pair (s _ _ (ne_of h hD (fun z => nomatch z)) h)
theorem Val1.same {H H' : Hp} {x : V} {d : PyData} (s : Same H H') (h : Val1 H x d) : Val1 H' x d := by
  cases h with
  | non => exact .non
  | bl b => exact .bl b
  | str x => exact .str x
  | pair h => exact .pair (s _ _ h)
theorem vals1_dp {K : PySem.W.Frag} {H : Hp} : ∀ {xs : List V} {ds : List PyData}, Paired (Val1 H) xs ds → DpAll K H xs ds
  | _, _, .nil => .nil
  | _, _, .cons a b => .cons a.dp (vals1_dp b)
theorem paired_snoc {α β : Type} {F : α → β → Prop} {a : α} {b : β} (h : F a b) : ∀ {l : List α} {m : List β}, Paired F l m → Paired F (l ++ [a]) (m ++ [b])
  | _, _, .nil => .cons h .nil
  | _, _, .cons x y => .cons x (paired_snoc h y)

/-- the first def of a class -/
def inCls : Stmt → Stmt
  | .ClassDef _ _ _ body _ _ _ _ _ _ _ => body.getD 0 (.Pass ⟨0, 0, 0, 0⟩)
  | s => s
theorem pt_truthK {X : Cx} {K : PySem.W.Frag} {a : Expr} {ta : TE} (hK : X.K = K) (ha : PE X a ta) (he : ∀ whole, isTrue a X.env whole = (do let v ← whole; standAt a.pos; holding [v] (truthy v))) :
    PT X a (fun σ H Q => ta σ H fun x H' => ∃ k, TruV K x H' k ∧ Q k H') := by
  subst hK
  exact pt_truth ha he
theorem op_in_seqK {X : Cx} {K : PySem.W.Frag} (hK : X.K = K) : OpR X (compareOp .In) (rIn K false) := by
  subst hK
  exact op_in_seq
theorem op_notIn_seqK {X : Cx} {K : PySem.W.Frag} (hK : X.K = K) : OpR X (compareOp .NotIn) (rIn K true) := by
  subst hK
  exact op_notIn_seq
theorem pi_listK {X : Cx} {K : PySem.W.Frag} {tg e : Expr} {te : TE} (hK : X.K = K) (he : PE X e te) : PI X tg e (iList K te) := by
  subst hK
  exact pi_list he

def topS (i : Nat) : Stmt := PySem.Challenge.pw_threadworth_k08_bounds_of_numbers_and_po.main.body.getD i (.Pass ⟨0, 0, 0, 0⟩)
abbrev s_is_world : Stmt := topS 21
theorem sc_is_world : FnScope ["world", "p", "d"] ["world"] (defScope s_is_world) := ⟨rfl, rfl, rfl, by decide +kernel, rfl, by decide +kernel, by decide +kernel⟩
abbrev s_check_world : Stmt := topS 22
theorem sc_check_world : FnScope ["world"] ["world"] (defScope s_check_world) := ⟨rfl, rfl, rfl, by decide +kernel, rfl, by decide +kernel, by decide +kernel⟩
abbrev s_is_number : Stmt := topS 23
theorem sc_is_number : FnScope ["world", "x", "p", "_", "a", "b"] ["world", "x"] (defScope s_is_number) := ⟨rfl, rfl, rfl, by decide +kernel, rfl, by decide +kernel, by decide +kernel⟩
abbrev s_check_number : Stmt := topS 24
theorem sc_check_number : FnScope ["world", "x"] ["world", "x"] (defScope s_check_number) := ⟨rfl, rfl, rfl, by decide +kernel, rfl, by decide +kernel, by decide +kernel⟩
abbrev s_number : Stmt := topS 25
theorem sc_number : FnScope ["world", "a", "b", "p", "_"] ["world", "a", "b"] (defScope s_number) := ⟨rfl, rfl, rfl, by decide +kernel, rfl, by decide +kernel, by decide +kernel⟩
abbrev s_lowest_ : Stmt := topS 26
theorem sc_lowest_ : FnScope ["a", "b", "shared"] ["a", "b"] (defScope s_lowest_) := ⟨rfl, rfl, rfl, by decide +kernel, rfl, by decide +kernel, by decide +kernel⟩
abbrev s_inverse_ : Stmt := topS 27
theorem sc_inverse_ : FnScope ["p", "b", "rest", "found"] ["p", "b"] (defScope s_inverse_) := ⟨rfl, rfl, rfl, by decide +kernel, rfl, by decide +kernel, by decide +kernel⟩
abbrev s_check_two_ : Stmt := topS 28
theorem sc_check_two_ : FnScope ["world", "x", "y"] ["world", "x", "y"] (defScope s_check_two_) := ⟨rfl, rfl, rfl, by decide +kernel, rfl, by decide +kernel, by decide +kernel⟩
abbrev s_times : Stmt := topS 29
theorem sc_times : FnScope ["world", "x", "y"] ["world", "x", "y"] (defScope s_times) := ⟨rfl, rfl, rfl, by decide +kernel, rfl, by decide +kernel, by decide +kernel⟩
abbrev s_over : Stmt := topS 30
theorem sc_over : FnScope ["world", "x", "y"] ["world", "x", "y"] (defScope s_over) := ⟨rfl, rfl, rfl, by decide +kernel, rfl, by decide +kernel, by decide +kernel⟩
abbrev s_power : Stmt := topS 31
theorem sc_power : FnScope ["world", "x", "count", "found", "_"] ["world", "x", "count"] (defScope s_power) := ⟨rfl, rfl, rfl, by decide +kernel, rfl, by decide +kernel, by decide +kernel⟩
abbrev s_loop_worth : Stmt := topS 32
theorem sc_loop_worth : FnScope ["world"] ["world"] (defScope s_loop_worth) := ⟨rfl, rfl, rfl, by decide +kernel, rfl, by decide +kernel, by decide +kernel⟩
abbrev s_number_text : Stmt := topS 33
theorem sc_number_text : FnScope ["world", "x", "a", "b"] ["world", "x"] (defScope s_number_text) := ⟨rfl, rfl, rfl, by decide +kernel, rfl, by decide +kernel, by decide +kernel⟩
abbrev s_integer_text_ : Stmt := topS 34
theorem sc_integer_text_ : FnScope ["k", "rest", "chunks", "low", "sign"] ["k"] (defScope s_integer_text_) := ⟨rfl, rfl, rfl, by decide +kernel, rfl, by decide +kernel, by decide +kernel⟩
abbrev s_read_number : Stmt := topS 35
theorem sc_read_number : FnScope ["world", "text", "word"] ["world", "text"] (defScope s_read_number) := ⟨rfl, rfl, rfl, by decide +kernel, rfl, by decide +kernel, by decide +kernel⟩
abbrev s_figure_count_ : Stmt := topS 36
theorem sc_figure_count_ : FnScope ["word"] ["word"] (defScope s_figure_count_) := ⟨rfl, rfl, rfl, by decide +kernel, rfl, by decide +kernel, by decide +kernel⟩
abbrev s_read_any_number : Stmt := topS 37
theorem sc_read_any_number : FnScope ["world", "text", "words", "x", "word"] ["world", "text"] (defScope s_read_any_number) := ⟨rfl, rfl, rfl, by decide +kernel, rfl, by decide +kernel, by decide +kernel⟩
abbrev s_is_integer_ : Stmt := topS 38
theorem sc_is_integer_ : FnScope ["word", "figures"] ["word"] (defScope s_is_integer_) := ⟨rfl, rfl, rfl, by decide +kernel, rfl, by decide +kernel, by decide +kernel⟩
abbrev s_integer_of_ : Stmt := topS 39
theorem sc_integer_of_ : FnScope ["word", "figures", "first", "found", "at"] ["word"] (defScope s_integer_of_) := ⟨rfl, rfl, rfl, by decide +kernel, rfl, by decide +kernel, by decide +kernel⟩
abbrev s_is_poly : Stmt := topS 44
theorem sc_is_poly : FnScope ["poly"] ["poly"] (defScope s_is_poly) := ⟨rfl, rfl, rfl, by decide +kernel, rfl, by decide +kernel, by decide +kernel⟩
abbrev s_check_poly : Stmt := topS 45
theorem sc_check_poly : FnScope ["poly"] ["poly"] (defScope s_check_poly) := ⟨rfl, rfl, rfl, by decide +kernel, rfl, by decide +kernel, by decide +kernel⟩
abbrev s_multiplied_polys : Stmt := topS 46
theorem sc_multiplied_polys : FnScope ["one", "other", "parts", "i", "left", "j", "right"] ["one", "other"] (defScope s_multiplied_polys) := ⟨rfl, rfl, rfl, by decide +kernel, rfl, by decide +kernel, by decide +kernel⟩
abbrev s_split_off_ : Stmt := topS 47
theorem sc_split_off_ : FnScope ["parts", "x", "sums", "worth", "part"] ["parts", "x"] (defScope s_split_off_) := ⟨rfl, rfl, rfl, by decide +kernel, rfl, by decide +kernel, by decide +kernel⟩
abbrev s_value_at : Stmt := topS 48
theorem sc_value_at : FnScope ["poly", "x", "_", "worth"] ["poly", "x"] (defScope s_value_at) := ⟨rfl, rfl, rfl, by decide +kernel, rfl, by decide +kernel, by decide +kernel⟩
abbrev s_value : Stmt := topS 49
theorem sc_value : FnScope ["world", "poly"] ["world", "poly"] (defScope s_value) := ⟨rfl, rfl, rfl, by decide +kernel, rfl, by decide +kernel, by decide +kernel⟩
abbrev s_roots : Stmt := topS 50
theorem sc_roots : FnScope ["poly", "most", "found", "x", "many"] ["poly", "most"] (defScope s_roots) := ⟨rfl, rfl, rfl, by decide +kernel, rfl, by decide +kernel, by decide +kernel⟩
abbrev s_root_count_ : Stmt := topS 51
theorem sc_root_count_ : FnScope ["poly", "x", "many", "quotient", "worth"] ["poly", "x"] (defScope s_root_count_) := ⟨rfl, rfl, rfl, by decide +kernel, rfl, by decide +kernel, by decide +kernel⟩
abbrev s_check_count_ : Stmt := topS 52
theorem sc_check_count_ : FnScope ["count"] ["count"] (defScope s_check_count_) := ⟨rfl, rfl, rfl, by decide +kernel, rfl, by decide +kernel, by decide +kernel⟩
abbrev s_falling : Stmt := topS 53
theorem sc_falling : FnScope ["count", "product", "k"] ["count"] (defScope s_falling) := ⟨rfl, rfl, rfl, by decide +kernel, rfl, by decide +kernel, by decide +kernel⟩
abbrev s_rising : Stmt := topS 54
theorem sc_rising : FnScope ["count", "product", "k"] ["count"] (defScope s_rising) := ⟨rfl, rfl, rfl, by decide +kernel, rfl, by decide +kernel, by decide +kernel⟩
abbrev s_power_of_d : Stmt := topS 55
theorem sc_power_of_d : FnScope ["count"] ["count"] (defScope s_power_of_d) := ⟨rfl, rfl, rfl, by decide +kernel, rfl, by decide +kernel, by decide +kernel⟩
abbrev s_by_falling : Stmt := topS 56
theorem sc_by_falling : FnScope ["poly", "found", "rest", "k", "worth"] ["poly"] (defScope s_by_falling) := ⟨rfl, rfl, rfl, by decide +kernel, rfl, by decide +kernel, by decide +kernel⟩
abbrev s_law_number : Stmt := topS 58
theorem sc_law_number : FnScope ["cell"] ["cell"] (defScope s_law_number) := ⟨rfl, rfl, rfl, by decide +kernel, rfl, by decide +kernel, by decide +kernel⟩
abbrev s_law_draws : Stmt := topS 59
theorem sc_law_draws : FnScope ["script", "draws", "cell", "rest", "k", "once", "twice"] ["script"] (defScope s_law_draws) := ⟨rfl, rfl, rfl, by decide +kernel, rfl, by decide +kernel, by decide +kernel⟩
abbrev s_law_next : Stmt := topS 60
theorem sc_law_next : FnScope ["draws"] ["draws"] (defScope s_law_next) := ⟨rfl, rfl, rfl, by decide +kernel, rfl, by decide +kernel, by decide +kernel⟩
abbrev s_law_error2 : Stmt := topS 61
theorem sc_law_error2 : FnScope ["error", "kinds"] ["error"] (defScope s_law_error2) := ⟨rfl, rfl, rfl, by decide +kernel, rfl, by decide +kernel, by decide +kernel⟩
abbrev s_law_told : Stmt := topS 62
theorem sc_law_told : FnScope ["way", "world", "x", "poly", "error"] ["way", "world", "x", "poly"] (defScope s_law_told) := ⟨rfl, rfl, rfl, by decide +kernel, rfl, by decide +kernel, by decide +kernel⟩
abbrev s_law_is_counted : Stmt := topS 63
theorem sc_law_is_counted : FnScope ["count", "product", "j"] ["count"] (defScope s_law_is_counted) := ⟨rfl, rfl, rfl, by decide +kernel, rfl, by decide +kernel, by decide +kernel⟩
abbrev s_law_is_root : Stmt := topS 64
theorem sc_law_is_root : FnScope ["draws", "far", "sign", "poly", "due", "root"] ["draws"] (defScope s_law_is_root) := ⟨rfl, rfl, rfl, by decide +kernel, rfl, by decide +kernel, by decide +kernel⟩
abbrev s_law : Stmt := topS 65
theorem sc_law : FnScope ["script", "draws", "p", "d", "prime", "due", "world", "choice", "x", "large", "poly", "bad", "way", "told", "other"] ["script"] (defScope s_law) := ⟨rfl, rfl, rfl, by decide +kernel, rfl, by decide +kernel, by decide +kernel⟩
abbrev s_Malformed_init : Stmt := inCls (topS 13)
theorem sc_Malformed_init : FnScope ["self", "at"] ["self", "at"] (defScope s_Malformed_init) := ⟨rfl, rfl, rfl, by decide +kernel, rfl, by decide +kernel, by decide +kernel⟩
section
variable {P : Program} {w : World} {K : PySem.W.Frag} {mg : Str → Option Value} {base : Heap}
theorem FunA.okXN {x qual : Str} {st : Stmt} {f : Addr} {fd : FuncData} {N ps : List Str} {k : Nat} {sp : Sp} (F : FunA K x qual st f fd) (S : FnScope N ps (defScope st)) (len : ∀ vs H Q E, sp vs H Q E → vs.length = ps.length)
    (hbody : ∀ (cdv : Value) (A : Around) (outer : List Env) (s : Shared) (H : Hp) (vs : List V) (Q : VK) (E : XK), Room k (A.deeper (envOfC qual (defScope st) s.heap.objs.size f cdv)) → sp vs H Q E →
      ∃ t, PSs (cxOf (L2N.CX P w) P w K mg base N qual (defScope st) f cdv A outer s H E) (defBody st) t ∧ t { nx := fun _ H' => Q .non H', rt := Q } (start N vs) H) : FnOk P w K mg base (L2N.CX P w) (k + 1) f fd ps sp := by
  obtain ⟨oc, od, dV, kV, doc, pm, an, cdv, ct, osl, rfl, lk, hcd⟩ := F.ex
  exact fn_of lk hcd S len fun A outer s H vs Q E hr hsp => hbody cdv A outer s H vs Q E hr hsp
end

structure SmL (n k : Nat) (D : PyData) : Prop where
  lay : D.canLay0 = true
  dep : D.depth ≤ n
  sho : D.showable = true
  wgt : wt D ≤ k
theorem smL_all {n k : Nat} : ∀ {ds : List PyData}, (∀ D ∈ ds, SmL n k D) → PyData.canLayAll0 ds = true ∧ PyData.depthAll ds ≤ n ∧ PyData.showableAll ds = true ∧ wtAll ds ≤ (k + 2) * ds.length
  | [], _ => ⟨by simp [PyData.canLayAll0], by simp [PyData.depthAll], by simp [PyData.showableAll], by simp [wtAll]⟩
  | D :: ds, h => by
    obtain ⟨h1, h2, h3, h4⟩ := smL_all (ds := ds) fun E hE => h E (List.mem_cons_of_mem _ hE)
    have g := h D List.mem_cons_self
    refine ⟨by simp [PyData.canLayAll0, g.lay, h1], ?_, by simp [PyData.showableAll, g.sho, h3], ?_⟩
    · simp only [PyData.depthAll]
      have := g.dep
      omega
    · simp only [wtAll, List.length_cons, Nat.mul_add]
      have := g.wgt
      omega
theorem smL_list {n k : Nat} {ds : List PyData} (h : ∀ D ∈ ds, SmL n k D) : SmL (n + 1) ((k + 2) * ds.length + 3) (.list ds) := by
  obtain ⟨h1, h2, h3, h4⟩ := smL_all h
  exact ⟨by simp [PyData.canLay0, h1], by simp only [PyData.depth]; omega, by simp [PyData.showable, h3], by simp only [wt]; omega⟩
theorem smL_tuple {n k : Nat} {ds : List PyData} (h : ∀ D ∈ ds, SmL n k D) : SmL (n + 1) ((k + 2) * ds.length + 3) (.tuple ds) := by
  obtain ⟨h1, h2, h3, h4⟩ := smL_all h
  exact ⟨by simp [PyData.canLay0, h1], by simp only [PyData.depth]; omega, by simp [PyData.showable, h3], by simp only [wt]; omega⟩
theorem SmL.shaped {n k : Nat} {D : PyData} (h : SmL n k D) (hn : n ≤ 64) : SeqAt.shaped D = true := by
  show (PyData.canLay0 D && decide (PyData.depth D ≤ 64)) = true
  rw [h.lay, decide_eq_true (Nat.le_trans h.dep hn)]
  rfl
theorem SmL.wide {n k : Nat} {D : PyData} (h : SmL n k D) (hk : k ≤ 16777216) : wt D ≤ sizeLine := by
  rw [sizeLine_eq]
  exact Nat.le_trans h.wgt hk
theorem small_log {i : Int} (h : i.natAbs < 2 ^ 200) : i.natAbs.log2 < 1920 := by
  by_cases e : i.natAbs = 0
  · rw [e]
    decide
  · exact (Nat.log2_lt e).mpr (Nat.lt_of_lt_of_le h (Nat.pow_le_pow_right (by decide) (by decide)))
theorem smL_int {i : Int} (h : i.natAbs < 2 ^ 200) : SmL 0 1921 (.int i) := ⟨by simp [PyData.canLay0], by simp [PyData.depth], by simp [PyData.showable, small_log h], by simp only [wt]; omega⟩
theorem smL_pair {u v : Int} (hu : u.natAbs < 2 ^ 200) (hv : v.natAbs < 2 ^ 200) : SmL 1 4000 (.tuple [.int u, .int v]) := by
  have h := smL_tuple (ds := [.int u, .int v]) (n := 0) (k := 1921) fun D hD => by
    rcases List.mem_cons.mp hD with rfl | hD
    · exact smL_int hu
    · rcases List.mem_cons.mp hD with rfl | hD
      · exact smL_int hv
      · cases hD
  exact ⟨h.lay, h.dep, h.sho, Nat.le_trans h.wgt (by show (1921 + 2) * 2 + 3 ≤ 4000; decide)⟩
theorem ok_n : PyData.strOk ("!n" : Str) = true := by decide +kernel
theorem ok_b : PyData.strOk ("!b" : Str) = true := by decide +kernel
theorem ok_w : PyData.strOk ("!w" : Str) = true := by decide +kernel
theorem rl_n : (reprText ("!n" : Str)).length = 4 := by decide +kernel
theorem rl_b : (reprText ("!b" : Str)).length = 4 := by decide +kernel
theorem rl_w : (reprText ("!w" : Str)).length = 4 := by decide +kernel
theorem smL_n : SmL 1 4000 (.str "!n") := ⟨by simp [PyData.canLay0, ok_n], by simp [PyData.depth], by simp [PyData.showable], by simp only [wt, rl_n]; omega⟩
theorem smL_b : SmL 1 4000 (.str "!b") := ⟨by simp [PyData.canLay0, ok_b], by simp [PyData.depth], by simp [PyData.showable], by simp only [wt, rl_b]; omega⟩
theorem smL_w : SmL 1 4000 (.str "!w") := ⟨by simp [PyData.canLay0, ok_w], by simp [PyData.depth], by simp [PyData.showable], by simp only [wt, rl_w]; omega⟩
theorem smL_non : SmL 1 4000 .none := ⟨by simp [PyData.canLay0], by simp [PyData.depth], by simp [PyData.showable], by simp only [wt]; omega⟩
theorem smL_bool (b : Bool) : SmL 1 4000 (.bool b) := ⟨by simp [PyData.canLay0], by simp [PyData.depth], by simp [PyData.showable], by simp only [wt]; omega⟩

section
variable {P : Program} {w : World} {K : PySem.W.Frag} {mg : Str → Option Value} {base : Heap}
/-! ### is_world -/
def spIsWorld (K : PySem.W.Frag) : Sp := fun vs H Q _ => ∃ (a : Addr) (p d : Int), vs = [.ref a] ∧ SqT K H a [.int p, .int d] ∧ Q (.bl (isW p d)) H
theorem ok_is_world {f : Addr} {fd : FuncData} {aP : Addr} (F : Fun K "is_world" "is_world" s_is_world f fd) (m_PRIMES : mg "PRIMES" = some (.ref aP)) (tP : ∀ H, SqT K H aP (primes.map V.int)) :
    FnOk P w K mg base CX0 1 f fd ["world"] (spIsWorld K) := by
  have r_PRIMES : RelV (.ref aP) (.ref aP) := rfl
  refine F.ok sc_is_world (fun vs H Q E h => ?_) (fun cdv A outer s H vs Q E hr h => ?_)
  · obtain ⟨a, p, d, rfl, _⟩ := h
    rfl
  · obtain ⟨a, p, d, rfl, hS, q⟩ := h
    refine ⟨_, (pss_cons (ps_asg (pv 0) (pg_tup rfl (pgs_cons (pg_name (i := 1) sc_is_world.nd rfl (.inl rfl)) (pgs_cons (pg_name (i := 2) sc_is_world.nd rfl (.inl rfl)) pgs_nil))))
  (pss_cons (ps_if (pt_cmpR op_eq (pv 1) pe_int (nomark _)) (pss_one (ps_ret (pe_chain op_le op_le (pe_un un_neg pe_int) (pv 2) pe_int))) pss_nil)
  (pss_one (ps_ret (pe_and (pe_cmpR op_in_seq (pv 1) (pe_glob rfl m_PRIMES r_PRIMES) (by with_unfolding_all rfl)) (pe_one (pe_chain op_le op_lt pe_int (pv 2) (pv 1)))))))), ?_⟩
    refine ⟨_, rfl, a, _, rfl, hS, rfl, _, _, rfl, _, _, rfl, rfl, ?_⟩
    refine ⟨_, rfl, rfl, _, rfl, ite2 (fun e => ?_) (fun e => ?_)⟩
    · have e0 : p = 0 := V.int.inj (of_decide_eq_true e)
      have ew : isW p d = if -20 ≤ d then decide (d ≤ 20) else false := if_pos e0
      rw [ew] at q
      refine ⟨_, rfl, _, rfl, _, _, rfl, rfl, _, rfl, ite2 (fun e1 => ?_) (fun e1 => ?_)⟩
      · rw [if_pos (of_decide_eq_true e1)] at q
        exact ⟨_, _, rfl, rfl, q⟩
      · rw [if_neg (fun z => e1 (decide_eq_true z))] at q
        exact q
    · have e0 : p ≠ 0 := fun z => e (decide_eq_true (congrArg V.int z))
      have ew : isW p d = (if inV (.int p) (primes.map V.int) = true then (if 0 ≤ d then decide (d < p) else false) else false) := if_neg e0
      rw [ew] at q
      refine ⟨_, rfl, aP, _, rfl, .inr (tP _), rfl, by decide, _, rfl, ite2 (fun e1 => ?_) (fun e1 => ?_)⟩
      · have e1' : inV (.int p) (primes.map V.int) = true := e1
        rw [if_pos e1'] at q
        refine ⟨_, rfl, _, _, rfl, rfl, _, rfl, ite2 (fun e2 => ?_) (fun e2 => ?_)⟩
        · rw [if_pos (of_decide_eq_true e2)] at q
          exact ⟨_, rfl, _, _, rfl, rfl, q⟩
        · rw [if_neg (fun z => e2 (decide_eq_true z))] at q
          exact q
      · have e1' : ¬ inV (.int p) (primes.map V.int) = true := e1
        rw [if_neg e1'] at q
        have e2 : inV (.int p) (primes.map V.int) = false := Bool.eq_false_iff.mpr e1'
        exact q
end

section
variable {P : Program} {w : World} {K : PySem.W.Frag} {mg : Str → Option Value} {base : Heap}
/-! ### _law_number -/
def spPlain : Sp := fun vs H Q _ => ∃ n : Int, vs = [.int n] ∧ Q (.int (if n < 0 then -n else n)) H
theorem ok_plain {f : Addr} {fd : FuncData} (F : Fun K "_law_number" "_law_number" s_law_number f fd) : FnOk P w K mg base CX0 1 f fd ["cell"] spPlain := by
  refine F.ok sc_law_number (fun vs H Q E h => ?_) (fun cdv A outer s H vs Q E hr h => ?_)
  · obtain ⟨n, rfl, _⟩ := h
    rfl
  · obtain ⟨n, rfl, q⟩ := h
    refine ⟨_, (pss_cons (ps_if (pt_cmpR op_lt (pv 0) pe_int (nomark _)) (pss_one (ps_ret (pe_op op_sub pe_int (pv 0)))) pss_nil)
  (pss_one (ps_ret (pv 0))))
    , ?_⟩
    refine ⟨_, rfl, _, _, rfl, rfl, _, rfl, ite2 (fun e => ?_) (fun e => ?_)⟩
    · rw [if_pos (of_decide_eq_true e)] at q
      have q' : Q (.int (0 - n)) H := by
        rw [show (0 : Int) - n = -n by omega]
        exact q
      exact ⟨_, rfl, _, _, rfl, rfl, q'⟩
    · rw [if_neg (fun z => e (decide_eq_true z))] at q
      exact ⟨_, rfl, q⟩
end

section
variable {P : Program} {w : World} {K : PySem.W.Frag} {mg : Str → Option Value} {base : Heap}
/-! ### _law_next -/
def spNext : Sp := fun vs H Q _ => ∃ (a : Addr) (ds : List Int), vs = [.ref a] ∧ H a = some (.lst (ds.map V.int)) ∧ ∀ (n : Int) (ds' : List Int), Q (.int n) (upd H a (.lst (ds'.map V.int)))
theorem ok_next {f : Addr} {fd : FuncData} (F : Fun K "_law_next" "_law_next" s_law_next f fd) : FnOk P w K mg base CX0 1 f fd ["draws"] spNext := by
  refine F.ok sc_law_next (fun vs H Q E h => ?_) (fun cdv A outer s H vs Q E hr h => ?_)
  · obtain ⟨a, ds, rfl, _⟩ := h
    rfl
  · obtain ⟨a, ds, rfl, hL, q⟩ := h
    refine ⟨_, (pss_cons (ps_if (pt_truth (pv 0) (by intro _; rfl)) (pss_one (ps_ret (pe_bm0 PySem.F.plainAttrs_list PySem.F.slot_list_pop PySem.F.type_list_pop mt_pop (pv 0)))) pss_nil)
  (pss_one (ps_ret pe_int)))
    , ?_⟩
    refine ⟨_, rfl, _, .inl ⟨_, .inl (.inl hL), rfl⟩, ite2 (fun e => ?_) (fun e => ?_)⟩
    · have hn : ds ≠ [] := fun z => by subst z; cases e
      have hm : ds.map V.int = ds.dropLast.map V.int ++ [V.int (ds.getLast hn)] := by
        rw [← List.map_singleton, ← List.map_append, List.dropLast_concat_getLast]
      refine ⟨_, rfl, .inl ⟨rfl, _, .inl (.inl hL)⟩, a, _, .int (ds.getLast hn), rfl, rfl, hL, ?_, ?_⟩
      · rw [hm]; simp
      · rw [hm, List.dropLast_concat]
        exact q _ _
    · have := q 0 ds
      rw [upd_self hL] at this
      exact this
end

section
variable {P : Program} {w : World} {K : PySem.W.Frag} {mg : Str → Option Value} {base : Heap}
/-! ### _law_draws -/
def spDraws (K : PySem.W.Frag) : Sp := fun vs H Q _ => ∃ (a : Addr) (ns : List Int), vs = [.ref a] ∧ SqL K H a (ns.map V.int) ∧ ns.length ≤ 63 ∧
  ∀ H' r (ds : List Int), Same H H' → H r = none → H' r = some (.lst (ds.map V.int)) → Q (.ref r) H'
theorem ok_draws {f : Addr} {fd : FuncData} {a_law_number : Addr} {fd_law_number : FuncData} (F : Fun K "_law_draws" "_law_draws" s_law_draws f fd) (z_range : mg "range" = none) (z_int : mg "int" = none)
    (G_law_number : FnOk P w K mg base CX0 1 a_law_number fd_law_number ["cell"] spPlain) (g_law_number : mg "_law_number" = some (.ref a_law_number)) (k_law_number : PySem.W.keepIn K (.ref a_law_number) = true) (b_law_number : Binds K fd_law_number ["cell"] []) :
    FnOk P w K mg base CX0 2 f fd ["script"] (spDraws K) := by
  refine F.ok sc_law_draws (fun vs H Q E h => ?_) (fun cdv A outer s H vs Q E hr h => ?_)
  · obtain ⟨n, _, rfl, _⟩ := h
    rfl
  · obtain ⟨a, ns, rfl, hS, hlen, q⟩ := h
    refine ⟨_, (pss_cons (ps_set (i := 1) sc_law_draws.nd rfl (.inl rfl) (pe_lst pa_nil))
  (pss_cons (ps_for PassesOwn.never rfl (pi_list (pv 0)) (pg_name (i := 2) sc_law_draws.nd rfl (.inl rfl)) (pss_cons (ps_set (i := 3) sc_law_draws.nd rfl (.inl rfl) (pe_call G_law_number (hr.mono (by decide)) rfl g_law_number k_law_number b_law_number .nil pass0 (pa_cons (pv 2) pa_nil)))
  (pss_one (ps_if (pt_cmpR op_ge (pv 3) pe_int (nomark _)) (pss_one (ps_for PassesOwn.never rfl (pi_range1 rfl z_range (pa_cons pe_int pa_nil)) (pg_name (i := 4) sc_law_draws.nd rfl (.inl rfl)) (pss_cons (ps_if (pt_cmpR op_eq (pv 3) pe_int (nomark _)) (pss_one ps_break) pss_nil)
  (pss_cons (ps_expr (pe_bm PySem.F.plainAttrs_list PySem.F.slot_list_append PySem.F.type_list_append mt_append (pv 1) (pa_cons (pe_op op_mod (pe_callTy call_int1 (by rfl) z_int boot_int (pa_cons (pv 3) pa_nil)) pe_int) pa_nil)))
  (pss_one (ps_set (i := 3) sc_law_draws.nd rfl (.inl rfl) (pe_op op_fdiv (pv 3) pe_int))))))) (pss_cons (ps_set (i := 5) sc_law_draws.nd rfl (.inl rfl) (pe_op op_mod (pe_callTy call_int1 (by rfl) z_int boot_int (pa_cons (pe_op op_add (pe_op op_mul (pv 3) pe_int) pe_int) pa_nil)) pe_int))
  (pss_cons (ps_set (i := 6) sc_law_draws.nd rfl (.inl rfl) (pe_op op_mod (pe_callTy call_int1 (by rfl) z_int boot_int (pa_cons (pe_op op_add (pe_op op_mul (pv 5) pe_int) (pv 3)) pa_nil)) pe_int))
  (pss_one (ps_expr (pe_bm PySem.F.plainAttrs_list PySem.F.slot_list_extend PySem.F.type_list_extend mt_extend (pv 1) (pa_cons (pe_lst (pa_cons (pe_op op_mod (pe_callTy call_int1 (by rfl) z_int boot_int (pa_cons (pv 3) pa_nil)) pe_int) (pa_cons (pe_op op_mod (pe_callTy call_int1 (by rfl) z_int boot_int (pa_cons (pv 5) pa_nil)) pe_int) (pa_cons (pe_op op_mod (pe_callTy call_int1 (by rfl) z_int boot_int (pa_cons (pv 6) pa_nil)) pe_int) pa_nil)))) pa_nil))))))))))
  (pss_one (ps_ret (pv 1)))))
    , ?_⟩
    refine ⟨Nat.zero_le _, fun o no => ?_⟩
    have s1 : Same H (upd H o (.lst [])) := same_upd no
    refine ⟨.ref a, rfl, a, rfl, ⟨_, s1.seq hS⟩, for_list (K := K) (a := a) (xs := ns.map V.int) (fun i σ H' => ∃ v2 v3 v4 v5 v6 ds, σ = [some (.ref a), some (.ref o), v2, v3, v4, v5, v6] ∧ Same H H' ∧ H' o = some (.lst (ds.map V.int)) ∧ ds.length ≤ 60 * i)
      ⟨none, none, none, none, none, [], rfl, s1, upd_same, Nat.le_refl _⟩ (fun i σ H' _ ⟨_, _, _, _, _, _, _, sm, _⟩ => sm.seq hS) ?_ ?_⟩
    · rintro i y σ H1 hi ⟨v2, v3, v4, v5, v6, ds, rfl, sm, hL, hl⟩
      have hi63 : i < 63 := by
        have := (List.getElem?_eq_some_iff.mp hi).1
        rw [List.length_map] at this
        omega
      obtain ⟨z, hz, rfl⟩ := map_int_get hi
      refine ⟨_, rfl, z, rfl, ?_⟩
      generalize hr0 : (if z < 0 then -z else z) = r0
      have h0 : 0 ≤ r0 := by
        subst hr0
        split <;> omega
      refine ⟨_, rfl, _, _, rfl, rfl, _, rfl, ite2 (fun e => ?_) (fun e => ?_)⟩
      · refine ⟨60, rfl, by decide, by decide, for_range (lo := 0) (n := 60) (fun j σ H' => ∃ r v4 ds', σ = [some (.ref a), some (.ref o), some (.int z), some (.int r), v4, v5, v6] ∧ 0 ≤ r ∧ Same H H' ∧ H' o = some (.lst (ds'.map V.int)) ∧ ds'.length ≤ 60 * i + j)
          ⟨r0, v4, ds, rfl, h0, sm, hL, hl⟩ ?_ ?_⟩
        · rintro j σ H2 hj ⟨r, v4', ds', rfl, hr0', sm2, hL2, hl2⟩
          refine ⟨_, rfl, rfl, _, rfl, ite2 (fun e1 => ?_) (fun e1 => ?_)⟩
          · exact ⟨_, _, _, _, _, ds', rfl, sm2, hL2, by omega⟩
          · refine ⟨.ref o, rfl, .inl ⟨rfl, _, .inl (.inl hL2)⟩, .int r, rfl, .inl ⟨r, rfl, r, 1000, rfl, rfl, (show (0:Int) < 1000 by decide), o, _, _, rfl, rfl, hL2, ?_, ?_⟩⟩
            · rw [List.length_map]
              exact small_of (by omega)
            · refine ⟨_, rfl, r, 1000, rfl, rfl, ⟨by decide, by decide⟩, ?_⟩
              refine ⟨r / 1000, _, ds' ++ [r % 1000], rfl, by omega, Same.mut sm2 no, ?_, ?_⟩
              · rw [upd_same, List.map_append]
                rfl
              · rw [List.length_append]
                show ds'.length + 1 ≤ _
                omega
        · rintro σ H2 ⟨r, v4', ds', rfl, hr0', sm2, hL2, hl2⟩
          exact ⟨_, _, _, _, _, ds', rfl, sm2, hL2, by omega⟩
      · have c1 : CMul r0 48271 := .inr ⟨by decide, by decide⟩
        refine ⟨.int r0, rfl, r0, 48271, rfl, rfl, c1, _, 11, rfl, rfl, .inl ⟨_, rfl, _, 2147483647, rfl, rfl, (show (0:Int) < 2147483647 by decide), ?_⟩⟩
        have c2 : ∀ x : Int, CMul x 69621 := fun _ => .inr ⟨by decide, by decide⟩
        refine ⟨_, rfl, _, 69621, rfl, rfl, c2 _, .int r0, rfl, _, r0, rfl, rfl, .inl ⟨_, rfl, _, 2147483629, rfl, rfl, (show (0:Int) < 2147483629 by decide), ?_⟩⟩
        have p1000 : (0:Int) < 1000 := by decide
        refine ⟨.ref o, rfl, .inl ⟨rfl, _, .inl (.inl hL)⟩, ?_⟩
        refine ⟨.int r0, rfl, .inl ⟨r0, rfl, r0, 1000, rfl, rfl, p1000, _, rfl, .inl ⟨_, rfl, _, 1000, rfl, rfl, p1000, _, rfl, .inl ⟨_, rfl, _, 1000, rfl, rfl, p1000, ?_⟩⟩⟩⟩
        refine ⟨(by show 3 ≤ sizeLine; decide), fun c nc => ?_⟩
        have hoc : o ≠ c := ne_of_none hL nc
        refine ⟨o, c, ds.map V.int, _, rfl, rfl, ?_, upd_same, ?_, ?_⟩
        · rw [upd_ne hoc]
          exact hL
        · rw [List.length_map]
          exact Nat.le_of_lt (small_of (show ds.length + 3 ≤ 100000 by omega))
        · refine ⟨_, _, _, _, _, ds ++ [r0 % 1000, (r0 * 48271 + 11) % 2147483647 % 1000, ((r0 * 48271 + 11) % 2147483647 * 69621 + r0) % 2147483629 % 1000], rfl, Same.mut (Same.trans sm (same_upd nc)) no, ?_, ?_⟩
          · rw [upd_same, List.map_append]
            rfl
          · rw [List.length_append]
            show ds.length + 3 ≤ _
            omega
    · rintro σ H1 ⟨v2, v3, v4, v5, v6, ds, rfl, sm, hL, hl⟩
      exact ⟨_, rfl, q H1 o ds sm no hL⟩
end

section
variable {P : Program} {w : World} {K : PySem.W.Frag} {mg : Str → Option Value} {base : Heap}
/-! ### check_world -/
def spCheckWorld (K : PySem.W.Frag) (CW : Addr) : Sp := fun vs H Q E => ∃ (a : Addr) (p d : Int), vs = [.ref a] ∧ SqT K H a [.int p, .int d] ∧ (isW p d = true → Q .non H) ∧ (isW p d = false → E (.ref CW) none H)
theorem ok_check_world {f CW a_is_world : Addr} {fd fd_is_world : FuncData} (F : Fun K "check_world" "check_world" s_check_world f fd) (T : ErrC K mg "NotWorld" CW)
    (G_is_world : FnOk P w K mg base CX0 1 a_is_world fd_is_world ["world"] (spIsWorld K)) (g_is_world : mg "is_world" = some (.ref a_is_world)) (k_is_world : PySem.W.keepIn K (.ref a_is_world) = true) (b_is_world : Binds K fd_is_world ["world"] []) :
    FnOk P w K mg base (L2N.CX P w) 2 f fd ["world"] (spCheckWorld K CW) := by
  obtain ⟨gc_NotWorld, x_NotWorld, kc_NotWorld, bc_NotWorld, tc_NotWorld⟩ := T
  refine F.okXN sc_check_world (fun vs H Q E h => ?_) (fun cdv A outer s H vs Q E hr h => ?_)
  · obtain ⟨a, p, d, rfl, _⟩ := h
    rfl
  · obtain ⟨a, p, d, rfl, hS, q1, q2⟩ := h
    refine ⟨_, (pss_one (ps_if (pt_not (pt_val (pe_call G_is_world (hr.mono (by decide)) rfl g_is_world k_is_world b_is_world .nil pass0 (pa_cons (pv 0) pa_nil)))) (pss_one (L2N.ps_raise rfl (L2N.takes_of rfl rfl rfl rfl) (L2N.pmk_own PySem.F.excBase_ValueError x_NotWorld gc_NotWorld kc_NotWorld (raises_own bc_NotWorld tc_NotWorld) rfl))) pss_nil))
    , ?_⟩
    refine ⟨_, rfl, a, p, d, rfl, hS, _, rfl, ?_⟩
    cases e : isW p d with
    | true => exact iteF (q1 e)
    | false => exact iteT (q2 e)
end

section
variable {P : Program} {w : World} {K : PySem.W.Frag} {mg : Str → Option Value} {base : Heap}
/-! ### is_number -/
def isN (p u v : Int) : Bool := if p = 0 then (if 1 ≤ v then decide (gI u v = 1) else false) else (if v = 1 then (if 0 ≤ u then decide (u < p) else false) else false)
def spIsNumber (K : PySem.W.Frag) (CW : Addr) : Sp := fun vs H Q E => ∃ (a x : Addr) (p d u v : Int), vs = [.ref a, .ref x] ∧ SqT K H a [.int p, .int d] ∧ SqT K H x [.int u, .int v] ∧ (isW p d = true → Q (.bl (isN p u v)) H) ∧ (isW p d = false → E (.ref CW) none H)
theorem ok_is_number {f CW a_check_world : Addr} {fd fd_check_world : FuncData} (F : Fun K "is_number" "is_number" s_is_number f fd) (m_gcd : mg "gcd" = some (.builtin "math.gcd"))
    (G_check_world : FnOk P w K mg base (L2N.CX P w) 2 a_check_world fd_check_world ["world"] (spCheckWorld K CW)) (g_check_world : mg "check_world" = some (.ref a_check_world)) (k_check_world : PySem.W.keepIn K (.ref a_check_world) = true) (b_check_world : Binds K fd_check_world ["world"] []) :
    FnOk P w K mg base (L2N.CX P w) 3 f fd ["world", "x"] (spIsNumber K CW) := by
  refine F.okXN sc_is_number (fun vs H Q E h => ?_) (fun cdv A outer s H vs Q E hr h => ?_)
  · obtain ⟨a, x, p, d, u, v, rfl, _⟩ := h
    rfl
  · obtain ⟨a, x, p, d, u, v, rfl, hS, hX, q1, q2⟩ := h
    refine ⟨_, (pss_cons (ps_expr (pe_call G_check_world (hr.mono (by decide)) rfl g_check_world k_check_world b_check_world .nil (L2N.passes_call (L2N.takes_of rfl rfl rfl rfl) (fun _ _ _ _ h => h)) (pa_cons (pv 0) pa_nil)))
  (pss_cons (ps_asg (pv 0) (pg_tup rfl (pgs_cons (pg_name (i := 2) sc_is_number.nd rfl (.inl rfl)) (pgs_cons (pg_name (i := 3) sc_is_number.nd rfl (.inl rfl)) pgs_nil))))
  (pss_cons (ps_asg (pv 1) (pg_tup rfl (pgs_cons (pg_name (i := 4) sc_is_number.nd rfl (.inl rfl)) (pgs_cons (pg_name (i := 5) sc_is_number.nd rfl (.inl rfl)) pgs_nil))))
  (pss_cons (ps_if (pt_cmpR op_eq (pv 2) pe_int (nomark _)) (pss_one (ps_ret (pe_and (pe_cmpR op_ge (pv 5) pe_int (nomark _)) (pe_one (pe_cmpR op_eq (pe_callBfun cr_gcd rfl m_gcd (pa_cons (pv 4) (pa_cons (pv 5) pa_nil))) pe_int (nomark _)))))) pss_nil)
  (pss_one (ps_ret (pe_and (pe_cmpR op_eq (pv 5) pe_int (nomark _)) (pe_one (pe_chain op_le op_lt pe_int (pv 4) (pv 2))))))))))
    , ?_⟩
    refine ⟨_, rfl, a, p, d, rfl, hS, fun ew => ?_, q2⟩
    have q := q1 ew
    refine ⟨_, rfl, a, _, rfl, hS, rfl, _, _, rfl, _, _, rfl, rfl, ?_⟩
    refine ⟨_, rfl, x, _, rfl, hX, rfl, _, _, rfl, _, _, rfl, rfl, ?_⟩
    refine ⟨_, rfl, rfl, _, rfl, ite2 (fun e => ?_) (fun e => ?_)⟩
    · have e0 : p = 0 := V.int.inj (of_decide_eq_true e)
      have ew : isN p u v = if 1 ≤ v then decide (gI u v = 1) else false := if_pos e0
      rw [ew] at q
      refine ⟨_, rfl, _, _, rfl, rfl, _, rfl, ite2 (fun e1 => ?_) (fun e1 => ?_)⟩
      · rw [if_pos (of_decide_eq_true e1)] at q
        have q' : Q (.bl (decide (V.int (gI u v) = V.int 1))) H := by
          rw [show decide (V.int (gI u v) = V.int 1) = decide (gI u v = 1) from decide_eq_decide.mpr ⟨V.int.inj, congrArg V.int⟩]
          exact q
        exact ⟨_, rfl, _, rfl, u, v, rfl, rfl, q'⟩
      · rw [if_neg (fun z => e1 (decide_eq_true z))] at q
        exact q
    · have e0 : p ≠ 0 := fun z => e (decide_eq_true (congrArg V.int z))
      have ew : isN p u v = (if v = 1 then (if 0 ≤ u then decide (u < p) else false) else false) := if_neg e0
      rw [ew] at q
      refine ⟨_, rfl, rfl, _, rfl, ite2 (fun e1 => ?_) (fun e1 => ?_)⟩
      · rw [if_pos (V.int.inj (of_decide_eq_true e1))] at q
        refine ⟨_, rfl, _, _, rfl, rfl, _, rfl, ite2 (fun e2 => ?_) (fun e2 => ?_)⟩
        · rw [if_pos (of_decide_eq_true e2)] at q
          exact ⟨_, rfl, _, _, rfl, rfl, q⟩
        · rw [if_neg (fun z => e2 (decide_eq_true z))] at q
          exact q
      · rw [if_neg (fun z => e1 (decide_eq_true (congrArg V.int z)))] at q
        exact q
end

section
variable {P : Program} {w : World} {K : PySem.W.Frag} {mg : Str → Option Value} {base : Heap}
/-! ### check_number -/
def spCheckNumber (K : PySem.W.Frag) (CW CN : Addr) : Sp := fun vs H Q E => ∃ (a x : Addr) (p d u v : Int), vs = [.ref a, .ref x] ∧ SqT K H a [.int p, .int d] ∧ SqT K H x [.int u, .int v] ∧
  (isW p d = true → isN p u v = true → Q .non H) ∧ (isW p d = true → isN p u v = false → E (.ref CN) none H) ∧ (isW p d = false → E (.ref CW) none H)
theorem ok_check_number {f CW CN a_is_number : Addr} {fd fd_is_number : FuncData} (F : Fun K "check_number" "check_number" s_check_number f fd) (T : ErrC K mg "NotNumber" CN)
    (G_is_number : FnOk P w K mg base (L2N.CX P w) 3 a_is_number fd_is_number ["world", "x"] (spIsNumber K CW)) (g_is_number : mg "is_number" = some (.ref a_is_number)) (k_is_number : PySem.W.keepIn K (.ref a_is_number) = true) (b_is_number : Binds K fd_is_number ["world", "x"] []) :
    FnOk P w K mg base (L2N.CX P w) 4 f fd ["world", "x"] (spCheckNumber K CW CN) := by
  obtain ⟨gc_NotNumber, x_NotNumber, kc_NotNumber, bc_NotNumber, tc_NotNumber⟩ := T
  refine F.okXN sc_check_number (fun vs H Q E h => ?_) (fun cdv A outer s H vs Q E hr h => ?_)
  · obtain ⟨a, x, p, d, u, v, rfl, _⟩ := h
    rfl
  · obtain ⟨a, x, p, d, u, v, rfl, hS, hX, q1, q2, q3⟩ := h
    refine ⟨_, (pss_one (ps_if (pt_not (pt_val (pe_call G_is_number (hr.mono (by decide)) rfl g_is_number k_is_number b_is_number .nil (L2N.passes_call (L2N.takes_of rfl rfl rfl rfl) (fun _ _ _ _ h => h)) (pa_cons (pv 0) (pa_cons (pv 1) pa_nil))))) (pss_one (L2N.ps_raise rfl (L2N.takes_of rfl rfl rfl rfl) (L2N.pmk_own PySem.F.excBase_ValueError x_NotNumber gc_NotNumber kc_NotNumber (raises_own bc_NotNumber tc_NotNumber) rfl))) pss_nil))
    , ?_⟩
    refine ⟨_, rfl, _, rfl, a, x, p, d, u, v, rfl, hS, hX, fun ew => ?_, q3⟩
    refine ⟨_, rfl, ?_⟩
    cases e : isN p u v with
    | true => exact iteF (q1 ew e)
    | false => exact iteT (q2 ew e)
end

section
variable {P : Program} {w : World} {K : PySem.W.Frag} {mg : Str → Option Value} {base : Heap}
/-! ### _lowest -/
def spLowest : Sp := fun vs H Q _ => ∃ a b : Int, vs = [.int a, .int b] ∧ b ≠ 0 ∧ b.natAbs < 1073741824 ∧ ∀ r, H r = none → Q (.ref r) (upd H r (.tup [.int (low a b).1, .int (low a b).2]))
theorem ok_lowest {f : Addr} {fd : FuncData} (F : Fun K "_lowest" "_lowest" s_lowest_ f fd) (m_gcd : mg "gcd" = some (.builtin "math.gcd")) : FnOk P w K mg base CX0 1 f fd ["a", "b"] spLowest := by
  refine F.ok sc_lowest_ (fun vs H Q E h => ?_) (fun cdv A outer s H vs Q E hr h => ?_)
  · obtain ⟨a, b, rfl, _⟩ := h
    rfl
  · obtain ⟨a, b, rfl, hb, hl, q⟩ := h
    have hg := gI_pos (a := a) hb
    have hg2 := gI_le (a := a) hb
    refine ⟨_, (pss_cons (ps_set (i := 2) sc_lowest_.nd rfl (.inl rfl) (pe_callBfun cr_gcd rfl m_gcd (pa_cons (pv 0) (pa_cons (pv 1) pa_nil))))
  (pss_cons (ps_if (pt_cmpR op_lt (pv 1) pe_int (nomark _)) (pss_one (ps_set (i := 2) sc_lowest_.nd rfl (.inl rfl) (pe_un un_neg (pv 2)))) pss_nil)
  (pss_one (ps_ret (pe_tup (pa_cons (pe_op op_fdivN (pv 0) (pv 2)) (pa_cons (pe_op op_fdivN (pv 1) (pv 2)) pa_nil)))))))
    , ?_⟩
    refine ⟨_, rfl, _, rfl, a, b, rfl, ?_⟩
    refine ⟨_, rfl, _, _, rfl, rfl, _, rfl, ite2 (fun e => ?_) (fun e => ?_)⟩
    · have e0 : b < 0 := of_decide_eq_true e
      have c : CDivN a (-gI a b) := ⟨by omega, by omega⟩
      refine ⟨_, rfl, _, rfl, ?_⟩
      refine ⟨_, rfl, _, rfl, a, -gI a b, rfl, rfl, c, _, rfl, _, rfl, b, -gI a b, rfl, rfl, c, (by show 2 ≤ sizeLine; decide), fun r nr => ?_⟩
      have h1 := q r nr
      unfold low at h1
      rw [if_pos e0] at h1
      rw [← fdiv_negg a _ (Int.le_of_lt hg), ← fdiv_negg b _ (Int.le_of_lt hg)] at h1
      exact h1
    · have e0 : ¬ b < 0 := fun z => e (decide_eq_true z)
      have c : CDivN a (gI a b) := ⟨by omega, by omega⟩
      refine ⟨_, rfl, _, rfl, a, gI a b, rfl, rfl, c, _, rfl, _, rfl, b, gI a b, rfl, rfl, c, (by show 2 ≤ sizeLine; decide), fun r nr => ?_⟩
      have h1 := q r nr
      unfold low at h1
      rw [if_neg e0] at h1
      rw [← Int.fdiv_eq_ediv_of_nonneg a (Int.le_of_lt hg), ← Int.fdiv_eq_ediv_of_nonneg b (Int.le_of_lt hg)] at h1
      exact h1
end

section
variable {P : Program} {w : World} {K : PySem.W.Frag} {mg : Str → Option Value} {base : Heap}
/-! ### _inverse -/
def spInverse : Sp := fun vs H Q _ => ∃ p b : Int, vs = [.int p, .int b] ∧ p ∈ primes ∧ b % p ≠ 0 ∧ ∀ k, 1 ≤ k → k < p → k * (b % p) % p = 1 → Q (.int k) H
theorem ok_inverse {f : Addr} {fd : FuncData} (F : Fun K "_inverse" "_inverse" s_inverse_ f fd) : FnOk P w K mg base CX0 1 f fd ["p", "b"] spInverse := by
  refine F.ok sc_inverse_ (fun vs H Q E h => ?_) (fun cdv A outer s H vs Q E hr h => ?_)
  · obtain ⟨p, b, rfl, _⟩ := h
    rfl
  · obtain ⟨p, b, rfl, hp, hb, q⟩ := h
    have hp2 := prime_pos hp
    have hpos : 0 < p := by omega
    obtain ⟨i0, i1, i2, ei⟩ := inv_ex hp (Int.emod_nonneg b (by omega)) (Int.emod_lt_of_pos b hpos) hb
    refine ⟨_, (pss_cons (ps_set (i := 2) sc_inverse_.nd rfl (.inl rfl) (pe_op op_mod (pv 1) (pv 0)))
  (pss_cons (ps_set (i := 3) sc_inverse_.nd rfl (.inl rfl) pe_int)
  (pss_cons (ps_while PassesOwn.never (pt_cmpR op_ne (pe_op op_mod (pe_op op_mul (pv 3) (pv 2)) (pv 0)) pe_int (nomark _)) (pss_one (ps_aug (i := 3) sc_inverse_.nd rfl (.inl rfl) pe_int ip_add)))
  (pss_one (ps_ret (pv 3))))))
    , ?_⟩
    refine ⟨_, rfl, _, rfl, b, p, rfl, rfl, hpos, ?_⟩
    refine ⟨fun m σ H' => ∃ k : Int, σ = [some (.int p), some (.int b), some (.int (b % p)), some (.int k)] ∧ H' = H ∧ 1 ≤ k ∧ k ≤ i0 ∧ m = (i0 - k).toNat, ⟨_, 1, rfl, rfl, by omega, i1, rfl⟩, ?_⟩
    rintro m σ H' ⟨k, rfl, rfl, k1, k2, rfl⟩
    have c1 : CMul k (b % p) := .inl ⟨by omega, by omega⟩
    refine ⟨_, rfl, _, rfl, k, b % p, rfl, rfl, c1, _, rfl, _, p, rfl, rfl, hpos, rfl, _, rfl, ?_⟩
    by_cases e : k * (b % p) % p = 1
    · rw [decide_eq_true (congrArg V.int e)]
      exact iteF ⟨_, rfl, q k k1 (by omega) e⟩
    · rw [decide_eq_false (fun z => e (V.int.inj z))]
      have hk : k ≠ i0 := fun z => e (by rw [z]; exact ei)
      exact iteT ⟨_, fun _ _ n => n, _, rfl, _, _, rfl, rfl, _, by omega, k + 1, rfl, rfl, by omega, by omega, rfl⟩
end

section
variable {P : Program} {w : World} {K : PySem.W.Frag} {mg : Str → Option Value} {base : Heap}
/-! ### number -/
def spNumber (K : PySem.W.Frag) (CW CB : Addr) : Sp := fun vs H Q E => ∃ (x : Addr) (p d a b : Int), vs = [.ref x, .int a, .int b] ∧ SqT K H x [.int p, .int d] ∧ b.natAbs < 1073741824 ∧ (isW p d = false → E (.ref CW) none H) ∧
  (isW p d = true → bad p b → E (.ref CB) none H) ∧ (isW p d = true → ¬ bad p b → ∀ r u v, IsNum p a b u v → H r = none → Q (.ref r) (upd H r (.tup [.int u, .int v])))
theorem ok_number {f CW CB a_check_world a_inverse_ a_lowest_ : Addr} {fd fd_check_world fd_inverse_ fd_lowest_ : FuncData} (F : FunA K "number" "number" s_number f fd) (T : ErrC K mg "BadNumber" CB)
    (G_check_world : FnOk P w K mg base (L2N.CX P w) 2 a_check_world fd_check_world ["world"] (spCheckWorld K CW)) (g_check_world : mg "check_world" = some (.ref a_check_world)) (k_check_world : PySem.W.keepIn K (.ref a_check_world) = true) (b_check_world : Binds K fd_check_world ["world"] [])
    (G_inverse_ : FnOk P w K mg base CX0 1 a_inverse_ fd_inverse_ ["p", "b"] spInverse) (g_inverse_ : mg "_inverse" = some (.ref a_inverse_)) (k_inverse_ : PySem.W.keepIn K (.ref a_inverse_) = true) (b_inverse_ : Binds K fd_inverse_ ["p", "b"] [])
    (G_lowest_ : FnOk P w K mg base CX0 1 a_lowest_ fd_lowest_ ["a", "b"] spLowest) (g_lowest_ : mg "_lowest" = some (.ref a_lowest_)) (k_lowest_ : PySem.W.keepIn K (.ref a_lowest_) = true) (b_lowest_ : Binds K fd_lowest_ ["a", "b"] []) :
    FnOk P w K mg base (L2N.CX P w) 3 f fd ["world", "a", "b"] (spNumber K CW CB) := by
  obtain ⟨gc_BadNumber, x_BadNumber, kc_BadNumber, bc_BadNumber, tc_BadNumber⟩ := T
  refine F.okXN sc_number (fun vs H Q E h => ?_) (fun cdv A outer s H vs Q E hr h => ?_)
  · obtain ⟨x, p, d, a, b, rfl, _⟩ := h
    rfl
  · obtain ⟨x, p, d, a, b, rfl, hS, hl, q1, q2, q3⟩ := h
    refine ⟨_, (pss_cons (ps_expr (pe_call G_check_world (hr.mono (by decide)) rfl g_check_world k_check_world b_check_world .nil (L2N.passes_call (L2N.takes_of rfl rfl rfl rfl) (fun _ _ _ _ h => h)) (pa_cons (pv 0) pa_nil)))
  (pss_cons (ps_asg (pv 0) (pg_tup rfl (pgs_cons (pg_name (i := 3) sc_number.nd rfl (.inl rfl)) (pgs_cons (pg_name (i := 4) sc_number.nd rfl (.inl rfl)) pgs_nil))))
  (pss_cons (ps_if (pw_or (pt_cmpR op_eq (pv 2) pe_int (nomark _)) (pw_or1 (pw_and (pt_cmpR op_gt (pv 3) pe_int (nomark _)) (pw_and1 (pt_cmpR op_eq (pe_op op_mod (pv 2) (pv 3)) pe_int (nomark _)))).pt)).pt (pss_one (L2N.ps_raise rfl (L2N.takes_of rfl rfl rfl rfl) (L2N.pmk_own PySem.F.excBase_ValueError x_BadNumber gc_BadNumber kc_BadNumber (raises_own bc_BadNumber tc_BadNumber) rfl))) pss_nil)
  (pss_cons (ps_if (pt_cmpR op_gt (pv 3) pe_int (nomark _)) (pss_one (ps_ret (pe_tup (pa_cons (pe_op op_mod (pe_op op_mul (pv 1) (pe_call G_inverse_ (hr.mono (by decide)) rfl g_inverse_ k_inverse_ b_inverse_ .nil pass0 (pa_cons (pv 3) (pa_cons (pv 2) pa_nil)))) (pv 3)) (pa_cons pe_int pa_nil))))) pss_nil)
  (pss_one (ps_ret (pe_call G_lowest_ (hr.mono (by decide)) rfl g_lowest_ k_lowest_ b_lowest_ .nil pass0 (pa_cons (pv 1) (pa_cons (pv 2) pa_nil)))))))))
    , ?_⟩
    refine ⟨_, rfl, x, p, d, rfl, hS, fun ew => ?_, q1⟩
    have r2 := q2 ew
    have r3 := q3 ew
    refine ⟨_, rfl, x, _, rfl, hS, rfl, _, _, rfl, _, _, rfl, rfl, ?_⟩
    by_cases hb0 : b = 0
    · refine ⟨_, rfl, rfl, _, rfl, ?_⟩
      rw [decide_eq_true (congrArg V.int hb0)]
      exact iteT (iteT (r2 (.inl hb0)))
    · refine ⟨_, rfl, rfl, _, rfl, ?_⟩
      rw [decide_eq_false (fun z => hb0 (V.int.inj z))]
      refine iteF ?_
      refine ⟨_, rfl, _, _, rfl, rfl, _, rfl, ?_⟩
      by_cases hp : 0 < p
      · have hpp := (isW_prime ew (by omega)).1
        have hp2 := prime_pos hpp
        rw [decide_eq_true hp]
        refine iteT ⟨_, rfl, _, rfl, b, p, rfl, rfl, hp, rfl, _, rfl, ?_⟩
        by_cases hm : b % p = 0
        · rw [decide_eq_true (congrArg V.int hm)]
          exact iteT (r2 (.inr ⟨hp, hm⟩))
        · rw [decide_eq_false (fun z => hm (V.int.inj z))]
          refine iteF ?_
          refine ⟨_, rfl, _, _, rfl, rfl, _, rfl, ?_⟩
          rw [decide_eq_true hp]
          refine iteT ?_
          refine ⟨_, rfl, _, rfl, _, rfl, p, b, rfl, hpp, hm, fun k k1 k2 ek => ?_⟩
          refine ⟨a, k, rfl, rfl, .inr ⟨by omega, by omega⟩, _, rfl, _, p, rfl, rfl, hp, (by show 2 ≤ sizeLine; decide), fun r nr => ?_⟩
          refine r3 (fun z => ?_) r _ 1 (.inl ⟨hp, rfl, Int.emod_nonneg _ (by omega), Int.emod_lt_of_pos _ hp, inv_solves hp ek (by omega)⟩) nr
          rcases z with z | z
          · exact hb0 z
          · exact hm z.2
      · rw [decide_eq_false hp]
        refine iteF (iteF ?_)
        refine ⟨_, rfl, _, _, rfl, rfl, _, rfl, ?_⟩
        rw [decide_eq_false hp]
        refine iteF ?_
        refine ⟨_, rfl, _, rfl, a, b, rfl, hb0, hl, fun r nr => ?_⟩
        refine r3 (fun z => ?_) r _ _ (.inr ⟨hp, rfl⟩) nr
        rcases z with z | z
        · exact hb0 z
        · exact hp z.1
end

section
variable {P : Program} {w : World} {K : PySem.W.Frag} {mg : Str → Option Value} {base : Heap}
/-! ### loop_worth -/
def spLoopWorth (K : PySem.W.Frag) (CW : Addr) : Sp := fun vs H Q E => ∃ (x : Addr) (p d : Int), vs = [.ref x] ∧ SqT K H x [.int p, .int d] ∧ (isW p d = false → E (.ref CW) none H) ∧ (isW p d = true → ∀ r, H r = none → Q (.ref r) (upd H r (.tup [.int d, .int 1])))
theorem ok_loop_worth {f CW a_check_world : Addr} {fd fd_check_world : FuncData} (F : Fun K "loop_worth" "loop_worth" s_loop_worth f fd)
    (G_check_world : FnOk P w K mg base (L2N.CX P w) 2 a_check_world fd_check_world ["world"] (spCheckWorld K CW)) (g_check_world : mg "check_world" = some (.ref a_check_world)) (k_check_world : PySem.W.keepIn K (.ref a_check_world) = true) (b_check_world : Binds K fd_check_world ["world"] []) :
    FnOk P w K mg base (L2N.CX P w) 3 f fd ["world"] (spLoopWorth K CW) := by
  refine F.okXN sc_loop_worth (fun vs H Q E h => ?_) (fun cdv A outer s H vs Q E hr h => ?_)
  · obtain ⟨x, p, d, rfl, _⟩ := h
    rfl
  · obtain ⟨x, p, d, rfl, hS, q1, q2⟩ := h
    refine ⟨_, (pss_cons (ps_expr (pe_call G_check_world (hr.mono (by decide)) rfl g_check_world k_check_world b_check_world .nil (L2N.passes_call (L2N.takes_of rfl rfl rfl rfl) (fun _ _ _ _ h => h)) (pa_cons (pv 0) pa_nil)))
  (pss_one (ps_ret (pe_tup (pa_cons (pe_ix ix_tup (pv 0) pe_int (fun _ _ => rfl)) (pa_cons pe_int pa_nil))))))
    , ?_⟩
    refine ⟨_, rfl, x, p, d, rfl, hS, fun ew => ?_, q1⟩
    exact ⟨_, rfl, x, _, 1, .int d, rfl, rfl, hS, atI_nat (j := 1) rfl, (by show 2 ≤ sizeLine; decide), fun r nr => q2 ew r nr⟩
end

section
variable {P : Program} {w : World} {K : PySem.W.Frag} {mg : Str → Option Value} {base : Heap}
/-! ### _check_two -/
def spCheckTwo (K : PySem.W.Frag) (CW CN : Addr) : Sp := fun vs H Q E => ∃ (x y z : Addr) (p d a b a' b' : Int), vs = [.ref x, .ref y, .ref z] ∧ SqT K H x [.int p, .int d] ∧ SqT K H y [.int a, .int b] ∧ SqT K H z [.int a', .int b'] ∧
  (isW p d = false → E (.ref CW) none H) ∧ (isW p d = true → (isN p a b = false ∨ isN p a' b' = false) → E (.ref CN) none H) ∧ (isW p d = true → isN p a b = true → isN p a' b' = true → Q .non H)
theorem ok_check_two {f CW CN a_check_number : Addr} {fd fd_check_number : FuncData} (F : Fun K "_check_two" "_check_two" s_check_two_ f fd)
    (G_check_number : FnOk P w K mg base (L2N.CX P w) 4 a_check_number fd_check_number ["world", "x"] (spCheckNumber K CW CN)) (g_check_number : mg "check_number" = some (.ref a_check_number)) (k_check_number : PySem.W.keepIn K (.ref a_check_number) = true) (b_check_number : Binds K fd_check_number ["world", "x"] []) :
    FnOk P w K mg base (L2N.CX P w) 5 f fd ["world", "x", "y"] (spCheckTwo K CW CN) := by
  refine F.okXN sc_check_two_ (fun vs H Q E h => ?_) (fun cdv A outer s H vs Q E hr h => ?_)
  · obtain ⟨x, y, z, p, d, a, b, a', b', rfl, _⟩ := h
    rfl
  · obtain ⟨x, y, z, p, d, a, b, a', b', rfl, hx, hy, hz, q1, q2, q3⟩ := h
    refine ⟨_, (pss_cons (ps_expr (pe_call G_check_number (hr.mono (by decide)) rfl g_check_number k_check_number b_check_number .nil (L2N.passes_call (L2N.takes_of rfl rfl rfl rfl) (fun _ _ _ _ h => h)) (pa_cons (pv 0) (pa_cons (pv 1) pa_nil))))
  (pss_one (ps_expr (pe_call G_check_number (hr.mono (by decide)) rfl g_check_number k_check_number b_check_number .nil (L2N.passes_call (L2N.takes_of rfl rfl rfl rfl) (fun _ _ _ _ h => h)) (pa_cons (pv 0) (pa_cons (pv 2) pa_nil)))))), ?_⟩
    refine ⟨_, rfl, _, rfl, x, y, p, d, a, b, rfl, hx, hy, fun ew en => ?_, fun ew en => q2 ew (.inl en), q1⟩
    exact ⟨_, rfl, _, rfl, x, z, p, d, a', b', rfl, hx, hz, fun ew en' => q3 ew en en', fun ew en' => q2 ew (.inr en'), q1⟩
end

def spOp (sw : Bool) (K : PySem.W.Frag) (CW CN CB : Addr) (fA fB : Int → Int → Int → Int → Int) : Sp := fun vs H Q E => ∃ (x y z : Addr) (p d a b a' b' : Int), vs = [.ref x, .ref y, .ref z] ∧ SqT K H x [.int p, .int d] ∧ SqT K H y [.int a, .int b] ∧ SqT K H z [.int a', .int b'] ∧
  (isW p d = false → E (.ref CW) none H) ∧ (isW p d = true → (isN p a b = false ∨ isN p a' b' = false) → E (.ref CN) none H) ∧
  (isW p d = true → isN p a b = true → isN p a' b' = true → (CMulW a (if sw = true then b' else a') ∧ CMulW b (if sw = true then a' else b') ∧ (fB a b a' b').natAbs < 1073741824) ∧
    (bad p (fB a b a' b') → E (.ref CB) none H) ∧ (¬ bad p (fB a b a' b') → ∀ r u v, IsNum p (fA a b a' b') (fB a b a' b') u v → H r = none → Q (.ref r) (upd H r (.tup [.int u, .int v]))))
def fPlusA : Int → Int → Int → Int → Int := fun a b a' b' => a * b' + a' * b
def fMinusA : Int → Int → Int → Int → Int := fun a b a' b' => a * b' - a' * b
def fTimesA : Int → Int → Int → Int → Int := fun a _ a' _ => a * a'
def fTimesB : Int → Int → Int → Int → Int := fun _ b _ b' => b * b'
def fOverA : Int → Int → Int → Int → Int := fun a _ _ b' => a * b'
def fOverB : Int → Int → Int → Int → Int := fun _ b a' _ => b * a'
theorem cm62 {a b : Int} (h : a.natAbs < 2 ^ 62) : CMul a b := .inl ⟨by omega, by omega⟩

section
variable {P : Program} {w : World} {K : PySem.W.Frag} {mg : Str → Option Value} {base : Heap}
/-! ### times -/
theorem ok_times {f CW CN CB a_check_two_ a_number : Addr} {fd fd_check_two_ fd_number : FuncData} (F : Fun K "times" "times" s_times f fd)
    (G_check_two_ : FnOk P w K mg base (L2N.CX P w) 5 a_check_two_ fd_check_two_ ["world", "x", "y"] (spCheckTwo K CW CN)) (g_check_two_ : mg "_check_two" = some (.ref a_check_two_)) (k_check_two_ : PySem.W.keepIn K (.ref a_check_two_) = true) (b_check_two_ : Binds K fd_check_two_ ["world", "x", "y"] [])
    (G_number : FnOk P w K mg base (L2N.CX P w) 3 a_number fd_number ["world", "a", "b"] (spNumber K CW CB)) (g_number : mg "number" = some (.ref a_number)) (k_number : PySem.W.keepIn K (.ref a_number) = true) (b_number : Binds K fd_number ["world", "a", "b"] []) :
    FnOk P w K mg base (L2N.CX P w) 6 f fd ["world", "x", "y"] (spOp false K CW CN CB fTimesA fTimesB) := by
  refine F.okXN sc_times (fun vs H Q E h => ?_) (fun cdv A outer s H vs Q E hr h => ?_)
  · obtain ⟨x, y, z, p, d, a, b, a', b', rfl, _⟩ := h
    rfl
  · obtain ⟨x, y, z, p, d, a, b, a', b', rfl, hx, hy, hz, q1, q2, q3⟩ := h
    have ya : atI [V.int a, V.int b] 0 = some (.int a) := atI_nat (j := 0) rfl
    have yb : atI [V.int a, V.int b] 1 = some (.int b) := atI_nat (j := 1) rfl
    have za : atI [V.int a', V.int b'] 0 = some (.int a') := atI_nat (j := 0) rfl
    have zb : atI [V.int a', V.int b'] 1 = some (.int b') := atI_nat (j := 1) rfl
    refine ⟨_, (pss_cons (ps_expr (pe_call G_check_two_ (hr.mono (by decide)) rfl g_check_two_ k_check_two_ b_check_two_ .nil (L2N.passes_call (L2N.takes_of rfl rfl rfl rfl) (fun _ _ _ _ h => h)) (pa_cons (pv 0) (pa_cons (pv 1) (pa_cons (pv 2) pa_nil)))))
  (pss_one (ps_ret (pe_call G_number (hr.mono (by decide)) rfl g_number k_number b_number .nil (L2N.passes_call (L2N.takes_of rfl rfl rfl rfl) (fun _ _ _ _ h => h)) (pa_cons (pv 0) (pa_cons (pe_op op_mulW (pe_ix ix_tup (pv 1) pe_int (fun _ _ => rfl)) (pe_ix ix_tup (pv 2) pe_int (fun _ _ => rfl))) (pa_cons (pe_op op_mulW (pe_ix ix_tup (pv 1) pe_int (fun _ _ => rfl)) (pe_ix ix_tup (pv 2) pe_int (fun _ _ => rfl))) pa_nil))))))), ?_⟩
    refine ⟨_, rfl, _, rfl, _, rfl, x, y, z, p, d, a, b, a', b', rfl, hx, hy, hz, q1, q2, fun ew en en' => ?_⟩
    obtain ⟨⟨b1, b2, b5⟩, qb, qn⟩ := q3 ew en en'
    exact ⟨_, rfl, _, rfl, y, _, 0, .int a, rfl, rfl, hy, ya, _, rfl, z, _, 0, .int a', rfl, rfl, hz, za, a, a', rfl, rfl, b1, _, rfl, y, _, 1, .int b, rfl, rfl, hy, yb, _, rfl, z, _, 1, .int b', rfl, rfl, hz, zb, b, b', rfl, rfl, b2, x, p, d, _, _, rfl, hx, b5, q1, fun _ => qb, fun _ => qn⟩
end

section
variable {P : Program} {w : World} {K : PySem.W.Frag} {mg : Str → Option Value} {base : Heap}
/-! ### over -/
theorem ok_over {f CW CN CB a_check_two_ a_number : Addr} {fd fd_check_two_ fd_number : FuncData} (F : Fun K "over" "over" s_over f fd)
    (G_check_two_ : FnOk P w K mg base (L2N.CX P w) 5 a_check_two_ fd_check_two_ ["world", "x", "y"] (spCheckTwo K CW CN)) (g_check_two_ : mg "_check_two" = some (.ref a_check_two_)) (k_check_two_ : PySem.W.keepIn K (.ref a_check_two_) = true) (b_check_two_ : Binds K fd_check_two_ ["world", "x", "y"] [])
    (G_number : FnOk P w K mg base (L2N.CX P w) 3 a_number fd_number ["world", "a", "b"] (spNumber K CW CB)) (g_number : mg "number" = some (.ref a_number)) (k_number : PySem.W.keepIn K (.ref a_number) = true) (b_number : Binds K fd_number ["world", "a", "b"] []) :
    FnOk P w K mg base (L2N.CX P w) 6 f fd ["world", "x", "y"] (spOp true K CW CN CB fOverA fOverB) := by
  refine F.okXN sc_over (fun vs H Q E h => ?_) (fun cdv A outer s H vs Q E hr h => ?_)
  · obtain ⟨x, y, z, p, d, a, b, a', b', rfl, _⟩ := h
    rfl
  · obtain ⟨x, y, z, p, d, a, b, a', b', rfl, hx, hy, hz, q1, q2, q3⟩ := h
    have ya : atI [V.int a, V.int b] 0 = some (.int a) := atI_nat (j := 0) rfl
    have yb : atI [V.int a, V.int b] 1 = some (.int b) := atI_nat (j := 1) rfl
    have za : atI [V.int a', V.int b'] 0 = some (.int a') := atI_nat (j := 0) rfl
    have zb : atI [V.int a', V.int b'] 1 = some (.int b') := atI_nat (j := 1) rfl
    refine ⟨_, (pss_cons (ps_expr (pe_call G_check_two_ (hr.mono (by decide)) rfl g_check_two_ k_check_two_ b_check_two_ .nil (L2N.passes_call (L2N.takes_of rfl rfl rfl rfl) (fun _ _ _ _ h => h)) (pa_cons (pv 0) (pa_cons (pv 1) (pa_cons (pv 2) pa_nil)))))
  (pss_one (ps_ret (pe_call G_number (hr.mono (by decide)) rfl g_number k_number b_number .nil (L2N.passes_call (L2N.takes_of rfl rfl rfl rfl) (fun _ _ _ _ h => h)) (pa_cons (pv 0) (pa_cons (pe_op op_mulW (pe_ix ix_tup (pv 1) pe_int (fun _ _ => rfl)) (pe_ix ix_tup (pv 2) pe_int (fun _ _ => rfl))) (pa_cons (pe_op op_mulW (pe_ix ix_tup (pv 1) pe_int (fun _ _ => rfl)) (pe_ix ix_tup (pv 2) pe_int (fun _ _ => rfl))) pa_nil))))))), ?_⟩
    refine ⟨_, rfl, _, rfl, _, rfl, x, y, z, p, d, a, b, a', b', rfl, hx, hy, hz, q1, q2, fun ew en en' => ?_⟩
    obtain ⟨⟨b1, b2, b5⟩, qb, qn⟩ := q3 ew en en'
    exact ⟨_, rfl, _, rfl, y, _, 0, .int a, rfl, rfl, hy, ya, _, rfl, z, _, 1, .int b', rfl, rfl, hz, zb, a, b', rfl, rfl, b1, _, rfl, y, _, 1, .int b, rfl, rfl, hy, yb, _, rfl, z, _, 0, .int a', rfl, rfl, hz, za, b, a', rfl, rfl, b2, x, p, d, _, _, rfl, hx, b5, q1, fun _ => qb, fun _ => qn⟩
end

theorem low_self {u v : Int} (hv : 0 < v) : (low u v = (u, v)) ↔ gI u v = 1 := by
  have hg := gI_pos (a := u) (b := v) (by omega)
  unfold low
  rw [if_neg (by omega)]
  constructor
  · intro h
    have h2 := congrArg Prod.snd h
    have h3 : v / gI u v = v := h2
    by_cases c : gI u v = 1
    · exact c
    · have : v / gI u v < v := Int.ediv_lt_of_lt_mul (by omega) (by
        have : v * 2 ≤ v * gI u v := Int.mul_le_mul_of_nonneg_left (by omega) (by omega)
        omega)
      omega
  · intro h
    rw [h, Int.ediv_one, Int.ediv_one]

theorem low_isN {a b : Int} (hb : b ≠ 0) : isN 0 (low a b).1 (low a b).2 = true := by
  obtain ⟨h1, h2⟩ := low_q (u := (low a b).1) (v := (low a b).2) hb rfl
  have e : low (low a b).1 (low a b).2 = low a b := by
    rw [low_rat (show (low a b).2 ≠ 0 by omega), h1, ← low_rat hb]
  unfold isN
  rw [if_pos rfl, if_pos (by omega)]
  exact decide_eq_true ((low_self h2).mp e)

section
variable {P : Program} {w : World} {K : PySem.W.Frag} {mg : Str → Option Value} {base : Heap}
/-! ### power -/
def spPower (K : PySem.W.Frag) (CW CN CB : Addr) : Sp := fun vs H Q E => ∃ (x y : Addr) (p d a b n : Int), vs = [.ref x, .ref y, .int n] ∧ SqT K H x [.int p, .int d] ∧ SqT K H y [.int a, .int b] ∧
  (isW p d = false → E (.ref CW) none H) ∧ (isW p d = true → isN p a b = false → E (.ref CN) none H) ∧ (isW p d = true → isN p a b = true → ¬ (0 ≤ n ∧ n ≤ 200) → E (.ref CB) none H) ∧
  (isW p d = true → isN p a b = true → 0 ≤ n → n ≤ 200 → b = 1 ∧ a.natAbs ≤ 45 ∧ (∀ r u v H', IsNum p (a ^ n.toNat) (b ^ n.toNat) u v → Same H H' → SqT K H' r [.int u, .int v] → Q (.ref r) H'))
theorem isN_pos {p a b : Int} (h : isN p a b = true) (hp : p = 0 ∨ p ∈ primes) : (p = 0 → 0 < b) ∧ (p ≠ 0 → b = 1 ∧ 0 ≤ a ∧ a < p) := by
  unfold isN at h
  constructor
  · intro c
    rw [if_pos c] at h
    by_cases e : 1 ≤ b
    · omega
    · rw [if_neg e] at h
      cases h
  · intro c
    rw [if_neg c] at h
    by_cases e : b = 1
    · rw [if_pos e] at h
      by_cases e2 : 0 ≤ a
      · rw [if_pos e2] at h
        exact ⟨e, e2, of_decide_eq_true h⟩
      · rw [if_neg e2] at h
        cases h
    · rw [if_neg e] at h
      cases h
theorem num_isN {p A B u v : Int} (hp : p = 0 ∨ p ∈ primes) (hB : p = 0 → B ≠ 0) (h : IsNum p A B u v) : isN p u v = true := by
  by_cases c : p = 0
  · obtain ⟨_, e⟩ := h.resolve_left (fun z => by omega)
    have := low_isN (a := A) (hB c)
    rw [← e] at this
    rw [c]
    exact this
  · have hp2 := prime_pos (hp.resolve_left c)
    obtain ⟨h0, e1, l1, u1, m1⟩ := h.resolve_right (fun z => by omega)
    unfold isN
    rw [if_neg c, if_pos e1, if_pos l1]
    exact decide_eq_true u1
theorem pow_45 {a : Int} {k : Nat} (ha : a.natAbs ≤ 45) (hk : k ≤ 200) : (a ^ k).natAbs ≤ 45 ^ 200 := by
  rw [Int.natAbs_pow]
  exact Nat.le_trans (Nat.pow_le_pow_left ha k) (Nat.pow_le_pow_right (by decide) hk)
theorem p45 : (45 : Nat) ^ 200 < 2 ^ 1200 := by decide +kernel
theorem low_1 (a : Int) : low a 1 = (a, 1) := by
  have g : gI a 1 = 1 := by
    unfold gI
    rw [show (1 : Int).natAbs = 1 from rfl, Nat.gcd_one_right]
    rfl
  unfold low
  rw [if_neg (by decide), g, Int.ediv_one]
  rfl
/-- what a power is: small enough, and with the denominator 1 -/
theorem num_45 {p a u v : Int} {k : Nat} (hp : p = 0 ∨ p ∈ primes) (ha : a.natAbs ≤ 45) (hk : k ≤ 200) (h : IsNum p (a ^ k) (1 ^ k) u v) : v = 1 ∧ u.natAbs ≤ 45 ^ 200 := by
  rcases h with ⟨h0, e1, l1, u1, m1⟩ | ⟨h0, e1⟩
  · have := prime_pos (hp.resolve_left (by omega))
    exact ⟨e1, Nat.le_trans (show u.natAbs ≤ 45 by omega) (by decide +kernel)⟩
  · rw [Int.one_pow, low_1] at e1
    obtain ⟨rfl, rfl⟩ := Prod.mk.inj e1
    exact ⟨rfl, pow_45 ha hk⟩
theorem cmul_45 {a b : Int} (ha : a.natAbs ≤ 45 ^ 200) (hb : b.natAbs ≤ 45 ^ 200) : CMulW a b :=
  wide_mul (Nat.lt_of_le_of_lt ha p45) (Nat.lt_of_le_of_lt hb p45) (by decide) (by decide) (by decide)
theorem ok_power {f CW CN CB aO a_check_number a_times : Addr} {fd fd_check_number fd_times : FuncData} {tm : Tok} (F : Fun K "power" "power" s_power f fd) (T : ErrC K mg "BadNumber" CB) (z_range : mg "range" = none) (m_MOST_POWER : mg "MOST_POWER" = some (.int 200 tm)) (m_ONE : mg "ONE" = some (.ref aO)) (tO : ∀ H, SqT K H aO [.int 1, .int 1])
    (G_check_number : FnOk P w K mg base (L2N.CX P w) 4 a_check_number fd_check_number ["world", "x"] (spCheckNumber K CW CN)) (g_check_number : mg "check_number" = some (.ref a_check_number)) (k_check_number : PySem.W.keepIn K (.ref a_check_number) = true) (b_check_number : Binds K fd_check_number ["world", "x"] [])
    (G_times : FnOk P w K mg base (L2N.CX P w) 6 a_times fd_times ["world", "x", "y"] (spOp false K CW CN CB fTimesA fTimesB)) (g_times : mg "times" = some (.ref a_times)) (k_times : PySem.W.keepIn K (.ref a_times) = true) (b_times : Binds K fd_times ["world", "x", "y"] []) :
    FnOk P w K mg base (L2N.CX P w) 7 f fd ["world", "x", "count"] (spPower K CW CN CB) := by
  obtain ⟨gc_BadNumber, x_BadNumber, kc_BadNumber, bc_BadNumber, tc_BadNumber⟩ := T
  have r_MOST_POWER : RelV (.int 200) (.int 200 tm) := ⟨_, rfl⟩
  have r_ONE : RelV (.ref aO) (.ref aO) := rfl
  refine F.okXN sc_power (fun vs H Q E h => ?_) (fun cdv A outer s H vs Q E hr h => ?_)
  · obtain ⟨x, y, p, d, a, b, n, rfl, _⟩ := h
    rfl
  · obtain ⟨x, y, p, d, a, b, n, rfl, hx, hy, q1, q2, q3, q4⟩ := h
    refine ⟨_, (pss_cons (ps_expr (pe_call G_check_number (hr.mono (by decide)) rfl g_check_number k_check_number b_check_number .nil (L2N.passes_call (L2N.takes_of rfl rfl rfl rfl) (fun _ _ _ _ h => h)) (pa_cons (pv 0) (pa_cons (pv 1) pa_nil))))
  (pss_cons (ps_if (pt_not (pt_chain op_le op_le pe_int (pv 2) (pe_glob rfl m_MOST_POWER r_MOST_POWER))) (pss_one (L2N.ps_raise rfl (L2N.takes_of rfl rfl rfl rfl) (L2N.pmk_own PySem.F.excBase_ValueError x_BadNumber gc_BadNumber kc_BadNumber (raises_own bc_BadNumber tc_BadNumber) rfl))) pss_nil)
  (pss_cons (ps_set (i := 3) sc_power.nd rfl (.inl rfl) (pe_glob rfl m_ONE r_ONE))
  (pss_cons (ps_for (passes_of rfl) rfl (pi_range1 rfl z_range (pa_cons (pv 2) pa_nil)) (pg_name (i := 4) sc_power.nd rfl (.inl rfl)) (pss_one (ps_set (i := 3) sc_power.nd rfl (.inl rfl) (pe_call G_times (hr.mono (by decide)) rfl g_times k_times b_times .nil (L2N.passes_call (L2N.takes_of rfl rfl rfl rfl) (fun _ _ _ _ h => h)) (pa_cons (pv 0) (pa_cons (pv 3) (pa_cons (pv 1) pa_nil)))))))
  (pss_one (ps_ret (pv 3))))))), ?_⟩
    refine ⟨_, rfl, _, rfl, x, y, p, d, a, b, rfl, hx, hy, fun ew en => ?_, q2, q1⟩
    refine ⟨_, rfl, 0, n, rfl, rfl, _, rfl, ite2 (fun e => ?_) (fun e => ?_)⟩
    · have n0 : 0 ≤ n := of_decide_eq_true e
      refine ⟨n, 200, rfl, rfl, _, rfl, ?_⟩
      by_cases n1 : n ≤ 200
      · rw [decide_eq_true n1]
        refine iteF ?_
        obtain ⟨sb, sa, q⟩ := q4 ew en n0 n1
        obtain ⟨hp, _⟩ := isW_cases ew
        obtain ⟨pz, pn⟩ := isN_pos en hp
        refine ⟨_, rfl, n, rfl, by omega, by omega, for_range (lo := 0) (n := n.toNat) (fun i σ H' => ∃ (r : Addr) (u v : Int) (v4 : Option V), σ = [some (.ref x), some (.ref y), some (.int n), some (.ref r), v4] ∧ Same H H' ∧ SqT K H' r [.int u, .int v] ∧ IsNum p (a ^ i) (b ^ i) u v)
          ⟨aO, 1, 1, none, rfl, Same.refl _, tO _, ?_⟩ ?_ ?_⟩
        · by_cases c : p = 0
          · exact .inr ⟨by omega, by rw [Int.pow_zero, Int.pow_zero]; rfl⟩
          · have := prime_pos (hp.resolve_left c)
            exact .inl ⟨by omega, rfl, by decide, by omega, by rw [Int.pow_zero, Int.pow_zero, show (1 : Int) * 1 - 1 = 0 by decide]; exact Int.zero_emod p⟩
        · rintro i σ H' hi ⟨r, u, v, v4, rfl, sm, hr', hn⟩
          have hB : p = 0 → b ^ i ≠ 0 := fun c => Int.pow_ne_zero (by have := pz c; omega)
          have hn1 := hn
          rw [sb] at hn1
          obtain ⟨sv, su⟩ := num_45 hp sa (by omega) hn1
          have hbn : ¬ bad p (fTimesB u v a b) := fun z => by
            rcases z with z | ⟨z1, z2⟩
            · by_cases c : p = 0
              · have := pz c
                have e := (hn.resolve_left (fun z => by omega)).2
                have := (low_cross (hB c) e).2
                exact absurd z (Int.mul_ne_zero (by omega) (by omega))
              · have := (hn.resolve_right (fun z => by have := prime_pos (hp.resolve_left c); omega)).2.1
                rw [show fTimesB u v a b = v * b from rfl, this, (pn c).1] at z
                cases z
            · have c : p ≠ 0 := by omega
              have := (hn.resolve_right (fun z => by omega)).2.1
              rw [show fTimesB u v a b = v * b from rfl, this, (pn c).1, Int.emod_eq_of_lt (by decide) (by have := prime_pos (hp.resolve_left c); omega)] at z2
              cases z2
          have hvb : (fTimesB u v a b).natAbs < 1073741824 := by
            show (v * b).natAbs < _
            rw [sv, sb]
            decide
          refine ⟨_, rfl, _, rfl, _, rfl, x, r, y, p, d, u, v, a, b, rfl, sqT_same sm hx, hr', sqT_same sm hy, fun z => ?_, fun _ z => ?_, fun _ _ _ => ⟨⟨(show CMulW u a from cmul_45 su (Nat.le_trans sa (by decide +kernel))), (show CMulW v b from cmul_45 (by rw [sv]; decide +kernel) (by rw [sb]; decide +kernel)), hvb⟩, fun z => absurd z hbn, fun _ r' u' v' hn' nr' => ?_⟩⟩
          · rw [ew] at z
            exact nomatch z
          · rcases z with z | z
            · rw [num_isN hp hB hn] at z
              exact nomatch z
            · rw [en] at z
              exact nomatch z
          · refine ⟨r', u', v', some (.int (0 + (i : Int))), rfl, Same.trans sm (same_upd nr'), .inl (.inl upd_same), ?_⟩
            rw [Int.pow_succ, Int.pow_succ]
            exact num_step hp hB (fun c => by have := pz c; omega) (fun c => (pn c).1) (fun c => by rw [(pn c).1, Int.one_pow]) hn hn'
        · rintro σ H' ⟨r, u, v, v4, rfl, sm, hr', hn⟩
          exact ⟨_, rfl, q r u v H' hn sm hr'⟩
      · rw [decide_eq_false n1]
        exact iteT (q3 ew en (fun z => n1 z.2))
    · exact ⟨_, rfl, iteT (q3 ew en (fun z => e (decide_eq_true z.1)))⟩
end

def iT (i : Int) : Str := Str.ofString (toString i)
def intTx (k : Int) : Str := (if decide (k < 0) = true then ("-" : Str) else ("" : Str)) ++ Txt.join "" [iT (k.natAbs : Int)]
def numTx (a b : Int) : Str := if b = 1 then intTx a else intTx a ++ ("/" : Str) ++ intTx b
def c60 : Int := 1000000000000000000000000000000000000000000000000000000000000
theorem iT_len {n : Nat} (h : n < 10 ^ 60) : (iT (n : Int)).length ≤ 60 := by
  show (Str.ofString (toString ((n : Nat) : Int))).length ≤ 60
  rw [TL.len_tl, TL.tl_num]
  exact TL.numL_len (by decide) h
theorem log60 {i : Int} (h : i.natAbs < 10 ^ 60) : i.natAbs.log2 < 1920 := by
  by_cases c : i.natAbs = 0
  · rw [c]
    decide
  · exact Nat.lt_of_lt_of_le ((Nat.log2_lt c).mpr (Nat.lt_trans h (by decide : (10 : Nat) ^ 60 < 2 ^ 200))) (by decide)
theorem len_cat (x y : Str) : (x ++ y).length = x.length + y.length := by
  rw [TL.len_tl, TL.len_tl, TL.len_tl, TL.tl_append, List.length_append]
theorem join1 (x : Str) : Txt.join "" [x] = x := by
  have e := SX.join_S [] [x.cps.toList]
  have s : (SX.S x.cps.toList) = x := SX.S_tl x
  rw [show ([x.cps.toList].map SX.S) = [x] by show [SX.S x.cps.toList] = [x]; rw [s]] at e
  rw [show ("" : Str) = SX.S [] by decide +kernel, e]
  show SX.S _ = x
  conv => rhs; rw [← s]
  congr 1
theorem intTx_len {k : Int} (h : k.natAbs < 10 ^ 60) : (intTx k).length ≤ 61 := by
  unfold intTx
  rw [join1, len_cat]
  have := iT_len h
  split
  · have : ("-" : Str).length = 1 := by decide +kernel
    omega
  · have : ("" : Str).length = 0 := by decide +kernel
    omega
section
variable {P : Program} {w : World} {K : PySem.W.Frag} {mg : Str → Option Value} {base : Heap}
/-! ### _integer_text -/
def spIntText : Sp := fun vs H Q _ => ∃ k : Int, vs = [.int k] ∧ k.natAbs < 10 ^ 60 ∧ ∀ H', Same H H' → Q (.str (intTx k)) H'
theorem ok_integer_text_ {f : Addr} {fd : FuncData} {tc tf : Tok} (F : Fun K "_integer_text" "_integer_text" s_integer_text_ f fd) (z_abs : mg "abs" = none) (z_str : mg "str" = none) (z_divmod : mg "divmod" = none)
    (m_CHUNK : mg "CHUNK" = some (.int c60 tc)) (m_CHUNK_FIGURES : mg "CHUNK_FIGURES" = some (.int 60 tf)) : FnOk P w K mg base CX0 1 f fd ["k"] spIntText := by
  have r_CHUNK : RelV (.int c60) (.int c60 tc) := ⟨_, rfl⟩
  have r_CHUNK_FIGURES : RelV (.int 60) (.int 60 tf) := ⟨_, rfl⟩
  refine F.ok sc_integer_text_ (fun vs H Q E h => ?_) (fun cdv A outer s H vs Q E hr h => ?_)
  · obtain ⟨k, rfl, _⟩ := h
    rfl
  · obtain ⟨k, rfl, hk, q⟩ := h
    have lk := iT_len hk
    refine ⟨_, (pss_cons (ps_set (i := 1) sc_integer_text_.nd rfl (.inl rfl) (pe_callB call_abs (by rfl) z_abs boot_abs (pa_cons (pv 0) pa_nil)))
  (pss_cons (ps_set (i := 2) sc_integer_text_.nd rfl (.inl rfl) (pe_lst pa_nil))
  (pss_cons (ps_while PassesOwn.never (pt_cmpR op_ge (pv 1) (pe_glob rfl m_CHUNK r_CHUNK) (nomark _)) (pss_cons (ps_asg (pe_callB call_divmod (by rfl) z_divmod boot_divmod (pa_cons (pv 1) (pa_cons (pe_glob rfl m_CHUNK r_CHUNK) pa_nil))) (pg_tup rfl (pgs_cons (pg_name (i := 1) sc_integer_text_.nd rfl (.inl rfl)) (pgs_cons (pg_name (i := 3) sc_integer_text_.nd rfl (.inl rfl)) pgs_nil))))
  (pss_one (ps_expr (pe_bm PySem.F.plainAttrs_list PySem.F.slot_list_append PySem.F.type_list_append mt_append (pv 2) (pa_cons (pe_bm PySem.F.plainAttrs_str PySem.F.slot_str_zfill PySem.F.type_str_zfill mt_zfill (pe_callTy call_str_int (by rfl) z_str boot_str (pa_cons (pv 3) pa_nil)) (pa_cons (pe_glob rfl m_CHUNK_FIGURES r_CHUNK_FIGURES) pa_nil)) pa_nil))))))
  (pss_cons (ps_expr (pe_bm PySem.F.plainAttrs_list PySem.F.slot_list_append PySem.F.type_list_append mt_append (pv 2) (pa_cons (pe_callTy call_str_int (by rfl) z_str boot_str (pa_cons (pv 1) pa_nil)) pa_nil)))
  (pss_cons (ps_set (i := 4) sc_integer_text_.nd rfl (.inl rfl) (pe_ifExp (pt_cmpR op_lt (pv 0) pe_int (nomark _)) pe_str pe_str))
  (pss_one (ps_ret (pe_op op_add_str (pv 4) (pe_join pe_str (pe_revL (pv 2))))))))))), ?_⟩
    refine ⟨_, rfl, k, rfl, ?_⟩
    rw [show (if k < 0 then -k else k) = (k.natAbs : Int) by omega]
    refine ⟨(by show 0 ≤ sizeLine; decide), fun l nl => ?_⟩
    refine ⟨fun m σ H' => σ = [some (.int k), some (.int k.natAbs), some (.ref l), none, none] ∧ H' = upd H l (.lst []), ⟨0, rfl, rfl⟩, ?_⟩
    rintro m σ H' ⟨rfl, rfl⟩
    refine ⟨_, rfl, _, _, rfl, rfl, _, rfl, ?_⟩
    have cn : ¬ (k.natAbs : Int) ≥ c60 := by
      have e : c60 = ((10 ^ 60 : Nat) : Int) := by decide
      rw [e]
      omega
    rw [decide_eq_false cn]
    refine iteF ?_
    refine ⟨_, rfl, .inl ⟨rfl, _, .inl (.inl upd_same)⟩, _, rfl, k.natAbs, rfl, log60 hk, l, [], _, rfl, rfl, upd_same, (by show 0 < sizeLine; decide), ?_⟩
    refine ⟨_, rfl, k, 0, rfl, rfl, _, rfl, ?_⟩
    have nn : Same H (upd (upd H l (.lst [])) l (.lst ([] ++ [.str (iT (k.natAbs : Int))]))) := Same.mut (same_upd nl) nl
    have hl : upd (upd H l (.lst [])) l (.lst ([] ++ [V.str (iT (k.natAbs : Int))])) l = some (.lst [.str (iT (k.natAbs : Int))]) := upd_same
    have e0 : ("" : Str).length = 0 := by decide +kernel
    have e1 : ("-" : Str).length = 1 := by decide +kernel
    have jl : (Txt.join ("" : Str) [iT (k.natAbs : Int)]).length ≤ 60 := by rw [join1]; exact lk
    have szl : 100 ≤ sizeLine := by decide
    refine ite2 (fun e => ?_) (fun e => ?_)
    · refine ⟨_, rfl, ⟨_, rfl⟩, _, rfl, l, _, rfl, .inl (.inl hl), fun p np => ⟨_, p, [iT (k.natAbs : Int)], rfl, rfl, .inl (.inl (.inl upd_same)), ?_, _, _, rfl, rfl, ?_, ?_⟩⟩
      · show (iT (k.natAbs : Int)).length + 0 + 1 * ("" : Str).length ≤ 16777216
        omega
      · omega
      · have := q _ (Same.trans nn (same_upd (o := .lst [V.str (iT (k.natAbs : Int))].reverse) np))
        unfold intTx at this
        rw [e, if_pos rfl] at this
        exact this
    · refine ⟨_, rfl, ⟨_, rfl⟩, _, rfl, l, _, rfl, .inl (.inl hl), fun p np => ⟨_, p, [iT (k.natAbs : Int)], rfl, rfl, .inl (.inl (.inl upd_same)), ?_, _, _, rfl, rfl, ?_, ?_⟩⟩
      · show (iT (k.natAbs : Int)).length + 0 + 1 * ("" : Str).length ≤ 16777216
        omega
      · omega
      · have := q _ (Same.trans nn (same_upd (o := .lst [V.str (iT (k.natAbs : Int))].reverse) np))
        unfold intTx at this
        rw [if_neg e] at this
        exact this
end

section
variable {P : Program} {w : World} {K : PySem.W.Frag} {mg : Str → Option Value} {base : Heap}
/-! ### number_text -/
def spNumText (K : PySem.W.Frag) (CW CN : Addr) : Sp := fun vs H Q E => ∃ (x y : Addr) (p d a b : Int), vs = [.ref x, .ref y] ∧ SqT K H x [.int p, .int d] ∧ SqT K H y [.int a, .int b] ∧
  (isW p d = false → E (.ref CW) none H) ∧ (isW p d = true → isN p a b = false → E (.ref CN) none H) ∧ (isW p d = true → isN p a b = true → a.natAbs < 10 ^ 60 ∧ b.natAbs < 10 ^ 60 ∧ ∀ H', Same H H' → Q (.str (numTx a b)) H')
theorem ok_number_text {f CW CN a_check_number a_integer_text_ : Addr} {fd fd_check_number fd_integer_text_ : FuncData} (F : Fun K "number_text" "number_text" s_number_text f fd)
    (G_check_number : FnOk P w K mg base (L2N.CX P w) 4 a_check_number fd_check_number ["world", "x"] (spCheckNumber K CW CN)) (g_check_number : mg "check_number" = some (.ref a_check_number)) (k_check_number : PySem.W.keepIn K (.ref a_check_number) = true) (b_check_number : Binds K fd_check_number ["world", "x"] [])
    (G_integer_text_ : FnOk P w K mg base CX0 1 a_integer_text_ fd_integer_text_ ["k"] spIntText) (g_integer_text_ : mg "_integer_text" = some (.ref a_integer_text_)) (k_integer_text_ : PySem.W.keepIn K (.ref a_integer_text_) = true) (b_integer_text_ : Binds K fd_integer_text_ ["k"] []) :
    FnOk P w K mg base (L2N.CX P w) 5 f fd ["world", "x"] (spNumText K CW CN) := by
  refine F.okXN sc_number_text (fun vs H Q E h => ?_) (fun cdv A outer s H vs Q E hr h => ?_)
  · obtain ⟨x, y, p, d, a, b, rfl, _⟩ := h
    rfl
  · obtain ⟨x, y, p, d, a, b, rfl, hx, hy, q1, q2, q3⟩ := h
    refine ⟨_, (pss_cons (ps_expr (pe_call G_check_number (hr.mono (by decide)) rfl g_check_number k_check_number b_check_number .nil (L2N.passes_call (L2N.takes_of rfl rfl rfl rfl) (fun _ _ _ _ h => h)) (pa_cons (pv 0) (pa_cons (pv 1) pa_nil))))
  (pss_cons (ps_asg (pv 1) (pg_tup rfl (pgs_cons (pg_name (i := 2) sc_number_text.nd rfl (.inl rfl)) (pgs_cons (pg_name (i := 3) sc_number_text.nd rfl (.inl rfl)) pgs_nil))))
  (pss_cons (ps_if (pt_cmpR op_eq (pv 3) pe_int (nomark _)) (pss_one (ps_ret (pe_call G_integer_text_ (hr.mono (by decide)) rfl g_integer_text_ k_integer_text_ b_integer_text_ .nil pass0 (pa_cons (pv 2) pa_nil)))) pss_nil)
  (pss_one (ps_ret (pe_op op_add_str (pe_op op_add_str (pe_call G_integer_text_ (hr.mono (by decide)) rfl g_integer_text_ k_integer_text_ b_integer_text_ .nil pass0 (pa_cons (pv 2) pa_nil)) pe_str) (pe_call G_integer_text_ (hr.mono (by decide)) rfl g_integer_text_ k_integer_text_ b_integer_text_ .nil pass0 (pa_cons (pv 3) pa_nil)))))))), ?_⟩
    refine ⟨_, rfl, _, rfl, x, y, p, d, a, b, rfl, hx, hy, fun ew en => ?_, q2, q1⟩
    obtain ⟨la, lb, q⟩ := q3 ew en
    refine ⟨_, rfl, y, _, rfl, hy, rfl, _, _, rfl, _, _, rfl, rfl, ?_⟩
    refine ⟨_, rfl, rfl, _, rfl, ?_⟩
    have szl : 200 ≤ sizeLine := by decide
    have e1 : ("/" : Str).length = 1 := by decide +kernel
    have la2 := intTx_len la
    have lb2 := intTx_len lb
    by_cases c : b = 1
    · rw [decide_eq_true (congrArg V.int c)]
      refine iteT ⟨_, rfl, a, rfl, la, fun H' sm => ?_⟩
      have := q H' sm
      unfold numTx at this
      rw [if_pos c] at this
      exact this
    · rw [decide_eq_false (fun z => c (V.int.inj z))]
      refine iteF ⟨_, rfl, a, rfl, la, fun H1 s1 => ⟨_, _, rfl, rfl, by omega, _, rfl, b, rfl, lb, fun H2 s2 => ⟨_, _, rfl, rfl, by rw [len_cat]; omega, ?_⟩⟩⟩
      have := q H2 (Same.trans s1 s2)
      unfold numTx at this
      rw [if_neg c] at this
      exact this
end

def shortW (w : Str) : Bool := if Txt.isascii (Txt.removeprefix w "-") = true then (if Txt.isdigit (Txt.removeprefix w "-") = true then decide (((Txt.removeprefix w "-").length : Int) ≤ 60) else false) else false
theorem rp_len (x y : Str) : (Txt.removeprefix x y).length ≤ x.length := by
  unfold Txt.removeprefix Txt.affix
  split
  · rename_i lo hi h
    split
    · exact Nat.le_refl _
    · show (x.cps.extract lo hi).size ≤ x.cps.size
      rw [Array.size_extract]
      omega
  · exact Nat.le_refl _

/-! ### Malformed(at): the class with its own __init__ -/
section
variable {P : Program} {w : World} {K : PySem.W.Frag} {mg : Str → Option Value} {base : Heap}
def spInitM (K : PySem.W.Frag) : Sp := fun vs H Q _ => ∃ (a C : Addr) (v : V), vs = [.ref a, v] ∧ OexC K C ∧ PySem.W.findIn K (.ref C) "at" = some none ∧ H a = some (exo a C none) ∧
  ∀ dx, H dx = none → dx ≠ a → Q .non (upd (upd H dx (exd dx [(("at" : Str), v)])) a (exo a C (some dx)))
theorem ok_Malformed_init {f : Addr} {fd : FuncData} (F : Fun K "__init__" "Malformed.__init__" s_Malformed_init f fd) : FnOk P w K mg base CX0 1 f fd ["self", "at"] (spInitM K) := by
  refine F.ok sc_Malformed_init (fun vs H Q E h => ?_) (fun cdv A outer s H vs Q E hr h => ?_)
  · obtain ⟨a, C, v, rfl, _⟩ := h
    rfl
  · obtain ⟨a, C, v, rfl, T, hn, ha, q⟩ := h
    refine ⟨_, pss_one (ps_ost (pv 0) (pv 1)), ?_⟩
    exact ⟨_, rfl, _, rfl, a, C, rfl, T, hn, .inl ⟨ha, fun dx nd ne => q dx nd ne⟩⟩
/-- what is known of the class -/
structure MalC (K : PySem.W.Frag) (mg : Str → Option Value) (C fI : Addr) : Prop where
  gc : mg "Malformed" = some (.ref C)
  T : OexC K C
  na : PySem.W.findIn K (.ref C) "at" = some none
  iC : PySem.W.findIn K (.ref C) "__init__" = some (some (.ref fI))
  tI : PySem.W.typeIn K (.ref fI) = some (.type "function")
theorem mal_made {C : Addr} {v : V} {H : Hp} {E : XK} (T : OexC K C) (hn : PySem.W.findIn K (.ref C) "at" = some none) (q : ∀ d H', Same H H' → H d = none → H' d = some (.xd [(("at" : Str), v)]) → E (.ref C) (some d) H') :
    ([v] : List V).length ≤ 1000 ∧ ∀ a, H a = none → spInitM K (.ref a :: ([v] ++ [])) (upd H a (exo a C none))
      (fun u H2 => u = .non ∧ ∃ (d : Addr) (fs : List (Str × V)), H2 a = some (exo a C (some d)) ∧ H2 d = some (exd d fs) ∧ H d = none ∧ E (.ref C) (some d) (upd (del H2 a) d (.xd fs))) (fun _ _ _ => False) := by
  refine ⟨(by show 1 ≤ 1000; decide), fun a na => ⟨a, C, v, rfl, T, hn, upd_same, fun dx nd ne => ⟨rfl, dx, [(("at" : Str), v)], upd_same, ?_, ?_, ?_⟩⟩⟩
  · rw [upd_ne ne, upd_same]
  · rwa [upd_ne ne] at nd
  · have nd2 : H dx = none := by rwa [upd_ne ne] at nd
    refine q dx _ (fun b o hb => ?_) nd2 upd_same
    have b1 : b ≠ dx := ne_of_none hb nd2
    have b2 : b ≠ a := ne_of_none hb na
    rw [upd_ne b1, del_ne b2, upd_ne b2, upd_ne b1, upd_ne b2]
    exact hb
end

open PySem.StrLaws PySem.Builtin PySem.Builtin.Str in
theorem sw_minus {x : Str} : Txt.startswith x "-" = true ↔ ∃ l, x.cps.toList = 45 :: l := by
  have e : ("-" : Str).cps = #[45] := by decide +kernel
  unfold Txt.startswith subAt
  rw [Bool.and_eq_true, decide_eq_true_iff, beq_iff_eq, show ("-" : Str).length = 1 by decide +kernel, e]
  constructor
  · rintro ⟨h, g⟩
    have := congrArg Array.toList g
    rw [Array.toList_extract] at this
    cases c : x.cps.toList with
    | nil =>
      rw [c] at this
      simp [List.extract] at this
    | cons a l =>
      rw [c] at this
      simp [List.extract] at this
      exact ⟨l, by rw [this]⟩
  · rintro ⟨l, h⟩
    have hl : x.length = (45 :: l).length := by rw [← h]; simp [Str.length]
    refine ⟨by rw [hl, List.length_cons]; omega, ?_⟩
    refine Array.toList_inj.mp ?_
    rw [Array.toList_extract, h]
    simp [List.extract]
theorem rp_minus {x : Str} {l : List Nat} (h : x.cps.toList = 45 :: l) : (Txt.removeprefix x "-").cps.toList = l := by
  have e := sw_minus.mpr ⟨l, h⟩
  unfold Txt.startswith at e
  rw [PySem.StrLaws.removeprefix_eq, if_pos e, h, show ("-" : Str).length = 1 by decide +kernel]
  have hl : x.length = (45 :: l).length := by rw [← h]; simp [Str.length]
  show (List.drop 1 (45 :: l)).take (x.length - 1) = l
  rw [hl, List.length_cons, List.drop_succ_cons, List.drop_zero, Nat.add_sub_cancel, List.take_length]
theorem rp_none {x : Str} (h : Txt.startswith x "-" = false) : Txt.removeprefix x "-" = x := by
  unfold Txt.startswith at h
  rw [PySem.StrLaws.removeprefix_eq, if_neg (by rw [h]; exact Bool.false_ne_true)]
/-- the figures of a word -/
abbrev figs (x : Str) : List Nat := (Txt.removeprefix x "-").cps.toList
def intW (x : Str) : Bool := if Txt.isascii (Txt.removeprefix x "-") = true then Txt.isdigit (Txt.removeprefix x "-") else false
theorem dig_range : ∀ c, c < 128 → Unicode.isDigit c = true → 48 ≤ c ∧ c ≤ 57 := by decide +kernel
theorem intW_figs {x : Str} (h : intW x = true) : PySem.NumText.AllDigits (figs x) ∧ figs x ≠ [] := by
  unfold intW at h
  by_cases c : Txt.isascii (Txt.removeprefix x "-") = true
  · rw [if_pos c] at h
    unfold Txt.isascii at c
    unfold Txt.isdigit at h
    rw [← Array.all_toList, List.all_eq_true] at c
    rw [Bool.and_eq_true, ← Array.all_toList, List.all_eq_true, decide_eq_true_iff] at h
    refine ⟨fun k hk => dig_range k (of_decide_eq_true (c k hk)) (h.2 k hk), fun z => ?_⟩
    have h1 := h.1
    have : (Txt.removeprefix x "-").length = (figs x).length := by simp [Str.length]
    rw [this, z] at h1
    exact absurd h1 (by decide)
  · rw [if_neg c] at h
    exact nomatch h
theorem figs_len (x : Str) : (Txt.removeprefix x "-").length = (figs x).length := by simp [Str.length]
theorem shortW_int (x : Str) : shortW x = (intW x && decide (((figs x).length : Int) ≤ 60)) := by
  unfold shortW intW
  rw [figs_len]
  by_cases c : Txt.isascii (Txt.removeprefix x "-") = true
  · rw [if_pos c, if_pos c]
    by_cases d : Txt.isdigit (Txt.removeprefix x "-") = true
    · rw [if_pos d, d]
      rfl
    · rw [if_neg d, Bool.not_eq_true _ |>.mp d]
      rfl
  · rw [if_neg c, if_neg c]
    rfl
/-- the integer of a word, from its figures -/
def valW (x : Str) : Int := if Txt.startswith x "-" = true then -((PySem.NumText.digitsVal (figs x) : Nat) : Int) else ((PySem.NumText.digitsVal (figs x) : Nat) : Int)
theorem valW_int {x : Str} (h : intW x = true) (hl : x.length ≤ 4300) : intText? x = some (valW x) := by
  obtain ⟨ad, ne⟩ := intW_figs h
  unfold valW
  by_cases c : Txt.startswith x "-" = true
  · obtain ⟨l, e⟩ := sw_minus.mp c
    have ef : figs x = l := rp_minus e
    rw [if_pos c, ef]
    rw [ef] at ad ne
    exact PySem.intText_neg e ad ne hl
  · rw [if_neg c]
    have ef := rp_none (Bool.not_eq_true _ |>.mp c)
    unfold figs at ad ne ⊢
    rw [ef] at ad ne ⊢
    exact PySem.intText_digits ad ne hl
theorem rg_none (N : Nat) (h : N ≤ 60) : RgC (N : Int) (N : Int) 60 0 := by
  have : ∀ k, k < 61 → (Builtin.Range.small ((k : Nat) : Int) ((k : Nat) : Int) 60 = true ∧ Builtin.Range.rangeSize ((k : Nat) : Int) ((k : Nat) : Int) 60 = ((0 : Nat) : Int)) := by decide +kernel
  exact ⟨by decide, by decide, this N (by omega)⟩
theorem rg_one : RgC 0 60 60 1 := ⟨by decide, by decide, by decide +kernel, by decide +kernel⟩
theorem cut_to {g : Str} {N : Nat} (h : g.length = N) : cutS g none (some (N : Int)) = g := by
  have e : g.cps.toList.length = N := by rw [← h]; simp [Str.length]
  unfold cutS
  rw [HT.sIx_none, HT.sIx_nat, List.drop_zero, Nat.sub_zero, h, Nat.min_self, ← e, List.take_length]
theorem cut_none (g : Str) : cutS g none (some 0) = "" := by
  have e := HT.sIx_nat g.length g.length 0
  unfold cutS
  rw [HT.sIx_none, show (some (0 : Int)) = some ((0 : Nat) : Int) from rfl, e]
  rfl
theorem cut_ft {g : Str} {N : Nat} (h : g.length = N) : cutS g (some 0) (some (N : Int)) = g := by
  have e : g.cps.toList.length = N := by rw [← h]; simp [Str.length]
  have e2 := HT.sIx_nat g.length 0 0
  unfold cutS
  rw [show (some (0 : Int)) = some ((0 : Nat) : Int) from rfl, e2, HT.sIx_nat]
  show (⟨((g.cps.toList.drop (min 0 g.length)).take (min N g.length - min 0 g.length)).toArray⟩ : Str) = g
  rw [Nat.zero_min, List.drop_zero, Nat.sub_zero, h, Nat.min_self, ← e, List.take_length]
theorem zero_fig {g : Str} (ad : PySem.NumText.AllDigits g.cps.toList) (hl : g.length ≤ 4000) : intText? (("0" : Str) ++ g) = some ((PySem.NumText.digitsVal g.cps.toList : Nat) : Int) := by
  have e : (("0" : Str) ++ g).cps.toList = 48 :: g.cps.toList := by
    rw [Str.cps_append, Array.toList_append]
    rfl
  have := PySem.intText_digits (x := ("0" : Str) ++ g) (by
    rw [e]
    intro c hc
    rcases List.mem_cons.mp hc with rfl | hc
    · exact ⟨by omega, by omega⟩
    · exact ad c hc) (by rw [e]; exact List.cons_ne_nil _ _) (by
    have : (("0" : Str) ++ g).length = (("0" : Str) ++ g).cps.toList.length := by simp [Str.length]
    have h2 : g.length = g.cps.toList.length := by simp [Str.length]
    rw [this, e, List.length_cons]
    omega)
  rw [this, e]
  rfl
section
variable {P : Program} {w : World} {K : PySem.W.Frag} {mg : Str → Option Value} {base : Heap}
/-! ### _figure_count, _is_integer, _integer_of -/
def spFig : Sp := fun vs H Q _ => ∃ t : Str, vs = [.str t] ∧ t.length ≤ 5000 ∧ Q (.int ((figs t).length : Nat)) H
theorem ok_figure_count_ {f : Addr} {fd : FuncData} (F : Fun K "_figure_count" "_figure_count" s_figure_count_ f fd) (z_len : mg "len" = none) : FnOk P w K mg base CX0 1 f fd ["word"] spFig := by
  refine F.ok sc_figure_count_ (fun vs H Q E h => ?_) (fun cdv A outer s H vs Q E hr h => ?_)
  · obtain ⟨k, rfl, _⟩ := h
    rfl
  · obtain ⟨t, rfl, hl, q⟩ := h
    refine ⟨_, (pss_one (ps_ret (pe_callB call_len_str (by rfl) z_len boot_len (pa_cons (pe_bm PySem.F.plainAttrs_str PySem.F.slot_str_removeprefix PySem.F.type_str_removeprefix mt_removeprefix (pv 0) (pa_cons pe_str pa_nil)) pa_nil)))), ?_⟩
    have szl : 20000 ≤ sizeLine := by decide
    have hg := rp_len t "-"
    refine ⟨_, rfl, rfl, t, _, rfl, rfl, (by omega), _, rfl, (by omega), ?_⟩
    rw [figs_len]
    exact q
def spIsInt : Sp := fun vs H Q _ => ∃ t : Str, vs = [.str t] ∧ t.length ≤ 5000 ∧ Q (.bl (intW t)) H
theorem ok_is_integer_ {f : Addr} {fd : FuncData} (F : Fun K "_is_integer" "_is_integer" s_is_integer_ f fd) : FnOk P w K mg base CX0 1 f fd ["word"] spIsInt := by
  refine F.ok sc_is_integer_ (fun vs H Q E h => ?_) (fun cdv A outer s H vs Q E hr h => ?_)
  · obtain ⟨k, rfl, _⟩ := h
    rfl
  · obtain ⟨t, rfl, hl, q⟩ := h
    refine ⟨_, (pss_cons (ps_set (i := 1) sc_is_integer_.nd rfl (.inl rfl) (pe_bm PySem.F.plainAttrs_str PySem.F.slot_str_removeprefix PySem.F.type_str_removeprefix mt_removeprefix (pv 0) (pa_cons pe_str pa_nil)))
  (pss_one (ps_ret (pe_and (pe_bm0 PySem.F.plainAttrs_str PySem.F.slot_str_isascii PySem.F.type_str_isascii mt_isascii (pv 1)) (pe_one (pe_m0 PySem.F.slot_str_isdigit PySem.F.type_str_isdigit mt_isdigit (pv 1))))))), ?_⟩
    have szl : 20000 ≤ sizeLine := by decide
    refine ⟨_, rfl, rfl, t, _, rfl, rfl, (by omega), ?_⟩
    unfold intW at q
    revert q
    generalize Txt.removeprefix t "-" = g
    intro q
    refine ⟨_, rfl, rfl, g, rfl, rfl, trivial, ?_⟩
    by_cases e : Txt.isascii g = true
    · rw [if_pos e] at q
      rw [e]
      exact ⟨_, rfl, iteT ⟨_, rfl, ⟨_, rfl⟩, g, rfl, rfl, trivial, q⟩⟩
    · rw [if_neg e] at q
      rw [eq_false_of_ne_true e]
      exact ⟨_, rfl, iteF q⟩
def spIntOf : Sp := fun vs H Q _ => ∃ t : Str, vs = [.str t] ∧ t.length ≤ 5000 ∧ intW t = true ∧ (figs t).length ≤ 60 ∧ Q (.int (valW t)) H
theorem ok_integer_of_ {f : Addr} {fd : FuncData} {tf tc : Tok} (F : Fun K "_integer_of" "_integer_of" s_integer_of_ f fd) (z_len : mg "len" = none) (z_int : mg "int" = none) (z_range : mg "range" = none)
    (m_CHUNK_FIGURES : mg "CHUNK_FIGURES" = some (.int 60 tf)) (m_CHUNK : mg "CHUNK" = some (.int (10 ^ 60) tc)) : FnOk P w K mg base CX0 1 f fd ["word"] spIntOf := by
  have r_CHUNK_FIGURES : RelV (.int 60) (.int 60 tf) := ⟨_, rfl⟩
  have r_CHUNK : RelV (.int (10 ^ 60)) (.int (10 ^ 60) tc) := ⟨_, rfl⟩
  refine F.ok sc_integer_of_ (fun vs H Q E h => ?_) (fun cdv A outer s H vs Q E hr h => ?_)
  · obtain ⟨k, rfl, _⟩ := h
    rfl
  · obtain ⟨t, rfl, hl, iw, hf, q⟩ := h
    refine ⟨_, (pss_cons (ps_set (i := 1) sc_integer_of_.nd rfl (.inl rfl) (pe_bm PySem.F.plainAttrs_str PySem.F.slot_str_removeprefix PySem.F.type_str_removeprefix mt_removeprefix (pv 0) (pa_cons pe_str pa_nil)))
  (pss_cons (ps_set (i := 2) sc_integer_of_.nd rfl (.inl rfl) (pe_op op_mod (pe_callB call_len_str (by rfl) z_len boot_len (pa_cons (pv 1) pa_nil)) (pe_glob rfl m_CHUNK_FIGURES r_CHUNK_FIGURES)))
  (pss_cons (ps_set (i := 3) sc_integer_of_.nd rfl (.inl rfl) (pe_callTy call_int_str (by rfl) z_int boot_int (pa_cons (pe_op op_add_str pe_str (pe_slice sl_str (pv 1) po_none (po_some (pv 2)))) pa_nil)))
  (pss_cons (ps_for PassesOwn.never rfl (pi_range3 rfl z_range (pa_cons (pv 2) (pa_cons (pe_callB call_len_str (by rfl) z_len boot_len (pa_cons (pv 1) pa_nil)) (pa_cons (pe_glob rfl m_CHUNK_FIGURES r_CHUNK_FIGURES) pa_nil)))) (pg_name (i := 4) sc_integer_of_.nd rfl (.inl rfl)) (pss_one (ps_set (i := 3) sc_integer_of_.nd rfl (.inl rfl) (pe_op op_add (pe_op op_mul (pv 3) (pe_glob rfl m_CHUNK r_CHUNK)) (pe_callTy call_int_str (by rfl) z_int boot_int (pa_cons (pe_slice sl_str (pv 1) (po_some (pv 4)) (po_some (pe_op op_add (pv 4) (pe_glob rfl m_CHUNK_FIGURES r_CHUNK_FIGURES)))) pa_nil))))))
  (pss_one (ps_ret (pe_ifExp (pt_val (pe_bm PySem.F.plainAttrs_str PySem.F.slot_str_startswith PySem.F.type_str_startswith mt_startswith (pv 0) (pa_cons pe_str pa_nil))) (pe_un un_neg (pv 3)) (pv 3)))))))), ?_⟩
    have szl : 20000 ≤ sizeLine := by decide
    have hg := rp_len t "-"
    obtain ⟨ad, ne⟩ := intW_figs iw
    have hlen := figs_len t
    refine ⟨_, rfl, rfl, t, _, rfl, rfl, (by omega), ?_⟩
    unfold valW figs at q
    unfold figs at ad ne hf hlen
    revert q ad ne hf hg hlen
    generalize Txt.removeprefix t "-" = g
    intro hf q hg ad ne hlen
    have fin : ∀ {H' : Hp} {v4 : Option V}, H' = H → (tRet (tIf (tB (tBM (cxOf CX0 P w K mg base ["word", "figures", "first", "found", "at"] "_integer_of" (defScope s_integer_of_) f cdv A outer s H E).nox.K "str" (fun x xs H Q => ∃ a b, x = V.str a ∧ xs = [V.str b] ∧ Q (V.bl (Txt.startswith a b)) H) (tVar 0) (tCons (tC (V.str ("-" : Str))) tNil)))
                    (tUn (rU fun i => V.int (-i)) (tVar 3)) (tVar 3))) { nx := fun x H' => Q V.non H', rt := Q } [some (.str t), some (.str g), some (.int (((g.cps.toList.length % 60 : Nat)) : Int)), some (.int ((PySem.NumText.digitsVal g.cps.toList : Nat) : Int)), v4] H' := fun {H' v4} e => by
      subst e
      refine ⟨_, rfl, rfl, t, _, rfl, rfl, _, rfl, ?_⟩
      by_cases c : Txt.startswith t "-" = true
      · rw [if_pos c] at q
        exact if_pos_of c ⟨_, rfl, _, rfl, q⟩
      · rw [if_neg c] at q
        exact if_neg_of c ⟨_, rfl, q⟩
    have gl : g.length = g.cps.toList.length := hlen
    have e60 : ((g.cps.toList.length : Nat) : Int) % 60 = ((g.cps.toList.length % 60 : Nat) : Int) := by omega
    refine ⟨_, rfl, g, rfl, by omega, _, _, rfl, rfl, (show (0 : Int) < 60 by decide), ?_⟩
    dsimp only
    rw [gl, e60]
    by_cases c : g.cps.toList.length = 60
    · have c2 : g.cps.toList.length % 60 = 0 := by omega
      refine ⟨_, rfl, _, rfl, _, rfl, g, rfl, by omega, ?_⟩
      rw [c2, show ((0 : Nat) : Int) = 0 from rfl, cut_none]
      refine ⟨_, _, rfl, rfl, by decide, _, 0, rfl, by decide +kernel, by decide, ?_⟩
      rw [c2] at fin
      refine ⟨_, rfl, _, rfl, g, rfl, by omega, _, _, _, 1, rfl, by rw [gl, c]; exact rg_one, for_it walk_rangeC (fun i σ H' => ∃ v4, σ = [some (.str t), some (.str g), some (.int 0), some (.int (if i = 0 then 0 else ((PySem.NumText.digitsVal g.cps.toList : Nat) : Int))), v4] ∧ H' = H) ⟨none, rfl, rfl⟩ (fun i σ H' _ _ => trivial) (fun i y σ H2 H3 hi hP hy => ?_) (fun σ H' hP => ?_)⟩
      · obtain ⟨v4, rfl, rfl⟩ := hP
        obtain ⟨rfl, rfl⟩ := hy
        obtain rfl : i = 0 := by omega
        have ef := cut_ft (N := 60) (g := g) (by omega)
        have ei := PySem.intText_digits ad ne (by omega)
        have cm : CMul 0 (10 ^ 60) := .inl ⟨by decide, by decide⟩
        refine ⟨_, rfl, _, _, rfl, rfl, cm, _, rfl, _, rfl, _, rfl, _, rfl, _, _, rfl, rfl, _, rfl, g, rfl, by omega, _, ((PySem.NumText.digitsVal g.cps.toList : Nat) : Int), rfl, ?_, ?_, _, _, rfl, rfl, ?_⟩
        · exact (congrArg intText? ef).trans ei
        · rw [show cutS g (some (0 + ((0 : Nat) : Int) * 60)) (some (0 + ((0 : Nat) : Int) * 60 + 60)) = g from ef]
          omega
        · refine ⟨some (.int 0), ?_, rfl⟩
          have e : (0 : Int) * 10 ^ 60 + ((PySem.NumText.digitsVal g.cps.toList : Nat) : Int) = ((PySem.NumText.digitsVal g.cps.toList : Nat) : Int) := by omega
          show ([some (.str t), some (.str g), some (.int 0), some (.int ((0 : Int) * 10 ^ 60 + ((PySem.NumText.digitsVal g.cps.toList : Nat) : Int))), some (.int 0)] : List (Option V)) = [some (.str t), some (.str g), some (.int 0), some (.int ((PySem.NumText.digitsVal g.cps.toList : Nat) : Int)), some (.int 0)]
          rw [e]
      · obtain ⟨v4, rfl, rfl⟩ := hP
        exact fin rfl
    · have c2 : g.cps.toList.length % 60 = g.cps.toList.length := by omega
      refine ⟨_, rfl, _, rfl, _, rfl, g, rfl, by omega, ?_⟩
      rw [c2, cut_to gl]
      refine ⟨_, _, rfl, rfl, by show 1 + _ ≤ _; omega, _, _, rfl, zero_fig ad (by omega), by rw [len_cat]; show 1 + g.length ≤ 640; omega, ?_⟩
      rw [c2] at fin
      refine ⟨_, rfl, _, rfl, g, rfl, by omega, _, _, _, 0, rfl, by rw [gl]; exact rg_none _ hf, for_it walk_rangeC (fun i σ H' => ∃ v4, σ = [some (.str t), some (.str g), some (.int (g.cps.toList.length : Nat)), some (.int ((PySem.NumText.digitsVal g.cps.toList : Nat) : Int)), v4] ∧ H' = H) ⟨none, rfl, rfl⟩ (fun i σ H' _ _ => trivial) (fun i y σ H2 H3 hi hP hy => absurd hi (Nat.not_lt_zero i)) (fun σ H' hP => ?_)⟩
      · obtain ⟨v4, rfl, rfl⟩ := hP
        exact fin rfl
end

/-- what is read of a text, None where there is none -/
def rdInt (w : Str) : Int := (intText? w).getD 0
def rdPair (ws : List Str) : Int × Int := (rdInt (ws.getD 0 ""), if ws.length = 2 then rdInt (ws.getD 1 "") else 1)
def readOk (p : Int) (t : Str) : Option (Int × Int) := if 2 < (Txt.split t "/").length then none else if (Txt.split t "/").all shortW = false then none else
  if isN p (rdPair (Txt.split t "/")).1 (rdPair (Txt.split t "/")).2 = false then none else if numTx (rdPair (Txt.split t "/")).1 (rdPair (Txt.split t "/")).2 = t then some (rdPair (Txt.split t "/")) else none
def wOk (w : Str) : Bool := match intText? w with
  | some n => decide (n.natAbs < 10 ^ 60)
  | none => false
def rdPre (t : Str) : Bool := decide (1 ≤ (Txt.split t "/").length) && (decide ((Txt.split t "/").length ≤ 1000) && (Txt.split t "/").all (fun w => decide (w.length ≤ 500) && (!shortW w || wOk w)))
theorem wOk_int {w : Str} (h : wOk w = true) : intText? w = some (rdInt w) ∧ (rdInt w).natAbs < 10 ^ 60 := by
  unfold wOk at h
  unfold rdInt
  cases e : intText? w with
  | none =>
    rw [e] at h
    exact nomatch h
  | some n =>
    rw [e] at h
    exact ⟨rfl, of_decide_eq_true h⟩
theorem none_back {H H' : Hp} {a : Addr} (s : Same H H') (h : H' a = none) : H a = none := by
  cases e : H a with
  | none => rfl
  | some o =>
    rw [s _ _ e] at h
    exact nomatch h
theorem short_fig {x : Str} (h : (figs x).length ≤ 60) : intW x = shortW x := by
  rw [shortW_int, decide_eq_true (by omega), Bool.and_true]
theorem val_rd {x : Str} (h : intW x = true) (hl : x.length ≤ 4300) : valW x = rdInt x := by
  unfold rdInt
  rw [valW_int h hl]
  rfl
section
variable {P : Program} {w : World} {K : PySem.W.Frag} {mg : Str → Option Value} {base : Heap}
/-! ### read_any_number, read_number -/
def spRead (K : PySem.W.Frag) (CW CM : Addr) : Sp := fun vs H Q E => ∃ (x : Addr) (p d : Int) (t : Str), vs = [.ref x, .str t] ∧ SqT K H x [.int p, .int d] ∧ t.length ≤ 500 ∧ rdPre t = true ∧ (isW p d = false → E (.ref CW) none H) ∧
  (isW p d = true → readOk p t = none → ∀ dd H', Same H H' → H dd = none → H' dd = some (.xd [(("at" : Str), .int 0)]) → E (.ref CM) (some dd) H') ∧
  (isW p d = true → ∀ a b, readOk p t = some (a, b) → ∀ r H', Same H H' → H' r = some (.tup [.int a, .int b]) → Q (.ref r) H')
def spReadAny (K : PySem.W.Frag) (CM : Addr) : Sp := fun vs H Q E => ∃ (x : Addr) (p d : Int) (t : Str), vs = [.ref x, .str t] ∧ SqT K H x [.int p, .int d] ∧ t.length ≤ 500 ∧ rdPre t = true ∧ isW p d = true ∧ (∀ w ∈ Txt.split t "/", (figs w).length ≤ 60) ∧
  (readOk p t = none → ∀ dd H', Same H H' → H dd = none → H' dd = some (.xd [(("at" : Str), .int 0)]) → E (.ref CM) (some dd) H') ∧
  (∀ a b, readOk p t = some (a, b) → ∀ r H', Same H H' → H' r = some (.tup [.int a, .int b]) → Q (.ref r) H')
theorem ok_read_any_number {f CW CN CM fI : Addr} {fd fdI : FuncData} (F : Fun K "read_any_number" "read_any_number" s_read_any_number f fd) (z_len : mg "len" = none) (z_all : mg "all" = none)
    (OX_Malformed : MalC K mg CM fI) (G_Malformed_init : FnOk P w K mg base CX0 1 fI fdI ["self", "at"] (spInitM K)) (b_Malformed_init : Binds K fdI ["self", "at"] [])
    {a_is_number : Addr} {fd_is_number : FuncData} (G_is_number : FnOk P w K mg base (L2N.CX P w) 3 a_is_number fd_is_number ["world", "x"] (spIsNumber K CW)) (g_is_number : mg "is_number" = some (.ref a_is_number)) (k_is_number : PySem.W.keepIn K (.ref a_is_number) = true) (b_is_number : Binds K fd_is_number ["world", "x"] [])
    {a_number_text : Addr} {fd_number_text : FuncData} (G_number_text : FnOk P w K mg base (L2N.CX P w) 5 a_number_text fd_number_text ["world", "x"] (spNumText K CW CN)) (g_number_text : mg "number_text" = some (.ref a_number_text)) (k_number_text : PySem.W.keepIn K (.ref a_number_text) = true) (b_number_text : Binds K fd_number_text ["world", "x"] [])
    {a_is_integer_ : Addr} {fd_is_integer_ : FuncData} (G_is_integer_ : FnOk P w K mg base CX0 1 a_is_integer_ fd_is_integer_ ["word"] spIsInt) (g_is_integer_ : mg "_is_integer" = some (.ref a_is_integer_)) (k_is_integer_ : PySem.W.keepIn K (.ref a_is_integer_) = true) (b_is_integer_ : Binds K fd_is_integer_ ["word"] [])
    {a_integer_of_ : Addr} {fd_integer_of_ : FuncData} (G_integer_of_ : FnOk P w K mg base CX0 1 a_integer_of_ fd_integer_of_ ["word"] spIntOf) (g_integer_of_ : mg "_integer_of" = some (.ref a_integer_of_)) (k_integer_of_ : PySem.W.keepIn K (.ref a_integer_of_) = true) (b_integer_of_ : Binds K fd_integer_of_ ["word"] []) :
    FnOk P w K mg base (L2N.CX P w) 6 f fd ["world", "text"] (spReadAny K CM) := by
  refine F.okXN sc_read_any_number (fun vs H Q E h => ?_) (fun cdv A outer s H vs Q E hr h => ?_)
  · obtain ⟨x, p, d, t, rfl, _⟩ := h
    rfl
  · obtain ⟨x, p, d, t, rfl, hx, ht, hpre, ew, fg, r2, r3⟩ := h
    refine ⟨_, (pss_cons (ps_set (i := 2) sc_read_any_number.nd rfl (.inl rfl) (pe_split (pv 1) pe_str))
  (pss_cons (ps_if (L2.PW.pt (pw_or (pt_cmpR op_gt (pe_callB call_len_seq (by rfl) z_len boot_len (pa_cons (pv 2) pa_nil)) pe_int (nomark _)) (pw_or1 (pt_not (pt_val (pe_callB (cr_all rfl) (by rfl) z_all boot_all (pa_cons (pe_lc (own := [("word", 4)]) rfl sc_read_any_number.nd (pi_list (pv 2)) (blkOk_by (N := ["world", "text", "words", "x", "word"]) (sc := defScope s_read_any_number) (by first | decide +kernel | rfl)) (fun _ _ _ _ _ => (pg_name (i := 4) sc_read_any_number.nd rfl (.inl rfl))) (fun _ _ _ _ _ => pts_nil) (fun _ _ _ _ _ => (pe_call G_is_integer_ (hr.mono (by decide)) rfl g_is_integer_ k_is_integer_ b_is_integer_ .nil pass0 (pa_cons (pv 4) pa_nil)))) pa_nil))))))) (pss_one (L2N.ps_raise rfl (L2N.takes_of rfl rfl rfl rfl) (L2N.pmk_oexN OX_Malformed.T OX_Malformed.iC OX_Malformed.tI G_Malformed_init (hr.mono (by decide)) b_Malformed_init .nil pass0 rfl OX_Malformed.gc (pa_cons pe_int pa_nil)))) pss_nil)
  (pss_cons (ps_set (i := 3) sc_read_any_number.nd rfl (.inl rfl) (pe_tup (pa_cons (pe_call G_integer_of_ (hr.mono (by decide)) rfl g_integer_of_ k_integer_of_ b_integer_of_ .nil pass0 (pa_cons (pe_ix ix_list (pv 2) pe_int (fun _ _ => rfl)) pa_nil)) (pa_cons (pe_ifExp (pt_cmpR op_eq (pe_callB call_len_seq (by rfl) z_len boot_len (pa_cons (pv 2) pa_nil)) pe_int (nomark _)) (pe_call G_integer_of_ (hr.mono (by decide)) rfl g_integer_of_ k_integer_of_ b_integer_of_ .nil pass0 (pa_cons (pe_ix ix_list (pv 2) pe_int (fun _ _ => rfl)) pa_nil)) pe_int) pa_nil))))
  (pss_cons (ps_if (L2.PW.pt (pw_or (pt_not (pt_val (pe_call G_is_number (hr.mono (by decide)) rfl g_is_number k_is_number b_is_number .nil (L2N.passes_call (L2N.takes_of rfl rfl rfl rfl) (fun _ _ _ _ h => h)) (pa_cons (pv 0) (pa_cons (pv 3) pa_nil))))) (pw_or1 (pt_cmpR op_ne (pe_call G_number_text (hr.mono (by decide)) rfl g_number_text k_number_text b_number_text .nil (L2N.passes_call (L2N.takes_of rfl rfl rfl rfl) (fun _ _ _ _ h => h)) (pa_cons (pv 0) (pa_cons (pv 3) pa_nil))) (pv 1) (nomark _))))) (pss_one (L2N.ps_raise rfl (L2N.takes_of rfl rfl rfl rfl) (L2N.pmk_oexN OX_Malformed.T OX_Malformed.iC OX_Malformed.tI G_Malformed_init (hr.mono (by decide)) b_Malformed_init .nil pass0 rfl OX_Malformed.gc (pa_cons pe_int pa_nil)))) pss_nil)
  (pss_one (ps_ret (pv 3))))))), ?_⟩
    have szl : 2000 ≤ sizeLine := by decide
    unfold rdPre at hpre
    unfold readOk at r2 r3
    refine ⟨_, rfl, ⟨_, rfl⟩, _, _, rfl, rfl, rfl, (by omega), fun r nr => ?_⟩
    revert r2 r3 hpre fg
    generalize Txt.split t "/" = l
    intro hpre fg r2 r3
    rw [Bool.and_eq_true, Bool.and_eq_true, decide_eq_true_eq, decide_eq_true_eq, List.all_eq_true] at hpre
    obtain ⟨l1, l2, lw⟩ := hpre
    have lw1 : ∀ w ∈ l, w.length ≤ 500 := fun w hw => by
      have := lw w hw
      rw [Bool.and_eq_true] at this
      exact of_decide_eq_true this.1
    have lw2 : ∀ w ∈ l, shortW w = true → wOk w = true := fun w hw hs => by
      have := lw w hw
      rw [Bool.and_eq_true, hs] at this
      exact this.2
    have s1 : Same H (upd H r (.lst (l.map V.str))) := same_upd nr
    have hr1 : upd H r (.lst (l.map V.str)) r = some (.lst (l.map V.str)) := upd_same
    revert s1 hr1
    generalize upd H r (.lst (l.map V.str)) = H1
    intro s1 hr1
    refine ⟨_, rfl, r, _, rfl, .inl (.inl (.inl hr1)), _, _, rfl, rfl, _, rfl, ?_⟩
    rw [List.length_map]
    by_cases c2 : 2 < l.length
    · rw [decide_eq_true (show ((l.length : Nat) : Int) > 2 by omega)]
      rw [if_pos c2] at r2
      exact iteT (iteT (mal_made OX_Malformed.T OX_Malformed.na fun dx H9 s9 nd9 hd9 => r2 rfl dx H9 (Same.trans s1 s9) (none_back s1 nd9) hd9))
    rw [decide_eq_false (show ¬ ((l.length : Nat) : Int) > 2 by omega)]
    rw [if_neg c2] at r2 r3
    refine iteF ?_
    refine ⟨_, rfl, r, rfl, ⟨_, .inl (.inl hr1)⟩, fun D nD => ?_⟩
    have hrD : r ≠ D := ne_of_none hr1 nD
    have msh : l.map intW = l.map shortW := List.map_congr_left fun w hw => short_fig (fg w hw)
    refine lc_list (xs := l.map V.str) (fun i H' => SameBut D H1 H' ∧ H' D = some (.lst (((l.take i).map intW).map V.bl))) ⟨SameBut.upd, upd_same⟩ (fun i H' hi hP => .inl (.inl (hP.1 _ _ hrD hr1))) (fun i y H' hi hP => ?_) (fun H' hP => ?_)
    · obtain ⟨sb, hD⟩ := hP
      rw [List.getElem?_map] at hi
      cases ew : l[i]? with
      | none =>
        rw [ew] at hi
        exact nomatch hi
      | some wd =>
        rw [ew] at hi
        have hy : V.str wd = y := Option.some.inj hi
        rw [← hy]
        obtain ⟨hlt, hget⟩ := List.getElem?_eq_some_iff.mp ew
        have hle := lw1 wd (hget ▸ List.getElem_mem hlt)
        refine ⟨rfl, ?_⟩
        refine ⟨_, rfl, wd, rfl, by omega, _, hD, ?_, sb.trans SameBut.upd, ?_⟩
        · rw [List.length_map, List.length_map, List.length_take]
          omega
        · rw [upd_same, List.take_succ, ew]
          show some (HO.lst (((l.take i).map intW).map V.bl ++ [V.bl (intW wd)])) = some (HO.lst (((l.take i ++ [wd]).map intW).map V.bl))
          rw [List.map_append, List.map_append]
          rfl
    · obtain ⟨sb, hD⟩ := hP
      rw [List.length_map, List.take_length, msh] at hD
      have hr2 := sb _ _ hrD hr1
      have sH : Same H H' := Same.trans s1 (fun c o e => sb _ _ (ne_of_none e nD) e)
      refine ⟨D, l.map shortW, rfl, .inl (.inl hD), ?_⟩
      refine ⟨_, rfl, ?_⟩
      have eall : (l.map shortW).all id = l.all shortW := by rw [List.all_map]; rfl
      rw [eall]
      by_cases ca : l.all shortW = false
      · rw [ca]
        rw [if_pos ca] at r2
        exact iteT (mal_made OX_Malformed.T OX_Malformed.na fun dx H9 s9 nd9 hd9 => r2 rfl dx H9 (Same.trans sH s9) (none_back sH nd9) hd9)
      rw [if_neg ca] at r2 r3
      have ca2 : l.all shortW = true := by
        cases e : l.all shortW with
        | true => rfl
        | false => exact absurd e ca
      rw [ca2]
      refine iteF ?_
      rw [List.all_eq_true] at ca2
      have tail : ∀ (a b : Int) (t' : Addr) (H5 : Hp), True := fun _ _ _ _ => trivial
      match l, l1, c2, lw1, lw2, ca2, hr2, fg, r2, r3 with
      | [w0], l1, c2, lw1, lw2, ca2, hr2, fg, r2, r3 =>
        have iw0 : intW w0 = true := (short_fig (fg w0 (by simp))).trans (ca2 w0 (by simp))
        have ev0 := val_rd iw0 (by have := lw1 w0 (by simp); omega)
        obtain ⟨ia, la⟩ := wOk_int (lw2 w0 (by simp) (ca2 w0 (by simp)))
        have h2 := lw1 w0 (by simp)
        have at0 : atI ([w0].map V.str) 0 = some (.str w0) := atI_nat (j := 0) rfl
        refine ⟨_, rfl, r, _, 0, .str w0, rfl, rfl, .inl (.inl hr2), at0, w0, rfl, by omega, iw0, fg w0 (by simp), ?_⟩
        rw [ev0]
        refine ⟨_, rfl, r, _, rfl, .inl (.inl (.inl hr2)), rfl, _, rfl, ?_⟩
        refine iteF ⟨(by show 2 ≤ sizeLine; decide), fun t1 nt => ?_⟩
        have r2' : (if isN p (rdInt w0) 1 = false then none else if numTx (rdInt w0) 1 = t then some (rdInt w0, (1 : Int)) else none) = none → _ := r2
        have r3' : ∀ a b, (if isN p (rdInt w0) 1 = false then none else if numTx (rdInt w0) 1 = t then some (rdInt w0, (1 : Int)) else none) = some (a, b) → _ := r3
        have lb : (1 : Int).natAbs < 10 ^ 60 := by decide
        revert la r2' r3' lb
        generalize rdInt w0 = a
        generalize (1 : Int) = b
        intro la r2' r3' lb
        have s5 : Same H (upd H' t1 (.tup [.int a, .int b])) := Same.trans sH (same_upd nt)
        have hx5 := sqT_same s5 hx
        have ht5 : upd H' t1 (.tup [.int a, .int b]) t1 = some (.tup [.int a, .int b]) := upd_same
        revert s5 hx5 ht5
        generalize upd H' t1 (.tup [.int a, .int b]) = H5
        intro s5 hx5 ht5
        refine ⟨_, rfl, _, rfl, x, t1, p, d, a, b, rfl, hx5, .inl (.inl ht5), fun _ => ?_, fun z => by rw [ew] at z; exact nomatch z⟩
        refine ⟨_, rfl, ?_⟩
        cases en : isN p a b with
        | false =>
          rw [en, if_pos rfl] at r2'
          exact iteT (iteT (mal_made OX_Malformed.T OX_Malformed.na fun dx H9 s9 nd9 hd9 => r2' rfl dx H9 (Same.trans s5 s9) (none_back s5 nd9) hd9))
        | true =>
          rw [en, if_neg (fun z => nomatch z)] at r2' r3'
          refine iteF ?_
          refine ⟨_, rfl, _, rfl, x, t1, p, d, a, b, rfl, hx5, .inl (.inl ht5), fun z => (by rw [ew] at z; exact nomatch z), fun _ z => (by rw [en] at z; exact nomatch z), fun _ _ => ⟨la, lb, fun H6 s6 => ?_⟩⟩
          refine ⟨_, rfl, rfl, _, rfl, ?_⟩
          by_cases ct : numTx a b = t
          · rw [if_pos ct] at r3'
            rw [decide_eq_true (congrArg V.str ct)]
            exact iteF ⟨_, rfl, r3' a b rfl t1 H6 (Same.trans s5 s6) (s6 _ _ ht5)⟩
          · rw [if_neg ct] at r2'
            rw [decide_eq_false (fun z => ct (V.str.inj z))]
            have s7 := Same.trans s5 s6
            exact iteT (mal_made OX_Malformed.T OX_Malformed.na fun dx H9 s9 nd9 hd9 => r2' rfl dx H9 (Same.trans s7 s9) (none_back s7 nd9) hd9)
      | [w0, w1], l1, c2, lw1, lw2, ca2, hr2, fg, r2, r3 =>
        have iw0 : intW w0 = true := (short_fig (fg w0 (by simp))).trans (ca2 w0 (by simp))
        have ev0 := val_rd iw0 (by have := lw1 w0 (by simp); omega)
        have iw1 : intW w1 = true := (short_fig (fg w1 (by simp))).trans (ca2 w1 (by simp))
        have ev1 := val_rd iw1 (by have := lw1 w1 (by simp); omega)
        obtain ⟨ia, la⟩ := wOk_int (lw2 w0 (by simp) (ca2 w0 (by simp)))
        obtain ⟨ib, lb⟩ := wOk_int (lw2 w1 (by simp) (ca2 w1 (by simp)))
        have h3 := lw1 w0 (by simp)
        have h4 := lw1 w1 (by simp)
        have at0 : atI ([w0, w1].map V.str) 0 = some (.str w0) := atI_nat (j := 0) rfl
        have at1 : atI ([w0, w1].map V.str) 1 = some (.str w1) := atI_nat (j := 1) rfl
        refine ⟨_, rfl, r, _, 0, .str w0, rfl, rfl, .inl (.inl hr2), at0, w0, rfl, by omega, iw0, fg w0 (by simp), ?_⟩
        rw [ev0]
        refine ⟨_, rfl, r, _, rfl, .inl (.inl (.inl hr2)), rfl, _, rfl, ?_⟩
        refine iteT ⟨_, rfl, r, _, 1, .str w1, rfl, rfl, .inl (.inl hr2), at1, w1, rfl, by omega, iw1, fg w1 (by simp), ?_⟩
        rw [ev1]
        refine ⟨(by show 2 ≤ sizeLine; decide), fun t1 nt => ?_⟩
        have r2' : (if isN p (rdInt w0) (rdInt w1) = false then none else if numTx (rdInt w0) (rdInt w1) = t then some (rdInt w0, rdInt w1) else none) = none → _ := r2
        have r3' : ∀ a b, (if isN p (rdInt w0) (rdInt w1) = false then none else if numTx (rdInt w0) (rdInt w1) = t then some (rdInt w0, rdInt w1) else none) = some (a, b) → _ := r3
        revert la r2' r3' lb
        generalize rdInt w0 = a
        generalize rdInt w1 = b
        intro la lb r2' r3'
        have s5 : Same H (upd H' t1 (.tup [.int a, .int b])) := Same.trans sH (same_upd nt)
        have hx5 := sqT_same s5 hx
        have ht5 : upd H' t1 (.tup [.int a, .int b]) t1 = some (.tup [.int a, .int b]) := upd_same
        revert s5 hx5 ht5
        generalize upd H' t1 (.tup [.int a, .int b]) = H5
        intro s5 hx5 ht5
        refine ⟨_, rfl, _, rfl, x, t1, p, d, a, b, rfl, hx5, .inl (.inl ht5), fun _ => ?_, fun z => by rw [ew] at z; exact nomatch z⟩
        refine ⟨_, rfl, ?_⟩
        cases en : isN p a b with
        | false =>
          rw [en, if_pos rfl] at r2'
          exact iteT (iteT (mal_made OX_Malformed.T OX_Malformed.na fun dx H9 s9 nd9 hd9 => r2' rfl dx H9 (Same.trans s5 s9) (none_back s5 nd9) hd9))
        | true =>
          rw [en, if_neg (fun z => nomatch z)] at r2' r3'
          refine iteF ?_
          refine ⟨_, rfl, _, rfl, x, t1, p, d, a, b, rfl, hx5, .inl (.inl ht5), fun z => (by rw [ew] at z; exact nomatch z), fun _ z => (by rw [en] at z; exact nomatch z), fun _ _ => ⟨la, lb, fun H6 s6 => ?_⟩⟩
          refine ⟨_, rfl, rfl, _, rfl, ?_⟩
          by_cases ct : numTx a b = t
          · rw [if_pos ct] at r3'
            rw [decide_eq_true (congrArg V.str ct)]
            exact iteF ⟨_, rfl, r3' a b rfl t1 H6 (Same.trans s5 s6) (s6 _ _ ht5)⟩
          · rw [if_neg ct] at r2'
            rw [decide_eq_false (fun z => ct (V.str.inj z))]
            have s7 := Same.trans s5 s6
            exact iteT (mal_made OX_Malformed.T OX_Malformed.na fun dx H9 s9 nd9 hd9 => r2' rfl dx H9 (Same.trans s7 s9) (none_back s7 nd9) hd9)
      | [], l1, _, _, _, _, _, _, _, _ => exact absurd l1 (by decide)
      | _ :: _ :: _ :: _, _, c2, _, _, _, _, _, _, _ => exact absurd (show 2 < _ from by simp) c2
theorem ok_read_number {f CW CM fI : Addr} {fd fdI : FuncData} {tF : Tok} (F : Fun K "read_number" "read_number" s_read_number f fd) (z_all : mg "all" = none) (m_MOST_FIGURES : mg "MOST_FIGURES" = some (.int 60 tF))
    (OX_Malformed : MalC K mg CM fI) (G_Malformed_init : FnOk P w K mg base CX0 1 fI fdI ["self", "at"] (spInitM K)) (b_Malformed_init : Binds K fdI ["self", "at"] [])
    {a_check_world : Addr} {fd_check_world : FuncData} (G_check_world : FnOk P w K mg base (L2N.CX P w) 2 a_check_world fd_check_world ["world"] (spCheckWorld K CW)) (g_check_world : mg "check_world" = some (.ref a_check_world)) (k_check_world : PySem.W.keepIn K (.ref a_check_world) = true) (b_check_world : Binds K fd_check_world ["world"] [])
    {a_figure_count_ : Addr} {fd_figure_count_ : FuncData} (G_figure_count_ : FnOk P w K mg base CX0 1 a_figure_count_ fd_figure_count_ ["word"] spFig) (g_figure_count_ : mg "_figure_count" = some (.ref a_figure_count_)) (k_figure_count_ : PySem.W.keepIn K (.ref a_figure_count_) = true) (b_figure_count_ : Binds K fd_figure_count_ ["word"] [])
    {a_read_any_number : Addr} {fd_read_any_number : FuncData} (G_read_any_number : FnOk P w K mg base (L2N.CX P w) 6 a_read_any_number fd_read_any_number ["world", "text"] (spReadAny K CM)) (g_read_any_number : mg "read_any_number" = some (.ref a_read_any_number)) (k_read_any_number : PySem.W.keepIn K (.ref a_read_any_number) = true) (b_read_any_number : Binds K fd_read_any_number ["world", "text"] []) :
    FnOk P w K mg base (L2N.CX P w) 7 f fd ["world", "text"] (spRead K CW CM) := by
  have r_MOST_FIGURES : RelV (.int 60) (.int 60 tF) := ⟨_, rfl⟩
  refine F.okXN sc_read_number (fun vs H Q E h => ?_) (fun cdv A outer s H vs Q E hr h => ?_)
  · obtain ⟨x, p, d, t, rfl, _⟩ := h
    rfl
  · obtain ⟨x, p, d, t, rfl, hx, ht, hpre, q1, q2, q3⟩ := h
    refine ⟨_, (pss_cons (ps_expr (pe_call G_check_world (hr.mono (by decide)) rfl g_check_world k_check_world b_check_world .nil (L2N.passes_call (L2N.takes_of rfl rfl rfl rfl) (fun _ _ _ _ h => h)) (pa_cons (pv 0) pa_nil)))
  (pss_cons (ps_if (pt_not (pt_val (pe_callB (cr_all rfl) (by rfl) z_all boot_all (pa_cons (pe_lc (own := [("word", 2)]) rfl sc_read_number.nd (pi_list (pe_split (pv 1) pe_str)) (blkOk_by (N := ["world", "text", "word"]) (sc := defScope s_read_number) (by first | decide +kernel | rfl)) (fun _ _ _ _ _ => (pg_name (i := 2) sc_read_number.nd rfl (.inl rfl))) (fun _ _ _ _ _ => pts_nil) (fun _ _ _ _ _ => (pe_cmpR op_le (pe_call G_figure_count_ (hr.mono (by decide)) rfl g_figure_count_ k_figure_count_ b_figure_count_ .nil pass0 (pa_cons (pv 2) pa_nil)) (pe_glob rfl m_MOST_FIGURES r_MOST_FIGURES) (nomark _)))) pa_nil)))) (pss_one (L2N.ps_raise rfl (L2N.takes_of rfl rfl rfl rfl) (L2N.pmk_oexN OX_Malformed.T OX_Malformed.iC OX_Malformed.tI G_Malformed_init (hr.mono (by decide)) b_Malformed_init .nil pass0 rfl OX_Malformed.gc (pa_cons pe_int pa_nil)))) pss_nil)
  (pss_one (ps_ret (pe_call G_read_any_number (hr.mono (by decide)) rfl g_read_any_number k_read_any_number b_read_any_number .nil (L2N.passes_call (L2N.takes_of rfl rfl rfl rfl) (fun _ _ _ _ h => h)) (pa_cons (pv 0) (pa_cons (pv 1) pa_nil))))))), ?_⟩
    refine ⟨_, rfl, x, p, d, rfl, hx, fun ew => ?_, q1⟩
    have r2 := q2 ew
    have r3 := q3 ew
    have szl : 2000 ≤ sizeLine := by decide
    refine ⟨_, rfl, ⟨_, rfl⟩, _, _, rfl, rfl, rfl, (by omega), fun r nr => ?_⟩
    have pre := hpre
    unfold rdPre at hpre
    rw [Bool.and_eq_true, Bool.and_eq_true, decide_eq_true_eq, decide_eq_true_eq, List.all_eq_true] at hpre
    obtain ⟨l1, l2, lw⟩ := hpre
    have lw1 : ∀ w ∈ Txt.split t "/", w.length ≤ 500 := fun w hw => by
      have := lw w hw
      rw [Bool.and_eq_true] at this
      exact of_decide_eq_true this.1
    have long : (Txt.split t "/").all (fun w => decide ((figs w).length ≤ 60)) = false → readOk p t = none := fun e => by
      have : (Txt.split t "/").all shortW = false := by
        rw [← Bool.not_eq_true, List.all_eq_true] at e ⊢
        exact fun z => e fun w hw => by
          have := z w hw
          rw [shortW_int, Bool.and_eq_true, decide_eq_true_eq] at this
          exact decide_eq_true (by omega)
      unfold readOk
      rw [if_pos this]
      exact ite_self _
    have s1 : Same H (upd H r (.lst ((Txt.split t "/").map V.str))) := same_upd nr
    have hr1 : upd H r (.lst ((Txt.split t "/").map V.str)) r = some (.lst ((Txt.split t "/").map V.str)) := upd_same
    revert s1 hr1
    generalize upd H r (.lst ((Txt.split t "/").map V.str)) = H1
    intro s1 hr1
    refine ⟨r, rfl, ⟨_, .inl (.inl hr1)⟩, fun D nD => ?_⟩
    have hrD : r ≠ D := ne_of_none hr1 nD
    have fgo : ∀ w ∈ Txt.split t "/", (figs w).length ≤ 60 → True := fun _ _ _ => trivial
    generalize el : Txt.split t "/" = l at hr1 lw1 l1 l2 long
    refine lc_list (xs := l.map V.str) (fun i H' => SameBut D H1 H' ∧ H' D = some (.lst (((l.take i).map fun w => decide ((figs w).length ≤ 60)).map V.bl))) ⟨SameBut.upd, upd_same⟩ (fun i H' hi hP => .inl (.inl (hP.1 _ _ hrD hr1))) (fun i y H' hi hP => ?_) (fun H' hP => ?_)
    · obtain ⟨sb, hD⟩ := hP
      rw [List.getElem?_map] at hi
      cases ew : l[i]? with
      | none =>
        rw [ew] at hi
        exact nomatch hi
      | some wd =>
        rw [ew] at hi
        have hy : V.str wd = y := Option.some.inj hi
        rw [← hy]
        obtain ⟨hlt, hget⟩ := List.getElem?_eq_some_iff.mp ew
        have hle := lw1 wd (hget ▸ List.getElem_mem hlt)
        refine ⟨rfl, ?_⟩
        refine ⟨_, rfl, wd, rfl, by omega, _, _, rfl, rfl, _, hD, ?_, sb.trans SameBut.upd, ?_⟩
        · rw [List.length_map, List.length_map, List.length_take]
          omega
        · rw [upd_same, List.take_succ, ew, List.map_append, List.map_append]
          have e2 : decide (((figs wd).length : Int) ≤ 60) = decide ((figs wd).length ≤ 60) := decide_eq_decide.mpr (by omega)
          exact congrArg (fun b => some (HO.lst (List.map V.bl (List.map (fun w => decide ((figs w).length ≤ 60)) (List.take i l)) ++ [V.bl b]))) e2
    · obtain ⟨sb, hD⟩ := hP
      rw [List.length_map, List.take_length] at hD
      have sH : Same H H' := Same.trans s1 (fun c o e => sb _ _ (ne_of_none e nD) e)
      refine ⟨D, _, rfl, .inl (.inl hD), ?_⟩
      refine ⟨_, rfl, ?_⟩
      have eall : (l.map fun w => decide ((figs w).length ≤ 60)).all id = l.all fun w => decide ((figs w).length ≤ 60) := by rw [List.all_map]; rfl
      rw [eall]
      cases ca : l.all fun w => decide ((figs w).length ≤ 60) with
      | false => exact iteT (mal_made OX_Malformed.T OX_Malformed.na fun dx H9 s9 nd9 hd9 => r2 (long ca) dx H9 (Same.trans sH s9) (none_back sH nd9) hd9)
      | true =>
        rw [List.all_eq_true] at ca
        refine iteF ⟨_, rfl, _, rfl, x, p, d, t, rfl, sqT_same sH hx, ht, pre, ew, ?_, fun e dd H9 s9 nd9 hd9 => r2 e dd H9 (Same.trans sH s9) (none_back sH nd9) hd9, fun a b e rr H9 s9 hrr => r3 a b e rr H9 (Same.trans sH s9) hrr⟩
        rw [el]
        exact fun w hw => of_decide_eq_true (ca w hw)
end

def isP (l : List Int) : Bool := if (l.length : Int) > 200 then false else if l.length = 0 then true else !decide (co l (l.length - 1) = 0)
theorem isP_pol {l : List Int} (h : isP l = true) : Pol l ∧ l.length ≤ 200 := by
  unfold isP at h
  by_cases c : (l.length : Int) > 200
  · rw [if_pos c] at h
    exact nomatch h
  rw [if_neg c] at h
  refine ⟨?_, by omega⟩
  by_cases c0 : l.length = 0
  · exact .inl (List.eq_nil_of_length_eq_zero c0)
  · rw [if_neg c0] at h
    refine .inr fun z => ?_
    rw [decide_eq_true z] at h
    exact nomatch h
theorem pol_isP {l : List Int} (h : Pol l) (hl : l.length ≤ 200) : isP l = true := by
  unfold isP
  rw [if_neg (by omega)]
  by_cases c0 : l.length = 0
  · rw [if_pos c0]
  · rw [if_neg c0]
    rcases h with rfl | h
    · exact absurd rfl c0
    · rw [decide_eq_false h]
      rfl
section
variable {P : Program} {w : World} {K : PySem.W.Frag} {mg : Str → Option Value} {base : Heap}
/-! ### is_poly, check_poly -/
def spIsPoly (K : PySem.W.Frag) : Sp := fun vs H Q _ => ∃ (a : Addr) (l : List Int), vs = [.ref a] ∧ SqT K H a (l.map V.int) ∧ Q (.bl (isP l)) H
theorem ok_is_poly {f : Addr} {fd : FuncData} {tm : Tok} (F : Fun K "is_poly" "is_poly" s_is_poly f fd) (z_len : mg "len" = none) (m_MOST_PARTS : mg "MOST_PARTS" = some (.int 200 tm)) : FnOk P w K mg base CX0 1 f fd ["poly"] (spIsPoly K) := by
  have r_MOST_PARTS : RelV (.int 200) (.int 200 tm) := ⟨_, rfl⟩
  refine F.ok sc_is_poly (fun vs H Q E h => ?_) (fun cdv A outer s H vs Q E hr h => ?_)
  · obtain ⟨a, l, rfl, _⟩ := h
    rfl
  · obtain ⟨a, l, rfl, ha, q⟩ := h
    refine ⟨_, (pss_cons (ps_if (pt_cmpR op_gt (pe_callB call_len_seq (by rfl) z_len boot_len (pa_cons (pv 0) pa_nil)) (pe_glob rfl m_MOST_PARTS r_MOST_PARTS) (nomark _)) (pss_one (ps_ret pe_bl)) pss_nil)
  (pss_one (ps_ret (pe_or (pe_cmpR op_eq (pe_callB call_len_seq (by rfl) z_len boot_len (pa_cons (pv 0) pa_nil)) pe_int (nomark _)) (pe_one (pe_cmpR op_ne (pe_ix ix_tup (pv 0) (pe_un un_neg pe_int) (fun _ _ => rfl)) pe_int (nomark _))))))), ?_⟩
    unfold isP at q
    refine ⟨_, rfl, a, _, rfl, .inr ha, _, _, rfl, rfl, _, rfl, ?_⟩
    rw [List.length_map]
    by_cases c : (l.length : Int) > 200
    · rw [if_pos c] at q
      rw [decide_eq_true c]
      exact iteT q
    rw [if_neg c] at q
    rw [decide_eq_false c]
    refine iteF ?_
    refine ⟨_, rfl, a, _, rfl, .inr ha, rfl, _, rfl, ?_⟩
    rw [List.length_map]
    by_cases c0 : l.length = 0
    · rw [if_pos c0] at q
      rw [decide_eq_true (show V.int ((l.length : Nat) : Int) = V.int 0 by rw [c0]; rfl)]
      exact iteT q
    · rw [if_neg c0] at q
      rw [decide_eq_false (fun z => c0 (by have := V.int.inj z; omega))]
      refine iteF ?_
      refine ⟨_, rfl, _, rfl, a, _, _, _, rfl, rfl, ha, at_end (fun z => c0 (by rw [z]; rfl)), rfl, ?_⟩
      have e : decide (V.int (co l (l.length - 1)) = V.int 0) = decide (co l (l.length - 1) = 0) := by
        by_cases c1 : co l (l.length - 1) = 0
        · rw [decide_eq_true c1, decide_eq_true (congrArg V.int c1)]
        · rw [decide_eq_false c1, decide_eq_false (fun z => c1 (V.int.inj z))]
      rw [e]
      exact q
def spCheckPoly (K : PySem.W.Frag) (CP : Addr) : Sp := fun vs H Q E => ∃ (a : Addr) (l : List Int), vs = [.ref a] ∧ SqT K H a (l.map V.int) ∧ (isP l = true → Q .non H) ∧ (isP l = false → E (.ref CP) none H)
theorem ok_check_poly {f CP a_is_poly : Addr} {fd fd_is_poly : FuncData} (F : Fun K "check_poly" "check_poly" s_check_poly f fd) (T : ErrC K mg "NotPoly" CP)
    (G_is_poly : FnOk P w K mg base CX0 1 a_is_poly fd_is_poly ["poly"] (spIsPoly K)) (g_is_poly : mg "is_poly" = some (.ref a_is_poly)) (k_is_poly : PySem.W.keepIn K (.ref a_is_poly) = true) (b_is_poly : Binds K fd_is_poly ["poly"] []) : FnOk P w K mg base (L2N.CX P w) 2 f fd ["poly"] (spCheckPoly K CP) := by
  obtain ⟨gc_NotPoly, x_NotPoly, kc_NotPoly, bc_NotPoly, tc_NotPoly⟩ := T
  refine F.okXN sc_check_poly (fun vs H Q E h => ?_) (fun cdv A outer s H vs Q E hr h => ?_)
  · obtain ⟨a, l, rfl, _⟩ := h
    rfl
  · obtain ⟨a, l, rfl, ha, q1, q2⟩ := h
    refine ⟨_, (pss_one (ps_if (pt_not (pt_val (pe_call G_is_poly (hr.mono (by decide)) rfl g_is_poly k_is_poly b_is_poly .nil pass0 (pa_cons (pv 0) pa_nil)))) (pss_one (L2N.ps_raise rfl (L2N.takes_of rfl rfl rfl rfl) (L2N.pmk_own PySem.F.excBase_ValueError x_NotPoly gc_NotPoly kc_NotPoly (raises_own bc_NotPoly tc_NotPoly) rfl))) pss_nil)), ?_⟩
    refine ⟨_, rfl, a, l, rfl, ha, _, rfl, ?_⟩
    cases e : isP l with
    | true => exact iteF (q1 e)
    | false => exact iteT (q2 e)
end

theorem sqL_same {K : PySem.W.Frag} {H H' : Hp} {a : Addr} {xs : List V} (e : Same H H') (h : SqL K H a xs) : SqL K H' a xs := by
  rcases h with (h | ⟨o, h⟩) | h
  · exact .inl (.inl (e _ _ h))
  · exact .inl (.inr ⟨o, e _ _ h⟩)
  · exact .inr h
theorem none_back2 {H H' : Hp} {a : Addr} (s : Same H H') (h : H' a = none) : H a = none := by
  cases e : H a with
  | none => rfl
  | some o =>
    rw [s _ _ e] at h
    exact nomatch h

theorem cut_toP {l : List Int} {s : Nat} (h : s ≤ l.length) : cutV (l.map V.int) none (some (s : Int)) = (l.take s).map V.int := by
  unfold cutV
  rw [HT.sIx_none, HT.sIx_nat, List.length_map, Nat.min_eq_left h, List.drop_zero, Nat.sub_zero, ← List.map_take]
/-- no more than zeros from s on -/
def Zs (l : List Int) (s : Nat) : Prop := s ≤ l.length ∧ ∀ i, s ≤ i → co l i = 0
theorem zs_all (l : List Int) : Zs l l.length := ⟨Nat.le_refl _, fun i h => co_ge h⟩
theorem zs_less {l : List Int} {s : Nat} (h : Zs l s) (hs : 0 < s) (h0 : co l (s - 1) = 0) : Zs l (s - 1) := by
  obtain ⟨h1, h2⟩ := h
  refine ⟨by omega, fun i hi => ?_⟩
  by_cases c : i = s - 1
  · rw [c]
    exact h0
  · exact h2 i (by omega)
/-- what a trimmed tuple is -/
structure Tr (l zs : List Int) : Prop where
  pol : Pol zs
  co : ∀ k, co zs k = T.co l k
  len : zs.length ≤ l.length
theorem tr_of {l : List Int} {s : Nat} (h : Zs l s) (h0 : s = 0 ∨ co l (s - 1) ≠ 0) : Tr l (l.take s) :=
  ⟨pol_take h.1 h0 h.2, fun _ => co_take h.2, by rw [List.length_take]; omega⟩
/-- one row more, j entries of it -/
def part (one other : List Int) (i j k : Nat) : Int := conv one other i k + (if i ≤ k ∧ k - i < j then co one i * co other (k - i) else 0)
theorem part_0 (one other : List Int) (i k : Nat) : part one other i 0 k = conv one other i k := by
  unfold part
  rw [if_neg (by omega), Int.add_zero]
theorem part_end (one other : List Int) (i k : Nat) : part one other i other.length k = conv one other (i + 1) k := by
  show _ = conv one other i k + row one other i k
  unfold part row
  by_cases c : i ≤ k
  · rw [if_pos c]
    by_cases c2 : k - i < other.length
    · rw [if_pos ⟨c, c2⟩]
    · rw [if_neg (fun z => c2 z.2), co_ge (l := other) (by omega), Int.mul_zero]
  · rw [if_neg c, if_neg (fun z => c z.1)]
theorem part_step (one other : List Int) (i j k : Nat) : part one other i (j + 1) k = if k = i + j then part one other i j k + co one i * co other j else part one other i j k := by
  unfold part
  by_cases c : k = i + j
  · rw [if_pos c, if_pos (by omega), if_neg (by omega), show k - i = j by omega, Int.add_zero]
  · rw [if_neg c]
    by_cases c2 : i ≤ k ∧ k - i < j
    · rw [if_pos c2, if_pos (by omega)]
    · rw [if_neg c2, if_neg (by omega)]
def prodLen (l m : List Int) : Nat := if l = [] ∨ m = [] then 0 else l.length + m.length - 1
theorem conv_lead {l m : List Int} (hl : l ≠ []) (hm : m ≠ []) : conv l m l.length (l.length + m.length - 2) = co l (l.length - 1) * co m (m.length - 1) := by
  have h1 := List.length_pos_iff.mpr hl
  have h2 := List.length_pos_iff.mpr hm
  rw [show l.length = (l.length - 1) + 1 by omega]
  show conv l m (l.length - 1) (l.length - 1 + 1 + m.length - 2) + row l m (l.length - 1) (l.length - 1 + 1 + m.length - 2) = _
  rw [conv_top l m (l.length - 1) (by omega) (by omega)]
  unfold row
  rw [if_pos (by omega), show l.length - 1 + 1 + m.length - 2 - (l.length - 1) = m.length - 1 by omega, Int.zero_add]
  rfl

def spMul (K : PySem.W.Frag) (CP CT : Addr) : Sp := fun vs H Q E => ∃ (a b : Addr) (l m : List Int), vs = [.ref a, .ref b] ∧ SqT K H a (l.map V.int) ∧ SqT K H b (m.map V.int) ∧ (isP l = false → E (.ref CP) none H) ∧ (isP l = true → isP m = false → E (.ref CP) none H) ∧
  (isP l = true → isP m = true → (prodLen l m > 200 → E (.ref CT) none H) ∧ (prodLen l m ≤ 200 → (∀ x ∈ l, ∀ y ∈ m, CMul x y) ∧
    ∀ t zs H', Same H H' → H' t = some (.tup (zs.map V.int)) → Pol zs → (∀ k, co zs k = conv l m l.length k) → zs.length = prodLen l m → Q (.ref t) H'))
section
variable {P : Program} {w : World} {K : PySem.W.Frag} {mg : Str → Option Value} {base : Heap}
/-! ### multiplied_polys -/
theorem ok_multiplied_polys {f CP CT a_check_poly : Addr} {fd fd_check_poly : FuncData} {tm : Tok} (F : Fun K "multiplied_polys" "multiplied_polys" s_multiplied_polys f fd) (z_len : mg "len" = none) (z_tuple : mg "tuple" = none) (z_enumerate : mg "enumerate" = none)
    (T : ErrC K mg "TooLarge" CT) (m_MOST_PARTS : mg "MOST_PARTS" = some (.int 200 tm))
    (G_check_poly : FnOk P w K mg base (L2N.CX P w) 2 a_check_poly fd_check_poly ["poly"] (spCheckPoly K CP)) (g_check_poly : mg "check_poly" = some (.ref a_check_poly)) (k_check_poly : PySem.W.keepIn K (.ref a_check_poly) = true) (b_check_poly : Binds K fd_check_poly ["poly"] []) : FnOk P w K mg base (L2N.CX P w) 3 f fd ["one", "other"] (spMul K CP CT) := by
  obtain ⟨gc_TooLarge, x_TooLarge, kc_TooLarge, bc_TooLarge, tc_TooLarge⟩ := T
  have r_MOST_PARTS : RelV (.int 200) (.int 200 tm) := ⟨_, rfl⟩
  refine F.okXN sc_multiplied_polys (fun vs H Q E h => ?_) (fun cdv A outer s H vs Q E hr h => ?_)
  · obtain ⟨a, b, l, m, rfl, _⟩ := h
    rfl
  · obtain ⟨a, b, l, m, rfl, ha, hb, q1, q2, q⟩ := h
    refine ⟨_, (pss_cons (ps_expr (pe_call G_check_poly (hr.mono (by decide)) rfl g_check_poly k_check_poly b_check_poly .nil (L2N.passes_call (L2N.takes_of rfl rfl rfl rfl) (fun _ _ _ _ h => h)) (pa_cons (pv 0) pa_nil)))
  (pss_cons (ps_expr (pe_call G_check_poly (hr.mono (by decide)) rfl g_check_poly k_check_poly b_check_poly .nil (L2N.passes_call (L2N.takes_of rfl rfl rfl rfl) (fun _ _ _ _ h => h)) (pa_cons (pv 1) pa_nil)))
  (pss_cons (ps_if (L2.PW.pt (pw_or (pt_not (pt_truth (pv 0) (by intro _; rfl))) (pw_or1 (pt_not (pt_truth (pv 1) (by intro _; rfl)))))) (pss_one (ps_ret (pe_tup pa_nil))) pss_nil)
  (pss_cons (ps_if (pt_cmpR op_gt (pe_op op_sub (pe_op op_add (pe_callB call_len_seq (by rfl) z_len boot_len (pa_cons (pv 0) pa_nil)) (pe_callB call_len_seq (by rfl) z_len boot_len (pa_cons (pv 1) pa_nil))) pe_int) (pe_glob rfl m_MOST_PARTS r_MOST_PARTS) (nomark _)) (pss_one (L2N.ps_raise rfl (L2N.takes_of rfl rfl rfl rfl) (L2N.pmk_own PySem.F.excBase_ValueError x_TooLarge gc_TooLarge kc_TooLarge (raises_own bc_TooLarge tc_TooLarge) rfl))) pss_nil)
  (pss_cons (ps_set (i := 2) sc_multiplied_polys.nd rfl (.inl rfl) (pe_op op_rep (pe_lst (pa_cons pe_int pa_nil)) (pe_op op_sub (pe_op op_add (pe_callB call_len_seq (by rfl) z_len boot_len (pa_cons (pv 0) pa_nil)) (pe_callB call_len_seq (by rfl) z_len boot_len (pa_cons (pv 1) pa_nil))) pe_int)))
  (pss_cons (ps_for (passes_of rfl) rfl (pi_enumT rfl z_enumerate (pa_cons (pv 0) pa_nil)) (pg_tup rfl (pgs_cons (pg_name (i := 3) sc_multiplied_polys.nd rfl (.inl rfl)) (pgs_cons (pg_name (i := 4) sc_multiplied_polys.nd rfl (.inl rfl)) pgs_nil))) (pss_one (ps_for (passes_of rfl) rfl (pi_enumT rfl z_enumerate (pa_cons (pv 1) pa_nil)) (pg_tup rfl (pgs_cons (pg_name (i := 5) sc_multiplied_polys.nd rfl (.inl rfl)) (pgs_cons (pg_name (i := 6) sc_multiplied_polys.nd rfl (.inl rfl)) pgs_nil))) (pss_one (ps_asg (pe_op op_add (pe_ix ix_list (pv 2) (pe_op op_add (pv 3) (pv 5)) (fun _ _ => rfl)) (pe_op op_mul (pv 4) (pv 6))) (pg_sub (pv 2) (pe_op op_add (pv 3) (pv 5)) set_list))))))
  (pss_one (ps_ret (pe_callTy call_tuple_of (by rfl) z_tuple boot_tuple (pa_cons (pv 2) pa_nil)))))))))), ?_⟩
    have szl : 2000 ≤ sizeLine := by decide
    refine ⟨_, rfl, a, l, rfl, ha, fun e1 => ?_, q1⟩
    refine ⟨_, rfl, b, m, rfl, hb, fun e2 => ?_, q2 e1⟩
    obtain ⟨p1, h1⟩ := isP_pol e1
    obtain ⟨p2, h2⟩ := isP_pol e2
    obtain ⟨qT, q⟩ := q e1 e2
    have emp : (l = [] ∨ m = []) → ∀ t, H t = none → Q (.ref t) (upd H t (.tup [])) := fun c t nt => by
      have pl : prodLen l m = 0 := if_pos c
      refine (q (by omega)).2 t [] _ (same_upd nt) upd_same (.inl rfl) (fun k => ?_) pl.symm
      rw [show co [] k = 0 from co_ge (Nat.zero_le _)]
      rcases c with rfl | rfl
      · rfl
      · rw [conv_zero]
    refine ⟨_, rfl, _, .inr (.inl ⟨_, ha, rfl⟩), ?_⟩
    by_cases cl : l = []
    · subst cl
      exact iteT (iteT ⟨(by show 0 ≤ sizeLine; decide), fun t nt => emp (.inl rfl) t nt⟩)
    have il : (l.map V.int).isEmpty = false := by
      cases l with
      | nil => exact absurd rfl cl
      | cons _ _ => rfl
    rw [il]
    refine iteF ?_
    refine ⟨_, rfl, _, .inr (.inl ⟨_, hb, rfl⟩), ?_⟩
    by_cases cm : m = []
    · subst cm
      exact iteT ⟨(by show 0 ≤ sizeLine; decide), fun t nt => emp (.inr rfl) t nt⟩
    have im : (m.map V.int).isEmpty = false := by
      cases m with
      | nil => exact absurd rfl cm
      | cons _ _ => rfl
    rw [im]
    refine iteF ?_
    have pl : prodLen l m = l.length + m.length - 1 := if_neg (fun z => z.elim cl cm)
    have n1 := List.length_pos_iff.mpr cl
    have n2 := List.length_pos_iff.mpr cm
    refine ⟨_, rfl, a, _, rfl, .inr ha, _, rfl, b, _, rfl, .inr hb, _, _, rfl, rfl, _, _, rfl, rfl, _, _, rfl, rfl, _, rfl, ?_⟩
    rw [List.length_map, List.length_map]
    have e3 : ((l.length : Nat) : Int) + ((m.length : Nat) : Int) - 1 = ((prodLen l m : Nat) : Int) := by omega
    rw [e3]
    by_cases cT : prodLen l m > 200
    · rw [decide_eq_true (show ((prodLen l m : Nat) : Int) > 200 by omega)]
      exact iteT (qT cT)
    rw [decide_eq_false (show ¬ ((prodLen l m : Nat) : Int) > 200 by omega)]
    refine iteF ?_
    obtain ⟨hm, q⟩ := q (by omega)
    refine ⟨(by show 1 ≤ sizeLine; decide), fun z nz => ?_⟩
    have hz : SqT K (upd H z (.lst [.int 0])) a (l.map V.int) := sqT_same (same_upd nz) ha
    have hz2 : SqT K (upd H z (.lst [.int 0])) b (m.map V.int) := sqT_same (same_upd nz) hb
    refine ⟨_, rfl, a, _, rfl, .inr hz, _, rfl, b, _, rfl, .inr hz2, _, _, rfl, rfl, _, _, rfl, rfl, z, _, _, rfl, rfl, upd_same, ?_⟩
    rw [List.length_map, List.length_map, e3]
    generalize eN : prodLen l m = N at *
    refine ⟨by omega, by omega, by show 1 * _ ≤ sizeLine; omega, fun D nD => ?_⟩
    rw [show ((N : Nat) : Int).toNat = N from rfl, rep0]
    have s1 : Same H (upd (upd H z (.lst [.int 0])) D (.lst ((List.replicate N (0 : Int)).map V.int))) := Same.trans (same_upd nz) (same_upd nD)
    have hD1 : upd (upd H z (.lst [.int 0])) D (.lst ((List.replicate N (0 : Int)).map V.int)) D = some (.lst ((List.replicate N (0 : Int)).map V.int)) := upd_same
    have nD0 : H D = none := by
      by_cases e : D = z
      · rw [e]
        exact nz
      · rwa [upd_ne e] at nD
    revert s1 hD1
    generalize upd (upd H z (.lst [.int 0])) D (.lst ((List.replicate N (0 : Int)).map V.int)) = H1
    intro s1 hD1
    refine ⟨_, rfl, a, _, rfl, sqT_same s1 ha, for_it walk_enumT (fun i σ H' => ∃ v3 v4 v5 v6 ps, σ = [some (.ref a), some (.ref b), some (.ref D), v3, v4, v5, v6] ∧ Same H H' ∧ H' D = some (.lst (ps.map V.int)) ∧ ps.length = N ∧ ∀ k, co ps k = conv l m i k)
      ⟨none, none, none, none, _, rfl, s1, hD1, List.length_replicate, fun k => by rw [co_zeros]; rfl⟩ (fun i σ H' _ ⟨_, _, _, _, _, _, s', _⟩ => sqT_same s' ha) (fun i y σ H2 H3 hi hP hy => ?_) (fun σ H' hP => ?_)⟩
    · obtain ⟨v3, v4, v5, v6, ps, rfl, s2, hD2, lp, hc⟩ := hP
      obtain ⟨p, x, y', rfl, np, rfl, ex, ey⟩ := hy
      obtain rfl : V.int (i : Nat) = x := Option.some.inj ex
      have hi' : i < l.length := by rwa [List.length_map] at hi
      have ey2 : (l.map V.int)[i]? = some (.int (co l i)) := by rw [List.getElem?_map, co_get hi']; rfl
      obtain rfl : V.int (co l i) = y' := Option.some.inj (ey2.symm.trans ey)
      refine ⟨p, _, rfl, .inl (.inl upd_same), rfl, _, _, rfl, _, _, rfl, rfl, ?_⟩
      have s3 : Same H (upd H2 p (.tup [.int (i : Nat), .int (co l i)])) := Same.trans s2 (same_upd np)
      have hD3 : upd H2 p (.tup [.int (i : Nat), .int (co l i)]) D = some (.lst (ps.map V.int)) := by rw [upd_ne (ne_of_none hD2 np)]; exact hD2
      revert s3 hD3
      generalize upd H2 p (.tup [.int (i : Nat), .int (co l i)]) = H3
      intro s3 hD3
      refine ⟨_, rfl, b, _, rfl, sqT_same s3 hb, for_it walk_enumT (fun j σ H' => ∃ v5 v6 ps, σ = [some (.ref a), some (.ref b), some (.ref D), some (.int (i : Nat)), some (.int (co l i)), v5, v6] ∧ Same H H' ∧ H' D = some (.lst (ps.map V.int)) ∧ ps.length = N ∧ ∀ k, co ps k = part l m i j k)
        ⟨v5, v6, ps, rfl, s3, hD3, lp, fun k => by rw [hc, part_0]⟩ (fun i σ H' _ ⟨_, _, _, _, s', _⟩ => sqT_same s' hb) (fun j y σ H4 H5 hj hP hy => ?_) (fun σ H' hP => ?_)⟩
      · obtain ⟨v5, v6, ps, rfl, s4, hD4, lp, hc⟩ := hP
        obtain ⟨p2, x2, y2, rfl, np2, rfl, ex2, ey2⟩ := hy
        obtain rfl : V.int (j : Nat) = x2 := Option.some.inj ex2
        have hj' : j < m.length := by rwa [List.length_map] at hj
        have ey3 : (m.map V.int)[j]? = some (.int (co m j)) := by rw [List.getElem?_map, co_get hj']; rfl
        obtain rfl : V.int (co m j) = y2 := Option.some.inj (ey3.symm.trans ey2)
        refine ⟨p2, _, rfl, .inl (.inl upd_same), rfl, _, _, rfl, _, _, rfl, rfl, ?_⟩
        have s5 : Same H (upd H4 p2 (.tup [.int (j : Nat), .int (co m j)])) := Same.trans s4 (same_upd np2)
        have hD5 : upd H4 p2 (.tup [.int (j : Nat), .int (co m j)]) D = some (.lst (ps.map V.int)) := by rw [upd_ne (ne_of_none hD4 np2)]; exact hD4
        revert s5 hD5
        generalize upd H4 p2 (.tup [.int (j : Nat), .int (co m j)]) = H6
        intro s5 hD5
        have hij : i + j < ps.length := by omega
        have ea : ((i : Nat) : Int) + ((j : Nat) : Int) = ((i + j : Nat) : Int) := by omega
        refine ⟨_, rfl, _, rfl, _, rfl, _, _, rfl, rfl, D, _, _, _, rfl, rfl, .inl (.inl hD5), (by rw [ea]; exact at_co hij), _, rfl, _, rfl, _, _, rfl, rfl, hm _ (co_mem hi') _ (co_mem hj'), _, _, rfl, rfl, ?_⟩
        refine ⟨_, rfl, _, rfl, _, rfl, _, _, rfl, rfl, D, _, _, i + j, rfl, rfl, hD5, (by rw [ea]; exact ixN_nat (by rw [List.length_map]; exact hij)), ?_⟩
        refine ⟨_, _, ps.set (i + j) (co ps (i + j) + co l i * co m j), rfl, Same.mut s5 nD0, by rw [upd_same, map_set], by rw [List.length_set]; exact lp, fun k => ?_⟩
        rw [co_set k hij, part_step]
        by_cases c : k = i + j
        · rw [if_pos c, if_pos c, c, hc]
        · rw [if_neg c, if_neg c, hc]
      · obtain ⟨v5, v6, ps, rfl, s4, hD4, lp, hc⟩ := hP
        exact ⟨_, _, _, _, ps, rfl, s4, hD4, lp, fun k => by rw [hc, List.length_map, part_end]⟩
    · obtain ⟨v3, v4, v5, v6, ps, rfl, s2, hD2, lp, hc⟩ := hP
      refine ⟨_, rfl, D, _, rfl, .inl ⟨.inl (.inl hD2), fun t nt => ?_⟩⟩
      refine q t ps _ (Same.trans s2 (same_upd nt)) upd_same (.inr ?_) (fun k => by rw [hc, List.length_map]) lp
      rw [hc, List.length_map, lp, pl, show l.length + m.length - 1 - 1 = l.length + m.length - 2 by omega, conv_lead cl cm]
      exact Int.mul_ne_zero (p1.resolve_left cl) (p2.resolve_left cm)
end

theorem cut_last {l : List Int} : cutV (l.map V.int) none (some (-1)) = (l.take (l.length - 1)).map V.int := by
  unfold cutV
  rw [HT.sIx_none, List.length_map, List.drop_zero, Nat.sub_zero]
  have e : HT.sIx l.length l.length (some (-1)) = l.length - 1 := by
    show (if (-1 : Int) < 0 then ((-1 : Int) + (l.length : Int)).toNat else min (-1 : Int).toNat l.length) = _
    rw [if_pos (by decide)]
    omega
  rw [e, ← List.map_take]
/-- what lies behind i of the parts, from the end on -/
def hsum (x : Int) (l : List Int) (i : Nat) : List Int := (List.range i).map fun t => ev x (l.drop (l.length - 1 - t))
theorem hsum_len (x : Int) (l : List Int) (i : Nat) : (hsum x l i).length = i := by
  unfold hsum
  rw [List.length_map, List.length_range]
theorem hsum_more (x : Int) (l : List Int) (i : Nat) : hsum x l (i + 1) = hsum x l i ++ [ev x (l.drop (l.length - 1 - i))] := by
  unfold hsum
  rw [List.range_succ, List.map_append]
  rfl
def quo (x : Int) (l : List Int) : List Int := ((hsum x l l.length).take (l.length - 1)).reverse
theorem quo_len (x : Int) (l : List Int) : (quo x l).length = l.length - 1 := by
  unfold quo
  rw [List.length_reverse, List.length_take, hsum_len]
  omega
theorem quo_co (x : Int) (l : List Int) (k : Nat) : co (quo x l) k = ev x (l.drop (k + 1)) := by
  rcases Nat.lt_or_ge k (l.length - 1) with c | c
  · have hl : ((hsum x l l.length).take (l.length - 1)).length = l.length - 1 := by rw [List.length_take, hsum_len]; omega
    unfold co quo
    rw [List.getD_eq_getElem?_getD, List.getElem?_reverse (by omega), hl, List.getElem?_take_of_lt (by omega)]
    unfold hsum
    rw [List.getElem?_map, List.getElem?_range (by omega)]
    show ev x (l.drop (l.length - 1 - (l.length - 1 - 1 - k))) = _
    congr 2
    omega
  · rw [co_ge (by rw [quo_len]; exact c), List.drop_eq_nil_of_le (by omega)]
    rfl
def spSplit (K : PySem.W.Frag) : Sp := fun vs H Q _ => ∃ (a : Addr) (x : Int) (l : List Int), vs = [.ref a, .int x] ∧ (SqL K H a (l.map V.int) ∨ SqT K H a (l.map V.int)) ∧ l.length ≤ 1000 ∧ x.natAbs < 2 ^ 62 ∧
  ∀ t u H', Same H H' → H t = none → H u = none → H' t = some (.tup [.ref u, .int (ev x l)]) → H' u = some (.lst ((quo x l).map V.int)) → Q (.ref t) H'
section
variable {P : Program} {w : World} {K : PySem.W.Frag} {mg : Str → Option Value} {base : Heap}
/-! ### _split_off -/
theorem ok_split_off_ {f : Addr} {fd : FuncData} (F : Fun K "_split_off" "_split_off" s_split_off_ f fd) (z_reversed : mg "reversed" = none) : FnOk P w K mg base CX0 1 f fd ["parts", "x"] (spSplit K) := by
  refine F.ok sc_split_off_ (fun vs H Q E h => ?_) (fun cdv A outer s H vs Q E hr h => ?_)
  · obtain ⟨a, x, l, rfl, _⟩ := h
    rfl
  · obtain ⟨a, x, l, rfl, ha, hl, hx, q⟩ := h
    refine ⟨_, (pss_cons (ps_set (i := 2) sc_split_off_.nd rfl (.inl rfl) (pe_lst pa_nil))
  (pss_cons (ps_set (i := 3) sc_split_off_.nd rfl (.inl rfl) pe_int)
  (pss_cons (ps_for PassesOwn.never rfl (RT.pi_revA rfl z_reversed (pv 0)) (pg_name (i := 4) sc_split_off_.nd rfl (.inl rfl)) (pss_cons (ps_set (i := 3) sc_split_off_.nd rfl (.inl rfl) (pe_op op_add (pe_op op_mul (pv 3) (pv 1)) (pv 4)))
  (pss_one (ps_expr (pe_bm PySem.F.plainAttrs_list PySem.F.slot_list_append PySem.F.type_list_append mt_append (pv 2) (pa_cons (pv 3) pa_nil))))))
  (pss_one (ps_ret (pe_tup (pa_cons (pe_revL (pe_slice sl_list (pv 2) po_none (po_some (pe_un un_neg pe_int)))) (pa_cons (pv 3) pa_nil)))))))), ?_⟩
    have szl : 2000 ≤ sizeLine := by decide
    refine ⟨(by show 0 ≤ sizeLine; decide), fun D nD => ?_⟩
    have s1 : Same H (upd H D (.lst [])) := same_upd nD
    let Pv : Nat → L2.St → Hp → Prop := fun i σ H' => ∃ v4, σ = [some (.ref a), some (.int x), some (.ref D), some (.int (ev x (l.drop (l.length - i)))), v4] ∧ Same H H' ∧ H' D = some (.lst ((hsum x l i).map V.int))
    have p0 : Pv 0 [some (.ref a), some (.int x), some (.ref D), some (.int 0), none] (upd H D (.lst [])) := ⟨none, by rw [Nat.sub_zero, List.drop_length]; rfl, s1, upd_same⟩
    have get : ∀ (i : Nat) (y : V), i < (l.map V.int).length → (l.map V.int)[(l.map V.int).length - 1 - i]? = some y → y = .int (co l (l.length - 1 - i)) := fun i y hi hy => by
      rw [List.length_map] at hi hy
      rw [List.getElem?_map, co_get (by omega)] at hy
      exact (Option.some.inj hy).symm
    have step : ∀ i, i < l.length → ev x (l.drop (l.length - i)) * x + co l (l.length - 1 - i) = ev x (l.drop (l.length - (i + 1))) := fun i hi => by
      rw [show l.length - (i + 1) = l.length - 1 - i by omega, ev_drop x (i := l.length - 1 - i) (by omega), show l.length - 1 - i + 1 = l.length - i by omega, Int.mul_comm, Int.add_comm]
    have turn : ∀ (i : Nat) (y : V) (σ : L2.St) (H1 : Hp), i < (l.map V.int).length → (l.map V.int)[(l.map V.int).length - 1 - i]? = some y → Pv i σ H1 → True := fun _ _ _ _ _ _ _ => trivial
    have cm : ∀ z, CMul z x := fun z => .inr ⟨by omega, by omega⟩
    refine ⟨_, rfl, a, l.map V.int, rfl, ?_⟩
    rcases ha with ha | ha
    · refine .inl ⟨sqL_same s1 ha, ?_⟩
      refine RT.for_Itv Pv p0 (fun i σ H' ⟨_, _, s', _⟩ => sqL_same s' ha) (fun i y σ H' hi hy hP => ?_) (fun σ H' hP => ?_)
      · obtain rfl := get i y hi hy
        obtain ⟨v4, rfl, s2, hD⟩ := hP
        rw [List.length_map] at hi
        refine ⟨_, rfl, _, rfl, _, _, rfl, rfl, cm _, _, rfl, _, _, rfl, rfl, ?_⟩
        dsimp only
        rw [step i hi]
        refine ⟨_, rfl, .inl ⟨rfl, _, .inl (.inl hD)⟩, _, rfl, D, _, _, rfl, rfl, hD, by rw [List.length_map, hsum_len]; omega, ?_⟩
        refine ⟨_, rfl, Same.mut s2 nD, ?_⟩
        rw [upd_same, hsum_more, List.map_append, show l.length - (i + 1) = l.length - 1 - i by omega]
        rfl
      · obtain ⟨v4, rfl, s2, hD⟩ := hP
        rw [List.length_map, Nat.sub_self] at *
        refine ⟨_, rfl, _, rfl, _, rfl, D, _, rfl, .inl (.inl hD), fun p np => ?_⟩
        rw [cut_last, hsum_len]
        refine ⟨p, _, rfl, .inl (.inl upd_same), fun u nu => ?_⟩
        rw [← List.map_reverse]
        refine ⟨_, rfl, (by show 2 ≤ sizeLine; decide), fun t nt => ?_⟩
        have h1 : H' p = none := np
        have s3 : Same H (upd H' p (.lst (((hsum x l l.length).take (l.length - 1)).map V.int))) := Same.trans s2 (same_upd np)
        have s4 : Same H (upd (upd H' p (.lst (((hsum x l l.length).take (l.length - 1)).map V.int))) u (.lst ((quo x l).map V.int))) := Same.trans s3 (same_upd nu)
        have hu : upd (upd H' p (.lst (((hsum x l l.length).take (l.length - 1)).map V.int))) u (.lst ((quo x l).map V.int)) u = some (.lst ((quo x l).map V.int)) := upd_same
        exact q t u _ (Same.trans s4 (same_upd nt)) (none_back s4 nt) (none_back s3 nu) upd_same (by rw [upd_ne (ne_of_none hu nt)]; exact hu)
    · refine .inr ⟨sqT_same s1 ha, ?_⟩
      refine RT.for_ItvT Pv p0 (fun i σ H' ⟨_, _, s', _⟩ => sqT_same s' ha) (fun i y σ H' hi hy hP => ?_) (fun σ H' hP => ?_)
      · obtain rfl := get i y hi hy
        obtain ⟨v4, rfl, s2, hD⟩ := hP
        rw [List.length_map] at hi
        refine ⟨_, rfl, _, rfl, _, _, rfl, rfl, cm _, _, rfl, _, _, rfl, rfl, ?_⟩
        dsimp only
        rw [step i hi]
        refine ⟨_, rfl, .inl ⟨rfl, _, .inl (.inl hD)⟩, _, rfl, D, _, _, rfl, rfl, hD, by rw [List.length_map, hsum_len]; omega, ?_⟩
        refine ⟨_, rfl, Same.mut s2 nD, ?_⟩
        rw [upd_same, hsum_more, List.map_append, show l.length - (i + 1) = l.length - 1 - i by omega]
        rfl
      · obtain ⟨v4, rfl, s2, hD⟩ := hP
        rw [List.length_map, Nat.sub_self] at *
        refine ⟨_, rfl, _, rfl, _, rfl, D, _, rfl, .inl (.inl hD), fun p np => ?_⟩
        rw [cut_last, hsum_len]
        refine ⟨p, _, rfl, .inl (.inl upd_same), fun u nu => ?_⟩
        rw [← List.map_reverse]
        refine ⟨_, rfl, (by show 2 ≤ sizeLine; decide), fun t nt => ?_⟩
        have h1 : H' p = none := np
        have s3 : Same H (upd H' p (.lst (((hsum x l l.length).take (l.length - 1)).map V.int))) := Same.trans s2 (same_upd np)
        have s4 : Same H (upd (upd H' p (.lst (((hsum x l l.length).take (l.length - 1)).map V.int))) u (.lst ((quo x l).map V.int))) := Same.trans s3 (same_upd nu)
        have hu : upd (upd H' p (.lst (((hsum x l l.length).take (l.length - 1)).map V.int))) u (.lst ((quo x l).map V.int)) u = some (.lst ((quo x l).map V.int)) := upd_same
        exact q t u _ (Same.trans s4 (same_upd nt)) (none_back s4 nt) (none_back s3 nu) upd_same (by rw [upd_ne (ne_of_none hu nt)]; exact hu)
end

def spValueAt (K : PySem.W.Frag) (CP : Addr) : Sp := fun vs H Q E => ∃ (a : Addr) (x : Int) (l : List Int), vs = [.ref a, .int x] ∧ SqT K H a (l.map V.int) ∧ (isP l = false → E (.ref CP) none H) ∧ (isP l = true → x.natAbs < 2 ^ 62 ∧ ∀ H', Same H H' → Q (.int (ev x l)) H')
section
variable {P : Program} {w : World} {K : PySem.W.Frag} {mg : Str → Option Value} {base : Heap}
/-! ### value_at -/
theorem ok_value_at {f CP a_check_poly a_split_off_ : Addr} {fd fd_check_poly fd_split_off_ : FuncData} (F : Fun K "value_at" "value_at" s_value_at f fd)
    (G_check_poly : FnOk P w K mg base (L2N.CX P w) 2 a_check_poly fd_check_poly ["poly"] (spCheckPoly K CP)) (g_check_poly : mg "check_poly" = some (.ref a_check_poly)) (k_check_poly : PySem.W.keepIn K (.ref a_check_poly) = true) (b_check_poly : Binds K fd_check_poly ["poly"] [])
    (G_split_off_ : FnOk P w K mg base CX0 1 a_split_off_ fd_split_off_ ["parts", "x"] (spSplit K)) (g_split_off_ : mg "_split_off" = some (.ref a_split_off_)) (k_split_off_ : PySem.W.keepIn K (.ref a_split_off_) = true) (b_split_off_ : Binds K fd_split_off_ ["parts", "x"] []) : FnOk P w K mg base (L2N.CX P w) 3 f fd ["poly", "x"] (spValueAt K CP) := by
  refine F.okXN sc_value_at (fun vs H Q E h => ?_) (fun cdv A outer s H vs Q E hr h => ?_)
  · obtain ⟨a, x, l, rfl, _⟩ := h
    rfl
  · obtain ⟨a, x, l, rfl, ha, q1, q2⟩ := h
    refine ⟨_, (pss_cons (ps_expr (pe_call G_check_poly (hr.mono (by decide)) rfl g_check_poly k_check_poly b_check_poly .nil (L2N.passes_call (L2N.takes_of rfl rfl rfl rfl) (fun _ _ _ _ h => h)) (pa_cons (pv 0) pa_nil)))
  (pss_cons (ps_asg (pe_call G_split_off_ (hr.mono (by decide)) rfl g_split_off_ k_split_off_ b_split_off_ .nil pass0 (pa_cons (pv 0) (pa_cons (pv 1) pa_nil))) (pg_tup rfl (pgs_cons (pg_name (i := 2) sc_value_at.nd rfl (.inl rfl)) (pgs_cons (pg_name (i := 3) sc_value_at.nd rfl (.inl rfl)) pgs_nil))))
  (pss_one (ps_ret (pv 3))))), ?_⟩
    refine ⟨_, rfl, a, l, rfl, ha, fun e1 => ?_, q1⟩
    obtain ⟨hx, q⟩ := q2 e1
    have h1 := (isP_pol e1).2
    refine ⟨_, rfl, _, rfl, a, x, l, rfl, .inr ha, by omega, hx, fun t u H' s' _ _ ht hu => ?_⟩
    exact ⟨t, _, rfl, .inl (.inl ht), rfl, _, _, rfl, _, _, rfl, rfl, _, rfl, q H' s'⟩
end

def spValue (K : PySem.W.Frag) (CW CP : Addr) : Sp := fun vs H Q E => ∃ (x a : Addr) (p d : Int) (l : List Int), vs = [.ref x, .ref a] ∧ SqT K H x [.int p, .int d] ∧ SqT K H a (l.map V.int) ∧ (isW p d = false → E (.ref CW) none H) ∧ (isW p d = true → isP l = false → E (.ref CP) none H) ∧
  (isW p d = true → isP l = true → ∀ t u v H', IsNum p (ev d l) 1 u v → Same H H' → H' t = some (.tup [.int u, .int v]) → Q (.ref t) H')
theorem bad_1 {p : Int} (hp : p = 0 ∨ p ∈ primes) : ¬ bad p 1 := fun z => by
  rcases z with z | ⟨z1, z2⟩
  · cases z
  · have hp2 := prime_pos (hp.resolve_left (by omega))
    rw [Int.emod_eq_of_lt (by decide) (by omega)] at z2
    cases z2
section
variable {P : Program} {w : World} {K : PySem.W.Frag} {mg : Str → Option Value} {base : Heap}
/-! ### value -/
theorem ok_value {f CW CP CB a_check_world a_number a_value_at : Addr} {fd fd_check_world fd_number fd_value_at : FuncData} {un : Tok} (F : Fun K "value" "value" s_value f fd)
    (G_check_world : FnOk P w K mg base (L2N.CX P w) 2 a_check_world fd_check_world ["world"] (spCheckWorld K CW)) (g_check_world : mg "check_world" = some (.ref a_check_world)) (k_check_world : PySem.W.keepIn K (.ref a_check_world) = true) (b_check_world : Binds K fd_check_world ["world"] [])
    (G_number : FnOk P w K mg base (L2N.CX P w) 3 a_number fd_number ["world", "a", "b"] (spNumber K CW CB)) (g_number : mg "number" = some (.ref a_number)) (k_number : PySem.W.keepIn K (.ref a_number) = true) (b_number : Binds K fd_number ["world", "a", "b"] [])
    (G_value_at : FnOk P w K mg base (L2N.CX P w) 3 a_value_at fd_value_at ["poly", "x"] (spValueAt K CP)) (g_value_at : mg "value_at" = some (.ref a_value_at)) (k_value_at : PySem.W.keepIn K (.ref a_value_at) = true) (b_value_at : Binds K fd_value_at ["poly", "x"] [])
    (b_number2 : Binds K fd_number ["world", "a", "b"] [.int 1 un]) : FnOk P w K mg base (L2N.CX P w) 4 f fd ["world", "poly"] (spValue K CW CP) := by
  refine F.okXN sc_value (fun vs H Q E h => ?_) (fun cdv A outer s H vs Q E hr h => ?_)
  · obtain ⟨x, a, p, d, l, rfl, _⟩ := h
    rfl
  · obtain ⟨x, a, p, d, l, rfl, hx, ha, q1, q2, q3⟩ := h
    refine ⟨_, (pss_cons (ps_expr (pe_call G_check_world (hr.mono (by decide)) rfl g_check_world k_check_world b_check_world .nil (L2N.passes_call (L2N.takes_of rfl rfl rfl rfl) (fun _ _ _ _ h => h)) (pa_cons (pv 0) pa_nil)))
  (pss_one (ps_ret (pe_call G_number (hr.mono (by decide)) rfl g_number k_number b_number2 (show Vals [V.int 1] [Value.int 1 un] from .cons ⟨un, rfl⟩ .nil) (L2N.passes_call (L2N.takes_of rfl rfl rfl rfl) (fun _ _ _ _ h => h)) (pa_cons (pv 0) (pa_cons (pe_call G_value_at (hr.mono (by decide)) rfl g_value_at k_value_at b_value_at .nil (L2N.passes_call (L2N.takes_of rfl rfl rfl rfl) (fun _ _ _ _ h => h)) (pa_cons (pv 1) (pa_cons (pe_ix ix_tup (pv 0) pe_int (fun _ _ => rfl)) pa_nil))) pa_nil)))))), ?_⟩
    refine ⟨_, rfl, x, p, d, rfl, hx, fun ew => ?_, q1⟩
    obtain ⟨hp, hd⟩ := isW_cases ew
    refine ⟨_, rfl, _, rfl, _, rfl, x, _, 1, .int d, rfl, rfl, hx, atI_nat (j := 1) rfl, a, d, l, rfl, ha, q2 ew, fun e1 => ⟨by omega, fun H' s' => ?_⟩⟩
    exact ⟨x, p, d, ev d l, 1, rfl, sqT_same s' hx, (by decide), fun z => (by rw [ew] at z; exact nomatch z), fun _ z => absurd z (bad_1 hp), fun _ _ t u v hn nt => q3 ew e1 t u v _ hn (Same.trans s' (same_upd nt)) upd_same⟩
end

/-- how often x is a root, at most n times -/
def rcn (x : Int) : Nat → List Int → Nat
  | 0, _ => 0
  | n + 1, l => if ev x l = 0 then rcn x n (quo x l) + 1 else 0
theorem ev_ne {x : Int} {l : List Int} (hl : l.length = 1) (h : co l 0 ≠ 0) : ev x l ≠ 0 := by
  match l, hl with
  | [a], _ =>
    show a + x * 0 ≠ 0
    rw [Int.mul_zero, Int.add_zero]
    exact h
theorem quo_lead {x : Int} {l : List Int} (h : 2 ≤ l.length) : co (quo x l) (l.length - 2) = co l (l.length - 1) := by
  rw [quo_co, show l.length - 2 + 1 = l.length - 1 by omega, ev_drop x (by omega), show l.length - 1 + 1 = l.length by omega, List.drop_length]
  show _ + x * 0 = _
  rw [Int.mul_zero, Int.add_zero]
theorem quo_pol {x : Int} {l : List Int} (hl : l ≠ []) (pl : Pol l) (h : ev x l = 0) : 2 ≤ l.length ∧ quo x l ≠ [] ∧ Pol (quo x l) ∧ (quo x l).length = l.length - 1 := by
  have n0 := List.length_pos_iff.mpr hl
  have lead := pl.resolve_left hl
  have l2 : 2 ≤ l.length := by
    refine Decidable.byContradiction fun z => ?_
    have e : l.length = 1 := by omega
    rw [e] at lead
    exact ev_ne e lead h
  have lq := quo_len x l
  have qn : quo x l ≠ [] := fun z => by
    rw [z] at lq
    have : 0 = l.length - 1 := lq
    omega
  refine ⟨l2, qn, .inr ?_, lq⟩
  rw [lq, show l.length - 1 - 1 = l.length - 2 by omega, quo_lead l2]
  exact lead
theorem rcn_more {x : Int} : ∀ (n : Nat) {l : List Int}, l ≠ [] → Pol l → l.length ≤ n → rcn x n l = rcn x l.length l
  | 0, l, hl, _, h => absurd (List.eq_nil_of_length_eq_zero (by omega)) hl
  | n + 1, l, hl, pl, h => by
    obtain ⟨k, hk⟩ : ∃ k, l.length = k + 1 := ⟨l.length - 1, by have := List.length_pos_iff.mpr hl; omega⟩
    rw [hk]
    show (if ev x l = 0 then rcn x n (quo x l) + 1 else 0) = (if ev x l = 0 then rcn x k (quo x l) + 1 else 0)
    by_cases c : ev x l = 0
    · rw [if_pos c, if_pos c]
      obtain ⟨_, q1, q2, q3⟩ := quo_pol hl pl c
      rw [rcn_more n q1 q2 (by omega), rcn_more k q1 q2 (by omega)]
    · rw [if_neg c, if_neg c]
termination_by n => n
section
variable {P : Program} {w : World} {K : PySem.W.Frag} {mg : Str → Option Value} {base : Heap}
/-! ### _root_count -/
def spRootCount (K : PySem.W.Frag) : Sp := fun vs H Q _ => ∃ (a : Addr) (x : Int) (l : List Int), vs = [.ref a, .int x] ∧ SqT K H a (l.map V.int) ∧ Pol l ∧ l ≠ [] ∧ l.length ≤ 1000 ∧ x.natAbs < 2 ^ 62 ∧ ∀ H', Same H H' → Q (.int (rcn x l.length l : Nat)) H'
theorem ok_root_count_ {f a_split_off_ : Addr} {fd fd_split_off_ : FuncData} (F : Fun K "_root_count" "_root_count" s_root_count_ f fd)
    (G_split_off_ : FnOk P w K mg base CX0 1 a_split_off_ fd_split_off_ ["parts", "x"] (spSplit K)) (g_split_off_ : mg "_split_off" = some (.ref a_split_off_)) (k_split_off_ : PySem.W.keepIn K (.ref a_split_off_) = true) (b_split_off_ : Binds K fd_split_off_ ["parts", "x"] []) : FnOk P w K mg base CX0 2 f fd ["poly", "x"] (spRootCount K) := by
  refine F.ok sc_root_count_ (fun vs H Q E h => ?_) (fun cdv A outer s H vs Q E hr h => ?_)
  · obtain ⟨a, x, l, rfl, _⟩ := h
    rfl
  · obtain ⟨a, x, l, rfl, ha, pl, hl, ll, hx, q⟩ := h
    refine ⟨_, (pss_cons (ps_set (i := 2) sc_root_count_.nd rfl (.inl rfl) pe_int)
  (pss_cons (ps_asg (pe_call G_split_off_ (hr.mono (by decide)) rfl g_split_off_ k_split_off_ b_split_off_ .nil pass0 (pa_cons (pv 0) (pa_cons (pv 1) pa_nil))) (pg_tup rfl (pgs_cons (pg_name (i := 3) sc_root_count_.nd rfl (.inl rfl)) (pgs_cons (pg_name (i := 4) sc_root_count_.nd rfl (.inl rfl)) pgs_nil))))
  (pss_cons (ps_while PassesOwn.never (pt_cmpR op_eq (pv 4) pe_int (nomark _)) (pss_cons (ps_aug (i := 2) sc_root_count_.nd rfl (.inl rfl) pe_int ip_add)
  (pss_one (ps_asg (pe_call G_split_off_ (hr.mono (by decide)) rfl g_split_off_ k_split_off_ b_split_off_ .nil pass0 (pa_cons (pv 3) (pa_cons (pv 1) pa_nil))) (pg_tup rfl (pgs_cons (pg_name (i := 3) sc_root_count_.nd rfl (.inl rfl)) (pgs_cons (pg_name (i := 4) sc_root_count_.nd rfl (.inl rfl)) pgs_nil)))))))
  (pss_one (ps_ret (pv 2)))))), ?_⟩
    refine ⟨_, rfl, _, rfl, a, x, l, rfl, .inr ha, ll, hx, fun t u H1 s1 nt nu ht hu => ?_⟩
    refine ⟨t, _, rfl, .inl (.inl ht), rfl, _, _, rfl, _, _, rfl, rfl, ?_⟩
    refine ⟨fun M σ H' => ∃ (n : Nat) (cur : List Int) (u : Addr), M = cur.length ∧ σ = [some (.ref a), some (.int x), some (.int (n : Int)), some (.ref u), some (.int (ev x cur))] ∧ Same H H' ∧ H' u = some (.lst ((quo x cur).map V.int)) ∧ Pol cur ∧ cur ≠ [] ∧ cur.length ≤ 1000 ∧
      n + rcn x cur.length cur = rcn x l.length l, ⟨_, 0, l, u, rfl, rfl, s1, hu, pl, hl, ll, Nat.zero_add _⟩, ?_⟩
    rintro M σ H2 ⟨n, cur, u2, rfl, rfl, s2, hu2, pc, nc, lc, e⟩
    refine ⟨_, rfl, rfl, _, rfl, ?_⟩
    have n0 := List.length_pos_iff.mpr nc
    have e1 : rcn x cur.length cur = if ev x cur = 0 then rcn x (cur.length - 1) (quo x cur) + 1 else 0 := by
      obtain ⟨k, hk⟩ : ∃ k, cur.length = k + 1 := ⟨cur.length - 1, by omega⟩
      rw [hk]
      rfl
    by_cases c : ev x cur = 0
    · rw [decide_eq_true (congrArg V.int c)]
      obtain ⟨l2, q1, q2, q3⟩ := quo_pol nc pc c
      rw [if_pos c] at e1
      refine iteT ⟨_, fun _ _ n => n, _, rfl, _, _, rfl, rfl, _, rfl, _, rfl, u2, x, quo x cur, rfl, .inl (.inl (.inl hu2)), by omega, hx, fun t2 u3 H3 s3 nt2 nu3 ht2 hu3 => ?_⟩
      refine ⟨t2, _, rfl, .inl (.inl ht2), rfl, _, _, rfl, _, _, rfl, rfl, ?_⟩
      exact ⟨(quo x cur).length, by omega, n + 1, quo x cur, u3, rfl, rfl, Same.trans s2 s3, hu3, q2, q1, by omega, by rw [q3]; omega⟩
    · rw [decide_eq_false (fun z => c (V.int.inj z))]
      rw [if_neg c] at e1
      refine iteF ⟨_, rfl, ?_⟩
      have : n = rcn x l.length l := by omega
      rw [this]
      exact q _ s2
end

def rtD (l : List Int) (x : Int) : List PyData := if 0 < rcn x l.length l then [.tuple [.int x, .int (rcn x l.length l : Nat)]] else []
def rootsD (l : List Int) (lo : Int) : Nat → List PyData
  | 0 => []
  | n + 1 => rootsD l lo n ++ rtD l (lo + (n : Int))
def spRoots (K : PySem.W.Frag) (CP CB CN : Addr) : Sp := fun vs H Q E => ∃ (a : Addr) (most : Int) (l : List Int), vs = [.ref a, .int most] ∧ SqT K H a (l.map V.int) ∧ (isP l = false → E (.ref CP) none H) ∧ (isP l = true → (l = [] → E (.ref CN) none H) ∧ (l ≠ [] → (¬ (0 ≤ most ∧ most ≤ 1000) → E (.ref CB) none H) ∧
  (0 ≤ most → most ≤ 1000 → ∀ D us H', Same H H' → H D = none → H' D = some (.lst us) → Paired (Val1 H') us (rootsD l (-most) (most + 1 - -most).toNat) → Q (.ref D) H')))
section
variable {P : Program} {w : World} {K : PySem.W.Frag} {mg : Str → Option Value} {base : Heap}
/-! ### roots -/
theorem ok_roots {f CP CB CN a_check_poly a_root_count_ : Addr} {fd fd_check_poly fd_root_count_ : FuncData} {tr : Tok} (F : FunA K "roots" "roots" s_roots f fd) (z_range : mg "range" = none) (m_MOST_ROOT : mg "MOST_ROOT" = some (.int 1000 tr))
    (T : ErrC K mg "BadNumber" CB) (T2 : ErrC K mg "NoAnswer" CN)
    (G_check_poly : FnOk P w K mg base (L2N.CX P w) 2 a_check_poly fd_check_poly ["poly"] (spCheckPoly K CP)) (g_check_poly : mg "check_poly" = some (.ref a_check_poly)) (k_check_poly : PySem.W.keepIn K (.ref a_check_poly) = true) (b_check_poly : Binds K fd_check_poly ["poly"] [])
    (G_root_count_ : FnOk P w K mg base CX0 2 a_root_count_ fd_root_count_ ["poly", "x"] (spRootCount K)) (g_root_count_ : mg "_root_count" = some (.ref a_root_count_)) (k_root_count_ : PySem.W.keepIn K (.ref a_root_count_) = true) (b_root_count_ : Binds K fd_root_count_ ["poly", "x"] []) :
    FnOk P w K mg base (L2N.CX P w) 3 f fd ["poly", "most"] (spRoots K CP CB CN) := by
  obtain ⟨gc_BadNumber, x_BadNumber, kc_BadNumber, bc_BadNumber, tc_BadNumber⟩ := T
  obtain ⟨gc_NoAnswer, x_NoAnswer, kc_NoAnswer, bc_NoAnswer, tc_NoAnswer⟩ := T2
  have r_MOST_ROOT : RelV (.int 1000) (.int 1000 tr) := ⟨_, rfl⟩
  refine F.okXN sc_roots (fun vs H Q E h => ?_) (fun cdv A outer s H vs Q E hr h => ?_)
  · obtain ⟨a, most, l, rfl, _⟩ := h
    rfl
  · obtain ⟨a, most, l, rfl, ha, q1, q⟩ := h
    refine ⟨_, (pss_cons (ps_expr (pe_call G_check_poly (hr.mono (by decide)) rfl g_check_poly k_check_poly b_check_poly .nil (L2N.passes_call (L2N.takes_of rfl rfl rfl rfl) (fun _ _ _ _ h => h)) (pa_cons (pv 0) pa_nil)))
  (pss_cons (ps_if (pt_not (pt_truth (pv 0) (by intro _; rfl))) (pss_one (L2N.ps_raise rfl (L2N.takes_of rfl rfl rfl rfl) (L2N.pmk_own PySem.F.excBase_ValueError x_NoAnswer gc_NoAnswer kc_NoAnswer (raises_own bc_NoAnswer tc_NoAnswer) rfl))) pss_nil)
  (pss_cons (ps_if (pt_not (pt_chain op_le op_le pe_int (pv 1) (pe_glob rfl m_MOST_ROOT r_MOST_ROOT))) (pss_one (L2N.ps_raise rfl (L2N.takes_of rfl rfl rfl rfl) (L2N.pmk_own PySem.F.excBase_ValueError x_BadNumber gc_BadNumber kc_BadNumber (raises_own bc_BadNumber tc_BadNumber) rfl))) pss_nil)
  (pss_cons (ps_set (i := 2) sc_roots.nd rfl (.inl rfl) (pe_lst pa_nil))
  (pss_cons (ps_for (passes_of rfl) rfl (pi_range2 rfl z_range (pa_cons (pe_un un_neg (pv 1)) (pa_cons (pe_op op_add (pv 1) pe_int) pa_nil))) (pg_name (i := 3) sc_roots.nd rfl (.inl rfl)) (pss_cons (ps_set (i := 4) sc_roots.nd rfl (.inl rfl) (pe_call G_root_count_ (hr.mono (by decide)) rfl g_root_count_ k_root_count_ b_root_count_ .nil pass0 (pa_cons (pv 0) (pa_cons (pv 3) pa_nil))))
  (pss_one (ps_if (pt_cmpR op_gt (pv 4) pe_int (nomark _)) (pss_one (ps_expr (pe_bm PySem.F.plainAttrs_list PySem.F.slot_list_append PySem.F.type_list_append mt_append (pv 2) (pa_cons (pe_tup (pa_cons (pv 3) (pa_cons (pv 4) pa_nil))) pa_nil)))) pss_nil))))
  (pss_one (ps_ret (pv 2)))))))), ?_⟩
    have szl : 3000 ≤ sizeLine := by decide
    refine ⟨_, rfl, a, l, rfl, ha, fun e1 => ?_, q1⟩
    obtain ⟨p1, h1⟩ := isP_pol e1
    obtain ⟨qN, q⟩ := q e1
    refine ⟨_, rfl, _, .inr (.inl ⟨_, ha, rfl⟩), ?_⟩
    by_cases cl : l = []
    · subst cl
      exact iteT (qN rfl)
    have il : (l.map V.int).isEmpty = false := by
      cases l with
      | nil => exact absurd rfl cl
      | cons _ _ => rfl
    rw [il]
    refine iteF ?_
    obtain ⟨qB, q⟩ := q cl
    refine ⟨_, rfl, _, _, rfl, rfl, _, rfl, ?_⟩
    by_cases c0 : 0 ≤ most
    · rw [decide_eq_true c0]
      refine iteT ⟨_, _, rfl, rfl, _, rfl, ?_⟩
      by_cases c1 : most ≤ 1000
      · rw [decide_eq_true c1]
        refine iteF ?_
        have q := q c0 c1
        refine ⟨(by show 0 ≤ sizeLine; decide), fun D nD => ?_⟩
        refine ⟨_, rfl, _, rfl, _, rfl, _, _, rfl, rfl, _, _, rfl, ⟨by omega, by omega, by omega, by omega⟩, for_range (lo := -most) (n := (most + 1 - -most).toNat) (fun i σ H' => ∃ (v3 v4 : Option V) (us : List V), σ = [some (.ref a), some (.int most), some (.ref D), v3, v4] ∧ Same H H' ∧ H' D = some (.lst us) ∧ us.length ≤ i ∧ Paired (Val1 H') us (rootsD l (-most) i))
          ⟨none, none, [], rfl, same_upd nD, upd_same, Nat.le_refl _, .nil⟩ (fun i σ H2 hi hP => ?_) (fun σ H' hP => ?_)⟩
        · obtain ⟨v3, v4, us, rfl, s2, hD2, lu, pr⟩ := hP
          refine ⟨_, rfl, _, rfl, a, _, l, rfl, sqT_same s2 ha, p1, cl, by omega, by omega, fun H3 s3 => ?_⟩
          have hD3 := s3 _ _ hD2
          refine ⟨_, rfl, _, _, rfl, rfl, _, rfl, ?_⟩
          generalize ex : -most + (i : Int) = x
          have er : rootsD l (-most) (i + 1) = rootsD l (-most) i ++ rtD l x := by
            rw [← ex]
            rfl
          by_cases cr : 0 < rcn x l.length l
          · rw [decide_eq_true (show ((rcn x l.length l : Nat) : Int) > 0 by omega)]
            refine iteT ?_
            refine ⟨_, rfl, .inl ⟨rfl, _, .inl (.inl hD3)⟩, _, rfl, _, rfl, (by show 2 ≤ sizeLine; decide), fun p np => ?_⟩
            have s4 := same_upd (o := .tup [.int x, .int (rcn x l.length l : Nat)]) np
            have hD4 := s4 _ _ hD3
            refine ⟨D, _, _, rfl, rfl, hD4, by omega, ?_⟩
            refine ⟨_, _, us ++ [.ref p], rfl, Same.mut (Same.trans s2 (Same.trans s3 s4)) nD, upd_same, by rw [List.length_append]; exact Nat.succ_le_succ lu, ?_⟩
            rw [er]
            unfold rtD
            rw [if_pos cr]
            refine paired_snoc ?_ (Paired.mapP pr fun _ _ h => ((h.same s3).same s4).but SameBut.upd hD4)
            exact (Val1.pair upd_same).but SameBut.upd hD4
          · rw [decide_eq_false (show ¬ ((rcn x l.length l : Nat) : Int) > 0 by omega)]
            refine iteF ⟨_, _, us, rfl, Same.trans s2 s3, hD3, by omega, ?_⟩
            rw [er]
            unfold rtD
            rw [if_neg cr, List.append_nil]
            exact Paired.mapP pr fun _ _ h => h.same s3
        · obtain ⟨v3, v4, us, rfl, s2, hD2, lu, pr⟩ := hP
          exact ⟨_, rfl, q D us H' s2 nD hD2 pr⟩
      · rw [decide_eq_false c1]
        exact iteT (qB (fun z => c1 z.2))
    · rw [decide_eq_false c0]
      exact iteF ⟨_, rfl, iteT (qB (fun z => c0 z.1))⟩
end

/-- a tuple of these integers -/
def TP (H : Hp) (v : V) (z : List Int) : Prop := ∃ t, v = .ref t ∧ H t = some (.tup (z.map V.int))
theorem TP.same {H H' : Hp} {v : V} {z : List Int} (s : Same H H') (h : TP H v z) : TP H' v z := by
  obtain ⟨t, rfl, h⟩ := h
  exact ⟨t, rfl, s _ _ h⟩
def dT (z : List Int) : PyData := .tuple (z.map PyData.int)
theorem ints_dp {K : PySem.W.Frag} {H : Hp} : ∀ z : List Int, DpAll K H (z.map V.int) (z.map PyData.int)
  | [] => .nil
  | a :: r => .cons (.int a) (ints_dp r)
theorem TP.dp {K : PySem.W.Frag} {H : Hp} {v : V} {z : List Int} (h : TP H v z) : Dp K H v (dT z) := by
  obtain ⟨t, rfl, h⟩ := h
  exact .tup (.inl (.inl h)) (ints_dp z)
theorem tps_dp {K : PySem.W.Frag} {H : Hp} : ∀ {vs : List V} {zs : List (List Int)}, Paired (TP H) vs zs → DpAll K H vs (zs.map dT)
  | _, _, .nil => .nil
  | _, _, .cons a b => .cons a.dp (tps_dp b)
theorem paired_add {α β : Type} {F : α → β → Prop} {a : α} {b : β} (h : F a b) : ∀ {l : List α} {m : List β}, Paired F l m → Paired F (l ++ [a]) (m ++ [b])
  | _, _, .nil => .cons h .nil
  | _, _, .cons x y => .cons x (paired_add h y)
theorem dT_small {z : List Int} (h : ∀ k, (co z k).natAbs < 2 ^ 200) : SmL 1 (1923 * z.length + 3) (dT z) := by
  have e := smL_tuple (ds := z.map PyData.int) (n := 0) (k := 1921) fun D hD => by
    obtain ⟨a, ha, rfl⟩ := List.mem_map.mp hD
    obtain ⟨i, hi, rfl⟩ := List.mem_iff_getElem.mp ha
    have e1 := co_get hi
    rw [List.getElem?_eq_getElem hi] at e1
    rw [Option.some.inj e1]
    exact smL_int (h i)
  rw [List.length_map] at e
  exact e
theorem SmL.more {n k k' : Nat} {D : PyData} (h : SmL n k D) (hk : k ≤ k') : SmL n k' D := by
  obtain ⟨h1, h2, h3, h4⟩ := h
  exact ⟨h1, h2, h3, Nat.le_trans h4 hk⟩
theorem repT {α : Type} (x : α) : ∀ n : Nat, (List.replicate n [x]).flatten = List.replicate n x
  | 0 => rfl
  | n + 1 => by rw [List.replicate_succ, List.flatten_cons, repT x n, List.replicate_succ]; rfl
def rCatB (K : PySem.W.Frag) : R2 := fun x y H Q => ∃ a b xs ys, x = .ref a ∧ y = .ref b ∧ SqT K H a xs ∧ SqT K H b ys ∧ xs.length + ys.length ≤ sizeLine ∧ ∀ p H', Same H H' → SqT K H' p (xs ++ ys) → Q (.ref p) H'
theorem op_catB {X : Cx} : OpR X (binaryOp .Add) (rCatB X.K) := by
  intro pins s σ H x y v u Q I rx ry h
  obtain ⟨a, b, xs, ys, rfl, rfl, ha, hb, hz, q⟩ := h
  refine op_catA pins s σ H _ _ v u Q I rx ry ⟨a, b, xs, ys, rfl, rfl, ha, hb, hz, fun e => ?_, fun _ e => ?_, fun _ _ p np => ?_⟩
  · exact q b H (Same.refl _) (by rw [e, List.nil_append]; exact hb)
  · exact q a H (Same.refl _) (by rw [e, List.append_nil]; exact ha)
  · exact q p _ (same_upd np) (.inl (.inl upd_same))
theorem sqT_butL {K : PySem.W.Frag} {H H' : Hp} {r a : Addr} {xs ys : List V} (hr : H r = some (.lst ys)) (e : SameBut r H H') (h : SqT K H a xs) : SqT K H' a xs := by
  rcases h with (h | ⟨o, h⟩) | h
  · exact .inl (.inl (e _ _ (ne_of h hr (fun z => nomatch z)) h))
  · exact .inl (.inr ⟨o, e _ _ (ne_of h hr (fun z => nomatch z)) h⟩)
  · exact .inr h
theorem eqvAll_ints : ∀ x y : List Int, PyData.eqvAll (x.map PyData.int) (y.map PyData.int) = decide (x = y)
  | [], [] => by simp [PyData.eqvAll]
  | [], _ :: _ => by simp [PyData.eqvAll]
  | _ :: _, [] => by simp [PyData.eqvAll]
  | a :: x, b :: y => by
    rw [List.map_cons, List.map_cons]
    simp only [PyData.eqvAll, PyData.eqv, eqvAll_ints x y]
    by_cases h1 : a = b
    · by_cases h2 : x = y
      · simp [h1, h2]
      · simp [h2]
    · simp [h1]
theorem eqv_dT (x y : List Int) : PyData.eqv (dT x) (dT y) = decide (x = y) := by
  unfold dT
  simp only [PyData.eqv, eqvAll_ints]
theorem lay_ints : ∀ x : List Int, PyData.canLayAll0 (x.map PyData.int) = true ∧ PyData.depthAll (x.map PyData.int) = 0
  | [] => ⟨by simp [PyData.canLayAll0], by simp [PyData.depthAll]⟩
  | a :: x => by
    obtain ⟨h1, h2⟩ := lay_ints x
    exact ⟨by simp [PyData.canLayAll0, PyData.canLay0, h1], by simp [PyData.depthAll, PyData.depth, h2]⟩
theorem dT_shaped (x : List Int) : SeqAt.shaped (dT x) = true := by
  obtain ⟨h1, h2⟩ := lay_ints x
  show (PyData.canLay0 (dT x) && decide (PyData.depth (dT x) ≤ 64)) = true
  unfold dT
  rw [show PyData.canLay0 (.tuple (x.map PyData.int)) = true by simp [PyData.canLay0, h1], show PyData.depth (.tuple (x.map PyData.int)) = 1 by simp [PyData.depth, h2]]
  rfl
theorem eqD_TP {K : PySem.W.Frag} {H : Hp} {u v : V} {x y : List Int} {Q : VK} (hx : TP H u x) (hy : TP H v y) (q : Q (.bl (decide (x = y))) H) : rEqD K u v H Q :=
  ⟨_, _, hx.dp, hy.dp, dT_shaped x, dT_shaped y, by rw [eqv_dT]; exact q⟩
theorem neD_TP {K : PySem.W.Frag} {H : Hp} {u v : V} {x y : List Int} {Q : VK} (hx : TP H u x) (hy : TP H v y) (q : Q (.bl (!decide (x = y))) H) : rNeD K u v H Q :=
  ⟨_, _, hx.dp, hy.dp, dT_shaped x, dT_shaped y, by rw [eqv_dT]; exact q⟩
def rRepB (K : PySem.W.Frag) : R2 := fun x y H Q => ∃ l k xs, x = .ref l ∧ y = .int k ∧ SqT K H l xs ∧ xs ≠ [] ∧ 0 ≤ k ∧ k ≤ 1000 ∧ xs.length ≤ 1000 ∧ ∀ p H', Same H H' → SqT K H' p (List.replicate k.toNat xs).flatten → Q (.ref p) H'
theorem op_repB {X : Cx} : OpR X (binaryOp .Mult) (rRepB X.K) := by
  intro pins s σ H x y v u Q I rx ry h
  obtain ⟨l, k, xs, rfl, rfl, hT, hne, h1, h2, hz, q⟩ := h
  refine op_repA pins s σ H _ _ v u Q I rx ry ⟨l, k, xs, rfl, rfl, hT, hne, h1, h2, hz, fun e => ?_, fun _ p np => ?_⟩
  · refine q l H (Same.refl _) ?_
    rw [e, show (1 : Int).toNat = 1 from rfl]
    simpa using hT
  · exact q p _ (same_upd np) (.inl (.inl upd_same))
theorem ix_tupK {X : Cx} {K : PySem.W.Frag} (hK : X.K = K) : IxR X (rIxT K) := by
  subst hK
  exact ix_tup
theorem ix_listK {X : Cx} {K : PySem.W.Frag} (hK : X.K = K) : IxR X (rIxL K) := by
  subst hK
  exact ix_list
theorem ite_same {x : V} {A B : Prop} (h : B) : if (!decide (x = x)) = true then A else B := by
  rw [decide_eq_true rfl]
  exact iteF h
theorem pi_tupK {X : Cx} {K : PySem.W.Frag} {tg e : Expr} {te : TE} (hK : X.K = K) (he : PE X e te) : PI X tg e (iTup K te) := by
  subst hK
  exact pi_tup he
theorem call_list_ofK {X : Cx} {K : PySem.W.Frag} (hK : X.K = K) : CallR X (.type "list") (fun xs H Q => ∃ p ys, xs = [.ref p] ∧ (SqL K H p ys ∨ SqT K H p ys) ∧ ∀ l, H l = none → Q (.ref l) (upd H l (.lst ys))) := by
  subst hK
  exact call_list_of
theorem op_eqDK {X : Cx} {K : PySem.W.Frag} (hK : X.K = K) (hu : X.A.units + 64 < cLine) : OpR X (compareOp .Eq) (rEqD K) := by
  subst hK
  exact op_eqD hu

def SmP (l : List Int) : Prop := ∀ k, (co l k).natAbs ≤ 5

theorem conv_small {l m : List Int} (hl : SmP l) (hm : SmP m) (k : Nat) : ∀ i, (conv l m i k).natAbs ≤ 25 * i
  | 0 => Nat.zero_le _
  | i + 1 => by
    have ih := conv_small hl hm k i
    have r : (row l m i k).natAbs ≤ 25 := by
      unfold row
      split
      · rw [Int.natAbs_mul]
        exact Nat.mul_le_mul (hl i) (hm (k - i))
      · decide
    show (conv l m i k + row l m i k).natAbs ≤ _
    omega
theorem ev_small {x : Int} (hx : x.natAbs ≤ 31) : ∀ {l : List Int}, (∀ y ∈ l, y.natAbs ≤ 5) → (ev x l).natAbs ≤ 5 * 32 ^ l.length
  | [], _ => Nat.zero_le _
  | a :: r, h => by
    have ih := ev_small hx (l := r) fun y hy => h y (List.mem_cons_of_mem _ hy)
    have ha := h a List.mem_cons_self
    have hm : (x * ev x r).natAbs ≤ 31 * (5 * 32 ^ r.length) := by
      rw [Int.natAbs_mul]
      exact Nat.mul_le_mul hx ih
    have hp : 0 < 32 ^ r.length := Nat.pow_pos (by decide)
    show (a + x * ev x r).natAbs ≤ 5 * 32 ^ (r.length + 1)
    rw [Nat.pow_succ]
    omega
theorem smP_mem {l : List Int} (h : SmP l) : ∀ y ∈ l, y.natAbs ≤ 5 := fun y hy => by
  obtain ⟨i, hi, rfl⟩ := List.mem_iff_getElem.mp hy
  have e1 := co_get hi
  rw [List.getElem?_eq_getElem hi] at e1
  rw [Option.some.inj e1]
  exact h i
theorem cm_small {l m : List Int} (h : ∀ y ∈ l, y.natAbs ≤ 5) : ∀ x ∈ l, ∀ y ∈ m, CMul x y := fun x hx y _ => .inl (by have := h x hx; exact ⟨by omega, by omega⟩)
theorem isP_app0 {l : List Int} (h : l.length ≤ 100) : isP (l ++ [0]) = false := by
  unfold isP
  rw [if_neg (by rw [List.length_append]; show ¬ ((l.length + 1 : Nat) : Int) > 200; omega), if_neg (by rw [List.length_append]; show ¬ l.length + 1 = 0; omega)]
  have : co (l ++ [0]) ((l ++ [0]).length - 1) = 0 := by
    rw [List.length_append, show l.length + [(0 : Int)].length - 1 = l.length from rfl]
    unfold co
    rw [List.getD_eq_getElem?_getD, List.getElem?_append_right (Nat.le_refl _), Nat.sub_self]
    rfl
  rw [this]
  rfl

/-- (c, 1) times l, p carried -/
def linL (c : Int) : Int → List Int → List Int
  | p, [] => [p]
  | p, a :: r => (c * a + p) :: linL c a r
theorem linL_len (c : Int) : ∀ (l : List Int) (p : Int), (linL c p l).length = l.length + 1
  | [], _ => rfl
  | a :: r, p => congrArg Nat.succ (linL_len c r a)
theorem co_cons0 (a : Int) (r : List Int) : co (a :: r) 0 = a := rfl
theorem co_consS (a : Int) (r : List Int) (k : Nat) : co (a :: r) (k + 1) = co r k := rfl
theorem linL_co (c : Int) : ∀ (l : List Int) (p : Int) (k : Nat), co (linL c p l) k = c * co l k + (match k with | 0 => p | k + 1 => co l k)
  | [], p, 0 => by
    rw [show co [] 0 = 0 from rfl, Int.mul_zero, Int.zero_add]
    rfl
  | [], p, k + 1 => by
    show co [p] (k + 1) = c * co [] (k + 1) + co [] k
    have h1 : co [p] (k + 1) = 0 := co_ge (by show 1 ≤ k + 1; omega)
    have h2 : ∀ i, co [] i = 0 := fun i => co_ge (Nat.zero_le _)
    rw [h1, h2, h2, Int.mul_zero]
    rfl
  | a :: r, p, 0 => rfl
  | a :: r, p, k + 1 => by
    show co (linL c a r) k = c * co r k + co (a :: r) k
    rw [linL_co c r a k]
    cases k <;> rfl
theorem linL_ev (x c : Int) : ∀ (l : List Int) (p : Int), ev x (linL c p l) = p + (c + x) * ev x l
  | [], p => by
    show p + x * 0 = p + (c + x) * 0
    rw [Int.mul_zero, Int.mul_zero]
  | a :: r, p => by
    show c * a + p + x * ev x (linL c a r) = p + (c + x) * (a + x * ev x r)
    rw [linL_ev x c r a]
    grind
def shf (c : Int) (g : Nat → Int) (k : Nat) : Int := c * g k + (match k with | 0 => 0 | k + 1 => g k)
theorem conv_lin (l : List Int) (c : Int) (k : Nat) : conv l [c, 1] l.length k = co (linL c 0 l) k := by
  rw [conv_mulc, linL_co]
  unfold mulc
  have z : ∀ i, 2 ≤ i → co [c, 1] i = 0 := fun i hi => co_ge hi
  cases k with
  | zero =>
    show 0 + co l 0 * co [c, 1] 0 = c * co l 0 + 0
    rw [show co [c, 1] 0 = c from rfl, Int.mul_comm]
    omega
  | succ k =>
    show ms (co l) (co [c, 1]) k (k + 1) + co l k * co [c, 1] (k + 1 - k) + co l (k + 1) * co [c, 1] (k + 1 - (k + 1)) = c * co l (k + 1) + co l k
    rw [ms_zero k (fun i hi => by rw [z _ (by omega), Int.mul_zero]), show k + 1 - k = 1 by omega, Nat.sub_self, show co [c, 1] 0 = c from rfl, show co [c, 1] 1 = 1 from rfl, Int.mul_one, Int.mul_comm]
    omega
/-- the products of s * 0 + d, s * 1 + d, .. -/
def facL (s : Int) : Nat → List Int
  | 0 => [1]
  | n + 1 => linL (s * (n : Int)) 0 (facL s n)
theorem facL_len (s : Int) : ∀ n, (facL s n).length = n + 1
  | 0 => rfl
  | n + 1 => by
    show (linL _ _ _).length = _
    rw [linL_len, facL_len s n]
theorem facL_top (s : Int) : ∀ n, co (facL s n) n = 1
  | 0 => rfl
  | n + 1 => by
    show co (linL _ _ _) (n + 1) = 1
    rw [linL_co, co_ge (by rw [facL_len]; omega), Int.mul_zero, Int.zero_add]
    exact facL_top s n
theorem facL_pol (s : Int) (n : Nat) : Pol (facL s n) := .inr (by rw [facL_len, Nat.add_sub_cancel, facL_top]; decide)
theorem facL_ne (s : Int) (n : Nat) : facL s n ≠ [] := fun z => by
  have := facL_len s n
  rw [z] at this
  exact nomatch this
theorem facL_small {s : Int} {c : Nat} (hs : s.natAbs ≤ 1) : ∀ n, n ≤ c → ∀ k, (co (facL s n) k).natAbs ≤ (c + 1) ^ n
  | 0, _, k => by
    cases k with
    | zero => exact Nat.le_refl 1
    | succ k => rw [show co (facL s 0) (k + 1) = 0 from co_ge (by show 1 ≤ k + 1; omega)]; exact Nat.zero_le _
  | n + 1, h, k => by
    show (co (linL _ _ _) k).natAbs ≤ _
    rw [linL_co, Nat.pow_succ, Nat.mul_add, Nat.mul_one]
    have ih := facL_small (s := s) (c := c) hs n (by omega)
    have h1 : (s * (n : Int) * co (facL s n) k).natAbs ≤ c * (c + 1) ^ n := by
      rw [Int.natAbs_mul]
      refine Nat.mul_le_mul ?_ (ih k)
      rw [Int.natAbs_mul]
      exact Nat.le_trans (Nat.mul_le_mul hs (Nat.le_refl _)) (by omega)
    have h2 : (match k with | 0 => (0 : Int) | k + 1 => co (facL s n) k).natAbs ≤ (c + 1) ^ n := by
      cases k with
      | zero => exact Nat.zero_le _
      | succ k => exact ih k
    rw [Nat.mul_comm] at h1
    omega
theorem facL_evz {x : Int} : ∀ {n : Nat}, ev x (facL (-1) n) = 0 → 0 ≤ x ∧ x < n
  | 0, h => by
    have : (1 : Int) + x * 0 = 0 := h
    omega
  | n + 1, h => by
    have e : ev x (facL (-1) (n + 1)) = 0 + (-1 * (n : Int) + x) * ev x (facL (-1) n) := linL_ev ..
    rw [e, Int.zero_add] at h
    rcases Int.mul_eq_zero.mp h with h | h
    · omega
    · have := facL_evz h
      omega
theorem facL_ev_small {s x : Int} {c : Nat} (hs : s.natAbs ≤ 1) (hx : x.natAbs ≤ c) : ∀ n, n ≤ c → (ev x (facL s n)).natAbs ≤ (2 * c) ^ n
  | 0, _ => by
    show ((1 : Int) + x * 0).natAbs ≤ 1
    omega
  | n + 1, h => by
    have e : ev x (facL s (n + 1)) = 0 + (s * (n : Int) + x) * ev x (facL s n) := linL_ev ..
    rw [e, Int.zero_add, Int.natAbs_mul, Nat.pow_succ, Nat.mul_comm]
    refine Nat.mul_le_mul (facL_ev_small hs hx n (by omega)) ?_
    have h1 : (s * (n : Int)).natAbs ≤ c := by
      rw [Int.natAbs_mul]
      exact Nat.le_trans (Nat.mul_le_mul hs (Nat.le_refl _)) (by omega)
    omega
/-- what is left behind k divisions by d, d - 1, .. -/
def rests (l : List Int) : Nat → List Int
  | 0 => l
  | k + 1 => quo (k : Int) (rests l k)
theorem rests_len (l : List Int) : ∀ k, (rests l k).length = l.length - k
  | 0 => rfl
  | k + 1 => by
    show (quo _ _).length = _
    rw [quo_len, rests_len l k]
    omega
def byF (l : List Int) (k : Nat) : Int := ev (k : Int) (rests l k)
/-- l is ev a l and (d - a) times the quotient -/
theorem quo_split (a : Int) (l : List Int) (k : Nat) : co l k = (if k = 0 then ev a l else 0) + shf (-a) (co (quo a l)) k := by
  unfold shf
  cases k with
  | zero =>
    show co l 0 = ev a l + (-a * co (quo a l) 0 + 0)
    rw [quo_co]
    have e : ev a l = co l 0 + a * ev a (l.drop 1) := by
      rcases Nat.eq_zero_or_pos l.length with c | c
      · rw [List.eq_nil_of_length_eq_zero c]
        show (0 : Int) = 0 + a * 0
        omega
      · exact ev_drop a (l := l) (i := 0) c
    rw [e]
    grind
  | succ k =>
    show co l (k + 1) = 0 + (-a * co (quo a l) (k + 1) + co (quo a l) k)
    rw [quo_co, quo_co]
    rcases Nat.lt_or_ge (k + 1) l.length with c | c
    · rw [ev_drop a c]
      grind
    · rw [co_ge c, List.drop_eq_nil_of_le (by omega), List.drop_eq_nil_of_le (by omega)]
      show (0 : Int) = 0 + (-a * 0 + 0)
      omega
theorem ev_zero (x : Int) : ∀ {m : List Int}, (∀ k, co m k = 0) → ev x m = 0
  | [], _ => rfl
  | a :: r, h => by
    have h0 : a = 0 := h 0
    have h1 : ev x r = 0 := ev_zero x fun k => h (k + 1)
    show a + x * ev x r = 0
    rw [h0, h1]
    omega
theorem ev_ext {x : Int} : ∀ {l m : List Int}, (∀ k, co l k = co m k) → ev x l = ev x m
  | [], m, h => (ev_zero x fun k => (h k).symm.trans (co_ge (Nat.zero_le _))).symm
  | a :: r, [], h => ev_zero x fun k => (h k).trans (co_ge (Nat.zero_le _))
  | a :: r, b :: t, h => by
    have h0 : a = b := h 0
    have h1 : ev x r = ev x t := ev_ext fun k => h (k + 1)
    show a + x * ev x r = b + x * ev x t
    rw [h0, h1]
theorem ev_quo (x a : Int) (l : List Int) : ev x l = ev a l + (x - a) * ev x (quo a l) := by
  have e : ∀ (m q : List Int) (c : Int), (∀ k, co m k = (if k = 0 then c else 0) + shf (-a) (co q) k) → ev x m = c + (x - a) * ev x q := fun m q c h => by
    have e1 : ∀ k, co m k = co (linL (-a) c q) k := fun k => by
      rw [h, linL_co]
      unfold shf
      cases k with
      | zero => show c + (-a * co q 0 + 0) = -a * co q 0 + c; omega
      | succ k => show 0 + (-a * co q (k + 1) + co q k) = -a * co q (k + 1) + co q k; omega
    have e2 : ev x m = ev x (linL (-a) c q) := ev_ext e1
    rw [e2, linL_ev]
    grind
  exact e l (quo a l) (ev a l) (quo_split a l)
theorem ms_addR (f g h : Nat → Int) (k : Nat) : ∀ n, ms f (fun i => g i + h i) n k = ms f g n k + ms f h n k
  | 0 => rfl
  | n + 1 => by
    show ms f (fun i => g i + h i) n k + f n * (g (k - n) + h (k - n)) = ms f g n k + f n * g (k - n) + (ms f h n k + f n * h (k - n))
    rw [ms_addR f g h k n, Int.mul_add]
    omega
theorem ms_one (f : Nat → Int) (c : Int) (k : Nat) : mulc f (fun i => if i = 0 then c else 0) k = c * f k := by
  show ms f _ k k + f k * (if k - k = 0 then c else 0) = _
  rw [ms_zero k (fun i hi => by rw [if_neg (by omega), Int.mul_zero]), if_pos (Nat.sub_self k), Int.mul_comm, Int.zero_add]
theorem ms_shR (f g : Nat → Int) (c : Int) (k : Nat) : ∀ n, n ≤ k → ms f (shf c g) n k = c * ms f g n k + ms f g n (k - 1)
  | 0, _ => by show (0 : Int) = c * 0 + 0; omega
  | n + 1, h => by
    show ms f (shf c g) n k + f n * shf c g (k - n) = c * (ms f g n k + f n * g (k - n)) + (ms f g n (k - 1) + f n * g (k - 1 - n))
    rw [ms_shR f g c k n (by omega)]
    obtain ⟨m, hm⟩ : ∃ m, k - n = m + 1 := ⟨k - n - 1, by omega⟩
    rw [hm, show k - 1 - n = m by omega]
    show _ + f n * (c * g (m + 1) + g m) = _
    grind
theorem ms_shL (f g : Nat → Int) (c : Int) (k : Nat) : ∀ n, ms (shf c f) g (n + 1) k = c * ms f g (n + 1) k + ms f g n (k - 1)
  | 0 => by
    show 0 + (c * f 0 + 0) * g (k - 0) = c * (0 + f 0 * g (k - 0)) + 0
    grind
  | n + 1 => by
    show ms (shf c f) g (n + 1) k + (c * f (n + 1) + f n) * g (k - (n + 1)) = c * (ms f g (n + 1) k + f (n + 1) * g (k - (n + 1))) + (ms f g n (k - 1) + f n * g (k - 1 - n))
    rw [ms_shL f g c k n, show k - (n + 1) = k - 1 - n by omega]
    grind
theorem mulc_sh (f g : Nat → Int) (c : Int) (k : Nat) : mulc f (shf c g) k = mulc (shf c f) g k := by
  show ms f (shf c g) k k + f k * shf c g (k - k) = _
  rw [ms_shR f g c k k (Nat.le_refl _), Nat.sub_self]
  show _ + f k * (c * g 0 + 0) = mulc (shf c f) g k
  unfold mulc
  rw [ms_shL]
  show _ = c * (ms f g k k + f k * g (k - k)) + _
  rw [Nat.sub_self]
  grind
/-- the sum of the first j of by_falling's integers times the falling products -/
def facSum (l : List Int) : Nat → Nat → Int
  | 0, _ => 0
  | j + 1, k => facSum l j k + byF l j * co (facL (-1) j) k
theorem facSum_all (l : List Int) : ∀ j k, co l k = facSum l j k + mulc (co (facL (-1) j)) (co (rests l j)) k
  | 0, k => by
    show co l k = 0 + mulc (co [1]) (co l) k
    have e : ∀ i, co [1] i = mono 0 1 i := fun i => by
      unfold mono
      cases i with
      | zero => rfl
      | succ i => rw [co_ge (by show 1 ≤ i + 1; omega), if_neg (by omega)]
    rw [show mulc (co [1]) (co l) k = mulc (mono 0 1) (co l) k from ms_congr _ (fun i _ => e i) (fun _ => rfl), mulc_mono, if_pos (Nat.zero_le _), Nat.sub_zero]
    omega
  | j + 1, k => by
    rw [facSum_all l j k]
    show _ = facSum l j k + byF l j * co (facL (-1) j) k + mulc (co (linL (-1 * (j : Int)) 0 (facL (-1) j))) (co (quo (j : Int) (rests l j))) k
    have e1 : mulc (co (facL (-1) j)) (co (rests l j)) k = mulc (co (facL (-1) j)) (fun i => (if i = 0 then byF l j else 0) + shf (-(j : Int)) (co (quo (j : Int) (rests l j))) i) k :=
      ms_congr _ (fun _ _ => rfl) fun i => quo_split (j : Int) (rests l j) i
    have e2 : ∀ i, co (linL (-1 * (j : Int)) 0 (facL (-1) j)) i = shf (-(j : Int)) (co (facL (-1) j)) i := fun i => by
      rw [linL_co]
      unfold shf
      rw [show -1 * (j : Int) = -(j : Int) by omega]
    rw [e1, show mulc (co (facL (-1) j)) (fun i => (if i = 0 then byF l j else 0) + shf (-(j : Int)) (co (quo (j : Int) (rests l j))) i) k = _ from ms_addR _ _ _ k (k + 1)]
    rw [show ms (co (facL (-1) j)) (fun i => if i = 0 then byF l j else 0) (k + 1) k = _ from ms_one _ _ k, show ms (co (facL (-1) j)) (shf (-(j : Int)) (co (quo (j : Int) (rests l j)))) (k + 1) k = _ from mulc_sh _ _ _ k]
    rw [show mulc (co (linL (-1 * (j : Int)) 0 (facL (-1) j))) (co (quo (j : Int) (rests l j))) k = mulc (shf (-(j : Int)) (co (facL (-1) j))) (co (quo (j : Int) (rests l j))) k from ms_congr _ (fun i _ => e2 i) (fun _ => rfl)]
    omega
theorem facSum_end (l : List Int) (k : Nat) : facSum l l.length k = co l k := by
  have h := facSum_all l l.length k
  have e : mulc (co (facL (-1) l.length)) (co (rests l l.length)) k = 0 := ms_zero _ fun i _ => by
    rw [co_ge (l := rests l l.length) (by rw [rests_len]; omega), Int.mul_zero]
  omega
/-- the same of values -/
def evSum (x : Int) (l : List Int) : Nat → Int
  | 0 => 0
  | j + 1 => evSum x l j + byF l j * ev x (facL (-1) j)
theorem evSum_all (x : Int) (l : List Int) : ∀ j, ev x l = evSum x l j + ev x (facL (-1) j) * ev x (rests l j)
  | 0 => by
    show ev x l = 0 + (1 + x * 0) * ev x l
    grind
  | j + 1 => by
    rw [evSum_all x l j]
    have e1 : ev x (facL (-1) (j + 1)) = 0 + (-1 * (j : Int) + x) * ev x (facL (-1) j) := linL_ev ..
    show _ = evSum x l j + byF l j * ev x (facL (-1) j) + ev x (facL (-1) (j + 1)) * ev x (quo (j : Int) (rests l j))
    rw [e1, ev_quo x (j : Int) (rests l j)]
    show _ = _ + ev (j : Int) (rests l j) * _ + _
    grind
theorem evSum_end (x : Int) (l : List Int) : evSum x l l.length = ev x l := by
  rw [evSum_all x l l.length]
  have e : rests l l.length = [] := List.eq_nil_of_length_eq_zero (by rw [rests_len]; omega)
  rw [e]
  show _ = _ + _ * 0
  omega
theorem rcn_facN : ∀ n : Nat, n < 13 → ∀ j : Nat, j < n → rcn (j : Int) (n + 1) (facL (-1) n) = 1 := by decide +kernel
theorem rcn_fac {n : Nat} (hn : n < 13) (x : Int) : rcn x (facL (-1) n).length (facL (-1) n) = if 0 ≤ x ∧ x < n then 1 else 0 := by
  rw [facL_len]
  by_cases c : 0 ≤ x ∧ x < n
  · rw [if_pos c]
    obtain ⟨j, rfl⟩ := Int.eq_ofNat_of_zero_le c.1
    exact rcn_facN n hn j (by omega)
  · rw [if_neg c]
    show (if ev x (facL (-1) n) = 0 then _ else 0) = 0
    rw [if_neg (fun z => c (facL_evz z))]

def spCheckCount (CB : Addr) : Sp := fun vs H Q E => ∃ n : Int, vs = [.int n] ∧ (0 ≤ n ∧ n ≤ 40 → Q .non H) ∧ (¬ (0 ≤ n ∧ n ≤ 40) → E (.ref CB) none H)
def spFac (CB : Addr) (s : Int) : Sp := fun vs H Q E => ∃ n : Int, vs = [.int n] ∧ (¬ (0 ≤ n ∧ n ≤ 40) → E (.ref CB) none H) ∧ (0 ≤ n → n ≤ 40 → ∀ t H', Same H H' → H' t = some (.tup ((facL s n.toNat).map V.int)) → Q (.ref t) H')
def powL (n : Nat) : List Int := List.replicate n 0 ++ [1]
def spPow (CB : Addr) (K : PySem.W.Frag) : Sp := fun vs H Q E => ∃ n : Int, vs = [.int n] ∧ (¬ (0 ≤ n ∧ n ≤ 40) → E (.ref CB) none H) ∧ (0 ≤ n → n ≤ 40 → ∀ t H', Same H H' → SqT K H' t ((powL n.toNat).map V.int) → Q (.ref t) H')
section
variable {P : Program} {w : World} {K : PySem.W.Frag} {mg : Str → Option Value} {base : Heap}
/-! ### _check_count, power_of_d -/
theorem ok_check_count_ {f CB : Addr} {fd : FuncData} {tm : Tok} (F : Fun K "_check_count" "_check_count" s_check_count_ f fd) (T : ErrC K mg "BadNumber" CB) (m_MOST_COUNT : mg "MOST_COUNT" = some (.int 40 tm)) : FnOk P w K mg base (L2N.CX P w) 1 f fd ["count"] (spCheckCount CB) := by
  obtain ⟨gc_BadNumber, x_BadNumber, kc_BadNumber, bc_BadNumber, tc_BadNumber⟩ := T
  have r_MOST_COUNT : RelV (.int 40) (.int 40 tm) := ⟨_, rfl⟩
  refine F.okXN sc_check_count_ (fun vs H Q E h => ?_) (fun cdv A outer s H vs Q E hr h => ?_)
  · obtain ⟨n, rfl, _⟩ := h
    rfl
  · obtain ⟨n, rfl, q, q1⟩ := h
    refine ⟨_, (pss_one (ps_if (pt_not (pt_chain op_le op_le pe_int (pv 0) (pe_glob rfl m_MOST_COUNT r_MOST_COUNT))) (pss_one (L2N.ps_raise rfl (L2N.takes_of rfl rfl rfl rfl) (L2N.pmk_own PySem.F.excBase_ValueError x_BadNumber gc_BadNumber kc_BadNumber (raises_own bc_BadNumber tc_BadNumber) rfl))) pss_nil)), ?_⟩
    refine ⟨_, rfl, _, _, rfl, rfl, _, rfl, ?_⟩
    by_cases c0 : 0 ≤ n
    · rw [decide_eq_true c0]
      refine iteT ⟨_, _, rfl, rfl, _, rfl, ?_⟩
      by_cases c1 : n ≤ 40
      · rw [decide_eq_true c1]
        exact iteF (q ⟨c0, c1⟩)
      · rw [decide_eq_false c1]
        exact iteT (q1 (fun z => c1 z.2))
    · rw [decide_eq_false c0]
      exact iteF ⟨_, rfl, iteT (q1 (fun z => c0 z.1))⟩
theorem ok_power_of_d {f CB a_check_count_ : Addr} {fd fd_check_count_ : FuncData} (F : Fun K "power_of_d" "power_of_d" s_power_of_d f fd)
    (G_check_count_ : FnOk P w K mg base (L2N.CX P w) 1 a_check_count_ fd_check_count_ ["count"] (spCheckCount CB)) (g_check_count_ : mg "_check_count" = some (.ref a_check_count_)) (k_check_count_ : PySem.W.keepIn K (.ref a_check_count_) = true) (b_check_count_ : Binds K fd_check_count_ ["count"] []) :
    FnOk P w K mg base (L2N.CX P w) 4 f fd ["count"] (spPow CB K) := by
  refine F.okXN sc_power_of_d (fun vs H Q E h => ?_) (fun cdv A outer s H vs Q E hr h => ?_)
  · obtain ⟨n, rfl, _⟩ := h
    rfl
  · obtain ⟨n, rfl, q1, q⟩ := h
    refine ⟨_, (pss_cons (ps_expr (pe_call G_check_count_ (hr.mono (by decide)) rfl g_check_count_ k_check_count_ b_check_count_ .nil (L2N.passes_call (L2N.takes_of rfl rfl rfl rfl) (fun _ _ _ _ h => h)) (pa_cons (pv 0) pa_nil)))
  (pss_one (ps_ret (pe_op op_catB (pe_op op_repB (pe_tup (pa_cons pe_int pa_nil)) (pv 0)) (pe_tup (pa_cons pe_int pa_nil)))))), ?_⟩
    have szl : 3000 ≤ sizeLine := by decide
    refine ⟨_, rfl, n, rfl, fun c => ?_, q1⟩
    have q := q c.1 c.2
    refine ⟨(by show 1 ≤ sizeLine; decide), fun t0 nt0 => ?_⟩
    refine ⟨_, rfl, t0, n, [.int 0], rfl, rfl, .inl (.inl upd_same), List.cons_ne_nil _ _, c.1, by omega, by decide, fun t1 H1 s1 ht1 => ?_⟩
    rw [rep0] at ht1
    refine ⟨(by show 1 ≤ sizeLine; decide), fun t2 nt2 => ?_⟩
    refine ⟨t1, t2, _, [.int 1], rfl, rfl, sqT_same (same_upd nt2) ht1, .inl (.inl upd_same), by rw [List.length_map, List.length_replicate]; show _ + 1 ≤ _; omega, fun t3 H3 s3 ht3 => ?_⟩
    refine q t3 H3 (Same.trans (Same.trans (same_upd nt0) s1) (Same.trans (same_upd nt2) s3)) ?_
    unfold powL
    rw [List.map_append]
    exact ht3
end

section
variable {P : Program} {w : World} {K : PySem.W.Frag} {mg : Str → Option Value} {base : Heap}
/-! ### falling -/
theorem ok_falling {f CB CP CT a_check_count_ a_multiplied_polys : Addr} {fd fd_check_count_ fd_multiplied_polys : FuncData} (F : Fun K "falling" "falling" s_falling f fd) (z_range : mg "range" = none)
    (G_check_count_ : FnOk P w K mg base (L2N.CX P w) 1 a_check_count_ fd_check_count_ ["count"] (spCheckCount CB)) (g_check_count_ : mg "_check_count" = some (.ref a_check_count_)) (k_check_count_ : PySem.W.keepIn K (.ref a_check_count_) = true) (b_check_count_ : Binds K fd_check_count_ ["count"] [])
    (G_multiplied_polys : FnOk P w K mg base (L2N.CX P w) 3 a_multiplied_polys fd_multiplied_polys ["one", "other"] (spMul K CP CT)) (g_multiplied_polys : mg "multiplied_polys" = some (.ref a_multiplied_polys)) (k_multiplied_polys : PySem.W.keepIn K (.ref a_multiplied_polys) = true) (b_multiplied_polys : Binds K fd_multiplied_polys ["one", "other"] []) :
    FnOk P w K mg base (L2N.CX P w) 4 f fd ["count"] (spFac CB (-1)) := by
  refine F.okXN sc_falling (fun vs H Q E h => ?_) (fun cdv A outer s H vs Q E hr h => ?_)
  · obtain ⟨n, rfl, _⟩ := h
    rfl
  · obtain ⟨n, rfl, q1, q⟩ := h
    refine ⟨_, (pss_cons (ps_expr (pe_call G_check_count_ (hr.mono (by decide)) rfl g_check_count_ k_check_count_ b_check_count_ .nil (L2N.passes_call (L2N.takes_of rfl rfl rfl rfl) (fun _ _ _ _ h => h)) (pa_cons (pv 0) pa_nil)))
  (pss_cons (ps_set (i := 1) sc_falling.nd rfl (.inl rfl) (pe_tup (pa_cons pe_int pa_nil)))
  (pss_cons (ps_for (passes_of rfl) rfl (pi_range1 rfl z_range (pa_cons (pv 0) pa_nil)) (pg_name (i := 2) sc_falling.nd rfl (.inl rfl)) (pss_one (ps_set (i := 1) sc_falling.nd rfl (.inl rfl) (pe_call G_multiplied_polys (hr.mono (by decide)) rfl g_multiplied_polys k_multiplied_polys b_multiplied_polys .nil (L2N.passes_call (L2N.takes_of rfl rfl rfl rfl) (fun _ _ _ _ h => h)) (pa_cons (pv 1) (pa_cons (pe_tup (pa_cons (pe_un un_neg (pv 2)) (pa_cons pe_int pa_nil))) pa_nil))))))
  (pss_one (ps_ret (pv 1)))))), ?_⟩
    refine ⟨_, rfl, n, rfl, fun c => ?_, q1⟩
    have q := q c.1 c.2
    obtain ⟨N, rfl⟩ := Int.eq_ofNat_of_zero_le c.1
    refine ⟨(by show 1 ≤ sizeLine; decide), fun t0 nt0 => ?_⟩
    refine ⟨_, rfl, _, rfl, by omega, by omega, for_range (lo := 0) (n := N) (fun i σ H' => ∃ (t : Addr) (v2 : Option V), σ = [some (.int (N : Int)), some (.ref t), v2] ∧ Same H H' ∧ H' t = some (.tup ((facL (-1) i).map V.int)))
      ⟨t0, none, rfl, same_upd nt0, upd_same⟩ (fun i σ H2 hi hP => ?_) (fun σ H' hP => ?_)⟩
    · obtain ⟨t, v2, rfl, s2, ht⟩ := hP
      refine ⟨_, rfl, _, rfl, _, rfl, (by show 2 ≤ sizeLine; decide), fun p np => ?_⟩
      have lf := facL_len (-1) i
      have em : -(0 + (i : Int)) = (-1) * (i : Int) := by omega
      have pm : Pol [-(0 + (i : Int)), 1] := .inr (by show (1 : Int) ≠ 0; decide)
      have e1 : isP (facL (-1) i) = true := pol_isP (facL_pol _ _) (by omega)
      have e2 : isP [-(0 + (i : Int)), 1] = true := pol_isP pm (by show 2 ≤ 200; decide)
      have pl : prodLen (facL (-1) i) [-(0 + (i : Int)), 1] ≤ 200 := by
        unfold prodLen
        split
        · omega
        · show _ + 2 - 1 ≤ 200
          omega
      have s3 := same_upd (o := .tup [.int (-(0 + (i : Int))), .int 1]) np
      refine ⟨t, p, facL (-1) i, [-(0 + (i : Int)), 1], rfl, .inl (.inl (s3 _ _ ht)), .inl (.inl upd_same), fun z => (by rw [e1] at z; exact nomatch z), fun _ z => (by rw [e2] at z; exact nomatch z), fun _ _ => ⟨fun z => absurd pl (by omega), fun _ => ⟨fun x _ y hy => ?_, fun t2 zs H' s' ht2 pz cz lz => ?_⟩⟩⟩
      · rcases List.mem_cons.mp hy with rfl | hy
        · exact .inr ⟨by omega, by omega⟩
        · rw [List.mem_singleton.mp hy]
          exact .inr ⟨by decide, by decide⟩
      · have ez : zs = facL (-1) (i + 1) := pol_ext pz (facL_pol _ _) fun k => by
          rw [cz, em, conv_lin]
          rfl
        rw [ez] at ht2
        exact ⟨t2, _, rfl, Same.trans s2 (Same.trans s3 s'), ht2⟩
    · obtain ⟨t, v2, rfl, s2, ht⟩ := hP
      exact ⟨_, rfl, q t H' s2 ht⟩
end

section
variable {P : Program} {w : World} {K : PySem.W.Frag} {mg : Str → Option Value} {base : Heap}
/-! ### rising -/
theorem ok_rising {f CB CP CT a_check_count_ a_multiplied_polys : Addr} {fd fd_check_count_ fd_multiplied_polys : FuncData} (F : Fun K "rising" "rising" s_rising f fd) (z_range : mg "range" = none)
    (G_check_count_ : FnOk P w K mg base (L2N.CX P w) 1 a_check_count_ fd_check_count_ ["count"] (spCheckCount CB)) (g_check_count_ : mg "_check_count" = some (.ref a_check_count_)) (k_check_count_ : PySem.W.keepIn K (.ref a_check_count_) = true) (b_check_count_ : Binds K fd_check_count_ ["count"] [])
    (G_multiplied_polys : FnOk P w K mg base (L2N.CX P w) 3 a_multiplied_polys fd_multiplied_polys ["one", "other"] (spMul K CP CT)) (g_multiplied_polys : mg "multiplied_polys" = some (.ref a_multiplied_polys)) (k_multiplied_polys : PySem.W.keepIn K (.ref a_multiplied_polys) = true) (b_multiplied_polys : Binds K fd_multiplied_polys ["one", "other"] []) :
    FnOk P w K mg base (L2N.CX P w) 4 f fd ["count"] (spFac CB (1)) := by
  refine F.okXN sc_rising (fun vs H Q E h => ?_) (fun cdv A outer s H vs Q E hr h => ?_)
  · obtain ⟨n, rfl, _⟩ := h
    rfl
  · obtain ⟨n, rfl, q1, q⟩ := h
    refine ⟨_, (pss_cons (ps_expr (pe_call G_check_count_ (hr.mono (by decide)) rfl g_check_count_ k_check_count_ b_check_count_ .nil (L2N.passes_call (L2N.takes_of rfl rfl rfl rfl) (fun _ _ _ _ h => h)) (pa_cons (pv 0) pa_nil)))
  (pss_cons (ps_set (i := 1) sc_rising.nd rfl (.inl rfl) (pe_tup (pa_cons pe_int pa_nil)))
  (pss_cons (ps_for (passes_of rfl) rfl (pi_range1 rfl z_range (pa_cons (pv 0) pa_nil)) (pg_name (i := 2) sc_rising.nd rfl (.inl rfl)) (pss_one (ps_set (i := 1) sc_rising.nd rfl (.inl rfl) (pe_call G_multiplied_polys (hr.mono (by decide)) rfl g_multiplied_polys k_multiplied_polys b_multiplied_polys .nil (L2N.passes_call (L2N.takes_of rfl rfl rfl rfl) (fun _ _ _ _ h => h)) (pa_cons (pv 1) (pa_cons (pe_tup (pa_cons (pv 2) (pa_cons pe_int pa_nil))) pa_nil))))))
  (pss_one (ps_ret (pv 1)))))), ?_⟩
    refine ⟨_, rfl, n, rfl, fun c => ?_, q1⟩
    have q := q c.1 c.2
    obtain ⟨N, rfl⟩ := Int.eq_ofNat_of_zero_le c.1
    refine ⟨(by show 1 ≤ sizeLine; decide), fun t0 nt0 => ?_⟩
    refine ⟨_, rfl, _, rfl, by omega, by omega, for_range (lo := 0) (n := N) (fun i σ H' => ∃ (t : Addr) (v2 : Option V), σ = [some (.int (N : Int)), some (.ref t), v2] ∧ Same H H' ∧ H' t = some (.tup ((facL (1) i).map V.int)))
      ⟨t0, none, rfl, same_upd nt0, upd_same⟩ (fun i σ H2 hi hP => ?_) (fun σ H' hP => ?_)⟩
    · obtain ⟨t, v2, rfl, s2, ht⟩ := hP
      refine ⟨_, rfl, _, rfl, (by show 2 ≤ sizeLine; decide), fun p np => ?_⟩
      have lf := facL_len (1) i
      have em : 0 + (i : Int) = (1) * (i : Int) := by omega
      have pm : Pol [0 + (i : Int), 1] := .inr (by show (1 : Int) ≠ 0; decide)
      have e1 : isP (facL (1) i) = true := pol_isP (facL_pol _ _) (by omega)
      have e2 : isP [0 + (i : Int), 1] = true := pol_isP pm (by show 2 ≤ 200; decide)
      have pl : prodLen (facL (1) i) [0 + (i : Int), 1] ≤ 200 := by
        unfold prodLen
        split
        · omega
        · show _ + 2 - 1 ≤ 200
          omega
      have s3 := same_upd (o := .tup [.int (0 + (i : Int)), .int 1]) np
      refine ⟨t, p, facL (1) i, [0 + (i : Int), 1], rfl, .inl (.inl (s3 _ _ ht)), .inl (.inl upd_same), fun z => (by rw [e1] at z; exact nomatch z), fun _ z => (by rw [e2] at z; exact nomatch z), fun _ _ => ⟨fun z => absurd pl (by omega), fun _ => ⟨fun x _ y hy => ?_, fun t2 zs H' s' ht2 pz cz lz => ?_⟩⟩⟩
      · rcases List.mem_cons.mp hy with rfl | hy
        · exact .inr ⟨by omega, by omega⟩
        · rw [List.mem_singleton.mp hy]
          exact .inr ⟨by decide, by decide⟩
      · have ez : zs = facL (1) (i + 1) := pol_ext pz (facL_pol _ _) fun k => by
          rw [cz, em, conv_lin]
          rfl
        rw [ez] at ht2
        exact ⟨t2, _, rfl, Same.trans s2 (Same.trans s3 s'), ht2⟩
    · obtain ⟨t, v2, rfl, s2, ht⟩ := hP
      exact ⟨_, rfl, q t H' s2 ht⟩
end

def byFL (l : List Int) : List Int := (List.range l.length).map (byF l)
def spByF (K : PySem.W.Frag) (CP : Addr) : Sp := fun vs H Q E => ∃ (a : Addr) (l : List Int), vs = [.ref a] ∧ SqT K H a (l.map V.int) ∧ (isP l = false → E (.ref CP) none H) ∧ (isP l = true → ∀ D H', Same H H' → H D = none → H' D = some (.lst ((byFL l).map V.int)) → Q (.ref D) H')
section
variable {P : Program} {w : World} {K : PySem.W.Frag} {mg : Str → Option Value} {base : Heap}
/-! ### by_falling -/
theorem ok_by_falling {f CP a_check_poly a_split_off_ : Addr} {fd fd_check_poly fd_split_off_ : FuncData} (F : Fun K "by_falling" "by_falling" s_by_falling f fd) (z_len : mg "len" = none) (z_range : mg "range" = none) (z_list : mg "list" = none)
    (G_check_poly : FnOk P w K mg base (L2N.CX P w) 2 a_check_poly fd_check_poly ["poly"] (spCheckPoly K CP)) (g_check_poly : mg "check_poly" = some (.ref a_check_poly)) (k_check_poly : PySem.W.keepIn K (.ref a_check_poly) = true) (b_check_poly : Binds K fd_check_poly ["poly"] [])
    (G_split_off_ : FnOk P w K mg base CX0 1 a_split_off_ fd_split_off_ ["parts", "x"] (spSplit K)) (g_split_off_ : mg "_split_off" = some (.ref a_split_off_)) (k_split_off_ : PySem.W.keepIn K (.ref a_split_off_) = true) (b_split_off_ : Binds K fd_split_off_ ["parts", "x"] []) :
    FnOk P w K mg base (L2N.CX P w) 3 f fd ["poly"] (spByF K CP) := by
  refine F.okXN sc_by_falling (fun vs H Q E h => ?_) (fun cdv A outer s H vs Q E hr h => ?_)
  · obtain ⟨a, l, rfl, _⟩ := h
    rfl
  · obtain ⟨a, l, rfl, ha, q1, q⟩ := h
    refine ⟨_, (pss_cons (ps_expr (pe_call G_check_poly (hr.mono (by decide)) rfl g_check_poly k_check_poly b_check_poly .nil (L2N.passes_call (L2N.takes_of rfl rfl rfl rfl) (fun _ _ _ _ h => h)) (pa_cons (pv 0) pa_nil)))
  (pss_cons (ps_set (i := 1) sc_by_falling.nd rfl (.inl rfl) (pe_lst pa_nil))
  (pss_cons (ps_set (i := 2) sc_by_falling.nd rfl (.inl rfl) (pe_callTy call_list_of (by rfl) z_list boot_list (pa_cons (pv 0) pa_nil)))
  (pss_cons (ps_for (passes_of rfl) rfl (pi_range1 rfl z_range (pa_cons (pe_callB call_len_seq (by rfl) z_len boot_len (pa_cons (pv 0) pa_nil)) pa_nil)) (pg_name (i := 3) sc_by_falling.nd rfl (.inl rfl)) (pss_cons (ps_asg (pe_call G_split_off_ (hr.mono (by decide)) rfl g_split_off_ k_split_off_ b_split_off_ .nil pass0 (pa_cons (pv 2) (pa_cons (pv 3) pa_nil))) (pg_tup rfl (pgs_cons (pg_name (i := 2) sc_by_falling.nd rfl (.inl rfl)) (pgs_cons (pg_name (i := 4) sc_by_falling.nd rfl (.inl rfl)) pgs_nil))))
  (pss_one (ps_expr (pe_bm PySem.F.plainAttrs_list PySem.F.slot_list_append PySem.F.type_list_append mt_append (pv 1) (pa_cons (pv 4) pa_nil))))))
  (pss_one (ps_ret (pv 1))))))), ?_⟩
    have szl : 3000 ≤ sizeLine := by decide
    refine ⟨_, rfl, a, l, rfl, ha, fun e1 => ?_, q1⟩
    obtain ⟨p1, h1⟩ := isP_pol e1
    have q := q e1
    refine ⟨(by show 0 ≤ sizeLine; decide), fun D nD => ?_⟩
    refine ⟨_, rfl, a, _, rfl, .inr (sqT_same (same_upd nD) ha), fun u0 nu0 => ?_⟩
    have s1 : Same H (upd (upd H D (.lst [])) u0 (.lst (l.map V.int))) := Same.trans (same_upd nD) (same_upd nu0)
    have hu0 : upd (upd H D (.lst [])) u0 (.lst (l.map V.int)) u0 = some (.lst (l.map V.int)) := upd_same
    have hD0 : upd (upd H D (.lst [])) u0 (.lst (l.map V.int)) D = some (.lst []) := same_upd nu0 _ _ upd_same
    have hne : u0 ≠ D := fun z => by
      rw [z, upd_same] at nu0
      exact nomatch nu0
    revert s1 hu0 hD0
    generalize upd (upd H D (.lst [])) u0 (.lst (l.map V.int)) = H1
    intro s1 hu0 hD0
    refine ⟨_, rfl, a, _, rfl, .inr (sqT_same s1 ha), ?_⟩
    rw [List.length_map]
    refine ⟨_, rfl, by omega, by omega, for_range (lo := 0) (n := l.length) (fun i σ H' => ∃ (u : Addr) (v3 v4 : Option V), σ = [some (.ref a), some (.ref D), some (.ref u), v3, v4] ∧ Same H H' ∧ H' D = some (.lst (((List.range i).map (byF l)).map V.int)) ∧ H' u = some (.lst ((rests l i).map V.int)) ∧ u ≠ D)
      ⟨u0, none, none, rfl, s1, hD0, hu0, hne⟩ (fun i σ H2 hi hP => ?_) (fun σ H' hP => ?_)⟩
    · obtain ⟨u, v3, v4, rfl, s2, hD2, hu2, nu⟩ := hP
      have lr := rests_len l i
      refine ⟨_, rfl, _, rfl, u, _, rests l i, rfl, .inl (.inl (.inl hu2)), by omega, by omega, fun t u' H3 s3 nt nu' ht hu' => ?_⟩
      refine ⟨t, _, rfl, .inl (.inl ht), rfl, _, _, rfl, _, _, rfl, rfl, ?_⟩
      have hD3 := s3 _ _ hD2
      refine ⟨_, rfl, .inl ⟨rfl, _, .inl (.inl hD3)⟩, _, rfl, D, _, _, rfl, rfl, hD3, by rw [List.length_map, List.length_map, List.length_range]; omega, ?_⟩
      have nuD : u' ≠ D := fun z => by
        rw [z, hD2] at nu'
        exact nomatch nu'
      have ei : (0 : Int) + (i : Int) = (i : Int) := Int.zero_add _
      refine ⟨u', _, _, rfl, Same.mut (Same.trans s2 s3) nD, ?_, by rw [upd_ne nuD, hu', ei]; rfl, nuD⟩
      rw [upd_same, List.range_succ, List.map_append, List.map_append, ei]
      rfl
    · obtain ⟨u, v3, v4, rfl, s2, hD2, _⟩ := hP
      exact ⟨_, rfl, q D H' s2 nD hD2⟩
end

section
variable {P : Program} {w : World} {K : PySem.W.Frag} {mg : Str → Option Value} {base : Heap}
/-! ### _law_error2 -/
theorem fl_pos {z x : Str} {l : List Str} (h : x = z) : ((l ++ [x]).filter fun t => decide (t = z)).map V.str = (l.filter fun t => decide (t = z)).map V.str ++ [.str x] := by
  rw [List.filter_append, List.map_append, List.filter_cons, decide_eq_true h]
  rfl
theorem fl_neg {z x : Str} {l : List Str} (h : x ≠ z) : ((l ++ [x]).filter fun t => decide (t = z)).map V.str = (l.filter fun t => decide (t = z)).map V.str := by
  rw [List.filter_append, List.filter_cons, decide_eq_false h]
  exact congrArg _ (List.append_nil _)
theorem fl_len (z : Str) (l : List Str) : ((l.filter fun t => decide (t = z)).map V.str).length ≤ l.length := by
  rw [List.length_map]
  exact List.length_filter_le _ _
/-- what an error class must say here: its name is z -/
structure KindE (K : PySem.W.Frag) (CE CW X_NotFamily X_NotDiagram CN X_NotWord CP X_NotMatrix CB CA X_TooLarge CM D : Addr) (z : Str) : Prop where
  C : ExcC K D
  e : PySem.W.kitOne K (.ref D) (.ref CE) = some true
  n : z ∈ (["world", "family", "diagram", "value", "word", "poly", "matrix", "number", "answer", "large"] : List Str)
  k0 : PySem.W.kitOne K (.ref D) (.ref CW) = some (decide (("world" : Str) = z))
  k1 : PySem.W.kitOne K (.ref D) (.ref X_NotFamily) = some (decide (("family" : Str) = z))
  k2 : PySem.W.kitOne K (.ref D) (.ref X_NotDiagram) = some (decide (("diagram" : Str) = z))
  k3 : PySem.W.kitOne K (.ref D) (.ref CN) = some (decide (("value" : Str) = z))
  k4 : PySem.W.kitOne K (.ref D) (.ref X_NotWord) = some (decide (("word" : Str) = z))
  k5 : PySem.W.kitOne K (.ref D) (.ref CP) = some (decide (("poly" : Str) = z))
  k6 : PySem.W.kitOne K (.ref D) (.ref X_NotMatrix) = some (decide (("matrix" : Str) = z))
  k7 : PySem.W.kitOne K (.ref D) (.ref CB) = some (decide (("number" : Str) = z))
  k8 : PySem.W.kitOne K (.ref D) (.ref CA) = some (decide (("answer" : Str) = z))
  k9 : PySem.W.kitOne K (.ref D) (.ref X_TooLarge) = some (decide (("large" : Str) = z))
  k10 : PySem.W.kitOne K (.ref D) (.ref CM) = some false
/-- Malformed -/
structure KindM (K : PySem.W.Frag) (CE CW X_NotFamily X_NotDiagram CN X_NotWord CP X_NotMatrix CB CA X_TooLarge CM : Addr) : Prop where
  C : ExcC K CM
  e : PySem.W.kitOne K (.ref CM) (.ref CE) = some true
  k0 : PySem.W.kitOne K (.ref CM) (.ref CW) = some false
  k1 : PySem.W.kitOne K (.ref CM) (.ref X_NotFamily) = some false
  k2 : PySem.W.kitOne K (.ref CM) (.ref X_NotDiagram) = some false
  k3 : PySem.W.kitOne K (.ref CM) (.ref CN) = some false
  k4 : PySem.W.kitOne K (.ref CM) (.ref X_NotWord) = some false
  k5 : PySem.W.kitOne K (.ref CM) (.ref CP) = some false
  k6 : PySem.W.kitOne K (.ref CM) (.ref X_NotMatrix) = some false
  k7 : PySem.W.kitOne K (.ref CM) (.ref CB) = some false
  k8 : PySem.W.kitOne K (.ref CM) (.ref CA) = some false
  k9 : PySem.W.kitOne K (.ref CM) (.ref X_TooLarge) = some false
  k10 : PySem.W.kitOne K (.ref CM) (.ref CM) = some true
def txI (i : Int) : Str := Str.ofString (toString i)
def spLErr (K : PySem.W.Frag) (CE CW X_NotFamily X_NotDiagram CN X_NotWord CP X_NotMatrix CB CA X_TooLarge CM : Addr) : Addr → Value → Option Addr → Sp := fun a cls d vs H Q _ => vs = [.ref a] ∧ ((∃ D z, cls = .ref D ∧ d = none ∧ KindE K CE CW X_NotFamily X_NotDiagram CN X_NotWord CP X_NotMatrix CB CA X_TooLarge CM D z ∧ ∀ H', Same H H' → Q (.str (("!" : Str) ++ z)) H') ∨
  ∃ (dd : Addr) (fs : List (Str × V)) (at' : Int), cls = .ref CM ∧ d = some dd ∧ H dd = some (.xd fs) ∧ fs.lookup ("at" : Str) = some (.int at') ∧ at'.natAbs.log2 < 1920 ∧ (txI at').length ≤ 10000 ∧ KindM K CE CW X_NotFamily X_NotDiagram CN X_NotWord CP X_NotMatrix CB CA X_TooLarge CM ∧ ∀ H', Same H H' → Q (.str (("!" : Str) ++ (("at " : Str) ++ txI at'))) H')
theorem ok_law_error2 {f fI CE CW X_NotFamily X_NotDiagram CN X_NotWord CP X_NotMatrix CB CA X_TooLarge CM : Addr} {fd : FuncData} (F : Fun K "_law_error2" "_law_error2" s_law_error2 f fd) (m_WorthError : mg "WorthError" = some (.ref CE)) (m_NotWorld : mg "NotWorld" = some (.ref CW)) (m_NotFamily : mg "NotFamily" = some (.ref X_NotFamily)) (m_NotDiagram : mg "NotDiagram" = some (.ref X_NotDiagram)) (m_NotNumber : mg "NotNumber" = some (.ref CN)) (m_NotWord : mg "NotWord" = some (.ref X_NotWord)) (m_NotPoly : mg "NotPoly" = some (.ref CP)) (m_NotMatrix : mg "NotMatrix" = some (.ref X_NotMatrix)) (m_BadNumber : mg "BadNumber" = some (.ref CB)) (m_NoAnswer : mg "NoAnswer" = some (.ref CA)) (m_TooLarge : mg "TooLarge" = some (.ref X_TooLarge)) (m_Malformed : mg "Malformed" = some (.ref CM)) (OX_Malformed : MalC K mg CM fI) (XM : XfC K CM) (z_isinstance : mg "isinstance" = none) (z_len : mg "len" = none) (z_str : mg "str" = none) :
    FnE P w K mg base 1 f fd ["error"] (spLErr K CE CW X_NotFamily X_NotDiagram CN X_NotWord CP X_NotMatrix CB CA X_TooLarge CM) := by
  have r_WorthError : RelV (.ref CE) (.ref CE) := rfl
  have r_NotWorld : RelV (.ref CW) (.ref CW) := rfl
  have r_NotFamily : RelV (.ref X_NotFamily) (.ref X_NotFamily) := rfl
  have r_NotDiagram : RelV (.ref X_NotDiagram) (.ref X_NotDiagram) := rfl
  have r_NotNumber : RelV (.ref CN) (.ref CN) := rfl
  have r_NotWord : RelV (.ref X_NotWord) (.ref X_NotWord) := rfl
  have r_NotPoly : RelV (.ref CP) (.ref CP) := rfl
  have r_NotMatrix : RelV (.ref X_NotMatrix) (.ref X_NotMatrix) := rfl
  have r_BadNumber : RelV (.ref CB) (.ref CB) := rfl
  have r_NoAnswer : RelV (.ref CA) (.ref CA) := rfl
  have r_TooLarge : RelV (.ref X_TooLarge) (.ref X_TooLarge) := rfl
  have r_Malformed : RelV (.ref CM) (.ref CM) := rfl
  refine F.okE sc_law_error2 (fun a cls d vs H Q E h => h.1 ▸ rfl) (fun cdv A outer s H vs Q E a oe cls d hz hf hr h => ?_)
  obtain ⟨rfl, h⟩ := h
  refine ⟨_, (pss_cons (ps_set (i := 1) sc_law_error2.nd rfl (.inl rfl) (pe_lst pa_nil))
  (Evl.pss_cut (ps_if (pt_val (pe_callB (call_isEHQ hz hf) (by rfl) z_isinstance boot_isinstance (pa_cons (pv 0) (pa_cons (pe_glob rfl m_NotWorld r_NotWorld) pa_nil)))) (pss_one (ps_expr (pe_bm PySem.F.plainAttrs_list PySem.F.slot_list_append PySem.F.type_list_append mt_append (pv 1) (pa_cons pe_str pa_nil)))) pss_nil)
  (Evl.pss_cut (ps_if (pt_val (pe_callB (call_isEHQ hz hf) (by rfl) z_isinstance boot_isinstance (pa_cons (pv 0) (pa_cons (pe_glob rfl m_NotFamily r_NotFamily) pa_nil)))) (pss_one (ps_expr (pe_bm PySem.F.plainAttrs_list PySem.F.slot_list_append PySem.F.type_list_append mt_append (pv 1) (pa_cons pe_str pa_nil)))) pss_nil)
  (Evl.pss_cut (ps_if (pt_val (pe_callB (call_isEHQ hz hf) (by rfl) z_isinstance boot_isinstance (pa_cons (pv 0) (pa_cons (pe_glob rfl m_NotDiagram r_NotDiagram) pa_nil)))) (pss_one (ps_expr (pe_bm PySem.F.plainAttrs_list PySem.F.slot_list_append PySem.F.type_list_append mt_append (pv 1) (pa_cons pe_str pa_nil)))) pss_nil)
  (Evl.pss_cut (ps_if (pt_val (pe_callB (call_isEHQ hz hf) (by rfl) z_isinstance boot_isinstance (pa_cons (pv 0) (pa_cons (pe_glob rfl m_NotNumber r_NotNumber) pa_nil)))) (pss_one (ps_expr (pe_bm PySem.F.plainAttrs_list PySem.F.slot_list_append PySem.F.type_list_append mt_append (pv 1) (pa_cons pe_str pa_nil)))) pss_nil)
  (Evl.pss_cut (ps_if (pt_val (pe_callB (call_isEHQ hz hf) (by rfl) z_isinstance boot_isinstance (pa_cons (pv 0) (pa_cons (pe_glob rfl m_NotWord r_NotWord) pa_nil)))) (pss_one (ps_expr (pe_bm PySem.F.plainAttrs_list PySem.F.slot_list_append PySem.F.type_list_append mt_append (pv 1) (pa_cons pe_str pa_nil)))) pss_nil)
  (Evl.pss_cut (ps_if (pt_val (pe_callB (call_isEHQ hz hf) (by rfl) z_isinstance boot_isinstance (pa_cons (pv 0) (pa_cons (pe_glob rfl m_NotPoly r_NotPoly) pa_nil)))) (pss_one (ps_expr (pe_bm PySem.F.plainAttrs_list PySem.F.slot_list_append PySem.F.type_list_append mt_append (pv 1) (pa_cons pe_str pa_nil)))) pss_nil)
  (Evl.pss_cut (ps_if (pt_val (pe_callB (call_isEHQ hz hf) (by rfl) z_isinstance boot_isinstance (pa_cons (pv 0) (pa_cons (pe_glob rfl m_NotMatrix r_NotMatrix) pa_nil)))) (pss_one (ps_expr (pe_bm PySem.F.plainAttrs_list PySem.F.slot_list_append PySem.F.type_list_append mt_append (pv 1) (pa_cons pe_str pa_nil)))) pss_nil)
  (Evl.pss_cut (ps_if (pt_val (pe_callB (call_isEHQ hz hf) (by rfl) z_isinstance boot_isinstance (pa_cons (pv 0) (pa_cons (pe_glob rfl m_BadNumber r_BadNumber) pa_nil)))) (pss_one (ps_expr (pe_bm PySem.F.plainAttrs_list PySem.F.slot_list_append PySem.F.type_list_append mt_append (pv 1) (pa_cons pe_str pa_nil)))) pss_nil)
  (Evl.pss_cut (ps_if (pt_val (pe_callB (call_isEHQ hz hf) (by rfl) z_isinstance boot_isinstance (pa_cons (pv 0) (pa_cons (pe_glob rfl m_NoAnswer r_NoAnswer) pa_nil)))) (pss_one (ps_expr (pe_bm PySem.F.plainAttrs_list PySem.F.slot_list_append PySem.F.type_list_append mt_append (pv 1) (pa_cons pe_str pa_nil)))) pss_nil)
  (Evl.pss_cut (ps_if (pt_val (pe_callB (call_isEHQ hz hf) (by rfl) z_isinstance boot_isinstance (pa_cons (pv 0) (pa_cons (pe_glob rfl m_TooLarge r_TooLarge) pa_nil)))) (pss_one (ps_expr (pe_bm PySem.F.plainAttrs_list PySem.F.slot_list_append PySem.F.type_list_append mt_append (pv 1) (pa_cons pe_str pa_nil)))) pss_nil)
  (Evl.pss_cut (ps_if (pt_val (pe_callB (call_isEHQ hz hf) (by rfl) z_isinstance boot_isinstance (pa_cons (pv 0) (pa_cons (pe_glob rfl m_Malformed r_Malformed) pa_nil)))) (pss_one (ps_expr (pe_bm PySem.F.plainAttrs_list PySem.F.slot_list_append PySem.F.type_list_append mt_append (pv 1) (pa_cons (pe_op op_add_str pe_str (pe_callTy call_str_int (by rfl) z_str boot_str (pa_cons (L2.pe_xfP List.mem_cons_self XM OX_Malformed.na hz hf (pv 0)) pa_nil))) pa_nil)))) pss_nil)
  (pss_cons (ps_if (L2.PW.pt (pw_and (pt_cmpR op_eq (pe_callB call_len_seq (by rfl) z_len boot_len (pa_cons (pv 1) pa_nil)) pe_int (nomark _)) (pw_and1 (pt_val (pe_callB (call_isEHQ hz hf) (by rfl) z_isinstance boot_isinstance (pa_cons (pv 0) (pa_cons (pe_glob rfl m_WorthError r_WorthError) pa_nil))))))) (pss_one (ps_ret (pe_op op_add_str pe_str (pe_ix ix_list (pv 1) pe_int (fun _ _ => rfl))))) pss_nil)
  (pss_one (ps_ret pe_str))))))))))))))), ?_⟩
  have szl : 20000 ≤ sizeLine := by decide
  refine ⟨(by show 0 ≤ sizeLine; decide), fun L nL => ?_⟩
  rcases h with ⟨D, z, rfl, rfl, k, q⟩ | ⟨dd, fs, at', rfl, rfl, hfs, lk, lg, ltx, k, q⟩
  · have st0 : Same H (upd H L (.lst [])) ∧ upd H L (.lst []) L = some (.lst ((([] : List Str).filter fun t => decide (t = z)).map V.str)) := ⟨same_upd nL, upd_same⟩
    revert st0
    generalize upd H L (.lst []) = H0
    intro st0
    refine ⟨fun σ H' => σ = [some (.ref a), some (.ref L)] ∧ Same H H' ∧ H' L = some (.lst (((["world"] : List Str).filter fun t => decide (t = z)).map V.str)), ?_, ?_⟩
    · refine ⟨_, rfl, .inl ⟨D, rfl, rfl, k.C, .ref CW, .ref CW, _, rfl, fun _ r => r, k.k0, _, rfl, ?_⟩⟩
      by_cases c : ("world" : Str) = z
      · refine if_pos_of (decide_eq_true c) ⟨_, rfl, .inl ⟨rfl, _, .inl (.inl st0.2)⟩, L, _, _, rfl, rfl, st0.2, Nat.lt_of_le_of_lt (fl_len z ([] : List Str)) (Nat.lt_of_lt_of_le (by decide : ([] : List Str).length < 20) (by omega)), ?_⟩
        refine ⟨rfl, Same.mut st0.1 nL, ?_⟩
        rw [show (["world"] : List Str) = ([] : List Str) ++ (["world"] : List Str) from rfl, fl_pos c]
        exact upd_same
      · refine if_neg_of (fun h => c (of_decide_eq_true h)) ⟨rfl, st0.1, ?_⟩
        rw [show (["world"] : List Str) = ([] : List Str) ++ (["world"] : List Str) from rfl, fl_neg c]
        exact st0.2
    clear st0
    rintro σ H1 ⟨rfl, st0⟩
    refine ⟨fun σ H' => σ = [some (.ref a), some (.ref L)] ∧ Same H H' ∧ H' L = some (.lst (((["world", "family"] : List Str).filter fun t => decide (t = z)).map V.str)), ?_, ?_⟩
    · refine ⟨_, rfl, .inl ⟨D, rfl, rfl, k.C, .ref X_NotFamily, .ref X_NotFamily, _, rfl, fun _ r => r, k.k1, _, rfl, ?_⟩⟩
      by_cases c : ("family" : Str) = z
      · refine if_pos_of (decide_eq_true c) ⟨_, rfl, .inl ⟨rfl, _, .inl (.inl st0.2)⟩, L, _, _, rfl, rfl, st0.2, Nat.lt_of_le_of_lt (fl_len z (["world"] : List Str)) (Nat.lt_of_lt_of_le (by decide : (["world"] : List Str).length < 20) (by omega)), ?_⟩
        refine ⟨rfl, Same.mut st0.1 nL, ?_⟩
        rw [show (["world", "family"] : List Str) = (["world"] : List Str) ++ (["family"] : List Str) from rfl, fl_pos c]
        exact upd_same
      · refine if_neg_of (fun h => c (of_decide_eq_true h)) ⟨rfl, st0.1, ?_⟩
        rw [show (["world", "family"] : List Str) = (["world"] : List Str) ++ (["family"] : List Str) from rfl, fl_neg c]
        exact st0.2
    clear st0
    rintro σ H2 ⟨rfl, st0⟩
    refine ⟨fun σ H' => σ = [some (.ref a), some (.ref L)] ∧ Same H H' ∧ H' L = some (.lst (((["world", "family", "diagram"] : List Str).filter fun t => decide (t = z)).map V.str)), ?_, ?_⟩
    · refine ⟨_, rfl, .inl ⟨D, rfl, rfl, k.C, .ref X_NotDiagram, .ref X_NotDiagram, _, rfl, fun _ r => r, k.k2, _, rfl, ?_⟩⟩
      by_cases c : ("diagram" : Str) = z
      · refine if_pos_of (decide_eq_true c) ⟨_, rfl, .inl ⟨rfl, _, .inl (.inl st0.2)⟩, L, _, _, rfl, rfl, st0.2, Nat.lt_of_le_of_lt (fl_len z (["world", "family"] : List Str)) (Nat.lt_of_lt_of_le (by decide : (["world", "family"] : List Str).length < 20) (by omega)), ?_⟩
        refine ⟨rfl, Same.mut st0.1 nL, ?_⟩
        rw [show (["world", "family", "diagram"] : List Str) = (["world", "family"] : List Str) ++ (["diagram"] : List Str) from rfl, fl_pos c]
        exact upd_same
      · refine if_neg_of (fun h => c (of_decide_eq_true h)) ⟨rfl, st0.1, ?_⟩
        rw [show (["world", "family", "diagram"] : List Str) = (["world", "family"] : List Str) ++ (["diagram"] : List Str) from rfl, fl_neg c]
        exact st0.2
    clear st0
    rintro σ H3 ⟨rfl, st0⟩
    refine ⟨fun σ H' => σ = [some (.ref a), some (.ref L)] ∧ Same H H' ∧ H' L = some (.lst (((["world", "family", "diagram", "value"] : List Str).filter fun t => decide (t = z)).map V.str)), ?_, ?_⟩
    · refine ⟨_, rfl, .inl ⟨D, rfl, rfl, k.C, .ref CN, .ref CN, _, rfl, fun _ r => r, k.k3, _, rfl, ?_⟩⟩
      by_cases c : ("value" : Str) = z
      · refine if_pos_of (decide_eq_true c) ⟨_, rfl, .inl ⟨rfl, _, .inl (.inl st0.2)⟩, L, _, _, rfl, rfl, st0.2, Nat.lt_of_le_of_lt (fl_len z (["world", "family", "diagram"] : List Str)) (Nat.lt_of_lt_of_le (by decide : (["world", "family", "diagram"] : List Str).length < 20) (by omega)), ?_⟩
        refine ⟨rfl, Same.mut st0.1 nL, ?_⟩
        rw [show (["world", "family", "diagram", "value"] : List Str) = (["world", "family", "diagram"] : List Str) ++ (["value"] : List Str) from rfl, fl_pos c]
        exact upd_same
      · refine if_neg_of (fun h => c (of_decide_eq_true h)) ⟨rfl, st0.1, ?_⟩
        rw [show (["world", "family", "diagram", "value"] : List Str) = (["world", "family", "diagram"] : List Str) ++ (["value"] : List Str) from rfl, fl_neg c]
        exact st0.2
    clear st0
    rintro σ H4 ⟨rfl, st0⟩
    refine ⟨fun σ H' => σ = [some (.ref a), some (.ref L)] ∧ Same H H' ∧ H' L = some (.lst (((["world", "family", "diagram", "value", "word"] : List Str).filter fun t => decide (t = z)).map V.str)), ?_, ?_⟩
    · refine ⟨_, rfl, .inl ⟨D, rfl, rfl, k.C, .ref X_NotWord, .ref X_NotWord, _, rfl, fun _ r => r, k.k4, _, rfl, ?_⟩⟩
      by_cases c : ("word" : Str) = z
      · refine if_pos_of (decide_eq_true c) ⟨_, rfl, .inl ⟨rfl, _, .inl (.inl st0.2)⟩, L, _, _, rfl, rfl, st0.2, Nat.lt_of_le_of_lt (fl_len z (["world", "family", "diagram", "value"] : List Str)) (Nat.lt_of_lt_of_le (by decide : (["world", "family", "diagram", "value"] : List Str).length < 20) (by omega)), ?_⟩
        refine ⟨rfl, Same.mut st0.1 nL, ?_⟩
        rw [show (["world", "family", "diagram", "value", "word"] : List Str) = (["world", "family", "diagram", "value"] : List Str) ++ (["word"] : List Str) from rfl, fl_pos c]
        exact upd_same
      · refine if_neg_of (fun h => c (of_decide_eq_true h)) ⟨rfl, st0.1, ?_⟩
        rw [show (["world", "family", "diagram", "value", "word"] : List Str) = (["world", "family", "diagram", "value"] : List Str) ++ (["word"] : List Str) from rfl, fl_neg c]
        exact st0.2
    clear st0
    rintro σ H5 ⟨rfl, st0⟩
    refine ⟨fun σ H' => σ = [some (.ref a), some (.ref L)] ∧ Same H H' ∧ H' L = some (.lst (((["world", "family", "diagram", "value", "word", "poly"] : List Str).filter fun t => decide (t = z)).map V.str)), ?_, ?_⟩
    · refine ⟨_, rfl, .inl ⟨D, rfl, rfl, k.C, .ref CP, .ref CP, _, rfl, fun _ r => r, k.k5, _, rfl, ?_⟩⟩
      by_cases c : ("poly" : Str) = z
      · refine if_pos_of (decide_eq_true c) ⟨_, rfl, .inl ⟨rfl, _, .inl (.inl st0.2)⟩, L, _, _, rfl, rfl, st0.2, Nat.lt_of_le_of_lt (fl_len z (["world", "family", "diagram", "value", "word"] : List Str)) (Nat.lt_of_lt_of_le (by decide : (["world", "family", "diagram", "value", "word"] : List Str).length < 20) (by omega)), ?_⟩
        refine ⟨rfl, Same.mut st0.1 nL, ?_⟩
        rw [show (["world", "family", "diagram", "value", "word", "poly"] : List Str) = (["world", "family", "diagram", "value", "word"] : List Str) ++ (["poly"] : List Str) from rfl, fl_pos c]
        exact upd_same
      · refine if_neg_of (fun h => c (of_decide_eq_true h)) ⟨rfl, st0.1, ?_⟩
        rw [show (["world", "family", "diagram", "value", "word", "poly"] : List Str) = (["world", "family", "diagram", "value", "word"] : List Str) ++ (["poly"] : List Str) from rfl, fl_neg c]
        exact st0.2
    clear st0
    rintro σ H6 ⟨rfl, st0⟩
    refine ⟨fun σ H' => σ = [some (.ref a), some (.ref L)] ∧ Same H H' ∧ H' L = some (.lst (((["world", "family", "diagram", "value", "word", "poly", "matrix"] : List Str).filter fun t => decide (t = z)).map V.str)), ?_, ?_⟩
    · refine ⟨_, rfl, .inl ⟨D, rfl, rfl, k.C, .ref X_NotMatrix, .ref X_NotMatrix, _, rfl, fun _ r => r, k.k6, _, rfl, ?_⟩⟩
      by_cases c : ("matrix" : Str) = z
      · refine if_pos_of (decide_eq_true c) ⟨_, rfl, .inl ⟨rfl, _, .inl (.inl st0.2)⟩, L, _, _, rfl, rfl, st0.2, Nat.lt_of_le_of_lt (fl_len z (["world", "family", "diagram", "value", "word", "poly"] : List Str)) (Nat.lt_of_lt_of_le (by decide : (["world", "family", "diagram", "value", "word", "poly"] : List Str).length < 20) (by omega)), ?_⟩
        refine ⟨rfl, Same.mut st0.1 nL, ?_⟩
        rw [show (["world", "family", "diagram", "value", "word", "poly", "matrix"] : List Str) = (["world", "family", "diagram", "value", "word", "poly"] : List Str) ++ (["matrix"] : List Str) from rfl, fl_pos c]
        exact upd_same
      · refine if_neg_of (fun h => c (of_decide_eq_true h)) ⟨rfl, st0.1, ?_⟩
        rw [show (["world", "family", "diagram", "value", "word", "poly", "matrix"] : List Str) = (["world", "family", "diagram", "value", "word", "poly"] : List Str) ++ (["matrix"] : List Str) from rfl, fl_neg c]
        exact st0.2
    clear st0
    rintro σ H7 ⟨rfl, st0⟩
    refine ⟨fun σ H' => σ = [some (.ref a), some (.ref L)] ∧ Same H H' ∧ H' L = some (.lst (((["world", "family", "diagram", "value", "word", "poly", "matrix", "number"] : List Str).filter fun t => decide (t = z)).map V.str)), ?_, ?_⟩
    · refine ⟨_, rfl, .inl ⟨D, rfl, rfl, k.C, .ref CB, .ref CB, _, rfl, fun _ r => r, k.k7, _, rfl, ?_⟩⟩
      by_cases c : ("number" : Str) = z
      · refine if_pos_of (decide_eq_true c) ⟨_, rfl, .inl ⟨rfl, _, .inl (.inl st0.2)⟩, L, _, _, rfl, rfl, st0.2, Nat.lt_of_le_of_lt (fl_len z (["world", "family", "diagram", "value", "word", "poly", "matrix"] : List Str)) (Nat.lt_of_lt_of_le (by decide : (["world", "family", "diagram", "value", "word", "poly", "matrix"] : List Str).length < 20) (by omega)), ?_⟩
        refine ⟨rfl, Same.mut st0.1 nL, ?_⟩
        rw [show (["world", "family", "diagram", "value", "word", "poly", "matrix", "number"] : List Str) = (["world", "family", "diagram", "value", "word", "poly", "matrix"] : List Str) ++ (["number"] : List Str) from rfl, fl_pos c]
        exact upd_same
      · refine if_neg_of (fun h => c (of_decide_eq_true h)) ⟨rfl, st0.1, ?_⟩
        rw [show (["world", "family", "diagram", "value", "word", "poly", "matrix", "number"] : List Str) = (["world", "family", "diagram", "value", "word", "poly", "matrix"] : List Str) ++ (["number"] : List Str) from rfl, fl_neg c]
        exact st0.2
    clear st0
    rintro σ H8 ⟨rfl, st0⟩
    refine ⟨fun σ H' => σ = [some (.ref a), some (.ref L)] ∧ Same H H' ∧ H' L = some (.lst (((["world", "family", "diagram", "value", "word", "poly", "matrix", "number", "answer"] : List Str).filter fun t => decide (t = z)).map V.str)), ?_, ?_⟩
    · refine ⟨_, rfl, .inl ⟨D, rfl, rfl, k.C, .ref CA, .ref CA, _, rfl, fun _ r => r, k.k8, _, rfl, ?_⟩⟩
      by_cases c : ("answer" : Str) = z
      · refine if_pos_of (decide_eq_true c) ⟨_, rfl, .inl ⟨rfl, _, .inl (.inl st0.2)⟩, L, _, _, rfl, rfl, st0.2, Nat.lt_of_le_of_lt (fl_len z (["world", "family", "diagram", "value", "word", "poly", "matrix", "number"] : List Str)) (Nat.lt_of_lt_of_le (by decide : (["world", "family", "diagram", "value", "word", "poly", "matrix", "number"] : List Str).length < 20) (by omega)), ?_⟩
        refine ⟨rfl, Same.mut st0.1 nL, ?_⟩
        rw [show (["world", "family", "diagram", "value", "word", "poly", "matrix", "number", "answer"] : List Str) = (["world", "family", "diagram", "value", "word", "poly", "matrix", "number"] : List Str) ++ (["answer"] : List Str) from rfl, fl_pos c]
        exact upd_same
      · refine if_neg_of (fun h => c (of_decide_eq_true h)) ⟨rfl, st0.1, ?_⟩
        rw [show (["world", "family", "diagram", "value", "word", "poly", "matrix", "number", "answer"] : List Str) = (["world", "family", "diagram", "value", "word", "poly", "matrix", "number"] : List Str) ++ (["answer"] : List Str) from rfl, fl_neg c]
        exact st0.2
    clear st0
    rintro σ H9 ⟨rfl, st0⟩
    refine ⟨fun σ H' => σ = [some (.ref a), some (.ref L)] ∧ Same H H' ∧ H' L = some (.lst (((["world", "family", "diagram", "value", "word", "poly", "matrix", "number", "answer", "large"] : List Str).filter fun t => decide (t = z)).map V.str)), ?_, ?_⟩
    · refine ⟨_, rfl, .inl ⟨D, rfl, rfl, k.C, .ref X_TooLarge, .ref X_TooLarge, _, rfl, fun _ r => r, k.k9, _, rfl, ?_⟩⟩
      by_cases c : ("large" : Str) = z
      · refine if_pos_of (decide_eq_true c) ⟨_, rfl, .inl ⟨rfl, _, .inl (.inl st0.2)⟩, L, _, _, rfl, rfl, st0.2, Nat.lt_of_le_of_lt (fl_len z (["world", "family", "diagram", "value", "word", "poly", "matrix", "number", "answer"] : List Str)) (Nat.lt_of_lt_of_le (by decide : (["world", "family", "diagram", "value", "word", "poly", "matrix", "number", "answer"] : List Str).length < 20) (by omega)), ?_⟩
        refine ⟨rfl, Same.mut st0.1 nL, ?_⟩
        rw [show (["world", "family", "diagram", "value", "word", "poly", "matrix", "number", "answer", "large"] : List Str) = (["world", "family", "diagram", "value", "word", "poly", "matrix", "number", "answer"] : List Str) ++ (["large"] : List Str) from rfl, fl_pos c]
        exact upd_same
      · refine if_neg_of (fun h => c (of_decide_eq_true h)) ⟨rfl, st0.1, ?_⟩
        rw [show (["world", "family", "diagram", "value", "word", "poly", "matrix", "number", "answer", "large"] : List Str) = (["world", "family", "diagram", "value", "word", "poly", "matrix", "number", "answer"] : List Str) ++ (["large"] : List Str) from rfl, fl_neg c]
        exact st0.2
    clear st0
    rintro σ H10 ⟨rfl, st0⟩
    refine ⟨fun σ H' => σ = [some (.ref a), some (.ref L)] ∧ Same H H' ∧ H' L = some (.lst (((["world", "family", "diagram", "value", "word", "poly", "matrix", "number", "answer", "large"] : List Str).filter fun t => decide (t = z)).map V.str)), ?_, ?_⟩
    · refine ⟨_, rfl, .inl ⟨D, rfl, rfl, k.C, .ref CM, .ref CM, _, rfl, fun _ r => r, k.k10, _, rfl, ?_⟩⟩
      exact if_neg_of Bool.false_ne_true ⟨rfl, st0⟩
    clear st0
    rintro σ H11 ⟨rfl, st0⟩
    have e1 : ((["world", "family", "diagram", "value", "word", "poly", "matrix", "number", "answer", "large"] : List Str).filter fun t => decide (t = z)) = [z] := by
      have n := k.n
      simp only [List.mem_cons, List.not_mem_nil, or_false] at n
      rcases n with rfl | rfl | rfl | rfl | rfl | rfl | rfl | rfl | rfl | rfl <;> decide
    rw [e1] at st0
    have zl : z.length ≤ 20 := by
      have n := k.n
      simp only [List.mem_cons, List.not_mem_nil, or_false] at n
      rcases n with rfl | rfl | rfl | rfl | rfl | rfl | rfl | rfl | rfl | rfl <;> decide
    refine ⟨_, rfl, L, _, rfl, .inl (.inl (.inl st0.2)), rfl, _, rfl, if_pos_of rfl ⟨_, rfl, .inl ⟨D, rfl, rfl, k.C, .ref CE, .ref CE, true, rfl, fun _ r => r, k.e, _, rfl, if_pos_of rfl ?_⟩⟩⟩
    exact ⟨_, rfl, L, _, 0, .str z, rfl, rfl, .inl (.inl st0.2), rfl, "!", z, rfl, rfl, Nat.le_trans (Nat.add_le_add_left zl _) (Nat.le_trans (by decide) szl), q _ st0.1⟩
  · have st0 : Same H (upd H L (.lst [])) ∧ upd H L (.lst []) L = some (.lst []) := ⟨same_upd nL, upd_same⟩
    revert st0
    generalize upd H L (.lst []) = H0
    intro st0
    refine ⟨fun σ H' => σ = [some (.ref a), some (.ref L)] ∧ Same H H' ∧ H' L = some (.lst []), ?_, ?_⟩
    · exact ⟨_, rfl, .inr ⟨CM, dd, fs, .ref CW, .ref CW, _, rfl, rfl, st0.1 _ _ hfs, k.C, rfl, fun _ r => r, k.k0, _, rfl, if_neg_of Bool.false_ne_true ⟨rfl, st0⟩⟩⟩
    clear st0
    rintro σ H1 ⟨rfl, st0⟩
    refine ⟨fun σ H' => σ = [some (.ref a), some (.ref L)] ∧ Same H H' ∧ H' L = some (.lst []), ?_, ?_⟩
    · exact ⟨_, rfl, .inr ⟨CM, dd, fs, .ref X_NotFamily, .ref X_NotFamily, _, rfl, rfl, st0.1 _ _ hfs, k.C, rfl, fun _ r => r, k.k1, _, rfl, if_neg_of Bool.false_ne_true ⟨rfl, st0⟩⟩⟩
    clear st0
    rintro σ H2 ⟨rfl, st0⟩
    refine ⟨fun σ H' => σ = [some (.ref a), some (.ref L)] ∧ Same H H' ∧ H' L = some (.lst []), ?_, ?_⟩
    · exact ⟨_, rfl, .inr ⟨CM, dd, fs, .ref X_NotDiagram, .ref X_NotDiagram, _, rfl, rfl, st0.1 _ _ hfs, k.C, rfl, fun _ r => r, k.k2, _, rfl, if_neg_of Bool.false_ne_true ⟨rfl, st0⟩⟩⟩
    clear st0
    rintro σ H3 ⟨rfl, st0⟩
    refine ⟨fun σ H' => σ = [some (.ref a), some (.ref L)] ∧ Same H H' ∧ H' L = some (.lst []), ?_, ?_⟩
    · exact ⟨_, rfl, .inr ⟨CM, dd, fs, .ref CN, .ref CN, _, rfl, rfl, st0.1 _ _ hfs, k.C, rfl, fun _ r => r, k.k3, _, rfl, if_neg_of Bool.false_ne_true ⟨rfl, st0⟩⟩⟩
    clear st0
    rintro σ H4 ⟨rfl, st0⟩
    refine ⟨fun σ H' => σ = [some (.ref a), some (.ref L)] ∧ Same H H' ∧ H' L = some (.lst []), ?_, ?_⟩
    · exact ⟨_, rfl, .inr ⟨CM, dd, fs, .ref X_NotWord, .ref X_NotWord, _, rfl, rfl, st0.1 _ _ hfs, k.C, rfl, fun _ r => r, k.k4, _, rfl, if_neg_of Bool.false_ne_true ⟨rfl, st0⟩⟩⟩
    clear st0
    rintro σ H5 ⟨rfl, st0⟩
    refine ⟨fun σ H' => σ = [some (.ref a), some (.ref L)] ∧ Same H H' ∧ H' L = some (.lst []), ?_, ?_⟩
    · exact ⟨_, rfl, .inr ⟨CM, dd, fs, .ref CP, .ref CP, _, rfl, rfl, st0.1 _ _ hfs, k.C, rfl, fun _ r => r, k.k5, _, rfl, if_neg_of Bool.false_ne_true ⟨rfl, st0⟩⟩⟩
    clear st0
    rintro σ H6 ⟨rfl, st0⟩
    refine ⟨fun σ H' => σ = [some (.ref a), some (.ref L)] ∧ Same H H' ∧ H' L = some (.lst []), ?_, ?_⟩
    · exact ⟨_, rfl, .inr ⟨CM, dd, fs, .ref X_NotMatrix, .ref X_NotMatrix, _, rfl, rfl, st0.1 _ _ hfs, k.C, rfl, fun _ r => r, k.k6, _, rfl, if_neg_of Bool.false_ne_true ⟨rfl, st0⟩⟩⟩
    clear st0
    rintro σ H7 ⟨rfl, st0⟩
    refine ⟨fun σ H' => σ = [some (.ref a), some (.ref L)] ∧ Same H H' ∧ H' L = some (.lst []), ?_, ?_⟩
    · exact ⟨_, rfl, .inr ⟨CM, dd, fs, .ref CB, .ref CB, _, rfl, rfl, st0.1 _ _ hfs, k.C, rfl, fun _ r => r, k.k7, _, rfl, if_neg_of Bool.false_ne_true ⟨rfl, st0⟩⟩⟩
    clear st0
    rintro σ H8 ⟨rfl, st0⟩
    refine ⟨fun σ H' => σ = [some (.ref a), some (.ref L)] ∧ Same H H' ∧ H' L = some (.lst []), ?_, ?_⟩
    · exact ⟨_, rfl, .inr ⟨CM, dd, fs, .ref CA, .ref CA, _, rfl, rfl, st0.1 _ _ hfs, k.C, rfl, fun _ r => r, k.k8, _, rfl, if_neg_of Bool.false_ne_true ⟨rfl, st0⟩⟩⟩
    clear st0
    rintro σ H9 ⟨rfl, st0⟩
    refine ⟨fun σ H' => σ = [some (.ref a), some (.ref L)] ∧ Same H H' ∧ H' L = some (.lst []), ?_, ?_⟩
    · exact ⟨_, rfl, .inr ⟨CM, dd, fs, .ref X_TooLarge, .ref X_TooLarge, _, rfl, rfl, st0.1 _ _ hfs, k.C, rfl, fun _ r => r, k.k9, _, rfl, if_neg_of Bool.false_ne_true ⟨rfl, st0⟩⟩⟩
    clear st0
    rintro σ H10 ⟨rfl, st0⟩
    have h3 : ("at " : Str).length = 3 := by decide +kernel
    have h1 : ("!" : Str).length = 1 := by decide +kernel
    refine ⟨fun σ H' => σ = [some (.ref a), some (.ref L)] ∧ Same H H' ∧ H' L = some (.lst [.str (("at " : Str) ++ txI at')]), ?_, ?_⟩
    · refine ⟨_, rfl, .inr ⟨CM, dd, fs, .ref CM, .ref CM, _, rfl, rfl, st0.1 _ _ hfs, k.C, rfl, fun _ r => r, k.k10, _, rfl, if_pos_of rfl ?_⟩⟩
      refine ⟨_, rfl, .inl ⟨rfl, _, .inl (.inl st0.2)⟩, _, rfl, rfl, rfl, dd, fs, .int at', rfl, st0.1 _ _ hfs, lk, at', rfl, lg, _, _, rfl, rfl, ?_, L, _, _, rfl, rfl, st0.2, (by show 0 < sizeLine; omega), ?_⟩
      · show ("at " : Str).length + (txI at').length ≤ _
        omega
      · exact ⟨rfl, Same.mut st0.1 nL, upd_same⟩
    clear st0
    rintro σ H11 ⟨rfl, st0⟩
    refine ⟨_, rfl, L, _, rfl, .inl (.inl (.inl st0.2)), rfl, _, rfl, if_pos_of rfl ⟨_, rfl, .inr ⟨CM, dd, fs, .ref CE, .ref CE, true, rfl, rfl, st0.1 _ _ hfs, k.C, rfl, fun _ r => r, k.e, _, rfl, if_pos_of rfl ?_⟩⟩⟩
    have l2 : (("at " : Str) ++ txI at').length = 3 + (txI at').length := by rw [Str.length_append, h3]
    exact ⟨_, rfl, L, _, 0, .str (("at " : Str) ++ txI at'), rfl, rfl, .inl (.inl st0.2), rfl, "!", ("at " : Str) ++ txI at', rfl, rfl, (by rw [h1, l2]; omega), q _ st0.1⟩
end

section
variable {P : Program} {w : World} {K : PySem.W.Frag} {mg : Str → Option Value} {base : Heap}
/-! ### _law_told -/
structure ErrE (K : PySem.W.Frag) (mg : Str → Option Value) (CE CW X_NotFamily X_NotDiagram CN X_NotWord CP X_NotMatrix CB CA X_TooLarge CM : Addr) : Prop where
  gE : mg "WorthError" = some (.ref CE)
  ebc : PySem.W.subIn K (.ref CE) (.type "BaseException") = some true
  ehd : PySem.W.hasDictIn K CE = true
  ety : PySem.W.typeIn K (.ref CE) = some (.type "type")
  sW : PySem.W.subIn K (.ref CW) (.ref CE) = some true
  sN : PySem.W.subIn K (.ref CN) (.ref CE) = some true
  sP : PySem.W.subIn K (.ref CP) (.ref CE) = some true
  sB : PySem.W.subIn K (.ref CB) (.ref CE) = some true
  sA : PySem.W.subIn K (.ref CA) (.ref CE) = some true
  sM : PySem.W.subIn K (.ref CM) (.ref CE) = some true
  kW : KindE K CE CW X_NotFamily X_NotDiagram CN X_NotWord CP X_NotMatrix CB CA X_TooLarge CM CW "world"
  kN : KindE K CE CW X_NotFamily X_NotDiagram CN X_NotWord CP X_NotMatrix CB CA X_TooLarge CM CN "value"
  kP : KindE K CE CW X_NotFamily X_NotDiagram CN X_NotWord CP X_NotMatrix CB CA X_TooLarge CM CP "poly"
  kB : KindE K CE CW X_NotFamily X_NotDiagram CN X_NotWord CP X_NotMatrix CB CA X_TooLarge CM CB "number"
  kA : KindE K CE CW X_NotFamily X_NotDiagram CN X_NotWord CP X_NotMatrix CB CA X_TooLarge CM CA "answer"
  kM : KindM K CE CW X_NotFamily X_NotDiagram CN X_NotWord CP X_NotMatrix CB CA X_TooLarge CM
/-- what is told of each way, where nothing else can come -/
def told08 (way p d a b : Int) (l : List Int) : Option Str :=
  if way = 0 then (if isW p d = false then some "!world" else if isN p a b = false then some "!value" else none)
  else if way = 1 then (if isW p d = false then some "!world" else some "!at 0")
  else if way = 2 then (if isW p d = false then some "!world" else if isP l = false then some "!poly" else none)
  else if way = 3 then (if isP l = false then some "!poly" else none)
  else if way = 4 then (if isP l = false then some "!poly" else if l = [] then some "!answer" else none)
  else if way = 5 then (if isP l = false then some "!poly" else none)
  else if way = 6 then (if isW p d = false then some "!world" else none)
  else if way = 7 then (if isW p d = false then some "!world" else some "!number")
  else none
def spTold08 (K : PySem.W.Frag) : Sp := fun vs H Q _ => ∃ (way : Int) (x y z : Addr) (p d a b : Int) (l : List Int) (t : Str), vs = [.int way, .ref x, .ref y, .ref z] ∧ SqT K H x [.int p, .int d] ∧ SqT K H y [.int a, .int b] ∧ SqT K H z (l.map V.int) ∧ told08 way p d a b l = some t ∧ ∀ H', Same H H' → Q (.str t) H'
theorem rd_x : ∀ p, readOk p "x" = none := fun p => by
  have e : Txt.split ("x" : Str) ("/" : Str) = [("x" : Str)] := by decide +kernel
  unfold readOk
  rw [e, if_neg (by decide), if_pos (by decide +kernel)]
theorem t_world : ("!" : Str) ++ ("world" : Str) = "!world" := by decide +kernel
theorem t_value : ("!" : Str) ++ ("value" : Str) = "!value" := by decide +kernel
theorem t_poly : ("!" : Str) ++ ("poly" : Str) = "!poly" := by decide +kernel
theorem t_number : ("!" : Str) ++ ("number" : Str) = "!number" := by decide +kernel
theorem t_answer : ("!" : Str) ++ ("answer" : Str) = "!answer" := by decide +kernel
theorem t_at0 : ("!" : Str) ++ (("at " : Str) ++ txI 0) = "!at 0" := by decide +kernel
theorem rd_pre : rdPre "x" = true := by decide +kernel
theorem ok_law_told {f CE CW X_NotFamily X_NotDiagram CN X_NotWord CP X_NotMatrix CB CA X_TooLarge CM : Addr} {fd : FuncData} {ur : Tok} (F : Fun K "_law_told" "_law_told" s_law_told f fd) (T : ErrE K mg CE CW X_NotFamily X_NotDiagram CN X_NotWord CP X_NotMatrix CB CA X_TooLarge CM)
    {a_number_text : Addr} {fd_number_text : FuncData} (G_number_text : FnOk P w K mg base (L2N.CX P w) 5 a_number_text fd_number_text ["world", "x"] (spNumText K CW CN)) (g_number_text : mg "number_text" = some (.ref a_number_text)) (k_number_text : PySem.W.keepIn K (.ref a_number_text) = true) (b_number_text : Binds K fd_number_text ["world", "x"] [])
    {a_read_number : Addr} {fd_read_number : FuncData} (G_read_number : FnOk P w K mg base (L2N.CX P w) 7 a_read_number fd_read_number ["world", "text"] (spRead K CW CM)) (g_read_number : mg "read_number" = some (.ref a_read_number)) (k_read_number : PySem.W.keepIn K (.ref a_read_number) = true) (b_read_number : Binds K fd_read_number ["world", "text"] [])
    {a_value : Addr} {fd_value : FuncData} (G_value : FnOk P w K mg base (L2N.CX P w) 4 a_value fd_value ["world", "poly"] (spValue K CW CP)) (g_value : mg "value" = some (.ref a_value)) (k_value : PySem.W.keepIn K (.ref a_value) = true) (b_value : Binds K fd_value ["world", "poly"] [])
    {a_value_at : Addr} {fd_value_at : FuncData} (G_value_at : FnOk P w K mg base (L2N.CX P w) 3 a_value_at fd_value_at ["poly", "x"] (spValueAt K CP)) (g_value_at : mg "value_at" = some (.ref a_value_at)) (k_value_at : PySem.W.keepIn K (.ref a_value_at) = true) (b_value_at : Binds K fd_value_at ["poly", "x"] [])
    {a_by_falling : Addr} {fd_by_falling : FuncData} (G_by_falling : FnOk P w K mg base (L2N.CX P w) 3 a_by_falling fd_by_falling ["poly"] (spByF K CP)) (g_by_falling : mg "by_falling" = some (.ref a_by_falling)) (k_by_falling : PySem.W.keepIn K (.ref a_by_falling) = true) (b_by_falling : Binds K fd_by_falling ["poly"] [])
    {a_loop_worth : Addr} {fd_loop_worth : FuncData} (G_loop_worth : FnOk P w K mg base (L2N.CX P w) 3 a_loop_worth fd_loop_worth ["world"] (spLoopWorth K CW)) (g_loop_worth : mg "loop_worth" = some (.ref a_loop_worth)) (k_loop_worth : PySem.W.keepIn K (.ref a_loop_worth) = true) (b_loop_worth : Binds K fd_loop_worth ["world"] [])
    {a_number : Addr} {fd_number : FuncData} (G_number : FnOk P w K mg base (L2N.CX P w) 3 a_number fd_number ["world", "a", "b"] (spNumber K CW CB)) (g_number : mg "number" = some (.ref a_number)) (k_number : PySem.W.keepIn K (.ref a_number) = true) (b_number : Binds K fd_number ["world", "a", "b"] [])
    {a_law_error2 : Addr} {fd_law_error2 : FuncData} (G_law_error2 : FnE P w K mg base  1 a_law_error2 fd_law_error2 ["error"] (spLErr K CE CW X_NotFamily X_NotDiagram CN X_NotWord CP X_NotMatrix CB CA X_TooLarge CM)) (g_law_error2 : mg "_law_error2" = some (.ref a_law_error2)) (k_law_error2 : PySem.W.keepIn K (.ref a_law_error2) = true) (b_law_error2 : Binds K fd_law_error2 ["error"] [])
    {a_roots : Addr} {fd_roots : FuncData} (G_roots : FnOk P w K mg base (L2N.CX P w) 3 a_roots fd_roots ["poly", "most"] (spRoots K CP CB CA)) (g_roots : mg "roots" = some (.ref a_roots)) (k_roots : PySem.W.keepIn K (.ref a_roots) = true) (b_roots1 : Binds K fd_roots ["poly", "most"] [.int 1000 ur]) :
    FnOk P w K mg base CX0 9 f fd ["way", "world", "x", "poly"] (spTold08 K) := by
  have gc_WorthError := T.gE
  have eW := PySem.W.exm_ref T.ebc T.ehd T.ety T.sW
  have eN := PySem.W.exm_ref T.ebc T.ehd T.ety T.sN
  have eP := PySem.W.exm_ref T.ebc T.ehd T.ety T.sP
  have eB := PySem.W.exm_ref T.ebc T.ehd T.ety T.sB
  have eA := PySem.W.exm_ref T.ebc T.ehd T.ety T.sA
  have eM := PySem.W.exm_ref T.ebc T.ehd T.ety T.sM
  refine F.ok sc_law_told (fun vs H Q E h => ?_) (fun cdv A outer s H vs Q E hr1 h => ?_)
  · obtain ⟨way, x, y, z, p, d, a, b, l, t, rfl, _⟩ := h
    rfl
  · obtain ⟨way, x, y, z, p, d, a, b, l, t, rfl, hx, hy, hz', ht, q⟩ := h
    refine ⟨_, (pss_one (L2N.ps_try_as (i := 4) (Wout := fun _ _ _ _ => False) rfl rfl sc_law_told.nd rfl rfl ⟨rfl, by decide, .inl gc_WorthError⟩ takes0N (fun W pn xe tk _ => by exact (pss_cons (ps_if (pt_cmpR op_eq (pv 0) pe_int (nomark _)) (pss_one (ps_ret (pe_callS G_number_text (hr1.mono (by decide)) rfl g_number_text k_number_text b_number_text (fun σ => L2N.passAt tk σ) (pa_cons (pv 1) (pa_cons (pv 2) pa_nil))))) pss_nil)
  (pss_cons (ps_if (pt_cmpR op_eq (pv 0) pe_int (nomark _)) (pss_one (ps_ret (pe_callS G_read_number (hr1.mono (by decide)) rfl g_read_number k_read_number b_read_number (fun σ => L2N.passAt tk σ) (pa_cons (pv 1) (pa_cons pe_str pa_nil))))) pss_nil)
  (pss_cons (ps_if (pt_cmpR op_eq (pv 0) pe_int (nomark _)) (pss_one (ps_ret (pe_callS G_value (hr1.mono (by decide)) rfl g_value k_value b_value (fun σ => L2N.passAt tk σ) (pa_cons (pv 1) (pa_cons (pv 3) pa_nil))))) pss_nil)
  (pss_cons (ps_if (pt_cmpR op_eq (pv 0) pe_int (nomark _)) (pss_one (ps_ret (pe_callS G_value_at (hr1.mono (by decide)) rfl g_value_at k_value_at b_value_at (fun σ => L2N.passAt tk σ) (pa_cons (pv 3) (pa_cons pe_int pa_nil))))) pss_nil)
  (pss_cons (ps_if (pt_cmpR op_eq (pv 0) pe_int (nomark _)) (pss_one (ps_ret (pe_callSD G_roots (hr1.mono (by decide)) rfl g_roots k_roots b_roots1 (show Vals [V.int 1000] [Value.int 1000 ur] from .cons ⟨ur, rfl⟩ .nil) (fun σ => L2N.passAt tk σ) (pa_cons (pv 3) pa_nil)))) pss_nil)
  (pss_cons (ps_if (pt_cmpR op_eq (pv 0) pe_int (nomark _)) (pss_one (ps_ret (pe_callS G_by_falling (hr1.mono (by decide)) rfl g_by_falling k_by_falling b_by_falling (fun σ => L2N.passAt tk σ) (pa_cons (pv 3) pa_nil)))) pss_nil)
  (pss_cons (ps_if (pt_cmpR op_eq (pv 0) pe_int (nomark _)) (pss_one (ps_ret (pe_callS G_loop_worth (hr1.mono (by decide)) rfl g_loop_worth k_loop_worth b_loop_worth (fun σ => L2N.passAt tk σ) (pa_cons (pv 1) pa_nil)))) pss_nil)
  (pss_one (ps_ret (pe_callS G_number (hr1.mono (by decide)) rfl g_number k_number b_number (fun σ => L2N.passAt tk σ) (pa_cons (pv 1) (pa_cons pe_int (pa_cons pe_int pa_nil)))))))))))))) (fun ax oe cls dx pn hz hf => by exact (pss_one (ps_ret (pe_callX1 G_law_error2 (hr1.mono (by decide)) hz hf rfl g_law_error2 k_law_error2 b_law_error2 (pa_cons (pv 4) pa_nil))))))), ?_⟩
    unfold told08 at ht
    by_cases w0 : way = 0
    · subst w0
      rw [if_pos rfl] at ht
      refine ⟨_, rfl, rfl, _, rfl, iteT ⟨_, rfl, _, rfl, x, y, p, d, a, b, rfl, hx, hy, fun e => ?_, fun e1 e2 => ?_, fun e1 e2 => ?_⟩⟩
      · rw [if_pos e] at ht
        obtain rfl := Option.some.inj ht
        exact ⟨true, eW, fun _ ax _ => ⟨_, rfl, rfl, .inl ⟨_, _, rfl, rfl, T.kW, fun H2 s2 => by rw [t_world]; exact q H2 s2⟩⟩, fun z => nomatch z⟩
      · rw [if_neg (by rw [e1]; decide), if_pos e2] at ht
        obtain rfl := Option.some.inj ht
        exact ⟨true, eN, fun _ ax _ => ⟨_, rfl, rfl, .inl ⟨_, _, rfl, rfl, T.kN, fun H2 s2 => by rw [t_value]; exact q H2 s2⟩⟩, fun z => nomatch z⟩
      · rw [if_neg (by rw [e1]; decide), if_neg (by rw [e2]; decide)] at ht
        exact nomatch ht
    rw [if_neg w0] at ht
    by_cases w1 : way = 1
    · subst w1
      rw [if_pos rfl] at ht
      refine ⟨_, rfl, rfl, _, rfl, iteF ⟨_, rfl, rfl, _, rfl, iteT ⟨_, rfl, x, p, d, "x", rfl, hx, by decide +kernel, rd_pre, fun e => ?_, fun e1 _ dd H' s' nd hd => ?_, fun _ a b er => nomatch (rd_x p).symm.trans er⟩⟩⟩
      · rw [if_pos e] at ht
        obtain rfl := Option.some.inj ht
        exact ⟨true, eW, fun _ ax _ => ⟨_, rfl, rfl, .inl ⟨_, _, rfl, rfl, T.kW, fun H2 s2 => by rw [t_world]; exact q H2 s2⟩⟩, fun z => nomatch z⟩
      · rw [if_neg (by rw [e1]; decide)] at ht
        obtain rfl := Option.some.inj ht
        exact ⟨true, eM, fun _ ax _ => ⟨_, rfl, rfl, .inr ⟨dd, _, 0, rfl, rfl, hd, rfl, by decide, by decide +kernel, T.kM, fun H2 s2 => by rw [t_at0]; exact q H2 (Same.trans s' s2)⟩⟩, fun z => nomatch z⟩
    rw [if_neg w1] at ht
    by_cases w2 : way = 2
    · subst w2
      rw [if_pos rfl] at ht
      refine ⟨_, rfl, rfl, _, rfl, iteF ⟨_, rfl, rfl, _, rfl, iteF ⟨_, rfl, rfl, _, rfl, iteT ⟨_, rfl, _, rfl, x, z, p, d, l, rfl, hx, hz', fun e => ?_, fun e1 e2 => ?_, fun e1 e2 => ?_⟩⟩⟩⟩
      · rw [if_pos e] at ht
        obtain rfl := Option.some.inj ht
        exact ⟨true, eW, fun _ ax _ => ⟨_, rfl, rfl, .inl ⟨_, _, rfl, rfl, T.kW, fun H2 s2 => by rw [t_world]; exact q H2 s2⟩⟩, fun z => nomatch z⟩
      · rw [if_neg (by rw [e1]; decide), if_pos e2] at ht
        obtain rfl := Option.some.inj ht
        exact ⟨true, eP, fun _ ax _ => ⟨_, rfl, rfl, .inl ⟨_, _, rfl, rfl, T.kP, fun H2 s2 => by rw [t_poly]; exact q H2 s2⟩⟩, fun z => nomatch z⟩
      · rw [if_neg (by rw [e1]; decide), if_neg (by rw [e2]; decide)] at ht
        exact nomatch ht
    rw [if_neg w2] at ht
    by_cases w3 : way = 3
    · subst w3
      rw [if_pos rfl] at ht
      refine ⟨_, rfl, rfl, _, rfl, iteF ⟨_, rfl, rfl, _, rfl, iteF ⟨_, rfl, rfl, _, rfl, iteF ⟨_, rfl, rfl, _, rfl, iteT ⟨_, rfl, z, 3, l, rfl, hz', fun e => ?_, fun e => ?_⟩⟩⟩⟩⟩
      · rw [if_pos e] at ht
        obtain rfl := Option.some.inj ht
        exact ⟨true, eP, fun _ ax _ => ⟨_, rfl, rfl, .inl ⟨_, _, rfl, rfl, T.kP, fun H2 s2 => by rw [t_poly]; exact q H2 s2⟩⟩, fun z => nomatch z⟩
      · rw [if_neg (by rw [e]; decide)] at ht
        exact nomatch ht
    rw [if_neg w3] at ht
    by_cases w4 : way = 4
    · subst w4
      rw [if_pos rfl] at ht
      refine ⟨_, rfl, rfl, _, rfl, iteF ⟨_, rfl, rfl, _, rfl, iteF ⟨_, rfl, rfl, _, rfl, iteF ⟨_, rfl, rfl, _, rfl, iteF ⟨_, rfl, rfl, _, rfl, iteT ⟨_, rfl, z, 1000, l, rfl, hz', fun e => ?_, fun e => ⟨fun el => ?_, fun el => ?_⟩⟩⟩⟩⟩⟩⟩
      · rw [if_pos e] at ht
        obtain rfl := Option.some.inj ht
        exact ⟨true, eP, fun _ ax _ => ⟨_, rfl, rfl, .inl ⟨_, _, rfl, rfl, T.kP, fun H2 s2 => by rw [t_poly]; exact q H2 s2⟩⟩, fun z => nomatch z⟩
      · rw [if_neg (by rw [e]; decide), if_pos el] at ht
        obtain rfl := Option.some.inj ht
        exact ⟨true, eA, fun _ ax _ => ⟨_, rfl, rfl, .inl ⟨_, _, rfl, rfl, T.kA, fun H2 s2 => by rw [t_answer]; exact q H2 s2⟩⟩, fun z => nomatch z⟩
      · rw [if_neg (by rw [e]; decide), if_neg el] at ht
        exact nomatch ht
    rw [if_neg w4] at ht
    by_cases w5 : way = 5
    · subst w5
      rw [if_pos rfl] at ht
      refine ⟨_, rfl, rfl, _, rfl, iteF ⟨_, rfl, rfl, _, rfl, iteF ⟨_, rfl, rfl, _, rfl, iteF ⟨_, rfl, rfl, _, rfl, iteF ⟨_, rfl, rfl, _, rfl, iteF ⟨_, rfl, rfl, _, rfl, iteT ⟨_, rfl, z, l, rfl, hz', fun e => ?_, fun e => ?_⟩⟩⟩⟩⟩⟩⟩
      · rw [if_pos e] at ht
        obtain rfl := Option.some.inj ht
        exact ⟨true, eP, fun _ ax _ => ⟨_, rfl, rfl, .inl ⟨_, _, rfl, rfl, T.kP, fun H2 s2 => by rw [t_poly]; exact q H2 s2⟩⟩, fun z => nomatch z⟩
      · rw [if_neg (by rw [e]; decide)] at ht
        exact nomatch ht
    rw [if_neg w5] at ht
    by_cases w6 : way = 6
    · subst w6
      rw [if_pos rfl] at ht
      refine ⟨_, rfl, rfl, _, rfl, iteF ⟨_, rfl, rfl, _, rfl, iteF ⟨_, rfl, rfl, _, rfl, iteF ⟨_, rfl, rfl, _, rfl, iteF ⟨_, rfl, rfl, _, rfl, iteF ⟨_, rfl, rfl, _, rfl, iteF ⟨_, rfl, rfl, _, rfl, iteT ⟨_, rfl, x, p, d, rfl, hx, fun e => ?_, fun e => ?_⟩⟩⟩⟩⟩⟩⟩⟩
      · rw [if_pos e] at ht
        obtain rfl := Option.some.inj ht
        exact ⟨true, eW, fun _ ax _ => ⟨_, rfl, rfl, .inl ⟨_, _, rfl, rfl, T.kW, fun H2 s2 => by rw [t_world]; exact q H2 s2⟩⟩, fun z => nomatch z⟩
      · rw [if_neg (by rw [e]; decide)] at ht
        exact nomatch ht
    rw [if_neg w6] at ht
    by_cases w7 : way = 7
    · subst w7
      rw [if_pos rfl] at ht
      refine ⟨_, rfl, rfl, _, rfl, iteF ⟨_, rfl, rfl, _, rfl, iteF ⟨_, rfl, rfl, _, rfl, iteF ⟨_, rfl, rfl, _, rfl, iteF ⟨_, rfl, rfl, _, rfl, iteF ⟨_, rfl, rfl, _, rfl, iteF ⟨_, rfl, rfl, _, rfl, iteF ⟨_, rfl, x, p, d, 1, 0, rfl, hx, by decide, fun e => ?_, fun e _ => ?_, fun e nb => ?_⟩⟩⟩⟩⟩⟩⟩⟩
      · rw [if_pos e] at ht
        obtain rfl := Option.some.inj ht
        exact ⟨true, eW, fun _ ax _ => ⟨_, rfl, rfl, .inl ⟨_, _, rfl, rfl, T.kW, fun H2 s2 => by rw [t_world]; exact q H2 s2⟩⟩, fun z => nomatch z⟩
      · rw [if_neg (by rw [e]; decide)] at ht
        obtain rfl := Option.some.inj ht
        exact ⟨true, eB, fun _ ax _ => ⟨_, rfl, rfl, .inl ⟨_, _, rfl, rfl, T.kB, fun H2 s2 => by rw [t_number]; exact q H2 s2⟩⟩, fun z => nomatch z⟩
      · exact absurd (.inl rfl) nb
    rw [if_neg w7] at ht
    exact nomatch ht
end

theorem isP_fac {s : Int} {n : Nat} (h : n ≤ 40) : isP (facL s n) = true := by
  unfold isP
  rw [facL_len, if_neg (by omega), if_neg (by omega), Nat.add_sub_cancel, facL_top]
  rfl
def prL (c : Int) : Nat → Int
  | 0 => 1
  | n + 1 => prL c n * (c + (n : Int))
theorem ev_rise (c : Int) : ∀ n, ev c (facL 1 n) = prL c n
  | 0 => by
    show ev c [1] = 1
    simp [ev]
  | n + 1 => by
    have e : ev c (facL 1 (n + 1)) = 0 + (1 * (n : Int) + c) * ev c (facL 1 n) := linL_ev ..
    rw [e, ev_rise c n]
    show _ = prL c n * (c + (n : Int))
    rw [Int.zero_add, Int.one_mul, Int.mul_comm, Int.add_comm (n : Int) c]
theorem ev_fall {c : Int} (h0 : 0 ≤ c) : ∀ n : Nat, c < n → ev c (facL (-1) n) = 0
  | 0, h => absurd h (by omega)
  | n + 1, h => by
    have e : ev c (facL (-1) (n + 1)) = 0 + (-1 * (n : Int) + c) * ev c (facL (-1) n) := linL_ev ..
    rw [e, Int.zero_add]
    by_cases k : c = n
    · rw [show -1 * (n : Int) + c = 0 by omega, Int.zero_mul]
    · rw [ev_fall h0 n (by omega), Int.mul_zero]
theorem dT_sq {K : PySem.W.Frag} {H : Hp} {t : Addr} {z : List Int} (h : SqT K H t (z.map V.int)) : Dp K H (.ref t) (dT z) := .tup h (ints_dp z)
section
variable {P : Program} {w : World} {K : PySem.W.Frag} {mg : Str → Option Value} {base : Heap}
/-! ### _law_is_counted -/
def spCounted : Sp := fun vs H Q _ => ∃ c : Int, vs = [.int c] ∧ 0 ≤ c ∧ c < 40 ∧ ∀ H', Same H H' → Q (.bl true) H'
theorem ok_law_is_counted {f CB CP : Addr} {fd : FuncData} (F : Fun K "_law_is_counted" "_law_is_counted" s_law_is_counted f fd) (z_len : mg "len" = none) (z_range : mg "range" = none)
    {a_falling : Addr} {fd_falling : FuncData} (G_falling : FnOk P w K mg base (L2N.CX P w) 4 a_falling fd_falling ["count"] (spFac CB (-1))) (g_falling : mg "falling" = some (.ref a_falling)) (k_falling : PySem.W.keepIn K (.ref a_falling) = true) (b_falling : Binds K fd_falling ["count"] [])
    {a_rising : Addr} {fd_rising : FuncData} (G_rising : FnOk P w K mg base (L2N.CX P w) 4 a_rising fd_rising ["count"] (spFac CB (1))) (g_rising : mg "rising" = some (.ref a_rising)) (k_rising : PySem.W.keepIn K (.ref a_rising) = true) (b_rising : Binds K fd_rising ["count"] [])
    {a_power_of_d : Addr} {fd_power_of_d : FuncData} (G_power_of_d : FnOk P w K mg base (L2N.CX P w) 4 a_power_of_d fd_power_of_d ["count"] (spPow CB K)) (g_power_of_d : mg "power_of_d" = some (.ref a_power_of_d)) (k_power_of_d : PySem.W.keepIn K (.ref a_power_of_d) = true) (b_power_of_d : Binds K fd_power_of_d ["count"] [])
    {a_value_at : Addr} {fd_value_at : FuncData} (G_value_at : FnOk P w K mg base (L2N.CX P w) 3 a_value_at fd_value_at ["poly", "x"] (spValueAt K CP)) (g_value_at : mg "value_at" = some (.ref a_value_at)) (k_value_at : PySem.W.keepIn K (.ref a_value_at) = true) (b_value_at : Binds K fd_value_at ["poly", "x"] []) : FnOk P w K mg base CX0 5 f fd ["count"] spCounted := by
  refine F.ok sc_law_is_counted (fun vs H Q E h => ?_) (fun cdv A outer s H vs Q E hr h => ?_)
  · obtain ⟨c, rfl, _⟩ := h
    rfl
  · obtain ⟨c, rfl, h0, h40, q⟩ := h
    refine ⟨_, (pss_cons (ps_if (L2.PW.pt (pw_or (pt_cmpR op_ne (pe_callB call_len_seq (by rfl) z_len boot_len (pa_cons (pe_call G_falling (hr.mono (by decide)) rfl g_falling k_falling b_falling .nil passLN (pa_cons pe_int pa_nil)) pa_nil)) pe_int (nomark _)) (pw_or (pt_cmpR op_ne (pe_callB call_len_seq (by rfl) z_len boot_len (pa_cons (pe_call G_rising (hr.mono (by decide)) rfl g_rising k_rising b_rising .nil passLN (pa_cons pe_int pa_nil)) pa_nil)) pe_int (nomark _)) (pw_or1 (pt_cmpR (op_neD (room64 hr)) (pe_call G_power_of_d (hr.mono (by decide)) rfl g_power_of_d k_power_of_d b_power_of_d .nil passLN (pa_cons pe_int pa_nil)) (pe_op op_catB (pe_op op_repB (pe_tup (pa_cons pe_int pa_nil)) pe_int) (pe_tup (pa_cons pe_int pa_nil))) (nomark _)))))) (pss_one (ps_ret pe_bl)) pss_nil)
  (pss_cons (ps_set (i := 1) sc_law_is_counted.nd rfl (.inl rfl) pe_int)
  (pss_cons (ps_for PassesOwn.never rfl (pi_range1 rfl z_range (pa_cons pe_int pa_nil)) (pg_name (i := 2) sc_law_is_counted.nd rfl (.inl rfl)) (pss_one (ps_set (i := 1) sc_law_is_counted.nd rfl (.inl rfl) (pe_op op_mul (pv 1) (pe_op op_add (pv 0) (pv 2))))))
  (pss_one (ps_ret (pe_and (pe_cmpR op_eq (pe_call G_value_at (hr.mono (by decide)) rfl g_value_at k_value_at b_value_at .nil passLN (pa_cons (pe_call G_rising (hr.mono (by decide)) rfl g_rising k_rising b_rising .nil passLN (pa_cons pe_int pa_nil)) (pa_cons (pv 0) pa_nil))) (pv 1) (nomark _)) (pe_one (pe_cmpR op_eq (pe_call G_value_at (hr.mono (by decide)) rfl g_value_at k_value_at b_value_at .nil passLN (pa_cons (pe_call G_falling (hr.mono (by decide)) rfl g_falling k_falling b_falling .nil passLN (pa_cons pe_int pa_nil)) (pa_cons (pv 0) pa_nil))) pe_int (nomark _))))))))), ?_⟩
    have szl : 20000 ≤ sizeLine := by decide
    refine ⟨40, rfl, fun z => absurd ⟨by decide, by decide⟩ z, fun _ _ t1 H1 s1 ht1 => ⟨t1, _, rfl, .inr (.inl (.inl ht1)), ?_⟩⟩
    rw [List.length_map, facL_len]
    refine ⟨rfl, _, rfl, if_neg_of (by decide) ?_⟩
    refine ⟨40, rfl, fun z => absurd ⟨by decide, by decide⟩ z, fun _ _ t2 H2 s2 ht2 => ⟨t2, _, rfl, .inr (.inl (.inl ht2)), ?_⟩⟩
    rw [List.length_map, facL_len]
    refine ⟨rfl, _, rfl, if_neg_of (by decide) ?_⟩
    refine ⟨40, rfl, fun z => absurd ⟨by decide, by decide⟩ z, fun _ _ t3 H3 s3 ht3 => ?_⟩
    refine ⟨(by show 1 ≤ sizeLine; decide), fun t4 nt4 => ?_⟩
    refine ⟨t4, 40, [.int 0], rfl, rfl, .inl (.inl upd_same), List.cons_ne_nil _ _, by decide, by decide, by decide, fun t5 H5 s5 ht5 => ?_⟩
    refine ⟨(by show 1 ≤ sizeLine; decide), fun t6 nt6 => ?_⟩
    refine ⟨t5, t6, _, [.int 1], rfl, rfl, sqT_same (same_upd nt6) ht5, .inl (.inl upd_same), by decide, fun t7 H7 s7 ht7 => ?_⟩
    have s37 : Same H3 H7 := Same.trans (same_upd nt4) (Same.trans s5 (Same.trans (same_upd nt6) s7))
    refine ⟨dT (powL 40), dT (powL 40), dT_sq (sqT_same s37 ht3), dT_sq ht7, dT_shaped _, dT_shaped _, ?_⟩
    rw [eqv_dT, decide_eq_true rfl]
    refine ⟨_, rfl, if_neg_of Bool.false_ne_true ?_⟩
    have s17 := Same.trans s1 (Same.trans s2 (Same.trans s3 s37))
    refine ⟨40, rfl, by decide, by decide, for_range (lo := 0) (n := 40) (fun j σ H' => ∃ v2, σ = [some (.int c), some (.int (prL c j)), v2] ∧ Same H H') ⟨none, rfl, s17⟩ (fun j σ H' hj hP => ?_) (fun σ H' hP => ?_)⟩
    · obtain ⟨v2, rfl, sm⟩ := hP
      refine ⟨_, rfl, _, rfl, _, rfl, _, _, rfl, rfl, _, _, rfl, rfl, .inr ⟨by omega, by omega⟩, ?_⟩
      exact ⟨some (.int (0 + (j : Int))), by rw [Int.zero_add]; rfl, sm⟩
    · obtain ⟨v2, rfl, sm⟩ := hP
      refine ⟨40, rfl, fun z => absurd ⟨by decide, by decide⟩ z, fun _ _ t8 H8 s8 ht8 => ?_⟩
      have no : ∀ s, isP (facL s 40) = false → False := fun s z => nomatch (isP_fac (s := s) (Nat.le_refl 40)).symm.trans z
      refine ⟨_, rfl, t8, c, facL 1 40, rfl, .inl (.inl ht8), fun z => (no _ z).elim, fun _ => ⟨by omega, fun H9 s9 => ?_⟩⟩
      rw [ev_rise]
      refine ⟨_, rfl, rfl, _, rfl, if_pos_of (decide_eq_true rfl) ?_⟩
      refine ⟨40, rfl, fun z => absurd ⟨by decide, by decide⟩ z, fun _ _ t9 H10 s10 ht9 => ?_⟩
      refine ⟨_, rfl, t9, c, facL (-1) 40, rfl, .inl (.inl ht9), fun z => (no _ z).elim, fun _ => ⟨by omega, fun H11 s11 => ?_⟩⟩
      rw [ev_fall h0 40 (by omega)]
      exact ⟨rfl, q H11 (Same.trans sm (Same.trans s8 (Same.trans s9 (Same.trans s10 s11))))⟩
end

def leB (p q : List Int) : Bool := decide (p ≤ q)

theorem paired_ix {α β : Type} {F : α → β → Prop} : ∀ {l : List α} {m : List β} {i : Nat} {x : α}, Paired F l m → l[i]? = some x → ∃ y, m[i]? = some y ∧ F x y
  | _, _, 0, _, .cons h _, e => by
    obtain rfl := Option.some.inj e
    exact ⟨_, rfl, h⟩
  | _, _, i + 1, _, .cons _ t, e => paired_ix (i := i) t e

section
variable {P : Program} {w : World} {K : PySem.W.Frag} {mg : Str → Option Value} {base : Heap}
/-! ### sorted(tuples of ints), _shifted, _with_blocks -/
theorem le_dT : PySem.W.dataLe false dT = leB := by
  funext p q
  show (!PySem.W.dataLt (.tuple (q.map .int)) (.tuple (p.map .int))) = decide (p ≤ q)
  rw [PySem.W.dataLt_tuple]
  show (!PySem.W.rowLt (q.map .int) (p.map .int)) = _
  rw [PySem.W.dataLt_ints]
  by_cases h : q < p
  · have h' : ¬ p ≤ q := fun r => List.not_lt.mpr r h
    simp [h, h']
  · have h' : p ≤ q := List.not_lt.mp h
    simp [h, h']
theorem alike_dT (bs : List (List Int)) : PySem.W.AllAlike (bs.map dT) := PySem.W.AllAlike.of fun b b' => by
  show PySem.W.alike (.tuple (b.map .int)) (.tuple (b'.map .int)) = true
  rw [PySem.W.alike]
  exact PySem.W.alike_ints b b'
theorem sortable_dT {bs : List (List Int)} (h : ∀ b ∈ bs, b ≠ []) : PySem.W.Sortable (bs.map dT) := .inl fun d hd => by
  obtain ⟨b, hb, rfl⟩ := List.mem_map.mp hd
  cases b with
  | nil => exact absurd rfl (h _ hb)
  | cons x r => exact ⟨_, _, rfl⟩
theorem depth_dT (b : List Int) : (dT b).depth ≤ 60 := by
  obtain ⟨_, h2⟩ := lay_ints b
  unfold dT
  rw [show PyData.depth (.tuple (b.map PyData.int)) = 1 by simp [PyData.depth, h2]]
  decide
theorem sortG_TP {H : Hp} {a : Addr} {xs : List V} {bs : List (List Int)} {Q : VK} (hs : SqL K H a xs) (pr : Paired (TP H) xs bs) (ne : ∀ b ∈ bs, b ≠ [])
    (q : ∀ ys p, Paired (TP H) ys (bs.mergeSort leB) → H p = none → Q (.ref p) (upd H p (.lst ys))) : rSortG K [.ref a] H Q := by
  refine ⟨List Int, dT, TP H, a, xs, bs, rfl, hs, fun x hx => ?_, pr, ?_, alike_dT bs, sortable_dT ne, fun b _ => depth_dT b, fun ys p h np => q ys p (by rw [← le_dT]; exact h) np⟩
  · obtain ⟨i, hi, e⟩ := List.mem_iff_getElem.mp hx
    obtain ⟨_, _, t, rfl, _⟩ := paired_ix pr (show xs[i]? = some x by rw [List.getElem?_eq_getElem hi, e])
    exact ⟨t, rfl⟩
  · exact Paired.mapP pr fun _ _ h => h.dp
end

def plR (s f : Int) : List Int := [0 - s * f * f, f - s * f, 1]
theorem ev_plR (s f x : Int) : ev x (plR s f) = (x - s * f) * (x + f) := by
  unfold plR
  simp only [ev]
  grind
theorem rtD_none {s f x : Int} (h : ev x (plR s f) ≠ 0) : rtD (plR s f) x = [] := by
  have e : rcn x (plR s f).length (plR s f) = 0 := by
    show (if ev x (plR s f) = 0 then _ else 0) = 0
    rw [if_neg h]
  unfold rtD
  rw [e]
  rfl
theorem rootsD_app (l : List Int) (lo : Int) (a : Nat) : ∀ b, rootsD l lo (a + b) = rootsD l lo a ++ rootsD l (lo + a) b
  | 0 => (List.append_nil _).symm
  | b + 1 => by
    show rootsD l lo (a + b) ++ rtD l (lo + ((a + b : Nat) : Int)) = rootsD l lo a ++ (rootsD l (lo + a) b ++ rtD l (lo + a + (b : Int)))
    rw [rootsD_app l lo a b, List.append_assoc, show lo + ((a + b : Nat) : Int) = lo + a + (b : Int) by omega]
theorem rootsD_gap {s f : Int} (lo : Int) : ∀ n : Nat, (∀ x, lo ≤ x → x < lo + n → x ≠ s * f ∧ x ≠ -f) → rootsD (plR s f) lo n = []
  | 0, _ => rfl
  | n + 1, h => by
    show rootsD (plR s f) lo n ++ rtD (plR s f) (lo + (n : Int)) = []
    rw [rootsD_gap lo n fun x h1 h2 => h x h1 (by omega), rtD_none]
    · rfl
    · rw [ev_plR]
      intro z
      obtain ⟨h1, h2⟩ := h (lo + (n : Int)) (by omega) (by omega)
      rcases Int.mul_eq_zero.mp z with z | z
      · exact h1 (by omega)
      · exact h2 (by omega)
theorem rc_fin : ∀ k : Nat, k < 6 → rcn (-(995 + (k : Int))) 3 (plR 1 (995 + k)) = 1 ∧ rcn (995 + (k : Int)) 3 (plR 1 (995 + k)) = 1 ∧ rcn (-(995 + (k : Int))) 3 (plR (-1) (995 + k)) = 2 := by decide +kernel
theorem rootsD_one {s f : Int} {x : Int} {m : Nat} (h : rcn x 3 (plR s f) = m) (hm : 0 < m) : rootsD (plR s f) x 1 = [dT [x, (m : Int)]] := by
  show [] ++ rtD (plR s f) (x + ((0 : Nat) : Int)) = _
  unfold rtD
  rw [show x + ((0 : Nat) : Int) = x by omega, show (plR s f).length = 3 from rfl, h, if_pos hm]
  rfl
theorem roots_1 {f : Int} (h1 : 995 ≤ f) (h2 : f ≤ 1000) : rootsD (plR 1 f) (-1000) 2001 = [[-f, 1], [f, 1]].map dT := by
  obtain ⟨k, hk, rfl⟩ : ∃ k : Nat, k < 6 ∧ f = 995 + (k : Int) := ⟨(f - 995).toNat, by omega, by omega⟩
  obtain ⟨r1, r2, _⟩ := rc_fin k hk
  have e1 := rootsD_app (plR 1 (995 + k)) (-1000) (5 - k) (1 + (1989 + 2 * k + (1 + (5 - k))))
  rw [show 5 - k + (1 + (1989 + 2 * k + (1 + (5 - k)))) = 2001 by omega] at e1
  rw [e1, rootsD_gap (-1000) (5 - k) fun x a b => ⟨by omega, by omega⟩, rootsD_app _ _ 1 (1989 + 2 * k + (1 + (5 - k))), rootsD_app _ _ (1989 + 2 * k) (1 + (5 - k)), rootsD_app _ _ 1 (5 - k)]
  rw [show (-1000 : Int) + ((5 - k : Nat) : Int) = -(995 + (k : Int)) by omega, rootsD_one r1 (by decide), rootsD_gap _ (1989 + 2 * k) fun x a b => ⟨by omega, by omega⟩,
    show -(995 + (k : Int)) + ((1 : Nat) : Int) + ((1989 + 2 * k : Nat) : Int) = 995 + (k : Int) by omega, rootsD_one r2 (by decide), rootsD_gap _ (5 - k) fun x a b => ⟨by omega, by omega⟩]
  rfl
theorem roots_2 {f : Int} (h1 : 995 ≤ f) (h2 : f ≤ 1000) : rootsD (plR (-1) f) (-1000) 2001 = [[-f, 2]].map dT := by
  obtain ⟨k, hk, rfl⟩ : ∃ k : Nat, k < 6 ∧ f = 995 + (k : Int) := ⟨(f - 995).toNat, by omega, by omega⟩
  obtain ⟨_, _, r1⟩ := rc_fin k hk
  have e1 := rootsD_app (plR (-1) (995 + k)) (-1000) (5 - k) (1 + (1995 + k))
  rw [show 5 - k + (1 + (1995 + k)) = 2001 by omega] at e1
  rw [e1, rootsD_gap (-1000) (5 - k) fun x a b => ⟨by omega, by omega⟩, rootsD_app _ _ 1 (1995 + k)]
  rw [show (-1000 : Int) + ((5 - k : Nat) : Int) = -(995 + (k : Int)) by omega, rootsD_one r1 (by decide), rootsD_gap _ (1995 + k) fun x a b => ⟨by omega, by omega⟩]
  rfl
theorem roots_0 {s f : Int} (hs : s = 1 ∨ s = -1) (h1 : 1000 < f) : rootsD (plR s f) (-1000) 2001 = [] := by
  refine rootsD_gap (-1000) 2001 fun x a b => ?_
  rcases hs with rfl | rfl <;> exact ⟨by omega, by omega⟩
theorem sort_2 (f : Int) (h : 995 ≤ f) : [[f, 1], [-f, 1]].mergeSort leB = [[-f, 1], [f, 1]] := by
  have h1 : leB [f, 1] [-f, 1] = false := decide_eq_false fun z => by
    have := List.cons_le_cons_iff.mp z
    omega
  have h2 : leB [-f, 1] [f, 1] = true := decide_eq_true (List.cons_le_cons_iff.mpr (.inl (by omega)))
  simp [List.mergeSort, h1, h2, List.merge, List.MergeSort.Internal.splitInTwo]
theorem small_rows {zs : List (List Int)} (h : ∀ z ∈ zs, ∀ k, (co z k).natAbs < 2 ^ 200) (l : ∀ z ∈ zs, z.length ≤ 2) (n : zs.length ≤ 2) : SmL 2 8000 (.list (zs.map dT)) := by
  have e := smL_list (n := 1) (k := 3849) (ds := zs.map dT) fun D hD => by
    obtain ⟨z, hz, rfl⟩ := List.mem_map.mp hD
    exact (dT_small (h z hz)).more (by have := l z hz; omega)
  rw [List.length_map] at e
  exact e.more (by omega)
theorem co_2 {a b : Int} {f : Int} (h : f ≤ 1006) (h0 : 0 ≤ f) (ha : a.natAbs ≤ f.natAbs) (hb : b.natAbs ≤ 2) (k : Nat) : (co [a, b] k).natAbs < 2 ^ 200 := by
  have big : (1006 : Nat) < 2 ^ 200 := by decide +kernel
  match k with
  | 0 => exact Nat.lt_of_le_of_lt (show a.natAbs ≤ 1006 by omega) big
  | 1 => exact Nat.lt_of_le_of_lt (show b.natAbs ≤ 1006 by omega) big
  | k + 2 => exact Nat.lt_of_le_of_lt (show (0 : Int).natAbs ≤ 1006 by decide) big
theorem isP_plR (s f : Int) : isP (plR s f) = true := by
  unfold isP
  rw [if_neg (by show ¬ ((3 : Nat) : Int) > 200; decide), if_neg (by show ¬ (3 : Nat) = 0; decide)]
  rfl
def dueR (s f : Int) : List (List Int) := if f ≤ 1000 then (if s = 1 then [[-f, 1], [f, 1]] else [[-f, 2]]) else []
theorem roots_due {s f : Int} (hs : s = 1 ∨ s = -1) (h : 995 ≤ f) : rootsD (plR s f) (-1000) 2001 = (dueR s f).map dT := by
  unfold dueR
  by_cases c : f ≤ 1000
  · rw [if_pos c]
    rcases hs with rfl | rfl
    · rw [if_pos rfl, roots_1 h c]
    · rw [if_neg (by decide), roots_2 h c]
  · rw [if_neg c, roots_0 hs (by omega)]
    rfl
theorem sm_due {s f : Int} (h1 : 995 ≤ f) (h2 : f ≤ 1006) : SmL 2 8000 (.list ((dueR s f).map dT)) := by
  unfold dueR
  split
  · split
    · exact small_rows (fun z hz => by
        rcases List.mem_cons.mp hz with rfl | hz
        · exact co_2 h2 (by omega) (by omega) (by decide)
        · obtain rfl := List.mem_singleton.mp hz
          exact co_2 h2 (by omega) (by omega) (by decide)) (fun z hz => by
        rcases List.mem_cons.mp hz with rfl | hz
        · exact Nat.le_refl 2
        · obtain rfl := List.mem_singleton.mp hz
          exact Nat.le_refl 2) (Nat.le_refl 2)
    · exact small_rows (fun z hz => by
        obtain rfl := List.mem_singleton.mp hz
        exact co_2 h2 (by omega) (by omega) (by decide)) (fun z hz => by
        obtain rfl := List.mem_singleton.mp hz
        exact Nat.le_refl 2) (by show 1 ≤ 2; decide)
  · exact small_rows (fun z hz => nomatch hz) (fun z hz => nomatch hz) (by decide)
theorem TP.butL {H H' : Hp} {r : Addr} {ys : List V} {v : V} {x : List Int} (hr : H r = some (.lst ys)) (s : SameBut r H H') (h : TP H v x) : TP H' v x := by
  obtain ⟨t, rfl, e⟩ := h
  exact ⟨t, rfl, s _ _ (ne_of e hr (fun z => nomatch z)) e⟩
theorem paired_endB {α β : Type} {F : α → β → Prop} : ∀ {l : List α} {m : List β} {x : α} {y : β}, Paired F l m → F x y → Paired F (l ++ [x]) (m ++ [y])
  | _, _, _, _, .nil, h => .cons h .nil
  | _, _, _, _, .cons a t, h => .cons a (paired_endB t h)
structure KR (H H' : Hp) (r tp : Addr) (ds : List Int) (s f : Int) : Prop where
  sb : SameBut r H H'
  hr : H' r = some (.lst (ds.map V.int))
  ht : H' tp = some (.tup ((plR s f).map V.int))
theorem KR.same {H H1 H2 : Hp} {r tp : Addr} {ds : List Int} {s f : Int} (e : Same H1 H2) (k : KR H H1 r tp ds s f) : KR H H2 r tp ds s f := ⟨k.sb.trans fun b o _ h => e b o h, e _ _ k.hr, e _ _ k.ht⟩
section
variable {P : Program} {w : World} {K : PySem.W.Frag} {mg : Str → Option Value} {base : Heap}
/-! ### _law_is_root -/
def spRoot : Sp := fun vs H Q _ => ∃ (r : Addr) (ds : List Int), vs = [.ref r] ∧ H r = some (.lst (ds.map V.int)) ∧ ∀ (ds' : List Int) (H' : Hp), SameBut r H H' → H' r = some (.lst (ds'.map V.int)) → Q (.bl true) H'
theorem ok_law_is_root {f CP CB CA : Addr} {fd : FuncData} {ur : Tok} (F : Fun K "_law_is_root" "_law_is_root" s_law_is_root f fd) (z_int : mg "int" = none) (z_sorted : mg "sorted" = none) (z_repr : mg "repr" = none)
    {a_law_next : Addr} {fd_law_next : FuncData} (G_law_next : FnOk P w K mg base CX0 1 a_law_next fd_law_next ["draws"] spNext) (g_law_next : mg "_law_next" = some (.ref a_law_next)) (k_law_next : PySem.W.keepIn K (.ref a_law_next) = true) (b_law_next : Binds K fd_law_next ["draws"] [])
    {a_roots : Addr} {fd_roots : FuncData} (G_roots : FnOk P w K mg base (L2N.CX P w) 3 a_roots fd_roots ["poly", "most"] (spRoots K CP CB CA)) (g_roots : mg "roots" = some (.ref a_roots)) (k_roots : PySem.W.keepIn K (.ref a_roots) = true) (b_roots1 : Binds K fd_roots ["poly", "most"] [.int 1000 ur]) :
    FnG P w K mg base 5 f fd ["draws"] spRoot := by
  refine F.okG sc_law_is_root (fun vs H Q E h => ?_) (fun cdv A outer s H vs Q E hgu hr h => ?_)
  · obtain ⟨r, ds, rfl, _⟩ := h
    rfl
  · obtain ⟨r, ds, rfl, hr0, q⟩ := h
    refine ⟨_, (pss_cons (ps_set (i := 1) sc_law_is_root.nd rfl (.inr rfl) (pe_op op_add pe_int (pe_op op_mod (pe_callTy call_int1 (by rfl) z_int boot_int (pa_cons (pe_call G_law_next (hr.mono (by decide)) rfl g_law_next k_law_next b_law_next .nil pass0 (pa_cons (pv 0) pa_nil)) pa_nil)) pe_int)))
  (pss_cons (ps_set (i := 2) sc_law_is_root.nd rfl (.inl rfl) (pe_op op_sub pe_int (pe_op op_mul pe_int (pe_op op_mod (pe_callTy call_int1 (by rfl) z_int boot_int (pa_cons (pe_call G_law_next (hr.mono (by decide)) rfl g_law_next k_law_next b_law_next .nil pass0 (pa_cons (pv 0) pa_nil)) pa_nil)) pe_int))))
  (Evl.pss_cut (ps_set (i := 3) sc_law_is_root.nd rfl (.inl rfl) (pe_tup (pa_cons (pe_op op_sub pe_int (pe_op op_mul (pe_op op_mul (pv 2) (pv 1)) (pv 1))) (pa_cons (pe_op op_sub (pv 1) (pe_op op_mul (pv 2) (pv 1))) (pa_cons pe_int pa_nil)))))
  (Evl.pss_cut (ps_set (i := 4) sc_law_is_root.nd rfl (.inl rfl) (pe_callB (cr_sortedG (room64 hr)) (by rfl) z_sorted boot_sorted (pa_cons (pe_lc (own := [("root", 5)]) rfl sc_law_is_root.nd (pi_list (pe_lst (pa_cons (pe_op op_mul (pv 2) (pv 1)) (pa_cons (pe_op op_sub pe_int (pv 1)) pa_nil)))) (blkOk_by (N := ["draws", "far", "sign", "poly", "due", "root"]) (sc := defScope s_law_is_root) (by first | decide +kernel | rfl)) (fun _ _ _ _ _ => (pg_name (i := 5) sc_law_is_root.nd rfl (.inl rfl))) (fun _ _ _ _ _ => pts_one (pt_cmpR op_le (pv 1) pe_int (nomark _))) (fun _ _ _ _ _ => (pe_tup (pa_cons (pv 5) (pa_cons pe_int pa_nil))))) pa_nil)))
  (Evl.pss_cut (ps_if (pt_cmpR op_eq (pv 2) (pe_un un_neg pe_int) (nomark _)) (pss_cons (ps_set (i := 4) sc_law_is_root.nd rfl (.inl rfl) (pe_ifExp (pt_cmpR op_le (pv 1) pe_int (nomark _)) (pe_lst (pa_cons (pe_tup (pa_cons (pe_op op_sub pe_int (pv 1)) (pa_cons pe_int pa_nil))) pa_nil)) (pe_lst pa_nil)))
  (pss_one (ps_set (i := 3) sc_law_is_root.nd rfl (.inl rfl) (pe_tup (pa_cons (pe_op op_mul (pv 1) (pv 1)) (pa_cons (pe_op op_mul pe_int (pv 1)) (pa_cons pe_int pa_nil))))))) pss_nil)
  (pss_one (ps_ret (pe_cmpR op_eq (pe_callB (cr_reprD hgu (room65 hr)) (by rfl) z_repr boot_repr (pa_cons (pe_call G_roots (hr.mono (by decide)) rfl g_roots k_roots b_roots1 (show Vals [V.int 1000] [Value.int 1000 ur] from .cons ⟨ur, rfl⟩ .nil) passLN (pa_cons (pv 3) pa_nil)) pa_nil)) (pe_callB (cr_reprD hgu (room65 hr)) (by rfl) z_repr boot_repr (pa_cons (pv 4) pa_nil)) (nomark _))))))))), ?_⟩
    have szl : 20000 ≤ sizeLine := by decide
    refine ⟨_, rfl, r, ds, rfl, hr0, fun n0 ds1 => .inl ⟨n0, rfl, n0, 12, rfl, rfl, (by decide : (0 : Int) < 12), _, _, rfl, rfl, ?_⟩⟩
    dsimp only
    obtain ⟨f, hf1, hf2, ef⟩ : ∃ f : Int, 995 ≤ f ∧ f ≤ 1006 ∧ 995 + n0 % 12 = f := ⟨_, by omega, by omega, rfl⟩
    rw [ef]
    refine ⟨_, rfl, r, ds1, rfl, upd_same, fun n1 ds2 => .inl ⟨n1, rfl, n1, 2, rfl, rfl, (by decide : (0 : Int) < 2), ?_⟩⟩
    refine ⟨_, _, rfl, rfl, .inl ⟨by decide, by decide⟩, _, _, rfl, rfl, ?_⟩
    dsimp only
    obtain ⟨s, hs, es⟩ : ∃ s : Int, (s = 1 ∨ s = -1) ∧ 1 - 2 * (n1 % 2) = s := ⟨_, by omega, rfl⟩
    rw [es]
    have sb2 : SameBut r H (upd (upd H r (.lst (ds1.map V.int))) r (.lst (ds2.map V.int))) := SameBut.upd.trans SameBut.upd
    have hr2 : upd (upd H r (.lst (ds1.map V.int))) r (.lst (ds2.map V.int)) r = some (.lst (ds2.map V.int)) := upd_same
    revert sb2 hr2
    generalize upd (upd H r (.lst (ds1.map V.int))) r (.lst (ds2.map V.int)) = H2
    intro sb2 hr2
    have cm : ∀ x : Int, CMul x f := fun x => .inr ⟨by omega, by omega⟩
    refine ⟨fun σ H' => ∃ tp, σ = [some (.ref r), some (.int f), some (.int s), some (.ref tp), none, none] ∧ KR H H' r tp ds2 s f, ?_, ?_⟩
    · refine ⟨_, rfl, _, rfl, _, _, rfl, rfl, cm _, _, rfl, _, _, rfl, rfl, cm _, _, _, rfl, rfl, _, rfl, _, rfl, _, rfl, _, _, rfl, rfl, cm _, _, _, rfl, rfl, (by show 3 ≤ sizeLine; omega), fun tp ntp => ?_⟩
      exact ⟨tp, rfl, sb2.trans fun b o _ e => same_upd ntp b o e, same_upd ntp _ _ hr2, upd_same⟩
    clear sb2 hr2 hr0
    rintro σ H3 ⟨tp, rfl, kr⟩
    refine ⟨fun σ H' => ∃ (D : Addr) (ys : List V), σ = [some (.ref r), some (.int f), some (.int s), some (.ref tp), some (.ref D), none] ∧ KR H H' r tp ds2 s f ∧ H' D = some (.lst ys) ∧ (s = 1 → Paired (TP H') ys (dueR s f)), ?_, ?_⟩
    · refine ⟨_, rfl, _, rfl, _, _, rfl, rfl, cm _, _, rfl, _, _, rfl, rfl, (by show 2 ≤ sizeLine; omega), fun L nL => ?_⟩
      have w3 := same_upd (o := .lst [.int (s * f), .int (0 - f)]) nL
      have k4 := kr.same w3
      have hL : upd H3 L (.lst [.int (s * f), .int (0 - f)]) L = some (.lst [.int (s * f), .int (0 - f)]) := upd_same
      revert k4 hL
      generalize upd H3 L (.lst [.int (s * f), .int (0 - f)]) = H4
      intro k4 hL
      clear kr w3 nL
      refine ⟨L, rfl, ⟨_, .inl (.inl hL)⟩, fun D nD => ?_⟩
      have LD : L ≠ D := ne_of_none hL nD
      have kD : ∀ {H' : Hp}, SameBut D H4 H' → Same H4 H' := fun sb b o e => sb b o (ne_of_none e nD) e
      refine lc_list (xs := [.int (s * f), .int (0 - f)]) (fun i H' => SameBut D H4 H' ∧ ∃ ys, H' D = some (.lst ys) ∧ ys.length ≤ i ∧ Paired (TP H') ys (if f ≤ 1000 then ([[s * f, 1], [-f, 1]] : List (List Int)).take i else [])) ⟨SameBut.upd, [], upd_same, Nat.le_refl _, by split <;> exact .nil⟩ (fun i H' _ hP => .inl (.inl (hP.1 _ _ LD hL))) (fun i x H5 hx hP => ?_) (fun H5 hP => ?_)
      · obtain ⟨sb, ys, hD, ly, py⟩ := hP
        have hi : i < 2 := (List.getElem?_eq_some_iff.mp hx).1
        obtain ⟨y, rfl, ey⟩ : ∃ y : Int, x = .int y ∧ ([[s * f, 1], [-f, 1]] : List (List Int))[i]? = some [y, 1] := by
          rcases (show i = 0 ∨ i = 1 by omega) with rfl | rfl
          · exact ⟨s * f, (Option.some.inj hx).symm, rfl⟩
          · refine ⟨0 - f, (Option.some.inj hx).symm, ?_⟩
            rw [Int.zero_sub]
            rfl
        refine ⟨rfl, _, rfl, _, _, rfl, rfl, _, rfl, ?_⟩
        by_cases c : f ≤ 1000
        · rw [if_pos c] at py ⊢
          refine if_pos_of (decide_eq_true c) ⟨_, rfl, (by show 2 ≤ sizeLine; omega), fun p np => ?_⟩
          have wp := same_upd (o := .tup [.int y, .int 1]) np
          have hD2 := wp _ _ hD
          refine ⟨_, hD2, by show ys.length < sizeLine; omega, (sb.trans fun b o _ e => wp b o e).trans SameBut.upd, _, upd_same, by rw [List.length_append]; show ys.length + 1 ≤ i + 1; omega, ?_⟩
          rw [List.take_succ, ey]
          exact paired_endB (F := TP _) (Paired.mapP py fun _ _ h => (h.same wp).butL hD2 SameBut.upd) (TP.butL hD2 SameBut.upd ⟨p, rfl, upd_same⟩)
        · rw [if_neg c] at py ⊢
          exact if_neg_of (fun z => c (of_decide_eq_true z)) ⟨sb, ys, hD, by omega, py⟩
      · obtain ⟨sb, ys, hD, ly, py⟩ := hP
        dsimp only [tNil]
        refine sortG_TP (.inl (.inl hD)) py (fun b hb => ?_) fun zs p pz np => ?_
        · split at hb
          · have hb := List.mem_of_mem_take hb
            rcases List.mem_cons.mp hb with rfl | hb
            · exact List.cons_ne_nil _ _
            · obtain rfl := List.mem_singleton.mp hb
              exact List.cons_ne_nil _ _
          · exact nomatch hb
        · have wp := same_upd (o := .lst zs) np
          refine ⟨p, zs, rfl, (k4.same (kD sb)).same wp, upd_same, fun e1 => ?_⟩
          subst e1
          have pz : Paired (TP H5) zs (dueR 1 f) := by
            unfold dueR
            by_cases c : f ≤ 1000
            · rw [if_pos c] at pz ⊢
              rw [if_pos rfl]
              rw [show ([[1 * f, 1], [-f, 1]] : List (List Int)).take [V.int (1 * f), V.int (0 - f)].length = [[f, 1], [-f, 1]] by rw [Int.one_mul]; rfl, sort_2 f hf1] at pz
              exact pz
            · rw [if_neg c] at pz ⊢
              rw [List.mergeSort_nil] at pz
              exact pz
          exact Paired.mapP pz fun _ _ h => h.same wp
    clear kr
    rintro σ H4 ⟨D, ys, rfl, kr, hD, py⟩
    refine ⟨fun σ H' => ∃ (D tp : Addr) (ys : List V), σ = [some (.ref r), some (.int f), some (.int s), some (.ref tp), some (.ref D), none] ∧ KR H H' r tp ds2 s f ∧ H' D = some (.lst ys) ∧ Paired (TP H') ys (dueR s f), ?_, ?_⟩
    · rcases hs with rfl | rfl
      · exact ⟨_, rfl, 1, rfl, rfl, _, rfl, if_neg_of (by decide) ⟨D, tp, ys, rfl, kr, hD, py rfl⟩⟩
      · refine ⟨_, rfl, 1, rfl, rfl, _, rfl, if_pos_of (by decide) ?_⟩
        refine ⟨_, rfl, _, _, rfl, rfl, _, rfl, ?_⟩
        have eP : [V.int (f * f), V.int (2 * f), V.int 1] = (plR (-1) f).map V.int := by
          show _ = [V.int (0 - -1 * f * f), V.int (f - -1 * f), V.int 1]
          rw [show (0 : Int) - -1 * f * f = f * f by grind, show f - -1 * f = 2 * f by omega]
        by_cases c : f ≤ 1000
        · refine if_pos_of (decide_eq_true c) ⟨_, rfl, _, _, rfl, rfl, (by show 2 ≤ sizeLine; omega), fun p np => ⟨(by show 1 ≤ sizeLine; omega), fun L2 nL2 => ?_⟩⟩
          refine ⟨_, rfl, _, rfl, _, _, rfl, rfl, cm _, _, rfl, _, _, rfl, rfl, cm _, (by show 3 ≤ sizeLine; omega), fun tq ntq => ?_⟩
          have w1 := same_upd (o := .tup [.int (0 - f), .int 2]) np
          have w2 := same_upd (o := .lst [.ref p]) nL2
          have w3 := same_upd (o := .tup [.int (f * f), .int (2 * f), .int 1]) ntq
          have k := ((kr.same w1).same w2).same w3
          refine ⟨L2, tq, [.ref p], rfl, ⟨k.sb, k.hr, by rw [← eP]; exact upd_same⟩, w3 _ _ upd_same, ?_⟩
          unfold dueR
          rw [if_pos c, if_neg (by decide)]
          refine .cons ⟨p, rfl, w3 _ _ (w2 _ _ ?_)⟩ .nil
          rw [upd_same]
          show some (HO.tup [V.int (0 - f), V.int 2]) = _
          rw [Int.zero_sub]
          rfl
        · refine if_neg_of (fun z => c (of_decide_eq_true z)) ⟨(by show 0 ≤ sizeLine; omega), fun L2 nL2 => ?_⟩
          refine ⟨_, rfl, _, rfl, _, _, rfl, rfl, cm _, _, rfl, _, _, rfl, rfl, cm _, (by show 3 ≤ sizeLine; omega), fun tq ntq => ?_⟩
          have w2 := same_upd (o := .lst []) nL2
          have w3 := same_upd (o := .tup [.int (f * f), .int (2 * f), .int 1]) ntq
          have k := (kr.same w2).same w3
          refine ⟨L2, tq, [], rfl, ⟨k.sb, k.hr, by rw [← eP]; exact upd_same⟩, w3 _ _ upd_same, ?_⟩
          unfold dueR
          rw [if_neg c]
          exact .nil
    clear kr hD py
    rintro σ H5 ⟨D, tp, ys, rfl, kr, hD, py⟩
    have isP1 := isP_plR s f
    have sm := sm_due (s := s) hf1 hf2
    refine ⟨_, rfl, tp, 1000, plR s f, rfl, .inl (.inl kr.ht), fun z => (nomatch isP1.symm.trans z), fun _ => ⟨fun z => (nomatch z), fun _ => ⟨fun z => absurd ⟨by decide, by decide⟩ z, fun _ _ D2 us H6 s6 _ hD2 pr => ?_⟩⟩⟩
    have pr : Paired (Val1 H6) us ((dueR s f).map dT) := roots_due hs hf1 ▸ pr
    have k6 := kr.same s6
    refine ⟨.ref D2, .list ((dueR s f).map dT), rfl, .lst (.inl (.inl hD2)) (vals1_dp pr), sm.shaped (by decide), sm.sho, sm.wide (by decide), ?_⟩
    refine ⟨_, rfl, .ref D, .list ((dueR s f).map dT), rfl, .lst (.inl (.inl (s6 _ _ hD))) (tps_dp (Paired.mapP py fun _ _ h => h.same s6)), sm.shaped (by decide), sm.sho, sm.wide (by decide), rfl, ?_⟩
    generalize PyData.shown _ = X
    rw [decide_eq_true rfl]
    exact q _ _ k6.sb k6.hr
end

theorem low_1a {a : Int} (h : a ≠ 0) : low 1 a = if a < 0 then (-1, -a) else (1, a) := by
  have g : gI 1 a = 1 := by
    unfold gI
    rw [show (1 : Int).natAbs = 1 from rfl, Nat.gcd_one_left]
    rfl
  unfold low
  rw [g, Int.ediv_one, Int.ediv_one, Int.ediv_one, Int.ediv_one]
theorem low_vv {v : Int} (h : 0 < v) : low v v = (1, 1) := by
  have g : gI v v = v := by
    unfold gI
    rw [Nat.gcd_self]
    omega
  unfold low
  rw [if_neg (by omega), g, Int.ediv_self (by omega)]
theorem num_int {p k u v : Int} (hp : p = 0 ∨ p ∈ primes) (hk : k.natAbs ≤ 45) (h : IsNum p k 1 u v) : v = 1 ∧ u.natAbs ≤ 45 ∧ isN p u 1 = true := by
  have n := num_isN hp (fun _ => by decide) h
  rcases h with ⟨h0, rfl, l1, u1, m1⟩ | ⟨h0, e1⟩
  · have := prime_pos (hp.resolve_left (by omega))
    exact ⟨rfl, by omega, n⟩
  · rw [low_1] at e1
    obtain ⟨rfl, rfl⟩ := Prod.mk.inj e1
    exact ⟨rfl, hk, n⟩
/-- what is known of an inverse -/
theorem inv_of {p a u v : Int} (hp : p = 0 ∨ p ∈ primes) (ha : isN p a 1 = true) (a45 : a.natAbs ≤ 45) (h : IsNum p (1 * 1) (1 * a) u v) (a0 : a ≠ 0) : isN p u v = true ∧ u.natAbs ≤ 45 ∧ v.natAbs ≤ 45 ∧ ¬ bad p (1 * v) ∧ ∀ u' v', IsNum p (a * u) (1 * v) u' v' → u' = 1 ∧ v' = 1 := by
  have n := num_isN hp (fun _ => by omega) h
  have pp := isN_pos n hp
  rw [Int.one_mul, Int.one_mul] at h
  refine ⟨n, ?_⟩
  rw [Int.one_mul]
  rcases h with ⟨h0, rfl, l1, u1, m1⟩ | ⟨h0, e1⟩
  · have hpr := prime_pos (hp.resolve_left (by omega))
    refine ⟨by omega, by decide, fun z => ?_, fun u' v' h' => ?_⟩
    · rcases z with z | ⟨_, z⟩
      · exact absurd z (by decide)
      · rw [Int.emod_eq_of_lt (by decide) (by omega)] at z
        exact absurd z (by decide)
    · obtain ⟨_, rfl, l2, u2, m2⟩ := h'.resolve_right (fun z => z.1 h0)
      refine ⟨?_, rfl⟩
      have d1 := Int.dvd_of_emod_eq_zero m1
      have d2 := Int.dvd_of_emod_eq_zero m2
      have d3 : p ∣ u' - 1 := by
        have := Int.dvd_add d1 d2
        rw [show u * a - 1 + (u' * 1 - a * u) = u' - 1 by grind] at this
        exact this
      obtain ⟨c, hc⟩ := d3
      by_cases c0 : c = 0
      · rw [c0, Int.mul_zero] at hc
        omega
      · exfalso
        have : p ≤ p * c ∨ p * c ≤ -p := by
          rcases (show 1 ≤ c ∨ c ≤ -1 by omega) with k | k
          · exact .inl (by have := Int.mul_le_mul_of_nonneg_left k (show 0 ≤ p by omega); omega)
          · exact .inr (by have := Int.mul_le_mul_of_nonneg_left k (show 0 ≤ p by omega); omega)
        omega
  · have p0 : p = 0 := hp.resolve_right fun m => h0 (by have := prime_pos m; omega)
    rw [low_1a a0] at e1
    have key : a * u = v ∧ 0 < v ∧ u.natAbs ≤ 45 ∧ v.natAbs ≤ 45 := by
      by_cases c : a < 0
      · rw [if_pos c] at e1
        obtain ⟨rfl, rfl⟩ := Prod.mk.inj e1
        exact ⟨by omega, by omega, by decide, by omega⟩
      · rw [if_neg c] at e1
        obtain ⟨rfl, rfl⟩ := Prod.mk.inj e1
        exact ⟨by omega, by omega, by decide, a45⟩
    obtain ⟨k1, k2, k3, k4⟩ := key
    refine ⟨k3, k4, fun z => ?_, fun u' v' h' => ?_⟩
    · rcases z with z | ⟨z, _⟩
      · omega
      · omega
    · obtain ⟨_, e⟩ := h'.resolve_left (fun z => h0 z.1)
      rw [k1, low_vv k2] at e
      exact Prod.mk.inj e
theorem pow_mul {p a u1 v1 u2 v2 u v : Int} (hp : p = 0 ∨ p ∈ primes) (h1 : IsNum p (a ^ 99) (1 ^ 99) u1 v1) (h2 : IsNum p (a ^ 101) (1 ^ 101) u2 v2) (e1 : v1 = 1) (e2 : v2 = 1) (h : IsNum p (u1 * u2) (v1 * v2) u v) : IsNum p (a ^ 200) (1 ^ 200) u v := by
  have s1 := num_step (a := u2) (b := v2) hp (fun _ => by rw [Int.one_pow]; decide) (fun _ => by omega) (fun _ => e2) (fun _ => by rw [Int.one_pow]) h1 h
  rw [Int.mul_comm (a ^ 99) u2, Int.mul_comm (1 ^ 99) v2] at s1
  have s2 := num_step (a := a ^ 99) (b := 1 ^ 99) hp (fun _ => by rw [Int.one_pow]; decide) (fun _ => by rw [Int.one_pow]; decide) (fun _ => by rw [Int.one_pow]) (fun _ => by rw [Int.one_pow]) h2 s1
  rw [← Int.pow_add, ← Int.pow_add] at s2
  exact s2
theorem notN {p u v : Int} (hp : p = 0 ∨ p ∈ primes) (h0 : isN 0 u v = false) (h1 : v ≠ 1) : isN p u v = false := by
  rcases hp with rfl | hp
  · exact h0
  · have := prime_pos hp
    unfold isN
    rw [if_neg (by omega), if_neg h1]
theorem isW_0 {d : Int} (h1 : -20 ≤ d) (h2 : d ≤ 20) : isW 0 d = true := by
  unfold isW
  rw [if_pos rfl, if_pos h1]
  exact decide_eq_true h2
theorem isP_201 : isP (List.replicate 201 1) = false := by decide +kernel
theorem isP_0 : isP [0] = false := by decide +kernel
theorem isP_10 : isP [1, 0] = false := by decide +kernel
theorem chs {k : Nat} (h : k < 12) : ∃ ch : Int, ([V.int 0, V.int 2, V.int 3, V.int 5, V.int 7, V.int 11, V.int 13, V.int 17, V.int 19, V.int 23, V.int 29, V.int 31] : List V)[k]? = some (.int ch) ∧ (ch = 0 ∨ ch ∈ primes) := by
  rcases (show k = 0 ∨ k = 1 ∨ k = 2 ∨ k = 3 ∨ k = 4 ∨ k = 5 ∨ k = 6 ∨ k = 7 ∨ k = 8 ∨ k = 9 ∨ k = 10 ∨ k = 11 by omega) with rfl | rfl | rfl | rfl | rfl | rfl | rfl | rfl | rfl | rfl | rfl | rfl
  · exact ⟨0, rfl, .inl rfl⟩
  · exact ⟨2, rfl, .inr (by decide)⟩
  · exact ⟨3, rfl, .inr (by decide)⟩
  · exact ⟨5, rfl, .inr (by decide)⟩
  · exact ⟨7, rfl, .inr (by decide)⟩
  · exact ⟨11, rfl, .inr (by decide)⟩
  · exact ⟨13, rfl, .inr (by decide)⟩
  · exact ⟨17, rfl, .inr (by decide)⟩
  · exact ⟨19, rfl, .inr (by decide)⟩
  · exact ⟨23, rfl, .inr (by decide)⟩
  · exact ⟨29, rfl, .inr (by decide)⟩
  · exact ⟨31, rfl, .inr (by decide)⟩

def prB (p : Int) : Bool := decide (1 < p) && (decide (p < 32) && ((List.range (p - 2).toNat).map fun i : Nat => decide (p % (2 + (i : Int)) > 0)).all id)
theorem pr_fin : ∀ k : Nat, k < 48 → prB ((k : Int) - 4) = decide (((k : Int) - 4) ∈ primes) := by decide +kernel
theorem pr_is {p : Int} (h1 : -4 ≤ p) (h2 : p ≤ 43) : prB p = decide (p ∈ primes) := by
  have := pr_fin (p + 4).toNat (by omega)
  rw [show (((p + 4).toNat : Nat) : Int) - 4 = p by omega] at this
  exact this
theorem isW_eq {p d : Int} (h1 : -4 ≤ p) (h2 : p ≤ 43) : isW p d = if p = 0 then decide ((if d < 0 then -d else d) ≤ 20) else (prB p && (decide (0 ≤ d) && decide (d < p))) := by
  unfold isW
  by_cases c : p = 0
  · rw [if_pos c, if_pos c]
    by_cases c1 : -20 ≤ d
    · rw [if_pos c1]
      split <;> exact decide_eq_decide.mpr (by omega)
    · rw [if_neg c1]
      split
      · exact (decide_eq_false (by omega)).symm
      · exact (decide_eq_false (by omega)).symm
  · rw [if_neg c, if_neg c, pr_is h1 h2]
    by_cases m : p ∈ primes
    · have i : inV (.int p) (primes.map V.int) = true := by
        simp only [primes, List.mem_cons, List.not_mem_nil, or_false] at m
        rcases m with rfl | rfl | rfl | rfl | rfl | rfl | rfl | rfl | rfl | rfl | rfl <;> decide
      rw [if_pos i, decide_eq_true m]
      by_cases c1 : 0 ≤ d
      · rw [if_pos c1, decide_eq_true c1]
        rfl
      · rw [if_neg c1, decide_eq_false c1]
        rfl
    · have i : ¬ inV (.int p) (primes.map V.int) = true := fun z => m (inV_ints z)
      rw [if_neg i, decide_eq_false m]
      rfl
structure KW (H : Hp) (r tw : Addr) (p d : Int) (ds : List Int) : Prop where
  hr : H r = some (.lst (ds.map V.int))
  hw : H tw = some (.tup [.int p, .int d])
theorem KW.same {H H' : Hp} {r tw : Addr} {p d : Int} {ds : List Int} (s : Same H H') (k : KW H r tw p d ds) : KW H' r tw p d ds := ⟨s _ _ k.hr, s _ _ k.hw⟩
theorem KW.next {H : Hp} {r tw : Addr} {p d : Int} {ds ds' : List Int} (k : KW H r tw p d ds) : KW (upd H r (.lst (ds'.map V.int))) r tw p d ds' := ⟨upd_same, by rw [upd_ne (ne_of k.hw k.hr fun z => nomatch z)]; exact k.hw⟩
structure KX (H : Hp) (r tw tx : Addr) (p d a : Int) (ds : List Int) : Prop where
  kw : KW H r tw p d ds
  hx : H tx = some (.tup [.int a, .int 1])
theorem KX.same {H H' : Hp} {r tw tx : Addr} {p d a : Int} {ds : List Int} (s : Same H H') (k : KX H r tw tx p d a ds) : KX H' r tw tx p d a ds := ⟨k.kw.same s, s _ _ k.hx⟩
theorem KX.next {H : Hp} {r tw tx : Addr} {p d a : Int} {ds ds' : List Int} (k : KX H r tw tx p d a ds) : KX (upd H r (.lst (ds'.map V.int))) r tw tx p d a ds' := ⟨k.kw.next, by rw [upd_ne (ne_of k.hx k.kw.hr fun z => nomatch z)]; exact k.hx⟩
theorem eqv_pair (a b c d : Int) : PyData.eqv (dT [a, b]) (dT [c, d]) = decide (a = c ∧ b = d) := by
  rw [eqv_dT]
  exact decide_eq_decide.mpr (by simp)
theorem isW_pr {p d : Int} (hp : p ∈ primes) (h1 : 0 ≤ d) (h2 : d < p) : isW p d = true := by
  have := prime_pos hp
  rw [isW_eq (by omega) (by omega), if_neg (by omega), pr_is (by omega) (by omega), decide_eq_true hp, decide_eq_true h1, decide_eq_true h2]
  rfl
theorem told_w {p d a b : Int} {l : List Int} (h : isW p d = false) : ∀ way ∈ ([0, 1, 2, 6, 7] : List Int), told08 way p d a b l = some "!world" := fun way hw => by
  simp only [List.mem_cons, List.not_mem_nil, or_false] at hw
  rcases hw with rfl | rfl | rfl | rfl | rfl <;> simp [told08, h]
def toldS : List Str := ["!value", "!at 0", "!poly", "!poly", "!poly", "!poly"]
theorem told_6 {p d a b : Int} {l : List Int} (h : isW p d = true) (hn : isN p a b = false) (hl : isP l = false) {i : Nat} (hi : i < 6) : ∃ t, toldS[i]? = some t ∧ told08 (i : Int) p d a b l = some t := by
  rcases (show i = 0 ∨ i = 1 ∨ i = 2 ∨ i = 3 ∨ i = 4 ∨ i = 5 by omega) with rfl | rfl | rfl | rfl | rfl | rfl
  · exact ⟨_, rfl, by simp [told08, h, hn]⟩
  · exact ⟨_, rfl, by simp [told08, h]⟩
  · exact ⟨_, rfl, by simp [told08, h, hl]⟩
  · exact ⟨_, rfl, by simp [told08, hl]⟩
  · exact ⟨_, rfl, by simp [told08, hl]⟩
  · exact ⟨_, rfl, by simp [told08, hl]⟩
theorem told_7 {p d a b : Int} {l : List Int} (h : isW p d = true) : told08 7 p d a b l = some "!number" := by simp [told08, h]
theorem told_4 {p d a b : Int} : told08 4 p d a b [] = some "!answer" := by
  have e : isP [] = true := by decide
  simp [told08, e]
theorem eqv_told : PyData.eqv (.list (toldS.map PyData.str)) (.list (toldS.map PyData.str)) = true := by decide +kernel
theorem shaped_told : SeqAt.shaped (.list (toldS.map PyData.str)) = true := by decide +kernel
theorem strs_dp8 {K : PySem.W.Frag} {H : Hp} : ∀ z : List Str, DpAll K H (z.map V.str) (z.map PyData.str)
  | [] => .nil
  | a :: r => .cons (.str a) (strs_dp8 r)
structure KZ (K : PySem.W.Frag) (H : Hp) (r tw tz ty : Addr) (p d a b : Int) (l ds : List Int) : Prop where
  kw : KW H r tw p d ds
  hz : SqT K H tz (l.map V.int)
  hy : H ty = some (.tup [.int a, .int b])
theorem KZ.same {K : PySem.W.Frag} {H H' : Hp} {r tw tz ty : Addr} {p d a b : Int} {l ds : List Int} (s : Same H H') (k : KZ K H r tw tz ty p d a b l ds) : KZ K H' r tw tz ty p d a b l ds := ⟨k.kw.same s, sqT_same s k.hz, s _ _ k.hy⟩
section
variable {P : Program} {w : World} {K : PySem.W.Frag} {mg : Str → Option Value} {base : Heap}
def spLaw (K : PySem.W.Frag) : Sp := fun vs H Q _ => ∃ (a : Addr) (ns : List Int), vs = [.ref a] ∧ SqL K H a (ns.map V.int) ∧ ns.length ≤ 63 ∧ ∀ H', Q (.bl true) H'
theorem ok_law {f CW CN CB CP : Addr} {fd : FuncData} (F : Fun K "law" "law" s_law f fd) (z_int : mg "int" = none) (z_range : mg "range" = none) (z_repr : mg "repr" = none) (z_all : mg "all" = none) (z_abs : mg "abs" = none)
    {a_law_draws : Addr} {fd_law_draws : FuncData} (G_law_draws : FnOk P w K mg base CX0 2 a_law_draws fd_law_draws ["script"] (spDraws K)) (g_law_draws : mg "_law_draws" = some (.ref a_law_draws)) (k_law_draws : PySem.W.keepIn K (.ref a_law_draws) = true) (b_law_draws : Binds K fd_law_draws ["script"] [])
    {a_law_next : Addr} {fd_law_next : FuncData} (G_law_next : FnOk P w K mg base CX0 1 a_law_next fd_law_next ["draws"] spNext) (g_law_next : mg "_law_next" = some (.ref a_law_next)) (k_law_next : PySem.W.keepIn K (.ref a_law_next) = true) (b_law_next : Binds K fd_law_next ["draws"] [])
    {a_is_world : Addr} {fd_is_world : FuncData} (G_is_world : FnOk P w K mg base CX0 1 a_is_world fd_is_world ["world"] (spIsWorld K)) (g_is_world : mg "is_world" = some (.ref a_is_world)) (k_is_world : PySem.W.keepIn K (.ref a_is_world) = true) (b_is_world : Binds K fd_is_world ["world"] [])
    {a_number : Addr} {fd_number : FuncData} (G_number : FnOk P w K mg base (L2N.CX P w) 3 a_number fd_number ["world", "a", "b"] (spNumber K CW CB)) (g_number : mg "number" = some (.ref a_number)) (k_number : PySem.W.keepIn K (.ref a_number) = true) (b_number : Binds K fd_number ["world", "a", "b"] [])
    {a_times : Addr} {fd_times : FuncData} (G_times : FnOk P w K mg base (L2N.CX P w) 6 a_times fd_times ["world", "x", "y"] (spOp false K CW CN CB fTimesA fTimesB)) (g_times : mg "times" = some (.ref a_times)) (k_times : PySem.W.keepIn K (.ref a_times) = true) (b_times : Binds K fd_times ["world", "x", "y"] [])
    {a_over : Addr} {fd_over : FuncData} (G_over : FnOk P w K mg base (L2N.CX P w) 6 a_over fd_over ["world", "x", "y"] (spOp true K CW CN CB fOverA fOverB)) (g_over : mg "over" = some (.ref a_over)) (k_over : PySem.W.keepIn K (.ref a_over) = true) (b_over : Binds K fd_over ["world", "x", "y"] [])
    {a_power : Addr} {fd_power : FuncData} (G_power : FnOk P w K mg base (L2N.CX P w) 7 a_power fd_power ["world", "x", "count"] (spPower K CW CN CB)) (g_power : mg "power" = some (.ref a_power)) (k_power : PySem.W.keepIn K (.ref a_power) = true) (b_power : Binds K fd_power ["world", "x", "count"] [])
    {a_law_is_counted : Addr} {fd_law_is_counted : FuncData} (G_law_is_counted : FnOk P w K mg base CX0 5 a_law_is_counted fd_law_is_counted ["count"] spCounted) (g_law_is_counted : mg "_law_is_counted" = some (.ref a_law_is_counted)) (k_law_is_counted : PySem.W.keepIn K (.ref a_law_is_counted) = true) (b_law_is_counted : Binds K fd_law_is_counted ["count"] [])
    {a_law_is_root : Addr} {fd_law_is_root : FuncData} (G_law_is_root : FnG P w K mg base  5 a_law_is_root fd_law_is_root ["draws"] spRoot) (g_law_is_root : mg "_law_is_root" = some (.ref a_law_is_root)) (k_law_is_root : PySem.W.keepIn K (.ref a_law_is_root) = true) (b_law_is_root : Binds K fd_law_is_root ["draws"] [])
    {a_law_told : Addr} {fd_law_told : FuncData} (G_law_told : FnOk P w K mg base CX0 9 a_law_told fd_law_told ["way", "world", "x", "poly"] (spTold08 K)) (g_law_told : mg "_law_told" = some (.ref a_law_told)) (k_law_told : PySem.W.keepIn K (.ref a_law_told) = true) (b_law_told : Binds K fd_law_told ["way", "world", "x", "poly"] [])
    {a_by_falling : Addr} {fd_by_falling : FuncData} (G_by_falling : FnOk P w K mg base (L2N.CX P w) 3 a_by_falling fd_by_falling ["poly"] (spByF K CP)) (g_by_falling : mg "by_falling" = some (.ref a_by_falling)) (k_by_falling : PySem.W.keepIn K (.ref a_by_falling) = true) (b_by_falling : Binds K fd_by_falling ["poly"] [])
    {a_value_at : Addr} {fd_value_at : FuncData} (G_value_at : FnOk P w K mg base (L2N.CX P w) 3 a_value_at fd_value_at ["poly", "x"] (spValueAt K CP)) (g_value_at : mg "value_at" = some (.ref a_value_at)) (k_value_at : PySem.W.keepIn K (.ref a_value_at) = true) (b_value_at : Binds K fd_value_at ["poly", "x"] []) :
    FnG P w K mg base 10 f fd ["script"] (spLaw K) := by
  refine F.okG sc_law (fun vs H Q E h => ?_) (fun cdv A outer s H vs Q E hgu hr h => ?_)
  · obtain ⟨a, ns, rfl, _⟩ := h
    rfl
  · obtain ⟨sc, ns, rfl, hS, hlen, q⟩ := h
    refine ⟨_, (pss_cons (ps_set (i := 1) sc_law.nd rfl (.inl rfl) (pe_call G_law_draws (hr.mono (by decide)) rfl g_law_draws k_law_draws b_law_draws .nil pass0 (pa_cons (pv 0) pa_nil)))
  (pss_cons (ps_expr (pe_bm0 PySem.F.plainAttrs_list PySem.F.slot_list_reverse PySem.F.type_list_reverse mt_reverse (pv 1)))
  (pss_cons (ps_set (i := 2) sc_law.nd rfl (.inr rfl) (pe_op op_sub (pe_op op_mod (pe_callTy call_int1 (by rfl) z_int boot_int (pa_cons (pe_call G_law_next (hr.mono (by decide)) rfl g_law_next k_law_next b_law_next .nil pass0 (pa_cons (pv 1) pa_nil)) pa_nil)) pe_int) pe_int))
  (Evl.pss_cut (ps_set (i := 3) sc_law.nd rfl (.inl rfl) (pe_op op_sub (pe_op op_mod (pe_callTy call_int1 (by rfl) z_int boot_int (pa_cons (pe_call G_law_next (hr.mono (by decide)) rfl g_law_next k_law_next b_law_next .nil pass0 (pa_cons (pv 1) pa_nil)) pa_nil)) pe_int) pe_int))
  (Evl.pss_cut (ps_set (i := 4) sc_law.nd rfl (.inl rfl) (pe_and (pe_chain op_lt op_lt pe_int (pv 2) pe_int) (pe_one (pe_callB (cr_all rfl) (by rfl) z_all boot_all (pa_cons (pe_lc (own := [("other", 14)]) rfl sc_law.nd (pi_range2 rfl z_range (pa_cons pe_int (pa_cons (pv 2) pa_nil))) (blkOk_by (N := ["script", "draws", "p", "d", "prime", "due", "world", "choice", "x", "large", "poly", "bad", "way", "told", "other"]) (sc := defScope s_law) (by first | decide +kernel | rfl)) (fun _ _ _ _ _ => (pg_name (i := 14) sc_law.nd rfl (.inl rfl))) (fun _ _ _ _ _ => pts_nil) (fun _ _ _ _ _ => (pe_cmpR op_gt (pe_op op_mod (pe_callTy call_int1 (by rfl) z_int boot_int (pa_cons (pv 2) pa_nil)) (pv 14)) pe_int (nomark _)))) pa_nil)))))
  (Evl.pss_cut (ps_set (i := 5) sc_law.nd rfl (.inl rfl) (pe_or (pe_and (pe_cmpR op_eq (pv 2) pe_int (nomark _)) (pe_one (pe_cmpR op_le (pe_callB call_abs (by rfl) z_abs boot_abs (pa_cons (pv 3) pa_nil)) pe_int (nomark _)))) (pe_one (pe_and (pv 4) (pe_one (pe_chain op_le op_lt pe_int (pv 3) (pv 2)))))))
  (Evl.pss_cut (ps_if (pt_cmpR op_ne (pe_callB (cr_reprD hgu (room65 hr)) (by rfl) z_repr boot_repr (pa_cons (pe_call G_is_world (hr.mono (by decide)) rfl g_is_world k_is_world b_is_world .nil pass0 (pa_cons (pe_tup (pa_cons (pv 2) (pa_cons (pv 3) pa_nil))) pa_nil)) pa_nil)) (pe_callB (cr_reprD hgu (room65 hr)) (by rfl) z_repr boot_repr (pa_cons (pv 5) pa_nil)) (nomark _)) (pss_one (ps_ret pe_bl)) pss_nil)
  (Evl.pss_cut (ps_set (i := 6) sc_law.nd rfl (.inr rfl) (pe_tup (pa_cons pe_int (pa_cons (pe_op op_sub (pe_op op_mod (pe_callTy call_int1 (by rfl) z_int boot_int (pa_cons (pe_call G_law_next (hr.mono (by decide)) rfl g_law_next k_law_next b_law_next .nil pass0 (pa_cons (pv 1) pa_nil)) pa_nil)) pe_int) pe_int) pa_nil))))
  (Evl.pss_cut (ps_set (i := 7) sc_law.nd rfl (.inl rfl) (pe_ix ix_list (pe_lst (pa_cons pe_int (pa_cons pe_int (pa_cons pe_int (pa_cons pe_int (pa_cons pe_int (pa_cons pe_int (pa_cons pe_int (pa_cons pe_int (pa_cons pe_int (pa_cons pe_int (pa_cons pe_int (pa_cons pe_int pa_nil))))))))))))) (pe_op op_mod (pe_callTy call_int1 (by rfl) z_int boot_int (pa_cons (pe_call G_law_next (hr.mono (by decide)) rfl g_law_next k_law_next b_law_next .nil pass0 (pa_cons (pv 1) pa_nil)) pa_nil)) pe_int) (fun _ _ => rfl)))
  (Evl.pss_cut (ps_if (pt_cmpR op_gt (pv 7) pe_int (nomark _)) (pss_one (ps_set (i := 6) sc_law.nd rfl (.inr rfl) (pe_tup (pa_cons (pv 7) (pa_cons (pe_op op_mod (pe_callTy call_int1 (by rfl) z_int boot_int (pa_cons (pe_call G_law_next (hr.mono (by decide)) rfl g_law_next k_law_next b_law_next .nil pass0 (pa_cons (pv 1) pa_nil)) pa_nil)) (pv 7)) pa_nil))))) pss_nil)
  (Evl.pss_cut (ps_set (i := 8) sc_law.nd rfl (.inl rfl) (pe_call G_number (hr.mono (by decide)) rfl g_number k_number b_number .nil passLN (pa_cons (pv 6) (pa_cons (pe_op op_sub (pe_op op_mod (pe_callTy call_int1 (by rfl) z_int boot_int (pa_cons (pe_call G_law_next (hr.mono (by decide)) rfl g_law_next k_law_next b_law_next .nil pass0 (pa_cons (pv 1) pa_nil)) pa_nil)) pe_int) pe_int) (pa_cons pe_int pa_nil)))))
  (Evl.pss_cut (ps_if (L2.PW.pt (pw_and (pt_cmpR (op_neD (room64 hr)) (pv 8) (pe_tup (pa_cons pe_int (pa_cons pe_int pa_nil))) (nomark _)) (pw_and1 (pt_cmpR (op_neD (room64 hr)) (pe_call G_times (hr.mono (by decide)) rfl g_times k_times b_times .nil passLN (pa_cons (pv 6) (pa_cons (pv 8) (pa_cons (pe_call G_over (hr.mono (by decide)) rfl g_over k_over b_over .nil passLN (pa_cons (pv 6) (pa_cons (pe_tup (pa_cons pe_int (pa_cons pe_int pa_nil))) (pa_cons (pv 8) pa_nil)))) pa_nil)))) (pe_tup (pa_cons pe_int (pa_cons pe_int pa_nil))) (nomark _))))) (pss_one (ps_ret pe_bl)) pss_nil)
  (Evl.pss_cut (ps_set (i := 9) sc_law.nd rfl (.inl rfl) (pe_call G_power (hr.mono (by decide)) rfl g_power k_power b_power .nil passLN (pa_cons (pv 6) (pa_cons (pv 8) (pa_cons pe_int pa_nil)))))
  (Evl.pss_cut (ps_if (L2.PW.pt (pw_or (pt_cmpR (op_neD (room64 hr)) (pv 9) (pe_call G_times (hr.mono (by decide)) rfl g_times k_times b_times .nil passLN (pa_cons (pv 6) (pa_cons (pe_call G_power (hr.mono (by decide)) rfl g_power k_power b_power .nil passLN (pa_cons (pv 6) (pa_cons (pv 8) (pa_cons pe_int pa_nil)))) (pa_cons (pe_call G_power (hr.mono (by decide)) rfl g_power k_power b_power .nil passLN (pa_cons (pv 6) (pa_cons (pv 8) (pa_cons pe_int pa_nil)))) pa_nil)))) (nomark _)) (pw_or1 (pt_cmpR (op_neD (room64 hr)) (pe_call G_power (hr.mono (by decide)) rfl g_power k_power b_power .nil passLN (pa_cons (pv 6) (pa_cons (pv 8) (pa_cons pe_int pa_nil)))) (pe_tup (pa_cons pe_int (pa_cons pe_int pa_nil))) (nomark _))))) (pss_one (ps_ret pe_bl)) pss_nil)
  (Evl.pss_cut (ps_if (L2.PW.pt (pw_or (pt_not (pt_val (pe_call G_law_is_counted (hr.mono (by decide)) rfl g_law_is_counted k_law_is_counted b_law_is_counted .nil pass0 (pa_cons (pe_op op_mod (pe_callTy call_int1 (by rfl) z_int boot_int (pa_cons (pe_call G_law_next (hr.mono (by decide)) rfl g_law_next k_law_next b_law_next .nil pass0 (pa_cons (pv 1) pa_nil)) pa_nil)) pe_int) pa_nil)))) (pw_or1 (pt_not (pt_val (pe_callG hgu G_law_is_root (hr.mono (by decide)) rfl g_law_is_root k_law_is_root b_law_is_root .nil (pa_cons (pv 1) pa_nil))))))) (pss_one (ps_ret pe_bl)) pss_nil)
  (Evl.pss_cut (ps_set (i := 10) sc_law.nd rfl (.inr rfl) (pe_ix ix_list (pe_lst (pa_cons (pe_tup (pa_cons pe_int pa_nil)) (pa_cons (pe_tup (pa_cons pe_int (pa_cons pe_int pa_nil))) (pa_cons (pe_op op_repB (pe_tup (pa_cons pe_int pa_nil)) pe_int) pa_nil)))) (pe_op op_mod (pe_callTy call_int1 (by rfl) z_int boot_int (pa_cons (pe_call G_law_next (hr.mono (by decide)) rfl g_law_next k_law_next b_law_next .nil pass0 (pa_cons (pv 1) pa_nil)) pa_nil)) pe_int) (fun _ _ => rfl)))
  (Evl.pss_cut (ps_set (i := 11) sc_law.nd rfl (.inr rfl) (pe_ix ix_list (pe_lst (pa_cons (pe_tup (pa_cons pe_int (pa_cons pe_int pa_nil))) (pa_cons (pe_tup (pa_cons pe_int (pa_cons (pe_un un_neg pe_int) pa_nil))) (pa_cons (pe_tup (pa_cons pe_int (pa_cons pe_int pa_nil))) pa_nil)))) (pe_op op_mod (pe_callTy call_int1 (by rfl) z_int boot_int (pa_cons (pe_call G_law_next (hr.mono (by decide)) rfl g_law_next k_law_next b_law_next .nil pass0 (pa_cons (pv 1) pa_nil)) pa_nil)) pe_int) (fun _ _ => rfl)))
  (Evl.pss_cut (ps_for PassesOwn.never rfl (pi_list (pe_lst (pa_cons pe_int (pa_cons pe_int (pa_cons pe_int (pa_cons pe_int (pa_cons pe_int pa_nil))))))) (pg_name (i := 12) sc_law.nd rfl (.inl rfl)) (pss_one (ps_if (L2.PW.pt (pw_or (pt_cmpR op_ne (pe_call G_law_told (hr.mono (by decide)) rfl g_law_told k_law_told b_law_told .nil pass0 (pa_cons (pv 12) (pa_cons (pe_tup (pa_cons pe_int (pa_cons pe_int pa_nil))) (pa_cons (pv 11) (pa_cons (pv 10) pa_nil))))) pe_str (nomark _)) (pw_or1 (pt_cmpR op_ne (pe_call G_law_told (hr.mono (by decide)) rfl g_law_told k_law_told b_law_told .nil pass0 (pa_cons (pv 12) (pa_cons (pe_tup (pa_cons pe_int (pa_cons pe_int pa_nil))) (pa_cons (pv 11) (pa_cons (pv 10) pa_nil))))) pe_str (nomark _))))) (pss_one (ps_ret pe_bl)) pss_nil)))
  (Evl.pss_cut (ps_setLc (i := 13) (own := [("way", 12)]) rfl sc_law.nd rfl rfl (sw_true rfl rfl rfl (by decide +kernel)) (pi_range1 rfl z_range (pa_cons pe_int pa_nil)) (blkOk_by (N := ["script", "draws", "p", "d", "prime", "due", "world", "choice", "x", "large", "poly", "bad", "way", "told", "other"]) (sc := defScope s_law) (by first | decide +kernel | rfl)) (fun _ _ _ _ _ => (pg_name (i := 12) sc_law.nd rfl (.inl rfl))) (fun _ _ _ _ _ => pts_nil) (fun _ _ _ _ _ => (pe_call G_law_told (hr.mono (by decide)) rfl g_law_told k_law_told b_law_told .nil pass0 (pa_cons (pv 12) (pa_cons (pv 6) (pa_cons (pv 11) (pa_cons (pv 10) pa_nil)))))))
  (Evl.pss_cut (ps_if (L2.PW.pt (pw_or (pt_cmpR (op_neD (room64 hr)) (pv 13) (pe_lst (pa_cons pe_str (pa_cons pe_str (pa_cons pe_str (pa_cons pe_str (pa_cons pe_str (pa_cons pe_str pa_nil))))))) (nomark _)) (pw_or1 (pt_cmpR op_ne (pe_call G_law_told (hr.mono (by decide)) rfl g_law_told k_law_told b_law_told .nil pass0 (pa_cons pe_int (pa_cons (pv 6) (pa_cons (pv 11) (pa_cons (pv 10) pa_nil))))) pe_str (nomark _))))) (pss_one (ps_ret pe_bl)) pss_nil)
  (pss_one (ps_ret (pe_and (pe_cmpR op_eq (pe_call G_law_told (hr.mono (by decide)) rfl g_law_told k_law_told b_law_told .nil pass0 (pa_cons pe_int (pa_cons (pv 6) (pa_cons (pv 11) (pa_cons (pe_tup pa_nil) pa_nil))))) pe_str (nomark _)) (pe_and (pe_cmpR (op_eqD (room64 hr)) (pe_call G_by_falling (hr.mono (by decide)) rfl g_by_falling k_by_falling b_by_falling .nil passLN (pa_cons (pe_tup pa_nil) pa_nil)) (pe_lst pa_nil) (nomark _)) (pe_one (pe_cmpR op_eq (pe_call G_value_at (hr.mono (by decide)) rfl g_value_at k_value_at b_value_at .nil passLN (pa_cons (pe_tup pa_nil) (pa_cons pe_int pa_nil))) pe_int (nomark _))))))))))))))))))))))))))), ?_⟩
    have szl : 20000 ≤ sizeLine := by decide
    refine ⟨_, rfl, sc, ns, rfl, hS, hlen, fun H1 r ds s1 nr hL => ?_⟩
    refine ⟨_, rfl, .inl ⟨rfl, _, .inl (.inl hL)⟩, r, _, rfl, rfl, hL, ?_⟩
    have hr1 : upd H1 r (.lst (ds.map V.int).reverse) r = some (.lst (ds.reverse.map V.int)) := by rw [upd_same, List.map_reverse]
    revert hr1
    generalize upd H1 r (.lst (ds.map V.int).reverse) = H2
    generalize ds.reverse = ds
    intro hr1
    clear hL s1 nr hS
    refine ⟨_, rfl, r, ds, rfl, hr1, fun n0 ds1 => .inl ⟨n0, rfl, n0, 48, rfl, rfl, (by decide : (0 : Int) < 48), _, _, rfl, rfl, ?_⟩⟩
    dsimp only
    obtain ⟨p, hp1, hp2, ep⟩ : ∃ p : Int, -4 ≤ p ∧ p ≤ 43 ∧ n0 % 48 - 4 = p := ⟨_, by omega, by omega, rfl⟩
    rw [ep]
    refine ⟨fun σ H' => ∃ (d : Int) (ds : List Int), -30 ≤ d ∧ d ≤ 41 ∧ σ = [some (.ref sc), some (.ref r), some (.int p), some (.int d), none, none, none, none, none, none, none, none, none, none, none] ∧ H' r = some (.lst (ds.map V.int)), ?_, ?_⟩
    · refine ⟨_, rfl, r, ds1, rfl, upd_same, fun n1 ds2 => .inl ⟨n1, rfl, n1, 72, rfl, rfl, (by decide : (0 : Int) < 72), _, _, rfl, rfl, ?_⟩⟩
      exact ⟨n1 % 72 - 30, ds2, by omega, by omega, rfl, upd_same⟩
    clear hr1 ep
    rintro σ H3 ⟨d, ds2, hd1, hd2, rfl, hr3⟩
    refine ⟨fun σ H' => σ = [some (.ref sc), some (.ref r), some (.int p), some (.int d), some (.bl (prB p)), none, none, none, none, none, none, none, none, none, none] ∧ H' r = some (.lst (ds2.map V.int)), ?_, ?_⟩
    · have fin : ∀ {b : Bool} {H' : Hp}, b = prB p → H' r = some (.lst (ds2.map V.int)) → (fun (σ : L2.St) (H' : Hp) => σ = [some (.ref sc), some (.ref r), some (.int p), some (.int d), some (.bl (prB p)), none, none, none, none, none, none, none, none, none, none] ∧ H' r = some (.lst (ds2.map V.int))) [some (.ref sc), some (.ref r), some (.int p), some (.int d), some (.bl b), none, none, none, none, none, none, none, none, none, none] H' := fun e h => ⟨by rw [e], h⟩
      refine ⟨_, rfl, _, _, rfl, rfl, _, rfl, ite2 (fun e1 => ?_) (fun e1 => ?_)⟩
      · have e1 := of_decide_eq_true e1
        refine ⟨_, _, rfl, rfl, _, rfl, ite2 (fun e2 => ?_) (fun e2 => ?_)⟩
        · have e2 := of_decide_eq_true e2
          refine ⟨_, rfl, 2, _, rfl, by omega, fun D nD => ?_⟩
          have rD : r ≠ D := ne_of_none hr3 nD
          refine lc_range (lo := 2) (n := (p - 2).toNat) (fun i H' => SameBut D H3 H' ∧ H' D = some (.lst (((List.range i).map fun i : Nat => decide (p % (2 + (i : Int)) > 0)).map V.bl))) ⟨SameBut.upd, upd_same⟩ (fun i H5 hi hP => ?_) (fun H5 hP => ?_)
          · obtain ⟨sb, hD⟩ := hP
            refine ⟨rfl, _, rfl, .inl ⟨p, rfl, _, rfl, _, _, rfl, rfl, (show (0 : Int) < 2 + (i : Int) by omega), _, _, rfl, rfl, _, hD, ?_, sb.trans SameBut.upd, ?_⟩⟩
            · rw [List.length_map, List.length_map, List.length_range]
              omega
            · rw [upd_same, List.range_succ, List.map_append, List.map_append]
              rfl
          · obtain ⟨sb, hD⟩ := hP
            refine ⟨D, _, rfl, .inl (.inl hD), fin ?_ (sb _ _ rD hr3)⟩
            unfold prB
            rw [decide_eq_true e1, decide_eq_true e2]
            rfl
        · refine fin ?_ hr3
          have e2 : ¬ p < 32 := fun z => e2 (decide_eq_true z)
          unfold prB
          rw [decide_eq_true e1, decide_eq_false e2]
          rfl
      · have e1 : ¬ 1 < p := fun z => e1 (decide_eq_true z)
        refine ⟨_, rfl, iteF (fin ?_ hr3)⟩
        unfold prB
        rw [decide_eq_false e1]
        rfl
    clear hr3
    rintro σ H4 ⟨rfl, hr4⟩
    have eW := isW_eq (d := d) hp1 hp2
    refine ⟨fun σ H' => σ = [some (.ref sc), some (.ref r), some (.int p), some (.int d), some (.bl (prB p)), some (.bl (isW p d)), none, none, none, none, none, none, none, none, none] ∧ H' r = some (.lst (ds2.map V.int)), ?_, ?_⟩
    · have fin : ∀ {b : Bool}, b = isW p d → (fun (σ : L2.St) (H' : Hp) => σ = [some (.ref sc), some (.ref r), some (.int p), some (.int d), some (.bl (prB p)), some (.bl (isW p d)), none, none, none, none, none, none, none, none, none] ∧ H' r = some (.lst (ds2.map V.int))) [some (.ref sc), some (.ref r), some (.int p), some (.int d), some (.bl (prB p)), some (.bl b), none, none, none, none, none, none, none, none, none] H4 := fun e => ⟨by rw [e], hr4⟩
      refine ⟨_, rfl, rfl, _, rfl, ite2 (fun e => ?_) (fun e => ?_)⟩
      · have e0 : p = 0 := V.int.inj (of_decide_eq_true e)
        rw [if_pos e0] at eW
        refine ⟨_, rfl, d, rfl, _, _, rfl, rfl, _, rfl, ite2 (fun e1 => ?_) (fun e1 => ?_)⟩
        · exact fin (by rw [eW]; exact e1.symm)
        · have pf : prB p = false := by rw [e0]; decide
          have e1 := Bool.eq_false_iff.mpr e1
          refine ⟨_, rfl, _, rfl, if_neg_of (by rw [pf]; decide) (fin (by rw [eW]; exact e1.symm))⟩
      · have e0 : p ≠ 0 := fun z => e (decide_eq_true (congrArg V.int z))
        rw [if_neg e0] at eW
        refine ⟨_, rfl, iteF ⟨_, rfl, _, rfl, ite2 (fun e1 => ?_) (fun e1 => ?_)⟩⟩
        · refine ⟨_, rfl, _, _, rfl, rfl, _, rfl, ite2 (fun e2 => ?_) (fun e2 => ?_)⟩
          · refine ⟨_, rfl, _, _, rfl, rfl, fin ?_⟩
            rw [eW, e1, e2]
            rfl
          · have e2 := Bool.eq_false_iff.mpr e2
            refine fin ?_
            rw [eW, e1, e2]
            rfl
        · have e1 := Bool.eq_false_iff.mpr e1
          refine fin ?_
          rw [eW, e1]
          rfl
    clear hr4 eW
    rintro σ H5 ⟨rfl, hr5⟩
    refine ⟨fun σ H' => σ = [some (.ref sc), some (.ref r), some (.int p), some (.int d), some (.bl (prB p)), some (.bl (isW p d)), none, none, none, none, none, none, none, none, none] ∧ H' r = some (.lst (ds2.map V.int)), ?_, ?_⟩
    · refine ⟨_, rfl, _, rfl, (by show 2 ≤ sizeLine; omega), fun t nt => ?_⟩
      have w := same_upd (o := .tup [.int p, .int d]) nt
      have sm := smL_bool (isW p d)
      refine ⟨t, p, d, rfl, .inl (.inl upd_same), .bl (isW p d), .bool (isW p d), rfl, .bl _, sm.shaped (by decide), sm.sho, sm.wide (by decide), ?_⟩
      refine ⟨_, rfl, .bl (isW p d), .bool (isW p d), rfl, .bl _, sm.shaped (by decide), sm.sho, sm.wide (by decide), rfl, ?_⟩
      generalize PyData.shown _ = X
      exact ⟨_, rfl, if_neg_of (by rw [decide_eq_true rfl]; exact Bool.false_ne_true) ⟨rfl, w _ _ hr5⟩⟩
    clear hr5
    rintro σ H6 ⟨rfl, hr6⟩
    generalize V.bl (prB p) = b4
    generalize V.bl (isW p d) = b5
    refine ⟨fun σ H' => ∃ (tw : Addr) (d0 : Int) (ds : List Int), -20 ≤ d0 ∧ d0 ≤ 20 ∧ σ = [some (.ref sc), some (.ref r), some (.int p), some (.int d), some b4, some b5, some (.ref tw), none, none, none, none, none, none, none, none] ∧ KW H' r tw 0 d0 ds, ?_, ?_⟩
    · refine ⟨_, rfl, r, ds2, rfl, hr6, fun n1 ds3 => .inl ⟨n1, rfl, n1, 41, rfl, rfl, (by decide : (0 : Int) < 41), _, _, rfl, rfl, (by show 2 ≤ sizeLine; omega), fun tw ntw => ?_⟩⟩
      exact ⟨tw, n1 % 41 - 20, ds3, by omega, by omega, rfl, same_upd ntw _ _ upd_same, upd_same⟩
    clear hr6 hd1 hd2 hp1 hp2
    rintro σ H7 ⟨tw0, d0, ds3, h0, h1, rfl, kw0⟩
    refine ⟨fun σ H' => ∃ (ch : Int) (ds : List Int), (ch = 0 ∨ ch ∈ primes) ∧ σ = [some (.ref sc), some (.ref r), some (.int p), some (.int d), some b4, some b5, some (.ref tw0), some (.int ch), none, none, none, none, none, none, none] ∧ KW H' r tw0 0 d0 ds, ?_, ?_⟩
    · refine ⟨(by show 12 ≤ sizeLine; omega), fun L nL => ?_⟩
      have w8 := same_upd (o := .lst [V.int 0, V.int 2, V.int 3, V.int 5, V.int 7, V.int 11, V.int 13, V.int 17, V.int 19, V.int 23, V.int 29, V.int 31]) nL
      have k8 := kw0.same w8
      have Lr : L ≠ r := (ne_of_none kw0.hr nL).symm
      refine ⟨_, rfl, r, ds3, rfl, k8.hr, fun n1 ds5 => .inl ⟨n1, rfl, n1, 12, rfl, rfl, (by decide : (0 : Int) < 12), ?_⟩⟩
      obtain ⟨k, hk, ek⟩ : ∃ k : Nat, k < 12 ∧ n1 % 12 = (k : Int) := ⟨(n1 % 12).toNat, by omega, by omega⟩
      dsimp only
      rw [ek]
      obtain ⟨ch, ec, hch⟩ := chs hk
      exact ⟨L, _, _, .int ch, rfl, rfl, .inl (.inl (by rw [upd_ne Lr, upd_same])), atI_nat ec, ch, ds5, hch, rfl, k8.next⟩
    clear kw0
    rintro σ H8 ⟨ch, ds4, hch, rfl, kw0⟩
    refine ⟨fun σ H' => ∃ (tw : Addr) (p' d' : Int) (ds : List Int), isW p' d' = true ∧ σ = [some (.ref sc), some (.ref r), some (.int p), some (.int d), some b4, some b5, some (.ref tw), some (.int ch), none, none, none, none, none, none, none] ∧ KW H' r tw p' d' ds, ?_, ?_⟩
    · refine ⟨_, rfl, _, _, rfl, rfl, _, rfl, ite2 (fun e => ?_) (fun e => ?_)⟩
      · have e := of_decide_eq_true e
        refine ⟨_, rfl, _, rfl, r, ds4, rfl, kw0.hr, fun n1 ds5 => .inl ⟨n1, rfl, _, rfl, _, _, rfl, rfl, e, (by show 2 ≤ sizeLine; omega), fun tw ntw => ?_⟩⟩
        have k9 := (kw0.next (ds' := ds5)).same (same_upd (o := .tup [.int ch, .int (n1 % ch)]) ntw)
        exact ⟨tw, ch, n1 % ch, ds5, isW_pr (hch.resolve_left (by omega)) (Int.emod_nonneg _ (by omega)) (Int.emod_lt_of_pos _ e), rfl, k9.hr, upd_same⟩
      · exact ⟨tw0, 0, d0, ds4, isW_0 h0 h1, rfl, kw0⟩
    clear kw0 hch h0 h1
    rintro σ H9 ⟨tw, p', d', ds6, ew, rfl, kw⟩
    generalize V.int p = b2
    generalize V.int d = b3
    generalize V.int ch = b7
    obtain ⟨hp, _⟩ := isW_cases ew
    have noW : isW p' d' = false → False := fun z => nomatch ew.symm.trans z
    refine ⟨fun σ H' => ∃ (tx : Addr) (a : Int) (ds : List Int), isN p' a 1 = true ∧ a.natAbs ≤ 45 ∧ σ = [some (.ref sc), some (.ref r), some b2, some b3, some b4, some b5, some (.ref tw), some b7, some (.ref tx), none, none, none, none, none, none] ∧ KX H' r tw tx p' d' a ds, ?_, ?_⟩
    · refine ⟨_, rfl, _, rfl, r, ds6, rfl, kw.hr, fun n1 ds5 => .inl ⟨n1, rfl, n1, 90, rfl, rfl, (by decide : (0 : Int) < 90), _, _, rfl, rfl, ?_⟩⟩
      have k9 := kw.next (ds' := ds5)
      refine ⟨tw, p', d', n1 % 90 - 45, 1, rfl, .inl (.inl k9.hw), by decide, fun z => (noW z).elim, fun _ z => ?_, fun _ _ tx u v hn ntx => ?_⟩
      · rcases z with z | ⟨z1, z2⟩
        · exact absurd z (by decide)
        · have := prime_pos (hp.resolve_left (by omega))
          rw [Int.emod_eq_of_lt (by decide) (by omega)] at z2
          exact absurd z2 (by decide)
      · obtain ⟨rfl, u45, hN⟩ := num_int hp (by omega) hn
        exact ⟨tx, u, ds5, hN, u45, rfl, k9.same (same_upd ntx), upd_same⟩
    clear kw
    rintro σ H10 ⟨tx, a, ds7, hN, a45, rfl, kx⟩
    have noN : isN p' a 1 = false → False := fun z => nomatch hN.symm.trans z
    have bad1 : ¬ bad p' 1 := fun z => by
      rcases z with z | ⟨z1, z2⟩
      · exact absurd z (by decide)
      · have := prime_pos (hp.resolve_left (by omega))
        rw [Int.emod_eq_of_lt (by decide) (by omega)] at z2
        exact absurd z2 (by decide)
    refine ⟨fun σ H' => σ = [some (.ref sc), some (.ref r), some b2, some b3, some b4, some b5, some (.ref tw), some b7, some (.ref tx), none, none, none, none, none, none] ∧ KX H' r tw tx p' d' a ds7, ?_, ?_⟩
    · refine ⟨_, rfl, (by show 2 ≤ sizeLine; omega), fun t1 nt1 => ?_⟩
      have k11 := kx.same (same_upd (o := .tup [.int 0, .int 1]) nt1)
      refine ⟨dT [a, 1], dT [0, 1], TP.dp ⟨tx, rfl, k11.hx⟩, TP.dp ⟨t1, rfl, upd_same⟩, dT_shaped _, dT_shaped _, ?_⟩
      rw [eqv_pair]
      by_cases a0 : a = 0
      · rw [decide_eq_true ⟨a0, rfl⟩]
        exact ⟨_, rfl, if_neg_of Bool.false_ne_true (if_neg_of Bool.false_ne_true ⟨rfl, k11⟩)⟩
      · rw [decide_eq_false (fun z => a0 z.1)]
        refine ⟨_, rfl, if_pos_of rfl ?_⟩
        have pN := isN_pos hN hp
        have nb : ¬ bad p' (1 * a) := fun z => by
          rw [Int.one_mul] at z
          rcases z with z | ⟨z1, z2⟩
          · exact a0 z
          · have := pN.2 (by omega)
            rw [Int.emod_eq_of_lt this.2.1 this.2.2] at z2
            exact a0 z2
        refine ⟨_, rfl, _, rfl, _, rfl, (by show 2 ≤ sizeLine; omega), fun t2 nt2 => ?_⟩
        have k12 := k11.same (same_upd (o := .tup [.int 1, .int 1]) nt2)
        refine ⟨_, rfl, tw, t2, tx, p', d', 1, 1, a, 1, rfl, .inl (.inl k12.kw.hw), .inl (.inl upd_same), .inl (.inl k12.hx), fun z => (noW z).elim, fun _ z => ?_, fun _ _ _ => ⟨⟨(show CMulW 1 1 from cmul_45 (by decide +kernel) (by decide +kernel)), (show CMulW 1 a from cmul_45 (by decide +kernel) (Nat.le_trans a45 (by decide +kernel))), ?_⟩, fun z => (nb z).elim, fun _ t3 u v hn nt3 => ?_⟩⟩
        · rcases z with z | z
          · rw [show isN p' 1 1 = true from ?_] at z
            · exact nomatch z
            · unfold isN
              by_cases c : p' = 0
              · rw [if_pos c]
                decide
              · have := prime_pos (hp.resolve_left c)
                rw [if_neg c, if_pos rfl, if_pos (by decide)]
                exact decide_eq_true (by omega)
          · exact (noN z).elim
        · show (1 * a).natAbs < _
          rw [Int.one_mul]
          omega
        · have k13 := k12.same (same_upd (o := .tup [.int u, .int v]) nt3)
          obtain ⟨nN, u45, v45, nb2, both⟩ := inv_of hp hN a45 hn a0
          refine ⟨tw, tx, t3, p', d', a, 1, u, v, rfl, .inl (.inl k13.kw.hw), .inl (.inl k13.hx), .inl (.inl upd_same), fun z => (noW z).elim, fun _ z => ?_, fun _ _ _ => ⟨⟨(show CMulW a u from cmul_45 (Nat.le_trans a45 (by decide +kernel)) (Nat.le_trans u45 (by decide +kernel))), (show CMulW 1 v from cmul_45 (by decide +kernel) (Nat.le_trans v45 (by decide +kernel))), ?_⟩, fun z => (nb2 z).elim, fun _ t4 u' v' hn' nt4 => ?_⟩⟩
          · rcases z with z | z
            · exact (noN z).elim
            · exact nomatch nN.symm.trans z
          · show (1 * v).natAbs < _
            rw [Int.one_mul]
            omega
          · obtain ⟨rfl, rfl⟩ := both u' v' hn'
            refine ⟨(by show 2 ≤ sizeLine; omega), fun t5 nt5 => ?_⟩
            have w4 := same_upd (o := .tup [.int 1, .int 1]) nt4
            have w5 := same_upd (o := .tup [.int 1, .int 1]) nt5
            refine ⟨dT [1, 1], dT [1, 1], TP.dp ⟨t4, rfl, w5 _ _ upd_same⟩, TP.dp ⟨t5, rfl, upd_same⟩, dT_shaped _, dT_shaped _, ?_⟩
            rw [eqv_pair, decide_eq_true ⟨rfl, rfl⟩]
            exact ⟨_, rfl, if_neg_of Bool.false_ne_true ⟨rfl, (k13.same w4).same w5⟩⟩
    clear kx
    rintro σ H11 ⟨rfl, kx⟩
    refine ⟨fun σ H' => ∃ (tl : Addr) (u v : Int), σ = [some (.ref sc), some (.ref r), some b2, some b3, some b4, some b5, some (.ref tw), some b7, some (.ref tx), some (.ref tl), none, none, none, none, none] ∧ KX H' r tw tx p' d' a ds7 ∧ SqT K H' tl [.int u, .int v] ∧ IsNum p' (a ^ 200) (1 ^ 200) u v, ?_, ?_⟩
    · refine ⟨_, rfl, _, rfl, tw, tx, p', d', a, 1, 200, rfl, .inl (.inl kx.kw.hw), .inl (.inl kx.hx), fun z => (noW z).elim, fun _ z => (noN z).elim, fun _ _ z => absurd ⟨by decide, by decide⟩ z, fun _ _ _ _ => ⟨rfl, a45, fun tl u v H12 hn s12 hl => ?_⟩⟩
      exact ⟨tl, u, v, rfl, kx.same s12, hl, hn⟩
    clear kx
    rintro σ H12 ⟨tl, u, v, rfl, kx, hl, hn⟩
    refine ⟨fun σ H' => σ = [some (.ref sc), some (.ref r), some b2, some b3, some b4, some b5, some (.ref tw), some b7, some (.ref tx), some (.ref tl), none, none, none, none, none] ∧ KX H' r tw tx p' d' a ds7, ?_, ?_⟩
    · refine ⟨_, rfl, _, rfl, _, rfl, _, rfl, tw, tx, p', d', a, 1, 99, rfl, .inl (.inl kx.kw.hw), .inl (.inl kx.hx), fun z => (noW z).elim, fun _ z => (noN z).elim, fun _ _ z => absurd ⟨by decide, by decide⟩ z, fun _ _ _ _ => ⟨rfl, a45, fun t1 u1 v1 H13 hn1 s13 h1 => ?_⟩⟩
      have k13 := kx.same s13
      refine ⟨_, rfl, _, rfl, tw, tx, p', d', a, 1, 101, rfl, .inl (.inl k13.kw.hw), .inl (.inl k13.hx), fun z => (noW z).elim, fun _ z => (noN z).elim, fun _ _ z => absurd ⟨by decide, by decide⟩ z, fun _ _ _ _ => ⟨rfl, a45, fun t2 u2 v2 H14 hn2 s14 h2 => ?_⟩⟩
      have k14 := k13.same s14
      have hn1 : IsNum p' (a ^ 99) (1 ^ 99) u1 v1 := hn1
      have hn2 : IsNum p' (a ^ 101) (1 ^ 101) u2 v2 := hn2
      obtain ⟨e1, b1'⟩ := num_45 hp a45 (by decide) hn1
      obtain ⟨e2, b2'⟩ := num_45 hp a45 (by decide) hn2
      have one : ∀ k : Nat, p' = 0 → (1 : Int) ^ k ≠ 0 := fun k _ => by rw [Int.one_pow]; decide
      have n1 := num_isN hp (one 99) hn1
      have n2 := num_isN hp (one 101) hn2
      refine ⟨tw, t1, t2, p', d', u1, v1, u2, v2, rfl, .inl (.inl k14.kw.hw), sqT_same s14 h1, h2, fun z => (noW z).elim, fun _ z => ?_, fun _ _ _ => ⟨⟨(show CMulW u1 u2 from cmul_45 b1' b2'), (show CMulW v1 v2 from cmul_45 (by rw [e1]; decide +kernel) (by rw [e2]; decide +kernel)), ?_⟩, fun z => ?_, fun _ t3 u3 v3 hn3 nt3 => ?_⟩⟩
      · rcases z with z | z
        · exact nomatch n1.symm.trans z
        · exact nomatch n2.symm.trans z
      · show (v1 * v2).natAbs < _
        rw [e1, e2]
        decide
      · have z : bad p' (v1 * v2) := z
        rw [e1, e2] at z
        exact (bad1 z).elim
      · have both := pow_mul hp hn1 hn2 e1 e2 hn3
        obtain ⟨rfl, rfl⟩ := num_unique hp (by rw [Int.one_pow]; exact bad1) hn both
        have w3 := same_upd (o := .tup [.int u, .int v]) nt3
        have k15 := k14.same w3
        refine ⟨dT [u, v], dT [u, v], dT_sq (sqT_same (Same.trans s13 (Same.trans s14 w3)) hl), TP.dp ⟨t3, rfl, upd_same⟩, dT_shaped _, dT_shaped _, ?_⟩
        rw [eqv_pair, decide_eq_true ⟨rfl, rfl⟩]
        refine ⟨_, rfl, if_neg_of Bool.false_ne_true ?_⟩
        refine ⟨_, rfl, _, rfl, tw, tx, p', d', a, 1, 0, rfl, .inl (.inl k15.kw.hw), .inl (.inl k15.hx), fun z => (noW z).elim, fun _ z => (noN z).elim, fun _ _ z => absurd ⟨by decide, by decide⟩ z, fun _ _ _ _ => ⟨rfl, a45, fun t4 u4 v4 H16 hn4 s16 h4 => ?_⟩⟩
        have hn4 : IsNum p' (a ^ 0) (1 ^ 0) u4 v4 := hn4
        obtain ⟨rfl, rfl⟩ : u4 = 1 ∧ v4 = 1 := by
          rw [Int.pow_zero, Int.pow_zero] at hn4
          rcases hn4 with ⟨h0, rfl, l1, u1', m1⟩ | ⟨h0, e1⟩
          · have := prime_pos (hp.resolve_left (by omega))
            refine ⟨?_, rfl⟩
            rw [Int.mul_one] at m1
            obtain ⟨c, hc⟩ := Int.dvd_of_emod_eq_zero m1
            by_cases c0 : c = 0
            · rw [c0, Int.mul_zero] at hc
              omega
            · exfalso
              have : p' ≤ p' * c ∨ p' * c ≤ -p' := by
                rcases (show 1 ≤ c ∨ c ≤ -1 by omega) with k | k
                · exact .inl (by have := Int.mul_le_mul_of_nonneg_left k (show 0 ≤ p' by omega); omega)
                · exact .inr (by have := Int.mul_le_mul_of_nonneg_left k (show 0 ≤ p' by omega); omega)
              omega
          · rw [low_1] at e1
            exact Prod.mk.inj e1
        refine ⟨(by show 2 ≤ sizeLine; omega), fun t5 nt5 => ?_⟩
        have w5 := same_upd (o := .tup [.int 1, .int 1]) nt5
        refine ⟨dT [1, 1], dT [1, 1], dT_sq (sqT_same w5 h4), TP.dp ⟨t5, rfl, upd_same⟩, dT_shaped _, dT_shaped _, ?_⟩
        rw [eqv_pair, decide_eq_true ⟨rfl, rfl⟩]
        exact ⟨_, rfl, if_neg_of Bool.false_ne_true ⟨rfl, (k15.same s16).same w5⟩⟩
    clear hl hn
    have kw := kx.kw
    clear kx
    rintro σ H13 ⟨rfl, kx⟩
    have kw := kx.kw
    clear kx
    generalize V.ref tx = b8
    generalize V.ref tl = b9
    refine ⟨fun σ H' => ∃ ds, σ = [some (.ref sc), some (.ref r), some b2, some b3, some b4, some b5, some (.ref tw), some b7, some b8, some b9, none, none, none, none, none] ∧ KW H' r tw p' d' ds, ?_, ?_⟩
    · refine ⟨_, rfl, r, ds7, rfl, kw.hr, fun n1 ds8 => .inl ⟨n1, rfl, n1, 40, rfl, rfl, (by decide : (0 : Int) < 40), n1 % 40, rfl, by omega, by omega, fun H14 s14 => ?_⟩⟩
      have k14 := (kw.next (ds' := ds8)).same s14
      refine ⟨_, rfl, if_neg_of Bool.false_ne_true ⟨_, rfl, r, ds8, rfl, k14.hr, fun ds9 H15 sb15 hr15 => ?_⟩⟩
      exact ⟨_, rfl, if_neg_of Bool.false_ne_true ⟨ds9, rfl, hr15, sb15 _ _ (ne_of k14.hw k14.hr fun z => nomatch z) k14.hw⟩⟩
    clear kw
    rintro σ H14 ⟨ds8, rfl, kw⟩
    refine ⟨fun σ H' => ∃ (tz : Addr) (l ds : List Int), isP l = false ∧ σ = [some (.ref sc), some (.ref r), some b2, some b3, some b4, some b5, some (.ref tw), some b7, some b8, some b9, some (.ref tz), none, none, none, none] ∧ KW H' r tw p' d' ds ∧ SqT K H' tz (l.map V.int), ?_, ?_⟩
    · refine ⟨(by show 1 ≤ sizeLine; omega), fun t1 nt1 => ⟨(by show 2 ≤ sizeLine; omega), fun t2 nt2 => ⟨(by show 1 ≤ sizeLine; omega), fun t3 nt3 => ?_⟩⟩⟩
      have w1 := same_upd (o := .tup [V.int 0]) nt1
      have w2 := same_upd (o := .tup [V.int 1, V.int 0]) nt2
      have w3 := same_upd (o := .tup [V.int 1]) nt3
      refine ⟨t3, 201, [.int 1], rfl, rfl, .inl (.inl upd_same), List.cons_ne_nil _ _, by decide, by decide, by decide, fun t4 H5 s5 ht4 => ?_⟩
      refine ⟨(by show 3 ≤ sizeLine; omega), fun L nL => ?_⟩
      have w5 := same_upd (o := .lst [.ref t1, .ref t2, .ref t4]) nL
      have s6 := Same.trans w1 (Same.trans w2 (Same.trans w3 (Same.trans s5 w5)))
      have k6 := kw.same s6
      have Lr : L ≠ r := (ne_of_none (Same.trans w1 (Same.trans w2 (Same.trans w3 s5)) _ _ kw.hr) nL).symm
      have h1 : SqT K (upd H5 L (.lst [.ref t1, .ref t2, .ref t4])) t1 (([0] : List Int).map V.int) := .inl (.inl (Same.trans w2 (Same.trans w3 (Same.trans s5 w5)) _ _ upd_same))
      have h2 : SqT K (upd H5 L (.lst [.ref t1, .ref t2, .ref t4])) t2 (([1, 0] : List Int).map V.int) := .inl (.inl (Same.trans w3 (Same.trans s5 w5) _ _ upd_same))
      have h4 : SqT K (upd H5 L (.lst [.ref t1, .ref t2, .ref t4])) t4 ((List.replicate 201 (1 : Int)).map V.int) := by
        rw [List.map_replicate]
        rw [show ((201 : Int).toNat) = 201 from rfl, repT] at ht4
        exact sqT_same w5 ht4
      have hL : upd H5 L (.lst [.ref t1, .ref t2, .ref t4]) L = some (.lst [.ref t1, .ref t2, .ref t4]) := upd_same
      revert h1 h2 h4 hL k6
      generalize upd H5 L (.lst [.ref t1, .ref t2, .ref t4]) = H6
      intro k6 h1 h2 h4 hL
      refine ⟨_, rfl, r, ds8, rfl, k6.hr, fun n1 ds9 => .inl ⟨n1, rfl, n1, 3, rfl, rfl, (by decide : (0 : Int) < 3), ?_⟩⟩
      have k7 := k6.next (ds' := ds9)
      have hL7 : upd H6 r (.lst (ds9.map V.int)) L = some (.lst [.ref t1, .ref t2, .ref t4]) := by rw [upd_ne Lr]; exact hL
      have b7 : ∀ {x : Addr} {xs : List V}, SqT K H6 x xs → SqT K (upd H6 r (.lst (ds9.map V.int))) x xs := fun h => sqT_butL k6.hr SameBut.upd h
      obtain ⟨k, hk, ek⟩ : ∃ k : Nat, k < 3 ∧ n1 % 3 = (k : Int) := ⟨(n1 % 3).toNat, by omega, by omega⟩
      dsimp only
      rw [ek]
      rcases (show k = 0 ∨ k = 1 ∨ k = 2 by omega) with rfl | rfl | rfl
      · exact ⟨L, _, _, .ref t1, rfl, rfl, .inl (.inl hL7), atI_nat (j := 0) rfl, t1, [0], ds9, isP_0, rfl, k7, b7 h1⟩
      · exact ⟨L, _, _, .ref t2, rfl, rfl, .inl (.inl hL7), atI_nat (j := 1) rfl, t2, [1, 0], ds9, isP_10, rfl, k7, b7 h2⟩
      · exact ⟨L, _, _, .ref t4, rfl, rfl, .inl (.inl hL7), atI_nat (j := 2) rfl, t4, List.replicate 201 1, ds9, isP_201, rfl, k7, b7 h4⟩
    clear kw
    rintro σ H15 ⟨tz, l, ds9, hl, rfl, kw, hz⟩
    refine ⟨fun σ H' => ∃ (ty : Addr) (a b : Int) (ds : List Int), isN p' a b = false ∧ σ = [some (.ref sc), some (.ref r), some b2, some b3, some b4, some b5, some (.ref tw), some b7, some b8, some b9, some (.ref tz), some (.ref ty), none, none, none] ∧ KZ K H' r tw tz ty p' d' a b l ds, ?_, ?_⟩
    · refine ⟨(by show 2 ≤ sizeLine; omega), fun t1 nt1 => ⟨1, rfl, (by show 2 ≤ sizeLine; omega), fun t2 nt2 => ⟨(by show 2 ≤ sizeLine; omega), fun t3 nt3 => ⟨(by show 3 ≤ sizeLine; omega), fun L nL => ?_⟩⟩⟩⟩
      have w1 := same_upd (o := .tup [V.int 2, V.int 0]) nt1
      have w2 := same_upd (o := .tup [V.int 3, V.int (-1)]) nt2
      have w3 := same_upd (o := .tup [V.int 4, V.int 6]) nt3
      have w5 := same_upd (o := .lst [.ref t1, .ref t2, .ref t3]) nL
      have s6 := Same.trans w1 (Same.trans w2 (Same.trans w3 w5))
      have k6 := kw.same s6
      have z6 := sqT_same s6 hz
      have Lr : L ≠ r := (ne_of_none (Same.trans w1 (Same.trans w2 w3) _ _ kw.hr) nL).symm
      have h1 := Same.trans w2 (Same.trans w3 w5) _ _ (upd_same (H := H15) (a := t1) (o := .tup [V.int 2, V.int 0]))
      have h2 := Same.trans w3 w5 _ _ (upd_same (a := t2) (o := .tup [V.int 3, V.int (-1)]))
      have h3 := w5 _ _ (upd_same (a := t3) (o := .tup [V.int 4, V.int 6]))
      have hL : upd (upd (upd (upd H15 t1 (.tup [V.int 2, V.int 0])) t2 (.tup [V.int 3, V.int (-1)])) t3 (.tup [V.int 4, V.int 6])) L (.lst [.ref t1, .ref t2, .ref t3]) L = some (.lst [.ref t1, .ref t2, .ref t3]) := upd_same
      revert h1 h2 h3 hL k6 z6
      generalize upd (upd (upd (upd H15 t1 (.tup [V.int 2, V.int 0])) t2 (.tup [V.int 3, V.int (-1)])) t3 (.tup [V.int 4, V.int 6])) L (.lst [.ref t1, .ref t2, .ref t3]) = H6
      intro k6 z6 h1 h2 h3 hL
      refine ⟨_, rfl, r, ds9, rfl, k6.hr, fun n1 ds10 => .inl ⟨n1, rfl, n1, 3, rfl, rfl, (by decide : (0 : Int) < 3), ?_⟩⟩
      have k7 := k6.next (ds' := ds10)
      have z7 := sqT_butL k6.hr (SameBut.upd (o := .lst (ds10.map V.int))) z6
      have hL7 : upd H6 r (.lst (ds10.map V.int)) L = some (.lst [.ref t1, .ref t2, .ref t3]) := by rw [upd_ne Lr]; exact hL
      have tn : ∀ {x : Addr} {xs : List V}, H6 x = some (.tup xs) → upd H6 r (.lst (ds10.map V.int)) x = some (.tup xs) := fun h => by rw [upd_ne (ne_of h k6.hr fun z => nomatch z)]; exact h
      obtain ⟨k, hk, ek⟩ : ∃ k : Nat, k < 3 ∧ n1 % 3 = (k : Int) := ⟨(n1 % 3).toNat, by omega, by omega⟩
      dsimp only
      rw [ek]
      rcases (show k = 0 ∨ k = 1 ∨ k = 2 by omega) with rfl | rfl | rfl
      · exact ⟨L, _, _, .ref t1, rfl, rfl, .inl (.inl hL7), atI_nat (j := 0) rfl, t1, 2, 0, ds10, notN hp (by decide) (by decide), rfl, k7, z7, tn h1⟩
      · exact ⟨L, _, _, .ref t2, rfl, rfl, .inl (.inl hL7), atI_nat (j := 1) rfl, t2, 3, -1, ds10, notN hp (by decide) (by decide), rfl, k7, z7, tn h2⟩
      · exact ⟨L, _, _, .ref t3, rfl, rfl, .inl (.inl hL7), atI_nat (j := 2) rfl, t3, 4, 6, ds10, notN hp (by decide) (by decide), rfl, k7, z7, tn h3⟩
    clear kw hz
    rintro σ H16 ⟨ty, a', b', ds10, hbn, rfl, kz⟩
    refine ⟨fun σ H' => ∃ v12, σ = [some (.ref sc), some (.ref r), some b2, some b3, some b4, some b5, some (.ref tw), some b7, some b8, some b9, some (.ref tz), some (.ref ty), v12, none, none] ∧ KZ K H' r tw tz ty p' d' a' b' l ds10, ?_, ?_⟩
    · refine ⟨(by show 5 ≤ sizeLine; omega), fun L nL => ?_⟩
      have w1 := same_upd (o := .lst [V.int 0, .int 1, .int 2, .int 6, .int 7]) nL
      refine ⟨L, rfl, ⟨_, .inl (.inl upd_same)⟩, for_list (xs := [V.int 0, .int 1, .int 2, .int 6, .int 7]) (fun i σ H' => ∃ v12, σ = [some (.ref sc), some (.ref r), some b2, some b3, some b4, some b5, some (.ref tw), some b7, some b8, some b9, some (.ref tz), some (.ref ty), v12, none, none] ∧ KZ K H' r tw tz ty p' d' a' b' l ds10 ∧ H' L = some (.lst [V.int 0, .int 1, .int 2, .int 6, .int 7])) ⟨none, rfl, kz.same w1, upd_same⟩ (fun i σ H' _ ⟨_, _, _, h⟩ => .inl (.inl h)) (fun i x σ H17 hx hP => ?_) (fun σ H17 hP => ?_)⟩
      · obtain ⟨v12, rfl, k17, hL⟩ := hP
        obtain ⟨way, rfl, hw⟩ : ∃ way : Int, x = .int way ∧ way ∈ ([0, 1, 2, 6, 7] : List Int) := by
          have m := List.mem_of_getElem? hx
          simp only [List.mem_cons, List.not_mem_nil, or_false] at m
          rcases m with rfl | rfl | rfl | rfl | rfl <;> exact ⟨_, rfl, by decide⟩
        refine ⟨_, rfl, (by show 2 ≤ sizeLine; omega), fun t1 nt1 => ?_⟩
        have w2 := same_upd (o := .tup [V.int 4, V.int 1]) nt1
        have k18 := k17.same w2
        refine ⟨_, rfl, _, rfl, way, t1, ty, tz, 4, 1, a', b', l, "!world", rfl, .inl (.inl upd_same), .inl (.inl k18.hy), k18.hz, told_w (by decide) way hw, fun H19 s19 => ?_⟩
        have k19 := k18.same s19
        refine ⟨rfl, _, rfl, if_neg_of (by rw [decide_eq_true rfl]; exact Bool.false_ne_true) ?_⟩
        refine ⟨_, rfl, (by show 2 ≤ sizeLine; omega), fun t2 nt2 => ?_⟩
        have w3 := same_upd (o := .tup [V.int 0, V.int 21]) nt2
        have k20 := k19.same w3
        refine ⟨_, rfl, _, rfl, way, t2, ty, tz, 0, 21, a', b', l, "!world", rfl, .inl (.inl upd_same), .inl (.inl k20.hy), k20.hz, told_w (by decide) way hw, fun H21 s21 => ?_⟩
        exact ⟨rfl, _, rfl, if_neg_of (by rw [decide_eq_true rfl]; exact Bool.false_ne_true) ⟨_, rfl, k20.same s21, s21 _ _ (w3 _ _ (s19 _ _ (w2 _ _ hL)))⟩⟩
      · obtain ⟨v12, rfl, k17, _⟩ := hP
        exact ⟨v12, rfl, k17⟩
    clear kz
    rintro σ H17 ⟨v12, rfl, kz⟩
    refine ⟨fun σ H' => ∃ D, σ = [some (.ref sc), some (.ref r), some b2, some b3, some b4, some b5, some (.ref tw), some b7, some b8, some b9, some (.ref tz), some (.ref ty), v12, some (.ref D), none] ∧ KZ K H' r tw tz ty p' d' a' b' l ds10 ∧ H' D = some (.lst (toldS.map V.str)), ?_, ?_⟩
    · refine ⟨6, rfl, by decide, by decide, fun D nD => ?_⟩
      have kD : ∀ {H' : Hp}, SameBut D H17 H' → Same H17 H' := fun sb b o e => sb b o (ne_of_none e nD) e
      refine lc_range (lo := 0) (n := 6) (fun i H' => SameBut D H17 H' ∧ H' D = some (.lst ((toldS.take i).map V.str))) ⟨SameBut.upd, upd_same⟩ (fun i H18 hi hP => ?_) (fun H18 hP => ?_)
      · obtain ⟨sb, hD⟩ := hP
        have k18 := kz.same (kD sb)
        obtain ⟨t, et, ht⟩ := told_6 ew hbn hl hi
        refine ⟨rfl, ?_⟩
        refine ⟨_, rfl, _, rfl, _, rfl, _, rfl, (i : Int), tw, ty, tz, p', d', a', b', l, t, by rw [Int.zero_add]; rfl, .inl (.inl k18.kw.hw), .inl (.inl k18.hy), k18.hz, ht, fun H19 s19 => ?_⟩
        refine ⟨_, s19 _ _ hD, ?_, (sb.trans fun b o _ e => s19 b o e).trans SameBut.upd, ?_⟩
        · rw [List.length_map, List.length_take]
          exact Nat.lt_of_le_of_lt (Nat.min_le_left _ _) (by show i < sizeLine; omega)
        · rw [upd_same, List.take_succ, et, List.map_append]
          rfl
      · obtain ⟨sb, hD⟩ := hP
        exact ⟨D, rfl, kz.same (kD sb), hD⟩
    clear kz
    rintro σ H18 ⟨D, rfl, kz, hD⟩
    refine ⟨fun σ H' => σ = [some (.ref sc), some (.ref r), some b2, some b3, some b4, some b5, some (.ref tw), some b7, some b8, some b9, some (.ref tz), some (.ref ty), v12, some (.ref D), none] ∧ KZ K H' r tw tz ty p' d' a' b' l ds10, ?_, ?_⟩
    · refine ⟨_, rfl, (by show 6 ≤ sizeLine; omega), fun L nL => ?_⟩
      have w1 := same_upd (o := .lst (toldS.map V.str)) nL
      refine ⟨.list (toldS.map PyData.str), .list (toldS.map PyData.str), .lst (.inl (.inl (w1 _ _ hD))) (strs_dp8 toldS), .lst (.inl (.inl upd_same)) (strs_dp8 toldS), shaped_told, shaped_told, ?_⟩
      rw [eqv_told]
      have k19 := kz.same w1
      refine ⟨_, rfl, if_neg_of Bool.false_ne_true ?_⟩
      refine ⟨_, rfl, _, rfl, _, rfl, 7, tw, ty, tz, p', d', a', b', l, "!number", rfl, .inl (.inl k19.kw.hw), .inl (.inl k19.hy), k19.hz, told_7 ew, fun H20 s20 => ?_⟩
      exact ⟨rfl, _, rfl, if_neg_of (by rw [decide_eq_true rfl]; exact Bool.false_ne_true) ⟨rfl, k19.same s20⟩⟩
    clear kz hD
    rintro σ H19 ⟨rfl, kz⟩
    refine ⟨_, rfl, _, rfl, (by show 0 ≤ sizeLine; omega), fun t1 nt1 => ?_⟩
    have k20 := kz.same (same_upd (o := .tup []) nt1)
    refine ⟨4, tw, ty, t1, p', d', a', b', [], "!answer", rfl, .inl (.inl k20.kw.hw), .inl (.inl k20.hy), .inl (.inl upd_same), told_4, fun H21 s21 => ?_⟩
    refine ⟨rfl, _, rfl, if_pos_of (decide_eq_true rfl) ?_⟩
    have e0 : isP [] = true := by decide
    refine ⟨(by show 0 ≤ sizeLine; omega), fun t2 nt2 => ⟨t2, [], rfl, .inl (.inl upd_same), fun z => (nomatch e0.symm.trans z), fun _ D2 H23 s23 _ hD2 => ⟨(by show 0 ≤ sizeLine; omega), fun L nL => ?_⟩⟩⟩
    refine ⟨.list [], .list [], .lst (.inl (.inl (same_upd nL _ _ hD2))) .nil, .lst (.inl (.inl upd_same)) .nil, by decide, by decide, ?_⟩
    refine ⟨_, rfl, if_pos_of (by decide) ?_⟩
    refine ⟨(by show 0 ≤ sizeLine; omega), fun t3 nt3 => ⟨t3, 5, [], rfl, .inl (.inl upd_same), fun z => (nomatch e0.symm.trans z), fun _ => ⟨by decide, fun H25 s25 => ?_⟩⟩⟩
    exact ⟨rfl, q _⟩
end

theorem all_mk {P : Program} {w : World} {K : PySem.W.Frag} {h : Heap} {mg : Str → Option Value} {fa : Addr} (X : K.In h) (G : h.Ns mainGlobals mg) (hfa : mg "law" = some (.ref fa))
    {f_is_world : Addr} {od_is_world an_is_world : Option Addr} {sl_is_world : Array (Option Value)} {oc_is_world kV_is_world dc_is_world pm_is_world cd_is_world ct_is_world : Value}
    {f_law_number : Addr} {od_law_number an_law_number : Option Addr} {sl_law_number : Array (Option Value)} {oc_law_number kV_law_number dc_law_number pm_law_number cd_law_number ct_law_number : Value}
    {f_law_next : Addr} {od_law_next an_law_next : Option Addr} {sl_law_next : Array (Option Value)} {oc_law_next kV_law_next dc_law_next pm_law_next cd_law_next ct_law_next : Value}
    {f_law_draws : Addr} {od_law_draws an_law_draws : Option Addr} {sl_law_draws : Array (Option Value)} {oc_law_draws kV_law_draws dc_law_draws pm_law_draws cd_law_draws ct_law_draws : Value}
    {f_check_world : Addr} {od_check_world an_check_world : Option Addr} {sl_check_world : Array (Option Value)} {oc_check_world kV_check_world dc_check_world pm_check_world cd_check_world ct_check_world : Value}
    {f_is_number : Addr} {od_is_number an_is_number : Option Addr} {sl_is_number : Array (Option Value)} {oc_is_number kV_is_number dc_is_number pm_is_number cd_is_number ct_is_number : Value}
    {f_check_number : Addr} {od_check_number an_check_number : Option Addr} {sl_check_number : Array (Option Value)} {oc_check_number kV_check_number dc_check_number pm_check_number cd_check_number ct_check_number : Value}
    {f_lowest_ : Addr} {od_lowest_ an_lowest_ : Option Addr} {sl_lowest_ : Array (Option Value)} {oc_lowest_ kV_lowest_ dc_lowest_ pm_lowest_ cd_lowest_ ct_lowest_ : Value}
    {f_inverse_ : Addr} {od_inverse_ an_inverse_ : Option Addr} {sl_inverse_ : Array (Option Value)} {oc_inverse_ kV_inverse_ dc_inverse_ pm_inverse_ cd_inverse_ ct_inverse_ : Value}
    {dT_number : Addr}
    {f_number : Addr} {od_number an_number : Option Addr} {sl_number : Array (Option Value)} {oc_number kV_number dc_number pm_number cd_number ct_number : Value}
    {f_loop_worth : Addr} {od_loop_worth an_loop_worth : Option Addr} {sl_loop_worth : Array (Option Value)} {oc_loop_worth kV_loop_worth dc_loop_worth pm_loop_worth cd_loop_worth ct_loop_worth : Value}
    {f_check_two_ : Addr} {od_check_two_ an_check_two_ : Option Addr} {sl_check_two_ : Array (Option Value)} {oc_check_two_ kV_check_two_ dc_check_two_ pm_check_two_ cd_check_two_ ct_check_two_ : Value}
    {f_times : Addr} {od_times an_times : Option Addr} {sl_times : Array (Option Value)} {oc_times kV_times dc_times pm_times cd_times ct_times : Value}
    {f_over : Addr} {od_over an_over : Option Addr} {sl_over : Array (Option Value)} {oc_over kV_over dc_over pm_over cd_over ct_over : Value}
    {f_power : Addr} {od_power an_power : Option Addr} {sl_power : Array (Option Value)} {oc_power kV_power dc_power pm_power cd_power ct_power : Value}
    {f_integer_text_ : Addr} {od_integer_text_ an_integer_text_ : Option Addr} {sl_integer_text_ : Array (Option Value)} {oc_integer_text_ kV_integer_text_ dc_integer_text_ pm_integer_text_ cd_integer_text_ ct_integer_text_ : Value}
    {f_number_text : Addr} {od_number_text an_number_text : Option Addr} {sl_number_text : Array (Option Value)} {oc_number_text kV_number_text dc_number_text pm_number_text cd_number_text ct_number_text : Value}
    {f_Malformed_init : Addr} {od_Malformed_init an_Malformed_init : Option Addr} {sl_Malformed_init : Array (Option Value)} {oc_Malformed_init kV_Malformed_init dc_Malformed_init pm_Malformed_init cd_Malformed_init ct_Malformed_init : Value}
    {f_figure_count_ : Addr} {od_figure_count_ an_figure_count_ : Option Addr} {sl_figure_count_ : Array (Option Value)} {oc_figure_count_ kV_figure_count_ dc_figure_count_ pm_figure_count_ cd_figure_count_ ct_figure_count_ : Value}
    {f_is_integer_ : Addr} {od_is_integer_ an_is_integer_ : Option Addr} {sl_is_integer_ : Array (Option Value)} {oc_is_integer_ kV_is_integer_ dc_is_integer_ pm_is_integer_ cd_is_integer_ ct_is_integer_ : Value}
    {f_integer_of_ : Addr} {od_integer_of_ an_integer_of_ : Option Addr} {sl_integer_of_ : Array (Option Value)} {oc_integer_of_ kV_integer_of_ dc_integer_of_ pm_integer_of_ cd_integer_of_ ct_integer_of_ : Value}
    {f_read_any_number : Addr} {od_read_any_number an_read_any_number : Option Addr} {sl_read_any_number : Array (Option Value)} {oc_read_any_number kV_read_any_number dc_read_any_number pm_read_any_number cd_read_any_number ct_read_any_number : Value}
    {f_read_number : Addr} {od_read_number an_read_number : Option Addr} {sl_read_number : Array (Option Value)} {oc_read_number kV_read_number dc_read_number pm_read_number cd_read_number ct_read_number : Value}
    {f_is_poly : Addr} {od_is_poly an_is_poly : Option Addr} {sl_is_poly : Array (Option Value)} {oc_is_poly kV_is_poly dc_is_poly pm_is_poly cd_is_poly ct_is_poly : Value}
    {f_check_poly : Addr} {od_check_poly an_check_poly : Option Addr} {sl_check_poly : Array (Option Value)} {oc_check_poly kV_check_poly dc_check_poly pm_check_poly cd_check_poly ct_check_poly : Value}
    {f_multiplied_polys : Addr} {od_multiplied_polys an_multiplied_polys : Option Addr} {sl_multiplied_polys : Array (Option Value)} {oc_multiplied_polys kV_multiplied_polys dc_multiplied_polys pm_multiplied_polys cd_multiplied_polys ct_multiplied_polys : Value}
    {f_split_off_ : Addr} {od_split_off_ an_split_off_ : Option Addr} {sl_split_off_ : Array (Option Value)} {oc_split_off_ kV_split_off_ dc_split_off_ pm_split_off_ cd_split_off_ ct_split_off_ : Value}
    {f_value_at : Addr} {od_value_at an_value_at : Option Addr} {sl_value_at : Array (Option Value)} {oc_value_at kV_value_at dc_value_at pm_value_at cd_value_at ct_value_at : Value}
    {f_value : Addr} {od_value an_value : Option Addr} {sl_value : Array (Option Value)} {oc_value kV_value dc_value pm_value cd_value ct_value : Value}
    {f_root_count_ : Addr} {od_root_count_ an_root_count_ : Option Addr} {sl_root_count_ : Array (Option Value)} {oc_root_count_ kV_root_count_ dc_root_count_ pm_root_count_ cd_root_count_ ct_root_count_ : Value}
    {dK_roots : Addr}
    {f_roots : Addr} {od_roots an_roots : Option Addr} {sl_roots : Array (Option Value)} {oc_roots dc_roots pm_roots cd_roots ct_roots : Value}
    {f_check_count_ : Addr} {od_check_count_ an_check_count_ : Option Addr} {sl_check_count_ : Array (Option Value)} {oc_check_count_ kV_check_count_ dc_check_count_ pm_check_count_ cd_check_count_ ct_check_count_ : Value}
    {f_power_of_d : Addr} {od_power_of_d an_power_of_d : Option Addr} {sl_power_of_d : Array (Option Value)} {oc_power_of_d kV_power_of_d dc_power_of_d pm_power_of_d cd_power_of_d ct_power_of_d : Value}
    {f_falling : Addr} {od_falling an_falling : Option Addr} {sl_falling : Array (Option Value)} {oc_falling kV_falling dc_falling pm_falling cd_falling ct_falling : Value}
    {f_rising : Addr} {od_rising an_rising : Option Addr} {sl_rising : Array (Option Value)} {oc_rising kV_rising dc_rising pm_rising cd_rising ct_rising : Value}
    {f_by_falling : Addr} {od_by_falling an_by_falling : Option Addr} {sl_by_falling : Array (Option Value)} {oc_by_falling kV_by_falling dc_by_falling pm_by_falling cd_by_falling ct_by_falling : Value}
    {f_law_error2 : Addr} {od_law_error2 an_law_error2 : Option Addr} {sl_law_error2 : Array (Option Value)} {oc_law_error2 kV_law_error2 dc_law_error2 pm_law_error2 cd_law_error2 ct_law_error2 : Value}
    {f_law_told : Addr} {od_law_told an_law_told : Option Addr} {sl_law_told : Array (Option Value)} {oc_law_told kV_law_told dc_law_told pm_law_told cd_law_told ct_law_told : Value}
    {f_law_is_counted : Addr} {od_law_is_counted an_law_is_counted : Option Addr} {sl_law_is_counted : Array (Option Value)} {oc_law_is_counted kV_law_is_counted dc_law_is_counted pm_law_is_counted cd_law_is_counted ct_law_is_counted : Value}
    {f_law_is_root : Addr} {od_law_is_root an_law_is_root : Option Addr} {sl_law_is_root : Array (Option Value)} {oc_law_is_root kV_law_is_root dc_law_is_root pm_law_is_root cd_law_is_root ct_law_is_root : Value}
    {f_law : Addr} {od_law an_law : Option Addr} {sl_law : Array (Option Value)} {oc_law kV_law dc_law pm_law cd_law ct_law : Value}
    {aP : Addr} {ddP : Option Addr} {nP : Nat} {slP : Array (Option Value)} {u2 u3 u5 u7 u11 u13 u17 u19 u23 u29 u31 : Tok}
    {CW : Addr}
    {CN : Addr}
    {CP : Addr}
    {CB : Addr}
    {CA : Addr}
    {CT : Addr}
    {dd_number : Option Addr} {un : Tok} {nn_number : Nat} {sd_number : Array (Option Value)}
    {tm_MOST_POWER : Tok}
    {tm_MOST_FIGURES : Tok}
    {tm_CHUNK_FIGURES : Tok}
    {tm_CHUNK : Tok}
    {tm_MOST_PARTS : Tok}
    {tm_MOST_ROOT : Tok}
    {tm_MOST_COUNT : Tok}
    {aO : Addr} {ddO : Option Addr} {nO : Nat} {slO : Array (Option Value)} {uo1 uo2 : Tok}
    {CM N_Malformed : Addr} {nm_Malformed q_Malformed : Str} {bs_Malformed bm_Malformed sub_Malformed : List Value} {sn_Malformed : List Str} {ab_Malformed : Bool} {col_Malformed : Option Bool} {dd_Malformed : Option Addr} {m0_Malformed m1_Malformed m2_Malformed m3_Malformed m5_Malformed : Option Value}
    {uk_roots : Tok}
    {CE : Addr}
    {X_NotFamily : Addr}
    {X_NotDiagram : Addr}
    {X_NotWord : Addr}
    {X_NotMatrix : Addr}
    (a_is_world : PySem.W.nsIn K mainGlobals "is_world" = some (some (.ref f_is_world))) (l_is_world : K.lookup f_is_world = some ⟨oc_is_world, od_is_world, .func (PySem.W.fnOf "is_world" "is_world" (defArgs s_is_world) (defBody s_is_world) (defScope s_is_world) .none kV_is_world dc_is_world pm_is_world an_is_world cd_is_world ct_is_world), sl_is_world⟩) (c_is_world : PySem.W.codeIn K cd_is_world "is_world" = true) (k_is_world : PySem.W.keepIn K (.ref f_is_world) = true)
    (a_law_number : PySem.W.nsIn K mainGlobals "_law_number" = some (some (.ref f_law_number))) (l_law_number : K.lookup f_law_number = some ⟨oc_law_number, od_law_number, .func (PySem.W.fnOf "_law_number" "_law_number" (defArgs s_law_number) (defBody s_law_number) (defScope s_law_number) .none kV_law_number dc_law_number pm_law_number an_law_number cd_law_number ct_law_number), sl_law_number⟩) (c_law_number : PySem.W.codeIn K cd_law_number "_law_number" = true) (k_law_number : PySem.W.keepIn K (.ref f_law_number) = true)
    (a_law_next : PySem.W.nsIn K mainGlobals "_law_next" = some (some (.ref f_law_next))) (l_law_next : K.lookup f_law_next = some ⟨oc_law_next, od_law_next, .func (PySem.W.fnOf "_law_next" "_law_next" (defArgs s_law_next) (defBody s_law_next) (defScope s_law_next) .none kV_law_next dc_law_next pm_law_next an_law_next cd_law_next ct_law_next), sl_law_next⟩) (c_law_next : PySem.W.codeIn K cd_law_next "_law_next" = true) (k_law_next : PySem.W.keepIn K (.ref f_law_next) = true)
    (a_law_draws : PySem.W.nsIn K mainGlobals "_law_draws" = some (some (.ref f_law_draws))) (l_law_draws : K.lookup f_law_draws = some ⟨oc_law_draws, od_law_draws, .func (PySem.W.fnOf "_law_draws" "_law_draws" (defArgs s_law_draws) (defBody s_law_draws) (defScope s_law_draws) .none kV_law_draws dc_law_draws pm_law_draws an_law_draws cd_law_draws ct_law_draws), sl_law_draws⟩) (c_law_draws : PySem.W.codeIn K cd_law_draws "_law_draws" = true) (k_law_draws : PySem.W.keepIn K (.ref f_law_draws) = true)
    (a_check_world : PySem.W.nsIn K mainGlobals "check_world" = some (some (.ref f_check_world))) (l_check_world : K.lookup f_check_world = some ⟨oc_check_world, od_check_world, .func (PySem.W.fnOf "check_world" "check_world" (defArgs s_check_world) (defBody s_check_world) (defScope s_check_world) .none kV_check_world dc_check_world pm_check_world an_check_world cd_check_world ct_check_world), sl_check_world⟩) (c_check_world : PySem.W.codeIn K cd_check_world "check_world" = true) (k_check_world : PySem.W.keepIn K (.ref f_check_world) = true)
    (a_is_number : PySem.W.nsIn K mainGlobals "is_number" = some (some (.ref f_is_number))) (l_is_number : K.lookup f_is_number = some ⟨oc_is_number, od_is_number, .func (PySem.W.fnOf "is_number" "is_number" (defArgs s_is_number) (defBody s_is_number) (defScope s_is_number) .none kV_is_number dc_is_number pm_is_number an_is_number cd_is_number ct_is_number), sl_is_number⟩) (c_is_number : PySem.W.codeIn K cd_is_number "is_number" = true) (k_is_number : PySem.W.keepIn K (.ref f_is_number) = true)
    (a_check_number : PySem.W.nsIn K mainGlobals "check_number" = some (some (.ref f_check_number))) (l_check_number : K.lookup f_check_number = some ⟨oc_check_number, od_check_number, .func (PySem.W.fnOf "check_number" "check_number" (defArgs s_check_number) (defBody s_check_number) (defScope s_check_number) .none kV_check_number dc_check_number pm_check_number an_check_number cd_check_number ct_check_number), sl_check_number⟩) (c_check_number : PySem.W.codeIn K cd_check_number "check_number" = true) (k_check_number : PySem.W.keepIn K (.ref f_check_number) = true)
    (a_lowest_ : PySem.W.nsIn K mainGlobals "_lowest" = some (some (.ref f_lowest_))) (l_lowest_ : K.lookup f_lowest_ = some ⟨oc_lowest_, od_lowest_, .func (PySem.W.fnOf "_lowest" "_lowest" (defArgs s_lowest_) (defBody s_lowest_) (defScope s_lowest_) .none kV_lowest_ dc_lowest_ pm_lowest_ an_lowest_ cd_lowest_ ct_lowest_), sl_lowest_⟩) (c_lowest_ : PySem.W.codeIn K cd_lowest_ "_lowest" = true) (k_lowest_ : PySem.W.keepIn K (.ref f_lowest_) = true)
    (a_inverse_ : PySem.W.nsIn K mainGlobals "_inverse" = some (some (.ref f_inverse_))) (l_inverse_ : K.lookup f_inverse_ = some ⟨oc_inverse_, od_inverse_, .func (PySem.W.fnOf "_inverse" "_inverse" (defArgs s_inverse_) (defBody s_inverse_) (defScope s_inverse_) .none kV_inverse_ dc_inverse_ pm_inverse_ an_inverse_ cd_inverse_ ct_inverse_), sl_inverse_⟩) (c_inverse_ : PySem.W.codeIn K cd_inverse_ "_inverse" = true) (k_inverse_ : PySem.W.keepIn K (.ref f_inverse_) = true)
    (a_number : PySem.W.nsIn K mainGlobals "number" = some (some (.ref f_number))) (l_number : K.lookup f_number = some ⟨oc_number, od_number, .func (PySem.W.fnOf "number" "number" (defArgs s_number) (defBody s_number) (defScope s_number) (.ref dT_number) kV_number dc_number pm_number an_number cd_number ct_number), sl_number⟩) (c_number : PySem.W.codeIn K cd_number "number" = true) (k_number : PySem.W.keepIn K (.ref f_number) = true)
    (a_loop_worth : PySem.W.nsIn K mainGlobals "loop_worth" = some (some (.ref f_loop_worth))) (l_loop_worth : K.lookup f_loop_worth = some ⟨oc_loop_worth, od_loop_worth, .func (PySem.W.fnOf "loop_worth" "loop_worth" (defArgs s_loop_worth) (defBody s_loop_worth) (defScope s_loop_worth) .none kV_loop_worth dc_loop_worth pm_loop_worth an_loop_worth cd_loop_worth ct_loop_worth), sl_loop_worth⟩) (c_loop_worth : PySem.W.codeIn K cd_loop_worth "loop_worth" = true) (k_loop_worth : PySem.W.keepIn K (.ref f_loop_worth) = true)
    (a_check_two_ : PySem.W.nsIn K mainGlobals "_check_two" = some (some (.ref f_check_two_))) (l_check_two_ : K.lookup f_check_two_ = some ⟨oc_check_two_, od_check_two_, .func (PySem.W.fnOf "_check_two" "_check_two" (defArgs s_check_two_) (defBody s_check_two_) (defScope s_check_two_) .none kV_check_two_ dc_check_two_ pm_check_two_ an_check_two_ cd_check_two_ ct_check_two_), sl_check_two_⟩) (c_check_two_ : PySem.W.codeIn K cd_check_two_ "_check_two" = true) (k_check_two_ : PySem.W.keepIn K (.ref f_check_two_) = true)
    (a_times : PySem.W.nsIn K mainGlobals "times" = some (some (.ref f_times))) (l_times : K.lookup f_times = some ⟨oc_times, od_times, .func (PySem.W.fnOf "times" "times" (defArgs s_times) (defBody s_times) (defScope s_times) .none kV_times dc_times pm_times an_times cd_times ct_times), sl_times⟩) (c_times : PySem.W.codeIn K cd_times "times" = true) (k_times : PySem.W.keepIn K (.ref f_times) = true)
    (a_over : PySem.W.nsIn K mainGlobals "over" = some (some (.ref f_over))) (l_over : K.lookup f_over = some ⟨oc_over, od_over, .func (PySem.W.fnOf "over" "over" (defArgs s_over) (defBody s_over) (defScope s_over) .none kV_over dc_over pm_over an_over cd_over ct_over), sl_over⟩) (c_over : PySem.W.codeIn K cd_over "over" = true) (k_over : PySem.W.keepIn K (.ref f_over) = true)
    (a_power : PySem.W.nsIn K mainGlobals "power" = some (some (.ref f_power))) (l_power : K.lookup f_power = some ⟨oc_power, od_power, .func (PySem.W.fnOf "power" "power" (defArgs s_power) (defBody s_power) (defScope s_power) .none kV_power dc_power pm_power an_power cd_power ct_power), sl_power⟩) (c_power : PySem.W.codeIn K cd_power "power" = true) (k_power : PySem.W.keepIn K (.ref f_power) = true)
    (a_integer_text_ : PySem.W.nsIn K mainGlobals "_integer_text" = some (some (.ref f_integer_text_))) (l_integer_text_ : K.lookup f_integer_text_ = some ⟨oc_integer_text_, od_integer_text_, .func (PySem.W.fnOf "_integer_text" "_integer_text" (defArgs s_integer_text_) (defBody s_integer_text_) (defScope s_integer_text_) .none kV_integer_text_ dc_integer_text_ pm_integer_text_ an_integer_text_ cd_integer_text_ ct_integer_text_), sl_integer_text_⟩) (c_integer_text_ : PySem.W.codeIn K cd_integer_text_ "_integer_text" = true) (k_integer_text_ : PySem.W.keepIn K (.ref f_integer_text_) = true)
    (a_number_text : PySem.W.nsIn K mainGlobals "number_text" = some (some (.ref f_number_text))) (l_number_text : K.lookup f_number_text = some ⟨oc_number_text, od_number_text, .func (PySem.W.fnOf "number_text" "number_text" (defArgs s_number_text) (defBody s_number_text) (defScope s_number_text) .none kV_number_text dc_number_text pm_number_text an_number_text cd_number_text ct_number_text), sl_number_text⟩) (c_number_text : PySem.W.codeIn K cd_number_text "number_text" = true) (k_number_text : PySem.W.keepIn K (.ref f_number_text) = true)
    (l_Malformed_init : K.lookup f_Malformed_init = some ⟨oc_Malformed_init, od_Malformed_init, .func (PySem.W.fnOf "__init__" "Malformed.__init__" (defArgs s_Malformed_init) (defBody s_Malformed_init) (defScope s_Malformed_init) .none kV_Malformed_init dc_Malformed_init pm_Malformed_init an_Malformed_init cd_Malformed_init ct_Malformed_init), sl_Malformed_init⟩) (c_Malformed_init : PySem.W.codeIn K cd_Malformed_init "Malformed.__init__" = true) (k_Malformed_init : PySem.W.keepIn K (.ref f_Malformed_init) = true)
    (a_figure_count_ : PySem.W.nsIn K mainGlobals "_figure_count" = some (some (.ref f_figure_count_))) (l_figure_count_ : K.lookup f_figure_count_ = some ⟨oc_figure_count_, od_figure_count_, .func (PySem.W.fnOf "_figure_count" "_figure_count" (defArgs s_figure_count_) (defBody s_figure_count_) (defScope s_figure_count_) .none kV_figure_count_ dc_figure_count_ pm_figure_count_ an_figure_count_ cd_figure_count_ ct_figure_count_), sl_figure_count_⟩) (c_figure_count_ : PySem.W.codeIn K cd_figure_count_ "_figure_count" = true) (k_figure_count_ : PySem.W.keepIn K (.ref f_figure_count_) = true)
    (a_is_integer_ : PySem.W.nsIn K mainGlobals "_is_integer" = some (some (.ref f_is_integer_))) (l_is_integer_ : K.lookup f_is_integer_ = some ⟨oc_is_integer_, od_is_integer_, .func (PySem.W.fnOf "_is_integer" "_is_integer" (defArgs s_is_integer_) (defBody s_is_integer_) (defScope s_is_integer_) .none kV_is_integer_ dc_is_integer_ pm_is_integer_ an_is_integer_ cd_is_integer_ ct_is_integer_), sl_is_integer_⟩) (c_is_integer_ : PySem.W.codeIn K cd_is_integer_ "_is_integer" = true) (k_is_integer_ : PySem.W.keepIn K (.ref f_is_integer_) = true)
    (a_integer_of_ : PySem.W.nsIn K mainGlobals "_integer_of" = some (some (.ref f_integer_of_))) (l_integer_of_ : K.lookup f_integer_of_ = some ⟨oc_integer_of_, od_integer_of_, .func (PySem.W.fnOf "_integer_of" "_integer_of" (defArgs s_integer_of_) (defBody s_integer_of_) (defScope s_integer_of_) .none kV_integer_of_ dc_integer_of_ pm_integer_of_ an_integer_of_ cd_integer_of_ ct_integer_of_), sl_integer_of_⟩) (c_integer_of_ : PySem.W.codeIn K cd_integer_of_ "_integer_of" = true) (k_integer_of_ : PySem.W.keepIn K (.ref f_integer_of_) = true)
    (a_read_any_number : PySem.W.nsIn K mainGlobals "read_any_number" = some (some (.ref f_read_any_number))) (l_read_any_number : K.lookup f_read_any_number = some ⟨oc_read_any_number, od_read_any_number, .func (PySem.W.fnOf "read_any_number" "read_any_number" (defArgs s_read_any_number) (defBody s_read_any_number) (defScope s_read_any_number) .none kV_read_any_number dc_read_any_number pm_read_any_number an_read_any_number cd_read_any_number ct_read_any_number), sl_read_any_number⟩) (c_read_any_number : PySem.W.codeIn K cd_read_any_number "read_any_number" = true) (k_read_any_number : PySem.W.keepIn K (.ref f_read_any_number) = true)
    (a_read_number : PySem.W.nsIn K mainGlobals "read_number" = some (some (.ref f_read_number))) (l_read_number : K.lookup f_read_number = some ⟨oc_read_number, od_read_number, .func (PySem.W.fnOf "read_number" "read_number" (defArgs s_read_number) (defBody s_read_number) (defScope s_read_number) .none kV_read_number dc_read_number pm_read_number an_read_number cd_read_number ct_read_number), sl_read_number⟩) (c_read_number : PySem.W.codeIn K cd_read_number "read_number" = true) (k_read_number : PySem.W.keepIn K (.ref f_read_number) = true)
    (a_is_poly : PySem.W.nsIn K mainGlobals "is_poly" = some (some (.ref f_is_poly))) (l_is_poly : K.lookup f_is_poly = some ⟨oc_is_poly, od_is_poly, .func (PySem.W.fnOf "is_poly" "is_poly" (defArgs s_is_poly) (defBody s_is_poly) (defScope s_is_poly) .none kV_is_poly dc_is_poly pm_is_poly an_is_poly cd_is_poly ct_is_poly), sl_is_poly⟩) (c_is_poly : PySem.W.codeIn K cd_is_poly "is_poly" = true) (k_is_poly : PySem.W.keepIn K (.ref f_is_poly) = true)
    (a_check_poly : PySem.W.nsIn K mainGlobals "check_poly" = some (some (.ref f_check_poly))) (l_check_poly : K.lookup f_check_poly = some ⟨oc_check_poly, od_check_poly, .func (PySem.W.fnOf "check_poly" "check_poly" (defArgs s_check_poly) (defBody s_check_poly) (defScope s_check_poly) .none kV_check_poly dc_check_poly pm_check_poly an_check_poly cd_check_poly ct_check_poly), sl_check_poly⟩) (c_check_poly : PySem.W.codeIn K cd_check_poly "check_poly" = true) (k_check_poly : PySem.W.keepIn K (.ref f_check_poly) = true)
    (a_multiplied_polys : PySem.W.nsIn K mainGlobals "multiplied_polys" = some (some (.ref f_multiplied_polys))) (l_multiplied_polys : K.lookup f_multiplied_polys = some ⟨oc_multiplied_polys, od_multiplied_polys, .func (PySem.W.fnOf "multiplied_polys" "multiplied_polys" (defArgs s_multiplied_polys) (defBody s_multiplied_polys) (defScope s_multiplied_polys) .none kV_multiplied_polys dc_multiplied_polys pm_multiplied_polys an_multiplied_polys cd_multiplied_polys ct_multiplied_polys), sl_multiplied_polys⟩) (c_multiplied_polys : PySem.W.codeIn K cd_multiplied_polys "multiplied_polys" = true) (k_multiplied_polys : PySem.W.keepIn K (.ref f_multiplied_polys) = true)
    (a_split_off_ : PySem.W.nsIn K mainGlobals "_split_off" = some (some (.ref f_split_off_))) (l_split_off_ : K.lookup f_split_off_ = some ⟨oc_split_off_, od_split_off_, .func (PySem.W.fnOf "_split_off" "_split_off" (defArgs s_split_off_) (defBody s_split_off_) (defScope s_split_off_) .none kV_split_off_ dc_split_off_ pm_split_off_ an_split_off_ cd_split_off_ ct_split_off_), sl_split_off_⟩) (c_split_off_ : PySem.W.codeIn K cd_split_off_ "_split_off" = true) (k_split_off_ : PySem.W.keepIn K (.ref f_split_off_) = true)
    (a_value_at : PySem.W.nsIn K mainGlobals "value_at" = some (some (.ref f_value_at))) (l_value_at : K.lookup f_value_at = some ⟨oc_value_at, od_value_at, .func (PySem.W.fnOf "value_at" "value_at" (defArgs s_value_at) (defBody s_value_at) (defScope s_value_at) .none kV_value_at dc_value_at pm_value_at an_value_at cd_value_at ct_value_at), sl_value_at⟩) (c_value_at : PySem.W.codeIn K cd_value_at "value_at" = true) (k_value_at : PySem.W.keepIn K (.ref f_value_at) = true)
    (a_value : PySem.W.nsIn K mainGlobals "value" = some (some (.ref f_value))) (l_value : K.lookup f_value = some ⟨oc_value, od_value, .func (PySem.W.fnOf "value" "value" (defArgs s_value) (defBody s_value) (defScope s_value) .none kV_value dc_value pm_value an_value cd_value ct_value), sl_value⟩) (c_value : PySem.W.codeIn K cd_value "value" = true) (k_value : PySem.W.keepIn K (.ref f_value) = true)
    (a_root_count_ : PySem.W.nsIn K mainGlobals "_root_count" = some (some (.ref f_root_count_))) (l_root_count_ : K.lookup f_root_count_ = some ⟨oc_root_count_, od_root_count_, .func (PySem.W.fnOf "_root_count" "_root_count" (defArgs s_root_count_) (defBody s_root_count_) (defScope s_root_count_) .none kV_root_count_ dc_root_count_ pm_root_count_ an_root_count_ cd_root_count_ ct_root_count_), sl_root_count_⟩) (c_root_count_ : PySem.W.codeIn K cd_root_count_ "_root_count" = true) (k_root_count_ : PySem.W.keepIn K (.ref f_root_count_) = true)
    (a_roots : PySem.W.nsIn K mainGlobals "roots" = some (some (.ref f_roots))) (l_roots : K.lookup f_roots = some ⟨oc_roots, od_roots, .func (PySem.W.fnOf "roots" "roots" (defArgs s_roots) (defBody s_roots) (defScope s_roots) .none (.ref dK_roots) dc_roots pm_roots an_roots cd_roots ct_roots), sl_roots⟩) (c_roots : PySem.W.codeIn K cd_roots "roots" = true) (k_roots : PySem.W.keepIn K (.ref f_roots) = true)
    (a_check_count_ : PySem.W.nsIn K mainGlobals "_check_count" = some (some (.ref f_check_count_))) (l_check_count_ : K.lookup f_check_count_ = some ⟨oc_check_count_, od_check_count_, .func (PySem.W.fnOf "_check_count" "_check_count" (defArgs s_check_count_) (defBody s_check_count_) (defScope s_check_count_) .none kV_check_count_ dc_check_count_ pm_check_count_ an_check_count_ cd_check_count_ ct_check_count_), sl_check_count_⟩) (c_check_count_ : PySem.W.codeIn K cd_check_count_ "_check_count" = true) (k_check_count_ : PySem.W.keepIn K (.ref f_check_count_) = true)
    (a_power_of_d : PySem.W.nsIn K mainGlobals "power_of_d" = some (some (.ref f_power_of_d))) (l_power_of_d : K.lookup f_power_of_d = some ⟨oc_power_of_d, od_power_of_d, .func (PySem.W.fnOf "power_of_d" "power_of_d" (defArgs s_power_of_d) (defBody s_power_of_d) (defScope s_power_of_d) .none kV_power_of_d dc_power_of_d pm_power_of_d an_power_of_d cd_power_of_d ct_power_of_d), sl_power_of_d⟩) (c_power_of_d : PySem.W.codeIn K cd_power_of_d "power_of_d" = true) (k_power_of_d : PySem.W.keepIn K (.ref f_power_of_d) = true)
    (a_falling : PySem.W.nsIn K mainGlobals "falling" = some (some (.ref f_falling))) (l_falling : K.lookup f_falling = some ⟨oc_falling, od_falling, .func (PySem.W.fnOf "falling" "falling" (defArgs s_falling) (defBody s_falling) (defScope s_falling) .none kV_falling dc_falling pm_falling an_falling cd_falling ct_falling), sl_falling⟩) (c_falling : PySem.W.codeIn K cd_falling "falling" = true) (k_falling : PySem.W.keepIn K (.ref f_falling) = true)
    (a_rising : PySem.W.nsIn K mainGlobals "rising" = some (some (.ref f_rising))) (l_rising : K.lookup f_rising = some ⟨oc_rising, od_rising, .func (PySem.W.fnOf "rising" "rising" (defArgs s_rising) (defBody s_rising) (defScope s_rising) .none kV_rising dc_rising pm_rising an_rising cd_rising ct_rising), sl_rising⟩) (c_rising : PySem.W.codeIn K cd_rising "rising" = true) (k_rising : PySem.W.keepIn K (.ref f_rising) = true)
    (a_by_falling : PySem.W.nsIn K mainGlobals "by_falling" = some (some (.ref f_by_falling))) (l_by_falling : K.lookup f_by_falling = some ⟨oc_by_falling, od_by_falling, .func (PySem.W.fnOf "by_falling" "by_falling" (defArgs s_by_falling) (defBody s_by_falling) (defScope s_by_falling) .none kV_by_falling dc_by_falling pm_by_falling an_by_falling cd_by_falling ct_by_falling), sl_by_falling⟩) (c_by_falling : PySem.W.codeIn K cd_by_falling "by_falling" = true) (k_by_falling : PySem.W.keepIn K (.ref f_by_falling) = true)
    (a_law_error2 : PySem.W.nsIn K mainGlobals "_law_error2" = some (some (.ref f_law_error2))) (l_law_error2 : K.lookup f_law_error2 = some ⟨oc_law_error2, od_law_error2, .func (PySem.W.fnOf "_law_error2" "_law_error2" (defArgs s_law_error2) (defBody s_law_error2) (defScope s_law_error2) .none kV_law_error2 dc_law_error2 pm_law_error2 an_law_error2 cd_law_error2 ct_law_error2), sl_law_error2⟩) (c_law_error2 : PySem.W.codeIn K cd_law_error2 "_law_error2" = true) (k_law_error2 : PySem.W.keepIn K (.ref f_law_error2) = true)
    (a_law_told : PySem.W.nsIn K mainGlobals "_law_told" = some (some (.ref f_law_told))) (l_law_told : K.lookup f_law_told = some ⟨oc_law_told, od_law_told, .func (PySem.W.fnOf "_law_told" "_law_told" (defArgs s_law_told) (defBody s_law_told) (defScope s_law_told) .none kV_law_told dc_law_told pm_law_told an_law_told cd_law_told ct_law_told), sl_law_told⟩) (c_law_told : PySem.W.codeIn K cd_law_told "_law_told" = true) (k_law_told : PySem.W.keepIn K (.ref f_law_told) = true)
    (a_law_is_counted : PySem.W.nsIn K mainGlobals "_law_is_counted" = some (some (.ref f_law_is_counted))) (l_law_is_counted : K.lookup f_law_is_counted = some ⟨oc_law_is_counted, od_law_is_counted, .func (PySem.W.fnOf "_law_is_counted" "_law_is_counted" (defArgs s_law_is_counted) (defBody s_law_is_counted) (defScope s_law_is_counted) .none kV_law_is_counted dc_law_is_counted pm_law_is_counted an_law_is_counted cd_law_is_counted ct_law_is_counted), sl_law_is_counted⟩) (c_law_is_counted : PySem.W.codeIn K cd_law_is_counted "_law_is_counted" = true) (k_law_is_counted : PySem.W.keepIn K (.ref f_law_is_counted) = true)
    (a_law_is_root : PySem.W.nsIn K mainGlobals "_law_is_root" = some (some (.ref f_law_is_root))) (l_law_is_root : K.lookup f_law_is_root = some ⟨oc_law_is_root, od_law_is_root, .func (PySem.W.fnOf "_law_is_root" "_law_is_root" (defArgs s_law_is_root) (defBody s_law_is_root) (defScope s_law_is_root) .none kV_law_is_root dc_law_is_root pm_law_is_root an_law_is_root cd_law_is_root ct_law_is_root), sl_law_is_root⟩) (c_law_is_root : PySem.W.codeIn K cd_law_is_root "_law_is_root" = true) (k_law_is_root : PySem.W.keepIn K (.ref f_law_is_root) = true)
    (a_law : PySem.W.nsIn K mainGlobals "law" = some (some (.ref f_law))) (l_law : K.lookup f_law = some ⟨oc_law, od_law, .func (PySem.W.fnOf "law" "law" (defArgs s_law) (defBody s_law) (defScope s_law) .none kV_law dc_law pm_law an_law cd_law ct_law), sl_law⟩) (c_law : PySem.W.codeIn K cd_law "law" = true) (k_law : PySem.W.keepIn K (.ref f_law) = true)
    (zn_int : PySem.W.nsIn K mainGlobals "int" = some none)
    (zn_range : PySem.W.nsIn K mainGlobals "range" = some none)
    (zn_abs : PySem.W.nsIn K mainGlobals "abs" = some none)
    (zn_str : PySem.W.nsIn K mainGlobals "str" = some none)
    (zn_divmod : PySem.W.nsIn K mainGlobals "divmod" = some none)
    (zn_len : PySem.W.nsIn K mainGlobals "len" = some none)
    (zn_all : PySem.W.nsIn K mainGlobals "all" = some none)
    (zn_repr : PySem.W.nsIn K mainGlobals "repr" = some none)
    (zn_list : PySem.W.nsIn K mainGlobals "list" = some none)
    (zn_tuple : PySem.W.nsIn K mainGlobals "tuple" = some none)
    (zn_max : PySem.W.nsIn K mainGlobals "max" = some none)
    (zn_enumerate : PySem.W.nsIn K mainGlobals "enumerate" = some none)
    (zn_reversed : PySem.W.nsIn K mainGlobals "reversed" = some none)
    (zn_isinstance : PySem.W.nsIn K mainGlobals "isinstance" = some none)
    (zn_sorted : PySem.W.nsIn K mainGlobals "sorted" = some none)
    (n_gcd : PySem.W.nsIn K mainGlobals "gcd" = some (some (.builtin "math.gcd")))
    (n_PRIMES : PySem.W.nsIn K mainGlobals "PRIMES" = some (some (.ref aP)))
    (l_PRIMES : K.lookup aP = some ⟨.type "tuple", ddP, .seq #[.int 2 u2, .int 3 u3, .int 5 u5, .int 7 u7, .int 11 u11, .int 13 u13, .int 17 u17, .int 19 u19, .int 23 u23, .int 29 u29, .int 31 u31] nP, slP⟩)
    (n_NotWorld : PySem.W.nsIn K mainGlobals "NotWorld" = some (some (.ref CW)))
    (x_NotWorld : PySem.W.excIn K CW [.type "ValueError", .type "Exception", .type "BaseException", .type "object"] "ValueError.__new__" = true)
    (kc_NotWorld : PySem.W.keepIn K (.ref CW) = true)
    (bc_NotWorld : PySem.W.subIn K (.ref CW) (.type "BaseException") = some true)
    (tc_NotWorld : PySem.W.typeIn K (.ref CW) = some (.type "type"))
    (n_NotNumber : PySem.W.nsIn K mainGlobals "NotNumber" = some (some (.ref CN)))
    (x_NotNumber : PySem.W.excIn K CN [.type "ValueError", .type "Exception", .type "BaseException", .type "object"] "ValueError.__new__" = true)
    (kc_NotNumber : PySem.W.keepIn K (.ref CN) = true)
    (bc_NotNumber : PySem.W.subIn K (.ref CN) (.type "BaseException") = some true)
    (tc_NotNumber : PySem.W.typeIn K (.ref CN) = some (.type "type"))
    (n_NotPoly : PySem.W.nsIn K mainGlobals "NotPoly" = some (some (.ref CP)))
    (x_NotPoly : PySem.W.excIn K CP [.type "ValueError", .type "Exception", .type "BaseException", .type "object"] "ValueError.__new__" = true)
    (kc_NotPoly : PySem.W.keepIn K (.ref CP) = true)
    (bc_NotPoly : PySem.W.subIn K (.ref CP) (.type "BaseException") = some true)
    (tc_NotPoly : PySem.W.typeIn K (.ref CP) = some (.type "type"))
    (n_BadNumber : PySem.W.nsIn K mainGlobals "BadNumber" = some (some (.ref CB)))
    (x_BadNumber : PySem.W.excIn K CB [.type "ValueError", .type "Exception", .type "BaseException", .type "object"] "ValueError.__new__" = true)
    (kc_BadNumber : PySem.W.keepIn K (.ref CB) = true)
    (bc_BadNumber : PySem.W.subIn K (.ref CB) (.type "BaseException") = some true)
    (tc_BadNumber : PySem.W.typeIn K (.ref CB) = some (.type "type"))
    (n_NoAnswer : PySem.W.nsIn K mainGlobals "NoAnswer" = some (some (.ref CA)))
    (x_NoAnswer : PySem.W.excIn K CA [.type "ValueError", .type "Exception", .type "BaseException", .type "object"] "ValueError.__new__" = true)
    (kc_NoAnswer : PySem.W.keepIn K (.ref CA) = true)
    (bc_NoAnswer : PySem.W.subIn K (.ref CA) (.type "BaseException") = some true)
    (tc_NoAnswer : PySem.W.typeIn K (.ref CA) = some (.type "type"))
    (n_TooLarge : PySem.W.nsIn K mainGlobals "TooLarge" = some (some (.ref CT)))
    (x_TooLarge : PySem.W.excIn K CT [.type "ValueError", .type "Exception", .type "BaseException", .type "object"] "ValueError.__new__" = true)
    (kc_TooLarge : PySem.W.keepIn K (.ref CT) = true)
    (bc_TooLarge : PySem.W.subIn K (.ref CT) (.type "BaseException") = some true)
    (tc_TooLarge : PySem.W.typeIn K (.ref CT) = some (.type "type"))
    (ld_number : K.lookup dT_number = some ⟨.type "tuple", dd_number, .seq #[.int 1 un] nn_number, sd_number⟩)
    (n_MOST_POWER : PySem.W.nsIn K mainGlobals "MOST_POWER" = some (some (.int 200 tm_MOST_POWER)))
    (n_MOST_FIGURES : PySem.W.nsIn K mainGlobals "MOST_FIGURES" = some (some (.int 60 tm_MOST_FIGURES)))
    (n_CHUNK_FIGURES : PySem.W.nsIn K mainGlobals "CHUNK_FIGURES" = some (some (.int 60 tm_CHUNK_FIGURES)))
    (n_CHUNK : PySem.W.nsIn K mainGlobals "CHUNK" = some (some (.int 1000000000000000000000000000000000000000000000000000000000000 tm_CHUNK)))
    (n_MOST_PARTS : PySem.W.nsIn K mainGlobals "MOST_PARTS" = some (some (.int 200 tm_MOST_PARTS)))
    (n_MOST_ROOT : PySem.W.nsIn K mainGlobals "MOST_ROOT" = some (some (.int 1000 tm_MOST_ROOT)))
    (n_MOST_COUNT : PySem.W.nsIn K mainGlobals "MOST_COUNT" = some (some (.int 40 tm_MOST_COUNT)))
    (n_ONE : PySem.W.nsIn K mainGlobals "ONE" = some (some (.ref aO)))
    (l_ONE : K.lookup aO = some ⟨.type "tuple", ddO, .seq #[.int 1 uo1, .int 1 uo2] nO, slO⟩)
    (n_Malformed : PySem.W.nsIn K mainGlobals "Malformed" = some (some (.ref CM)))
    (x_Malformed : K.lookup CM = some (excClassObj nm_Malformed q_Malformed CM N_Malformed bs_Malformed bm_Malformed true sn_Malformed sub_Malformed ab_Malformed col_Malformed dd_Malformed m0_Malformed m1_Malformed m2_Malformed m3_Malformed m5_Malformed "ValueError.__new__"))
    (r_Malformed : PySem.HandSPX.refsVE bm_Malformed = true)
    (sa_Malformed : PySem.W.findIn K (.ref CM) "__setattr__" = some (some (.builtin "object.__setattr__")))
    (ga_Malformed : PySem.W.findIn K (.ref CM) "__getattribute__" = some (some (.builtin "BaseException.__getattribute__")))
    (gg_Malformed : PySem.W.findIn K (.ref CM) "__getattr__" = some none)
    (na_Malformed : PySem.W.findIn K (.ref CM) "at" = some none)
    (ii_Malformed : PySem.W.findIn K (.ref CM) "__init__" = some (some (.ref f_Malformed_init)))
    (kc_Malformed : PySem.W.keepIn K (.ref CM) = true)
    (ec_Malformed : PySem.W.subIn K (.ref CM) (.type "BaseException") = some true)
    (tc_Malformed : PySem.W.typeIn K (.ref CM) = some (.type "type"))
    (hd_Malformed : PySem.W.hasDictIn K CM = true)
    (ti_Malformed : PySem.W.typeIn K (.ref f_Malformed_init) = some (.type "function"))
    (ss_Malformed : PySem.W.subIn K (.ref CM) (.ref CM) = some true)
    (kd_roots : PySem.W.nsIn K dK_roots "most" = some (some (.int 1000 uk_roots)))
    (n_WorthError : PySem.W.nsIn K mainGlobals "WorthError" = some (some (.ref CE)))
    (ebc : PySem.W.subIn K (.ref CE) (.type "BaseException") = some true)
    (ehd : PySem.W.hasDictIn K CE = true)
    (ety : PySem.W.typeIn K (.ref CE) = some (.type "type"))
    (hn_cls : PySem.W.specialIn K (.builtin "object.__class__") "__get__" = some (some (.builtin "getset_descriptor.__get__")))
    (ht_cls : PySem.W.takesIn K (.builtin "object.__class__") = some true)
    (n_NotFamily : PySem.W.nsIn K mainGlobals "NotFamily" = some (some (.ref X_NotFamily)))
    (n_NotDiagram : PySem.W.nsIn K mainGlobals "NotDiagram" = some (some (.ref X_NotDiagram)))
    (n_NotWord : PySem.W.nsIn K mainGlobals "NotWord" = some (some (.ref X_NotWord)))
    (n_NotMatrix : PySem.W.nsIn K mainGlobals "NotMatrix" = some (some (.ref X_NotMatrix)))
    (hg_NotWorld : PySem.W.findIn K (.ref CW) "__getattribute__" = some (some (.builtin "BaseException.__getattribute__")))
    (hk_NotWorld : PySem.W.findIn K (.ref CW) "__getattr__" = some none)
    (hd_NotWorld : PySem.W.hasDictIn K CW = true)
    (ha_NotWorld : PySem.W.findIn K (.ref CW) "__class__" = some (some (.builtin "object.__class__")))
    (hm_NotWorld : PySem.W.mroIn K CW (.type "object") = some true)
    (sE_NotWorld : PySem.W.subIn K (.ref CW) (.ref CE) = some true)
    (tE_NotWorld : PySem.W.kitOne K (.ref CW) (.ref CE) = some true)
    (t_NotWorld_NotWorld : PySem.W.kitOne K (.ref CW) (.ref CW) = some true)
    (t_NotWorld_NotFamily : PySem.W.kitOne K (.ref CW) (.ref X_NotFamily) = some false)
    (t_NotWorld_NotDiagram : PySem.W.kitOne K (.ref CW) (.ref X_NotDiagram) = some false)
    (t_NotWorld_NotNumber : PySem.W.kitOne K (.ref CW) (.ref CN) = some false)
    (t_NotWorld_NotWord : PySem.W.kitOne K (.ref CW) (.ref X_NotWord) = some false)
    (t_NotWorld_NotPoly : PySem.W.kitOne K (.ref CW) (.ref CP) = some false)
    (t_NotWorld_NotMatrix : PySem.W.kitOne K (.ref CW) (.ref X_NotMatrix) = some false)
    (t_NotWorld_BadNumber : PySem.W.kitOne K (.ref CW) (.ref CB) = some false)
    (t_NotWorld_NoAnswer : PySem.W.kitOne K (.ref CW) (.ref CA) = some false)
    (t_NotWorld_TooLarge : PySem.W.kitOne K (.ref CW) (.ref CT) = some false)
    (t_NotWorld_Malformed : PySem.W.kitOne K (.ref CW) (.ref CM) = some false)
    (hg_NotNumber : PySem.W.findIn K (.ref CN) "__getattribute__" = some (some (.builtin "BaseException.__getattribute__")))
    (hk_NotNumber : PySem.W.findIn K (.ref CN) "__getattr__" = some none)
    (hd_NotNumber : PySem.W.hasDictIn K CN = true)
    (ha_NotNumber : PySem.W.findIn K (.ref CN) "__class__" = some (some (.builtin "object.__class__")))
    (hm_NotNumber : PySem.W.mroIn K CN (.type "object") = some true)
    (sE_NotNumber : PySem.W.subIn K (.ref CN) (.ref CE) = some true)
    (tE_NotNumber : PySem.W.kitOne K (.ref CN) (.ref CE) = some true)
    (t_NotNumber_NotWorld : PySem.W.kitOne K (.ref CN) (.ref CW) = some false)
    (t_NotNumber_NotFamily : PySem.W.kitOne K (.ref CN) (.ref X_NotFamily) = some false)
    (t_NotNumber_NotDiagram : PySem.W.kitOne K (.ref CN) (.ref X_NotDiagram) = some false)
    (t_NotNumber_NotNumber : PySem.W.kitOne K (.ref CN) (.ref CN) = some true)
    (t_NotNumber_NotWord : PySem.W.kitOne K (.ref CN) (.ref X_NotWord) = some false)
    (t_NotNumber_NotPoly : PySem.W.kitOne K (.ref CN) (.ref CP) = some false)
    (t_NotNumber_NotMatrix : PySem.W.kitOne K (.ref CN) (.ref X_NotMatrix) = some false)
    (t_NotNumber_BadNumber : PySem.W.kitOne K (.ref CN) (.ref CB) = some false)
    (t_NotNumber_NoAnswer : PySem.W.kitOne K (.ref CN) (.ref CA) = some false)
    (t_NotNumber_TooLarge : PySem.W.kitOne K (.ref CN) (.ref CT) = some false)
    (t_NotNumber_Malformed : PySem.W.kitOne K (.ref CN) (.ref CM) = some false)
    (hg_NotPoly : PySem.W.findIn K (.ref CP) "__getattribute__" = some (some (.builtin "BaseException.__getattribute__")))
    (hk_NotPoly : PySem.W.findIn K (.ref CP) "__getattr__" = some none)
    (hd_NotPoly : PySem.W.hasDictIn K CP = true)
    (ha_NotPoly : PySem.W.findIn K (.ref CP) "__class__" = some (some (.builtin "object.__class__")))
    (hm_NotPoly : PySem.W.mroIn K CP (.type "object") = some true)
    (sE_NotPoly : PySem.W.subIn K (.ref CP) (.ref CE) = some true)
    (tE_NotPoly : PySem.W.kitOne K (.ref CP) (.ref CE) = some true)
    (t_NotPoly_NotWorld : PySem.W.kitOne K (.ref CP) (.ref CW) = some false)
    (t_NotPoly_NotFamily : PySem.W.kitOne K (.ref CP) (.ref X_NotFamily) = some false)
    (t_NotPoly_NotDiagram : PySem.W.kitOne K (.ref CP) (.ref X_NotDiagram) = some false)
    (t_NotPoly_NotNumber : PySem.W.kitOne K (.ref CP) (.ref CN) = some false)
    (t_NotPoly_NotWord : PySem.W.kitOne K (.ref CP) (.ref X_NotWord) = some false)
    (t_NotPoly_NotPoly : PySem.W.kitOne K (.ref CP) (.ref CP) = some true)
    (t_NotPoly_NotMatrix : PySem.W.kitOne K (.ref CP) (.ref X_NotMatrix) = some false)
    (t_NotPoly_BadNumber : PySem.W.kitOne K (.ref CP) (.ref CB) = some false)
    (t_NotPoly_NoAnswer : PySem.W.kitOne K (.ref CP) (.ref CA) = some false)
    (t_NotPoly_TooLarge : PySem.W.kitOne K (.ref CP) (.ref CT) = some false)
    (t_NotPoly_Malformed : PySem.W.kitOne K (.ref CP) (.ref CM) = some false)
    (hg_BadNumber : PySem.W.findIn K (.ref CB) "__getattribute__" = some (some (.builtin "BaseException.__getattribute__")))
    (hk_BadNumber : PySem.W.findIn K (.ref CB) "__getattr__" = some none)
    (hd_BadNumber : PySem.W.hasDictIn K CB = true)
    (ha_BadNumber : PySem.W.findIn K (.ref CB) "__class__" = some (some (.builtin "object.__class__")))
    (hm_BadNumber : PySem.W.mroIn K CB (.type "object") = some true)
    (sE_BadNumber : PySem.W.subIn K (.ref CB) (.ref CE) = some true)
    (tE_BadNumber : PySem.W.kitOne K (.ref CB) (.ref CE) = some true)
    (t_BadNumber_NotWorld : PySem.W.kitOne K (.ref CB) (.ref CW) = some false)
    (t_BadNumber_NotFamily : PySem.W.kitOne K (.ref CB) (.ref X_NotFamily) = some false)
    (t_BadNumber_NotDiagram : PySem.W.kitOne K (.ref CB) (.ref X_NotDiagram) = some false)
    (t_BadNumber_NotNumber : PySem.W.kitOne K (.ref CB) (.ref CN) = some false)
    (t_BadNumber_NotWord : PySem.W.kitOne K (.ref CB) (.ref X_NotWord) = some false)
    (t_BadNumber_NotPoly : PySem.W.kitOne K (.ref CB) (.ref CP) = some false)
    (t_BadNumber_NotMatrix : PySem.W.kitOne K (.ref CB) (.ref X_NotMatrix) = some false)
    (t_BadNumber_BadNumber : PySem.W.kitOne K (.ref CB) (.ref CB) = some true)
    (t_BadNumber_NoAnswer : PySem.W.kitOne K (.ref CB) (.ref CA) = some false)
    (t_BadNumber_TooLarge : PySem.W.kitOne K (.ref CB) (.ref CT) = some false)
    (t_BadNumber_Malformed : PySem.W.kitOne K (.ref CB) (.ref CM) = some false)
    (hg_NoAnswer : PySem.W.findIn K (.ref CA) "__getattribute__" = some (some (.builtin "BaseException.__getattribute__")))
    (hk_NoAnswer : PySem.W.findIn K (.ref CA) "__getattr__" = some none)
    (hd_NoAnswer : PySem.W.hasDictIn K CA = true)
    (ha_NoAnswer : PySem.W.findIn K (.ref CA) "__class__" = some (some (.builtin "object.__class__")))
    (hm_NoAnswer : PySem.W.mroIn K CA (.type "object") = some true)
    (sE_NoAnswer : PySem.W.subIn K (.ref CA) (.ref CE) = some true)
    (tE_NoAnswer : PySem.W.kitOne K (.ref CA) (.ref CE) = some true)
    (t_NoAnswer_NotWorld : PySem.W.kitOne K (.ref CA) (.ref CW) = some false)
    (t_NoAnswer_NotFamily : PySem.W.kitOne K (.ref CA) (.ref X_NotFamily) = some false)
    (t_NoAnswer_NotDiagram : PySem.W.kitOne K (.ref CA) (.ref X_NotDiagram) = some false)
    (t_NoAnswer_NotNumber : PySem.W.kitOne K (.ref CA) (.ref CN) = some false)
    (t_NoAnswer_NotWord : PySem.W.kitOne K (.ref CA) (.ref X_NotWord) = some false)
    (t_NoAnswer_NotPoly : PySem.W.kitOne K (.ref CA) (.ref CP) = some false)
    (t_NoAnswer_NotMatrix : PySem.W.kitOne K (.ref CA) (.ref X_NotMatrix) = some false)
    (t_NoAnswer_BadNumber : PySem.W.kitOne K (.ref CA) (.ref CB) = some false)
    (t_NoAnswer_NoAnswer : PySem.W.kitOne K (.ref CA) (.ref CA) = some true)
    (t_NoAnswer_TooLarge : PySem.W.kitOne K (.ref CA) (.ref CT) = some false)
    (t_NoAnswer_Malformed : PySem.W.kitOne K (.ref CA) (.ref CM) = some false)
    (hg_Malformed : PySem.W.findIn K (.ref CM) "__getattribute__" = some (some (.builtin "BaseException.__getattribute__")))
    (hk_Malformed : PySem.W.findIn K (.ref CM) "__getattr__" = some none)
    (ha_Malformed : PySem.W.findIn K (.ref CM) "__class__" = some (some (.builtin "object.__class__")))
    (hm_Malformed : PySem.W.mroIn K CM (.type "object") = some true)
    (sE_Malformed : PySem.W.subIn K (.ref CM) (.ref CE) = some true)
    (tE_Malformed : PySem.W.kitOne K (.ref CM) (.ref CE) = some true)
    (t_Malformed_NotWorld : PySem.W.kitOne K (.ref CM) (.ref CW) = some false)
    (t_Malformed_NotFamily : PySem.W.kitOne K (.ref CM) (.ref X_NotFamily) = some false)
    (t_Malformed_NotDiagram : PySem.W.kitOne K (.ref CM) (.ref X_NotDiagram) = some false)
    (t_Malformed_NotNumber : PySem.W.kitOne K (.ref CM) (.ref CN) = some false)
    (t_Malformed_NotWord : PySem.W.kitOne K (.ref CM) (.ref X_NotWord) = some false)
    (t_Malformed_NotPoly : PySem.W.kitOne K (.ref CM) (.ref CP) = some false)
    (t_Malformed_NotMatrix : PySem.W.kitOne K (.ref CM) (.ref X_NotMatrix) = some false)
    (t_Malformed_BadNumber : PySem.W.kitOne K (.ref CM) (.ref CB) = some false)
    (t_Malformed_NoAnswer : PySem.W.kitOne K (.ref CM) (.ref CA) = some false)
    (t_Malformed_TooLarge : PySem.W.kitOne K (.ref CM) (.ref CT) = some false)
    (t_Malformed_Malformed : PySem.W.kitOne K (.ref CM) (.ref CM) = some true)
    : ∃ fd : FuncData, (∀ (s : Shared) (v : Value), BindsTo s fd ⟨[v], []⟩ [("script", v)]) ∧ ∀ base : Heap, K.In base → base.Ns mainGlobals mg → FnG P w K mg base 10 fa fd ["script"] (spLaw K) := by
  have e := hfa.symm.trans (PySem.W.mg_of X G a_law)
  cases e
  have F_is_world := fun_mk (st := s_is_world) l_is_world c_is_world k_is_world
  have g_is_world := PySem.W.mg_of X G a_is_world
  have b_is_world := F_is_world.binds (ps := ["world"]) fun _ _ _ _ _ _ us hl => match us, hl with | [_], _ => rfl
  have F_law_number := fun_mk (st := s_law_number) l_law_number c_law_number k_law_number
  have g_law_number := PySem.W.mg_of X G a_law_number
  have b_law_number := F_law_number.binds (ps := ["cell"]) fun _ _ _ _ _ _ us hl => match us, hl with | [_], _ => rfl
  have F_law_next := fun_mk (st := s_law_next) l_law_next c_law_next k_law_next
  have g_law_next := PySem.W.mg_of X G a_law_next
  have b_law_next := F_law_next.binds (ps := ["draws"]) fun _ _ _ _ _ _ us hl => match us, hl with | [_], _ => rfl
  have F_law_draws := fun_mk (st := s_law_draws) l_law_draws c_law_draws k_law_draws
  have g_law_draws := PySem.W.mg_of X G a_law_draws
  have b_law_draws := F_law_draws.binds (ps := ["script"]) fun _ _ _ _ _ _ us hl => match us, hl with | [_], _ => rfl
  have F_check_world := fun_mk (st := s_check_world) l_check_world c_check_world k_check_world
  have g_check_world := PySem.W.mg_of X G a_check_world
  have b_check_world := F_check_world.binds (ps := ["world"]) fun _ _ _ _ _ _ us hl => match us, hl with | [_], _ => rfl
  have F_is_number := fun_mk (st := s_is_number) l_is_number c_is_number k_is_number
  have g_is_number := PySem.W.mg_of X G a_is_number
  have b_is_number := F_is_number.binds (ps := ["world", "x"]) fun _ _ _ _ _ _ us hl => match us, hl with | [_, _], _ => rfl
  have F_check_number := fun_mk (st := s_check_number) l_check_number c_check_number k_check_number
  have g_check_number := PySem.W.mg_of X G a_check_number
  have b_check_number := F_check_number.binds (ps := ["world", "x"]) fun _ _ _ _ _ _ us hl => match us, hl with | [_, _], _ => rfl
  have F_lowest_ := fun_mk (st := s_lowest_) l_lowest_ c_lowest_ k_lowest_
  have g_lowest_ := PySem.W.mg_of X G a_lowest_
  have b_lowest_ := F_lowest_.binds (ps := ["a", "b"]) fun _ _ _ _ _ _ us hl => match us, hl with | [_, _], _ => rfl
  have F_inverse_ := fun_mk (st := s_inverse_) l_inverse_ c_inverse_ k_inverse_
  have g_inverse_ := PySem.W.mg_of X G a_inverse_
  have b_inverse_ := F_inverse_.binds (ps := ["p", "b"]) fun _ _ _ _ _ _ us hl => match us, hl with | [_, _], _ => rfl
  have F_number : FunA K "number" "number" s_number f_number _ := ⟨⟨_, _, _, _, _, _, _, _, _, _, rfl, l_number, c_number⟩, k_number⟩
  have g_number := PySem.W.mg_of X G a_number
  have F_loop_worth := fun_mk (st := s_loop_worth) l_loop_worth c_loop_worth k_loop_worth
  have g_loop_worth := PySem.W.mg_of X G a_loop_worth
  have b_loop_worth := F_loop_worth.binds (ps := ["world"]) fun _ _ _ _ _ _ us hl => match us, hl with | [_], _ => rfl
  have F_check_two_ := fun_mk (st := s_check_two_) l_check_two_ c_check_two_ k_check_two_
  have g_check_two_ := PySem.W.mg_of X G a_check_two_
  have b_check_two_ := F_check_two_.binds (ps := ["world", "x", "y"]) fun _ _ _ _ _ _ us hl => match us, hl with | [_, _, _], _ => rfl
  have F_times := fun_mk (st := s_times) l_times c_times k_times
  have g_times := PySem.W.mg_of X G a_times
  have b_times := F_times.binds (ps := ["world", "x", "y"]) fun _ _ _ _ _ _ us hl => match us, hl with | [_, _, _], _ => rfl
  have F_over := fun_mk (st := s_over) l_over c_over k_over
  have g_over := PySem.W.mg_of X G a_over
  have b_over := F_over.binds (ps := ["world", "x", "y"]) fun _ _ _ _ _ _ us hl => match us, hl with | [_, _, _], _ => rfl
  have F_power := fun_mk (st := s_power) l_power c_power k_power
  have g_power := PySem.W.mg_of X G a_power
  have b_power := F_power.binds (ps := ["world", "x", "count"]) fun _ _ _ _ _ _ us hl => match us, hl with | [_, _, _], _ => rfl
  have F_integer_text_ := fun_mk (st := s_integer_text_) l_integer_text_ c_integer_text_ k_integer_text_
  have g_integer_text_ := PySem.W.mg_of X G a_integer_text_
  have b_integer_text_ := F_integer_text_.binds (ps := ["k"]) fun _ _ _ _ _ _ us hl => match us, hl with | [_], _ => rfl
  have F_number_text := fun_mk (st := s_number_text) l_number_text c_number_text k_number_text
  have g_number_text := PySem.W.mg_of X G a_number_text
  have b_number_text := F_number_text.binds (ps := ["world", "x"]) fun _ _ _ _ _ _ us hl => match us, hl with | [_, _], _ => rfl
  have F_Malformed_init := fun_mk (st := s_Malformed_init) l_Malformed_init c_Malformed_init k_Malformed_init
  have b_Malformed_init := F_Malformed_init.binds (ps := ["self", "at"]) fun _ _ _ _ _ _ us hl => match us, hl with | [_, _], _ => rfl
  have F_figure_count_ := fun_mk (st := s_figure_count_) l_figure_count_ c_figure_count_ k_figure_count_
  have g_figure_count_ := PySem.W.mg_of X G a_figure_count_
  have b_figure_count_ := F_figure_count_.binds (ps := ["word"]) fun _ _ _ _ _ _ us hl => match us, hl with | [_], _ => rfl
  have F_is_integer_ := fun_mk (st := s_is_integer_) l_is_integer_ c_is_integer_ k_is_integer_
  have g_is_integer_ := PySem.W.mg_of X G a_is_integer_
  have b_is_integer_ := F_is_integer_.binds (ps := ["word"]) fun _ _ _ _ _ _ us hl => match us, hl with | [_], _ => rfl
  have F_integer_of_ := fun_mk (st := s_integer_of_) l_integer_of_ c_integer_of_ k_integer_of_
  have g_integer_of_ := PySem.W.mg_of X G a_integer_of_
  have b_integer_of_ := F_integer_of_.binds (ps := ["word"]) fun _ _ _ _ _ _ us hl => match us, hl with | [_], _ => rfl
  have F_read_any_number := fun_mk (st := s_read_any_number) l_read_any_number c_read_any_number k_read_any_number
  have g_read_any_number := PySem.W.mg_of X G a_read_any_number
  have b_read_any_number := F_read_any_number.binds (ps := ["world", "text"]) fun _ _ _ _ _ _ us hl => match us, hl with | [_, _], _ => rfl
  have F_read_number := fun_mk (st := s_read_number) l_read_number c_read_number k_read_number
  have g_read_number := PySem.W.mg_of X G a_read_number
  have b_read_number := F_read_number.binds (ps := ["world", "text"]) fun _ _ _ _ _ _ us hl => match us, hl with | [_, _], _ => rfl
  have F_is_poly := fun_mk (st := s_is_poly) l_is_poly c_is_poly k_is_poly
  have g_is_poly := PySem.W.mg_of X G a_is_poly
  have b_is_poly := F_is_poly.binds (ps := ["poly"]) fun _ _ _ _ _ _ us hl => match us, hl with | [_], _ => rfl
  have F_check_poly := fun_mk (st := s_check_poly) l_check_poly c_check_poly k_check_poly
  have g_check_poly := PySem.W.mg_of X G a_check_poly
  have b_check_poly := F_check_poly.binds (ps := ["poly"]) fun _ _ _ _ _ _ us hl => match us, hl with | [_], _ => rfl
  have F_multiplied_polys := fun_mk (st := s_multiplied_polys) l_multiplied_polys c_multiplied_polys k_multiplied_polys
  have g_multiplied_polys := PySem.W.mg_of X G a_multiplied_polys
  have b_multiplied_polys := F_multiplied_polys.binds (ps := ["one", "other"]) fun _ _ _ _ _ _ us hl => match us, hl with | [_, _], _ => rfl
  have F_split_off_ := fun_mk (st := s_split_off_) l_split_off_ c_split_off_ k_split_off_
  have g_split_off_ := PySem.W.mg_of X G a_split_off_
  have b_split_off_ := F_split_off_.binds (ps := ["parts", "x"]) fun _ _ _ _ _ _ us hl => match us, hl with | [_, _], _ => rfl
  have F_value_at := fun_mk (st := s_value_at) l_value_at c_value_at k_value_at
  have g_value_at := PySem.W.mg_of X G a_value_at
  have b_value_at := F_value_at.binds (ps := ["poly", "x"]) fun _ _ _ _ _ _ us hl => match us, hl with | [_, _], _ => rfl
  have F_value := fun_mk (st := s_value) l_value c_value k_value
  have g_value := PySem.W.mg_of X G a_value
  have b_value := F_value.binds (ps := ["world", "poly"]) fun _ _ _ _ _ _ us hl => match us, hl with | [_, _], _ => rfl
  have F_root_count_ := fun_mk (st := s_root_count_) l_root_count_ c_root_count_ k_root_count_
  have g_root_count_ := PySem.W.mg_of X G a_root_count_
  have b_root_count_ := F_root_count_.binds (ps := ["poly", "x"]) fun _ _ _ _ _ _ us hl => match us, hl with | [_, _], _ => rfl
  have F_roots : FunA K "roots" "roots" s_roots f_roots _ := ⟨⟨_, _, _, _, _, _, _, _, _, _, rfl, l_roots, c_roots⟩, k_roots⟩
  have g_roots := PySem.W.mg_of X G a_roots
  have F_check_count_ := fun_mk (st := s_check_count_) l_check_count_ c_check_count_ k_check_count_
  have g_check_count_ := PySem.W.mg_of X G a_check_count_
  have b_check_count_ := F_check_count_.binds (ps := ["count"]) fun _ _ _ _ _ _ us hl => match us, hl with | [_], _ => rfl
  have F_power_of_d := fun_mk (st := s_power_of_d) l_power_of_d c_power_of_d k_power_of_d
  have g_power_of_d := PySem.W.mg_of X G a_power_of_d
  have b_power_of_d := F_power_of_d.binds (ps := ["count"]) fun _ _ _ _ _ _ us hl => match us, hl with | [_], _ => rfl
  have F_falling := fun_mk (st := s_falling) l_falling c_falling k_falling
  have g_falling := PySem.W.mg_of X G a_falling
  have b_falling := F_falling.binds (ps := ["count"]) fun _ _ _ _ _ _ us hl => match us, hl with | [_], _ => rfl
  have F_rising := fun_mk (st := s_rising) l_rising c_rising k_rising
  have g_rising := PySem.W.mg_of X G a_rising
  have b_rising := F_rising.binds (ps := ["count"]) fun _ _ _ _ _ _ us hl => match us, hl with | [_], _ => rfl
  have F_by_falling := fun_mk (st := s_by_falling) l_by_falling c_by_falling k_by_falling
  have g_by_falling := PySem.W.mg_of X G a_by_falling
  have b_by_falling := F_by_falling.binds (ps := ["poly"]) fun _ _ _ _ _ _ us hl => match us, hl with | [_], _ => rfl
  have F_law_error2 := fun_mk (st := s_law_error2) l_law_error2 c_law_error2 k_law_error2
  have g_law_error2 := PySem.W.mg_of X G a_law_error2
  have b_law_error2 := F_law_error2.binds (ps := ["error"]) fun _ _ _ _ _ _ us hl => match us, hl with | [_], _ => rfl
  have F_law_told := fun_mk (st := s_law_told) l_law_told c_law_told k_law_told
  have g_law_told := PySem.W.mg_of X G a_law_told
  have b_law_told := F_law_told.binds (ps := ["way", "world", "x", "poly"]) fun _ _ _ _ _ _ us hl => match us, hl with | [_, _, _, _], _ => rfl
  have F_law_is_counted := fun_mk (st := s_law_is_counted) l_law_is_counted c_law_is_counted k_law_is_counted
  have g_law_is_counted := PySem.W.mg_of X G a_law_is_counted
  have b_law_is_counted := F_law_is_counted.binds (ps := ["count"]) fun _ _ _ _ _ _ us hl => match us, hl with | [_], _ => rfl
  have F_law_is_root := fun_mk (st := s_law_is_root) l_law_is_root c_law_is_root k_law_is_root
  have g_law_is_root := PySem.W.mg_of X G a_law_is_root
  have b_law_is_root := F_law_is_root.binds (ps := ["draws"]) fun _ _ _ _ _ _ us hl => match us, hl with | [_], _ => rfl
  have F_law := fun_mk (st := s_law) l_law c_law k_law
  have g_law := PySem.W.mg_of X G a_law
  have b_law := F_law.binds (ps := ["script"]) fun _ _ _ _ _ _ us hl => match us, hl with | [_], _ => rfl
  have z_int := PySem.W.mg_none_of X G zn_int
  have z_range := PySem.W.mg_none_of X G zn_range
  have z_abs := PySem.W.mg_none_of X G zn_abs
  have z_str := PySem.W.mg_none_of X G zn_str
  have z_divmod := PySem.W.mg_none_of X G zn_divmod
  have z_len := PySem.W.mg_none_of X G zn_len
  have z_all := PySem.W.mg_none_of X G zn_all
  have z_repr := PySem.W.mg_none_of X G zn_repr
  have z_list := PySem.W.mg_none_of X G zn_list
  have z_tuple := PySem.W.mg_none_of X G zn_tuple
  have z_max := PySem.W.mg_none_of X G zn_max
  have z_enumerate := PySem.W.mg_none_of X G zn_enumerate
  have z_reversed := PySem.W.mg_none_of X G zn_reversed
  have z_isinstance := PySem.W.mg_none_of X G zn_isinstance
  have z_sorted := PySem.W.mg_none_of X G zn_sorted
  have m_gcd := PySem.W.mg_of X G n_gcd
  have m_PRIMES := PySem.W.mg_of X G n_PRIMES
  have tP : ∀ H, SqT K H aP (primes.map V.int) := fun H => .inr ⟨_, _, _, l_PRIMES, rfl, rfl, (by show 11 ≤ sizeLine; decide), .cons ⟨_, rfl⟩ (.cons ⟨_, rfl⟩ (.cons ⟨_, rfl⟩ (.cons ⟨_, rfl⟩ (.cons ⟨_, rfl⟩ (.cons ⟨_, rfl⟩ (.cons ⟨_, rfl⟩ (.cons ⟨_, rfl⟩ (.cons ⟨_, rfl⟩ (.cons ⟨_, rfl⟩ (.cons ⟨_, rfl⟩ (.nil)))))))))))⟩
  have E_NotWorld : ErrC K mg "NotWorld" CW := ⟨PySem.W.mg_of X G n_NotWorld, x_NotWorld, kc_NotWorld, bc_NotWorld, tc_NotWorld⟩
  have E_NotNumber : ErrC K mg "NotNumber" CN := ⟨PySem.W.mg_of X G n_NotNumber, x_NotNumber, kc_NotNumber, bc_NotNumber, tc_NotNumber⟩
  have E_NotPoly : ErrC K mg "NotPoly" CP := ⟨PySem.W.mg_of X G n_NotPoly, x_NotPoly, kc_NotPoly, bc_NotPoly, tc_NotPoly⟩
  have E_BadNumber : ErrC K mg "BadNumber" CB := ⟨PySem.W.mg_of X G n_BadNumber, x_BadNumber, kc_BadNumber, bc_BadNumber, tc_BadNumber⟩
  have E_NoAnswer : ErrC K mg "NoAnswer" CA := ⟨PySem.W.mg_of X G n_NoAnswer, x_NoAnswer, kc_NoAnswer, bc_NoAnswer, tc_NoAnswer⟩
  have E_TooLarge : ErrC K mg "TooLarge" CT := ⟨PySem.W.mg_of X G n_TooLarge, x_TooLarge, kc_TooLarge, bc_TooLarge, tc_TooLarge⟩
  have b_number : Binds K (PySem.W.fnOf "number" "number" (defArgs s_number) (defBody s_number) (defScope s_number) (.ref dT_number) kV_number dc_number pm_number an_number cd_number ct_number) ["world", "a", "b"] [] := by
        obtain ⟨ds, hv, hb⟩ := FunD.binds1 (K := K) (kws := []) (dvs := [.int 1]) (ps := ["world", "a", "b"]) ⟨⟨_, _, _, _, _, _, _, _, _, _, rfl, l_number, c_number, .inr ⟨(fun z => nomatch z), dT_number, _, [_], _, rfl, ld_number, rfl, .cons ⟨_, rfl⟩ .nil⟩, .inl rfl⟩, k_number⟩ 3 1 (fun z => nomatch z) rfl
          (fun T kV doc pm an cdv ct us its hl hl2 => match us, its, hl, hl2 with | [_, _, _], [_], _, _ => ⟨_, rfl, rfl⟩)
        cases hv
        exact hb
  have m_MOST_POWER := PySem.W.mg_of X G n_MOST_POWER
  have m_MOST_FIGURES := PySem.W.mg_of X G n_MOST_FIGURES
  have m_CHUNK_FIGURES := PySem.W.mg_of X G n_CHUNK_FIGURES
  have m_CHUNK := PySem.W.mg_of X G n_CHUNK
  have m_MOST_PARTS := PySem.W.mg_of X G n_MOST_PARTS
  have m_MOST_ROOT := PySem.W.mg_of X G n_MOST_ROOT
  have m_MOST_COUNT := PySem.W.mg_of X G n_MOST_COUNT
  obtain ⟨un2, b_number2⟩ : ∃ t, Binds K (PySem.W.fnOf "number" "number" (defArgs s_number) (defBody s_number) (defScope s_number) (.ref dT_number) kV_number dc_number pm_number an_number cd_number ct_number) ["world", "a", "b"] [.int 1 t] := by
        obtain ⟨ds, hv, hb⟩ := FunD.binds1 (K := K) (kws := []) (dvs := [.int 1]) (ps := ["world", "a", "b"]) ⟨⟨_, _, _, _, _, _, _, _, _, _, rfl, l_number, c_number, .inr ⟨(fun z => nomatch z), dT_number, _, [_], _, rfl, ld_number, rfl, .cons ⟨_, rfl⟩ .nil⟩, .inl rfl⟩, k_number⟩ 2 0 (fun z => nomatch z) rfl
          (fun T kV doc pm an cdv ct us its hl hl2 => match us, its, hl, hl2 with | [_, _], [_], _, _ => ⟨_, rfl, rfl⟩)
        cases hv with
        | cons r1 r2 =>
          cases r2
          obtain ⟨t, rfl⟩ := r1
          exact ⟨t, hb⟩
  have m_ONE := PySem.W.mg_of X G n_ONE
  have tO : ∀ H, SqT K H aO [.int 1, .int 1] := fun H => .inr ⟨_, _, _, l_ONE, rfl, rfl, (by show 2 ≤ sizeLine; decide), .cons ⟨_, rfl⟩ (.cons ⟨_, rfl⟩ .nil)⟩
  have OX_Malformed : MalC K mg CM f_Malformed_init := ⟨PySem.W.mg_of X G n_Malformed, ⟨⟨_, _, _, _, _, _, _, _, _, _, _, _, _, _, _, x_Malformed, r_Malformed⟩, sa_Malformed, ec_Malformed, tc_Malformed, kc_Malformed⟩, na_Malformed, ii_Malformed, ti_Malformed⟩
  have XM : XfC K CM := ⟨ga_Malformed, gg_Malformed, ec_Malformed, hd_Malformed⟩
  obtain ⟨ur, b_roots1⟩ : ∃ t, Binds K (PySem.W.fnOf "roots" "roots" (defArgs s_roots) (defBody s_roots) (defScope s_roots) .none (.ref dK_roots) dc_roots pm_roots an_roots cd_roots ct_roots) ["poly", "most"] [.int 1000 t] := by
        obtain ⟨ds, hv, hb⟩ := FunD.binds0 (K := K) (kws := [("most", .int 1000)]) (ps := ["poly", "most"]) ⟨⟨_, _, _, _, _, _, _, _, _, _, rfl, l_roots, c_roots, .inl ⟨rfl, rfl⟩, .inr ⟨dK_roots, rfl, fun q hq => by rw [List.mem_singleton.mp hq]; exact ⟨_, kd_roots, ⟨_, rfl⟩⟩⟩⟩, k_roots⟩ 1 (fun z => nomatch z) rfl
          (fun D doc pm an cdv ct us ks hl hl2 => match us, ks, hl, hl2 with | [_], [_], _, _ => ⟨_, _, _, _, _, _, rfl, rfl, rfl⟩)
        cases hv with
        | cons r1 r2 =>
          cases r2
          obtain ⟨t, rfl⟩ := r1
          exact ⟨t, hb⟩
  have bK_roots : KBn K (PySem.W.fnOf "roots" "roots" (defArgs s_roots) (defBody s_roots) (defScope s_roots) .none (.ref dK_roots) dc_roots pm_roots an_roots cd_roots ct_roots) ["poly", "most"] 1 ["most"] (fun us ws => us ++ ws) (fun vs zs => vs ++ zs) :=
    ⟨fun s us ws X l1 l2 => match us, ws, l1, l2 with | [_], [_], _, _ => .of_eq rfl, fun r1 r2 => r1.append r2⟩
  have m_WorthError := PySem.W.mg_of X G n_WorthError
  have m_NotWorld := PySem.W.mg_of X G n_NotWorld
  have m_NotFamily := PySem.W.mg_of X G n_NotFamily
  have m_NotDiagram := PySem.W.mg_of X G n_NotDiagram
  have m_NotNumber := PySem.W.mg_of X G n_NotNumber
  have m_NotWord := PySem.W.mg_of X G n_NotWord
  have m_NotPoly := PySem.W.mg_of X G n_NotPoly
  have m_NotMatrix := PySem.W.mg_of X G n_NotMatrix
  have m_BadNumber := PySem.W.mg_of X G n_BadNumber
  have m_NoAnswer := PySem.W.mg_of X G n_NoAnswer
  have m_TooLarge := PySem.W.mg_of X G n_TooLarge
  have m_Malformed := PySem.W.mg_of X G n_Malformed
  have I_NotWorld : ExcC K CW := ⟨hg_NotWorld, hk_NotWorld, bc_NotWorld, hd_NotWorld, ha_NotWorld, hn_cls, ht_cls, hm_NotWorld⟩
  have J_NotWorld : KindE K CE CW X_NotFamily X_NotDiagram CN X_NotWord CP X_NotMatrix CB CA CT CM CW "world" := ⟨I_NotWorld, tE_NotWorld, by decide, t_NotWorld_NotWorld, t_NotWorld_NotFamily, t_NotWorld_NotDiagram, t_NotWorld_NotNumber, t_NotWorld_NotWord, t_NotWorld_NotPoly, t_NotWorld_NotMatrix, t_NotWorld_BadNumber, t_NotWorld_NoAnswer, t_NotWorld_TooLarge, t_NotWorld_Malformed⟩
  have I_NotNumber : ExcC K CN := ⟨hg_NotNumber, hk_NotNumber, bc_NotNumber, hd_NotNumber, ha_NotNumber, hn_cls, ht_cls, hm_NotNumber⟩
  have J_NotNumber : KindE K CE CW X_NotFamily X_NotDiagram CN X_NotWord CP X_NotMatrix CB CA CT CM CN "value" := ⟨I_NotNumber, tE_NotNumber, by decide, t_NotNumber_NotWorld, t_NotNumber_NotFamily, t_NotNumber_NotDiagram, t_NotNumber_NotNumber, t_NotNumber_NotWord, t_NotNumber_NotPoly, t_NotNumber_NotMatrix, t_NotNumber_BadNumber, t_NotNumber_NoAnswer, t_NotNumber_TooLarge, t_NotNumber_Malformed⟩
  have I_NotPoly : ExcC K CP := ⟨hg_NotPoly, hk_NotPoly, bc_NotPoly, hd_NotPoly, ha_NotPoly, hn_cls, ht_cls, hm_NotPoly⟩
  have J_NotPoly : KindE K CE CW X_NotFamily X_NotDiagram CN X_NotWord CP X_NotMatrix CB CA CT CM CP "poly" := ⟨I_NotPoly, tE_NotPoly, by decide, t_NotPoly_NotWorld, t_NotPoly_NotFamily, t_NotPoly_NotDiagram, t_NotPoly_NotNumber, t_NotPoly_NotWord, t_NotPoly_NotPoly, t_NotPoly_NotMatrix, t_NotPoly_BadNumber, t_NotPoly_NoAnswer, t_NotPoly_TooLarge, t_NotPoly_Malformed⟩
  have I_BadNumber : ExcC K CB := ⟨hg_BadNumber, hk_BadNumber, bc_BadNumber, hd_BadNumber, ha_BadNumber, hn_cls, ht_cls, hm_BadNumber⟩
  have J_BadNumber : KindE K CE CW X_NotFamily X_NotDiagram CN X_NotWord CP X_NotMatrix CB CA CT CM CB "number" := ⟨I_BadNumber, tE_BadNumber, by decide, t_BadNumber_NotWorld, t_BadNumber_NotFamily, t_BadNumber_NotDiagram, t_BadNumber_NotNumber, t_BadNumber_NotWord, t_BadNumber_NotPoly, t_BadNumber_NotMatrix, t_BadNumber_BadNumber, t_BadNumber_NoAnswer, t_BadNumber_TooLarge, t_BadNumber_Malformed⟩
  have I_NoAnswer : ExcC K CA := ⟨hg_NoAnswer, hk_NoAnswer, bc_NoAnswer, hd_NoAnswer, ha_NoAnswer, hn_cls, ht_cls, hm_NoAnswer⟩
  have J_NoAnswer : KindE K CE CW X_NotFamily X_NotDiagram CN X_NotWord CP X_NotMatrix CB CA CT CM CA "answer" := ⟨I_NoAnswer, tE_NoAnswer, by decide, t_NoAnswer_NotWorld, t_NoAnswer_NotFamily, t_NoAnswer_NotDiagram, t_NoAnswer_NotNumber, t_NoAnswer_NotWord, t_NoAnswer_NotPoly, t_NoAnswer_NotMatrix, t_NoAnswer_BadNumber, t_NoAnswer_NoAnswer, t_NoAnswer_TooLarge, t_NoAnswer_Malformed⟩
  have I_Malformed : ExcC K CM := ⟨hg_Malformed, hk_Malformed, ec_Malformed, hd_Malformed, ha_Malformed, hn_cls, ht_cls, hm_Malformed⟩
  have J_Malformed : KindM K CE CW X_NotFamily X_NotDiagram CN X_NotWord CP X_NotMatrix CB CA CT CM := ⟨I_Malformed, tE_Malformed, t_Malformed_NotWorld, t_Malformed_NotFamily, t_Malformed_NotDiagram, t_Malformed_NotNumber, t_Malformed_NotWord, t_Malformed_NotPoly, t_Malformed_NotMatrix, t_Malformed_BadNumber, t_Malformed_NoAnswer, t_Malformed_TooLarge, t_Malformed_Malformed⟩
  have T_told : ErrE K mg CE CW X_NotFamily X_NotDiagram CN X_NotWord CP X_NotMatrix CB CA CT CM := ⟨PySem.W.mg_of X G n_WorthError, ebc, ehd, ety, sE_NotWorld, sE_NotNumber, sE_NotPoly, sE_BadNumber, sE_NoAnswer, sE_Malformed, J_NotWorld, J_NotNumber, J_NotPoly, J_BadNumber, J_NoAnswer, J_Malformed⟩
  refine ⟨PySem.W.fnOf "law" "law" (defArgs s_law) (defBody s_law) (defScope s_law) .none kV_law dc_law pm_law an_law cd_law ct_law, fun s v => .of_eq rfl, fun base _ _ => ?_⟩
  have G_is_world := ok_is_world (P := P) (w := w) (mg := mg) (base := base) (F := F_is_world) (m_PRIMES := m_PRIMES) (tP := tP)
  have G_law_number := ok_plain (P := P) (w := w) (mg := mg) (base := base) (F := F_law_number)
  have G_law_next := ok_next (P := P) (w := w) (mg := mg) (base := base) (F := F_law_next)
  have G_law_draws := ok_draws (P := P) (w := w) (mg := mg) (base := base) (F := F_law_draws) (z_range := z_range) (z_int := z_int) (G_law_number := G_law_number) (g_law_number := g_law_number) (k_law_number := k_law_number) (b_law_number := b_law_number)
  have G_check_world := ok_check_world (P := P) (w := w) (mg := mg) (base := base) (F := F_check_world) (T := E_NotWorld) (G_is_world := G_is_world) (g_is_world := g_is_world) (k_is_world := k_is_world) (b_is_world := b_is_world)
  have G_is_number := ok_is_number (P := P) (w := w) (mg := mg) (base := base) (F := F_is_number) (m_gcd := m_gcd) (G_check_world := G_check_world) (g_check_world := g_check_world) (k_check_world := k_check_world) (b_check_world := b_check_world)
  have G_check_number := ok_check_number (P := P) (w := w) (mg := mg) (base := base) (F := F_check_number) (T := E_NotNumber) (G_is_number := G_is_number) (g_is_number := g_is_number) (k_is_number := k_is_number) (b_is_number := b_is_number)
  have G_lowest_ := ok_lowest (P := P) (w := w) (mg := mg) (base := base) (F := F_lowest_) (m_gcd := m_gcd)
  have G_inverse_ := ok_inverse (P := P) (w := w) (mg := mg) (base := base) (F := F_inverse_)
  have G_number := ok_number (P := P) (w := w) (mg := mg) (base := base) (F := F_number) (T := E_BadNumber) (G_check_world := G_check_world) (g_check_world := g_check_world) (k_check_world := k_check_world) (b_check_world := b_check_world) (G_inverse_ := G_inverse_) (g_inverse_ := g_inverse_) (k_inverse_ := k_inverse_) (b_inverse_ := b_inverse_) (G_lowest_ := G_lowest_) (g_lowest_ := g_lowest_) (k_lowest_ := k_lowest_) (b_lowest_ := b_lowest_)
  have G_loop_worth := ok_loop_worth (P := P) (w := w) (mg := mg) (base := base) (F := F_loop_worth) (G_check_world := G_check_world) (g_check_world := g_check_world) (k_check_world := k_check_world) (b_check_world := b_check_world)
  have G_check_two_ := ok_check_two (P := P) (w := w) (mg := mg) (base := base) (F := F_check_two_) (G_check_number := G_check_number) (g_check_number := g_check_number) (k_check_number := k_check_number) (b_check_number := b_check_number)
  have G_times := ok_times (P := P) (w := w) (mg := mg) (base := base) (F := F_times) (G_check_two_ := G_check_two_) (g_check_two_ := g_check_two_) (k_check_two_ := k_check_two_) (b_check_two_ := b_check_two_) (G_number := G_number) (g_number := g_number) (k_number := k_number) (b_number := b_number)
  have G_over := ok_over (P := P) (w := w) (mg := mg) (base := base) (F := F_over) (G_check_two_ := G_check_two_) (g_check_two_ := g_check_two_) (k_check_two_ := k_check_two_) (b_check_two_ := b_check_two_) (G_number := G_number) (g_number := g_number) (k_number := k_number) (b_number := b_number)
  have G_power := ok_power (P := P) (w := w) (mg := mg) (base := base) (F := F_power) (T := E_BadNumber) (z_range := z_range) (m_MOST_POWER := m_MOST_POWER) (m_ONE := m_ONE) (tO := tO) (G_check_number := G_check_number) (g_check_number := g_check_number) (k_check_number := k_check_number) (b_check_number := b_check_number) (G_times := G_times) (g_times := g_times) (k_times := k_times) (b_times := b_times)
  have G_integer_text_ := ok_integer_text_ (P := P) (w := w) (mg := mg) (base := base) (F := F_integer_text_) (z_abs := z_abs) (z_str := z_str) (z_divmod := z_divmod) (m_CHUNK := m_CHUNK) (m_CHUNK_FIGURES := m_CHUNK_FIGURES)
  have G_number_text := ok_number_text (P := P) (w := w) (mg := mg) (base := base) (F := F_number_text) (G_check_number := G_check_number) (g_check_number := g_check_number) (k_check_number := k_check_number) (b_check_number := b_check_number) (G_integer_text_ := G_integer_text_) (g_integer_text_ := g_integer_text_) (k_integer_text_ := k_integer_text_) (b_integer_text_ := b_integer_text_)
  have G_Malformed_init := ok_Malformed_init (P := P) (w := w) (mg := mg) (base := base) (F := F_Malformed_init)
  have G_figure_count_ := ok_figure_count_ (P := P) (w := w) (mg := mg) (base := base) (F := F_figure_count_) (z_len := z_len)
  have G_is_integer_ := ok_is_integer_ (P := P) (w := w) (mg := mg) (base := base) (F := F_is_integer_)
  have G_integer_of_ := ok_integer_of_ (P := P) (w := w) (mg := mg) (base := base) (F := F_integer_of_) (z_len := z_len) (z_int := z_int) (z_range := z_range) (m_CHUNK_FIGURES := m_CHUNK_FIGURES) (m_CHUNK := m_CHUNK)
  have G_read_any_number := ok_read_any_number (P := P) (w := w) (mg := mg) (base := base) (F := F_read_any_number) (z_len := z_len) (z_all := z_all) (OX_Malformed := OX_Malformed) (G_Malformed_init := G_Malformed_init) (b_Malformed_init := b_Malformed_init) (G_is_number := G_is_number) (g_is_number := g_is_number) (k_is_number := k_is_number) (b_is_number := b_is_number) (G_number_text := G_number_text) (g_number_text := g_number_text) (k_number_text := k_number_text) (b_number_text := b_number_text) (G_is_integer_ := G_is_integer_) (g_is_integer_ := g_is_integer_) (k_is_integer_ := k_is_integer_) (b_is_integer_ := b_is_integer_) (G_integer_of_ := G_integer_of_) (g_integer_of_ := g_integer_of_) (k_integer_of_ := k_integer_of_) (b_integer_of_ := b_integer_of_)
  have G_read_number := ok_read_number (P := P) (w := w) (mg := mg) (base := base) (F := F_read_number) (z_all := z_all) (m_MOST_FIGURES := m_MOST_FIGURES) (OX_Malformed := OX_Malformed) (G_Malformed_init := G_Malformed_init) (b_Malformed_init := b_Malformed_init) (G_check_world := G_check_world) (g_check_world := g_check_world) (k_check_world := k_check_world) (b_check_world := b_check_world) (G_figure_count_ := G_figure_count_) (g_figure_count_ := g_figure_count_) (k_figure_count_ := k_figure_count_) (b_figure_count_ := b_figure_count_) (G_read_any_number := G_read_any_number) (g_read_any_number := g_read_any_number) (k_read_any_number := k_read_any_number) (b_read_any_number := b_read_any_number)
  have G_is_poly := ok_is_poly (P := P) (w := w) (mg := mg) (base := base) (F := F_is_poly) (z_len := z_len) (m_MOST_PARTS := m_MOST_PARTS)
  have G_check_poly := ok_check_poly (P := P) (w := w) (mg := mg) (base := base) (F := F_check_poly) (T := E_NotPoly) (G_is_poly := G_is_poly) (g_is_poly := g_is_poly) (k_is_poly := k_is_poly) (b_is_poly := b_is_poly)
  have G_multiplied_polys := ok_multiplied_polys (P := P) (w := w) (mg := mg) (base := base) (F := F_multiplied_polys) (z_len := z_len) (z_tuple := z_tuple) (z_enumerate := z_enumerate) (T := E_TooLarge) (m_MOST_PARTS := m_MOST_PARTS) (G_check_poly := G_check_poly) (g_check_poly := g_check_poly) (k_check_poly := k_check_poly) (b_check_poly := b_check_poly)
  have G_split_off_ := ok_split_off_ (P := P) (w := w) (mg := mg) (base := base) (F := F_split_off_) (z_reversed := z_reversed)
  have G_value_at := ok_value_at (P := P) (w := w) (mg := mg) (base := base) (F := F_value_at) (G_check_poly := G_check_poly) (g_check_poly := g_check_poly) (k_check_poly := k_check_poly) (b_check_poly := b_check_poly) (G_split_off_ := G_split_off_) (g_split_off_ := g_split_off_) (k_split_off_ := k_split_off_) (b_split_off_ := b_split_off_)
  have G_value := ok_value (P := P) (w := w) (mg := mg) (base := base) (F := F_value) (G_check_world := G_check_world) (g_check_world := g_check_world) (k_check_world := k_check_world) (b_check_world := b_check_world) (G_number := G_number) (g_number := g_number) (k_number := k_number) (b_number := b_number) (G_value_at := G_value_at) (g_value_at := g_value_at) (k_value_at := k_value_at) (b_value_at := b_value_at) (b_number2 := b_number2)
  have G_root_count_ := ok_root_count_ (P := P) (w := w) (mg := mg) (base := base) (F := F_root_count_) (G_split_off_ := G_split_off_) (g_split_off_ := g_split_off_) (k_split_off_ := k_split_off_) (b_split_off_ := b_split_off_)
  have G_roots := ok_roots (P := P) (w := w) (mg := mg) (base := base) (F := F_roots) (z_range := z_range) (m_MOST_ROOT := m_MOST_ROOT) (T := E_BadNumber) (T2 := E_NoAnswer) (G_check_poly := G_check_poly) (g_check_poly := g_check_poly) (k_check_poly := k_check_poly) (b_check_poly := b_check_poly) (G_root_count_ := G_root_count_) (g_root_count_ := g_root_count_) (k_root_count_ := k_root_count_) (b_root_count_ := b_root_count_)
  have G_check_count_ := ok_check_count_ (P := P) (w := w) (mg := mg) (base := base) (F := F_check_count_) (T := E_BadNumber) (m_MOST_COUNT := m_MOST_COUNT)
  have G_power_of_d := ok_power_of_d (P := P) (w := w) (mg := mg) (base := base) (F := F_power_of_d) (G_check_count_ := G_check_count_) (g_check_count_ := g_check_count_) (k_check_count_ := k_check_count_) (b_check_count_ := b_check_count_)
  have G_falling := ok_falling (P := P) (w := w) (mg := mg) (base := base) (F := F_falling) (z_range := z_range) (G_check_count_ := G_check_count_) (g_check_count_ := g_check_count_) (k_check_count_ := k_check_count_) (b_check_count_ := b_check_count_) (G_multiplied_polys := G_multiplied_polys) (g_multiplied_polys := g_multiplied_polys) (k_multiplied_polys := k_multiplied_polys) (b_multiplied_polys := b_multiplied_polys)
  have G_rising := ok_rising (P := P) (w := w) (mg := mg) (base := base) (F := F_rising) (z_range := z_range) (G_check_count_ := G_check_count_) (g_check_count_ := g_check_count_) (k_check_count_ := k_check_count_) (b_check_count_ := b_check_count_) (G_multiplied_polys := G_multiplied_polys) (g_multiplied_polys := g_multiplied_polys) (k_multiplied_polys := k_multiplied_polys) (b_multiplied_polys := b_multiplied_polys)
  have G_by_falling := ok_by_falling (P := P) (w := w) (mg := mg) (base := base) (F := F_by_falling) (z_len := z_len) (z_range := z_range) (z_list := z_list) (G_check_poly := G_check_poly) (g_check_poly := g_check_poly) (k_check_poly := k_check_poly) (b_check_poly := b_check_poly) (G_split_off_ := G_split_off_) (g_split_off_ := g_split_off_) (k_split_off_ := k_split_off_) (b_split_off_ := b_split_off_)
  have G_law_error2 := ok_law_error2 (P := P) (w := w) (mg := mg) (base := base) (F := F_law_error2) (m_WorthError := m_WorthError) (m_NotWorld := m_NotWorld) (m_NotFamily := m_NotFamily) (m_NotDiagram := m_NotDiagram) (m_NotNumber := m_NotNumber) (m_NotWord := m_NotWord) (m_NotPoly := m_NotPoly) (m_NotMatrix := m_NotMatrix) (m_BadNumber := m_BadNumber) (m_NoAnswer := m_NoAnswer) (m_TooLarge := m_TooLarge) (m_Malformed := m_Malformed) (OX_Malformed := OX_Malformed) (XM := XM) (z_isinstance := z_isinstance) (z_len := z_len) (z_str := z_str)
  have G_law_told := ok_law_told (P := P) (w := w) (mg := mg) (base := base) (F := F_law_told) (T := T_told) (G_number_text := G_number_text) (g_number_text := g_number_text) (k_number_text := k_number_text) (b_number_text := b_number_text) (G_read_number := G_read_number) (g_read_number := g_read_number) (k_read_number := k_read_number) (b_read_number := b_read_number) (G_value := G_value) (g_value := g_value) (k_value := k_value) (b_value := b_value) (G_value_at := G_value_at) (g_value_at := g_value_at) (k_value_at := k_value_at) (b_value_at := b_value_at) (G_by_falling := G_by_falling) (g_by_falling := g_by_falling) (k_by_falling := k_by_falling) (b_by_falling := b_by_falling) (G_loop_worth := G_loop_worth) (g_loop_worth := g_loop_worth) (k_loop_worth := k_loop_worth) (b_loop_worth := b_loop_worth) (G_number := G_number) (g_number := g_number) (k_number := k_number) (b_number := b_number) (G_law_error2 := G_law_error2) (g_law_error2 := g_law_error2) (k_law_error2 := k_law_error2) (b_law_error2 := b_law_error2) (G_roots := G_roots) (g_roots := g_roots) (k_roots := k_roots) (b_roots1 := b_roots1)
  have G_law_is_counted := ok_law_is_counted (P := P) (w := w) (mg := mg) (base := base) (F := F_law_is_counted) (z_len := z_len) (z_range := z_range) (G_falling := G_falling) (g_falling := g_falling) (k_falling := k_falling) (b_falling := b_falling) (G_rising := G_rising) (g_rising := g_rising) (k_rising := k_rising) (b_rising := b_rising) (G_power_of_d := G_power_of_d) (g_power_of_d := g_power_of_d) (k_power_of_d := k_power_of_d) (b_power_of_d := b_power_of_d) (G_value_at := G_value_at) (g_value_at := g_value_at) (k_value_at := k_value_at) (b_value_at := b_value_at)
  have G_law_is_root := ok_law_is_root (P := P) (w := w) (mg := mg) (base := base) (F := F_law_is_root) (z_int := z_int) (z_sorted := z_sorted) (z_repr := z_repr) (G_law_next := G_law_next) (g_law_next := g_law_next) (k_law_next := k_law_next) (b_law_next := b_law_next) (G_roots := G_roots) (g_roots := g_roots) (k_roots := k_roots) (b_roots1 := b_roots1)
  exact ok_law (P := P) (w := w) (mg := mg) (base := base) (F := F_law) (z_int := z_int) (z_range := z_range) (z_repr := z_repr) (z_all := z_all) (z_abs := z_abs) (G_law_draws := G_law_draws) (g_law_draws := g_law_draws) (k_law_draws := k_law_draws) (b_law_draws := b_law_draws) (G_law_next := G_law_next) (g_law_next := g_law_next) (k_law_next := k_law_next) (b_law_next := b_law_next) (G_is_world := G_is_world) (g_is_world := g_is_world) (k_is_world := k_is_world) (b_is_world := b_is_world) (G_number := G_number) (g_number := g_number) (k_number := k_number) (b_number := b_number) (G_times := G_times) (g_times := g_times) (k_times := k_times) (b_times := b_times) (G_over := G_over) (g_over := g_over) (k_over := k_over) (b_over := b_over) (G_power := G_power) (g_power := g_power) (k_power := k_power) (b_power := b_power) (G_law_is_counted := G_law_is_counted) (g_law_is_counted := g_law_is_counted) (k_law_is_counted := k_law_is_counted) (b_law_is_counted := b_law_is_counted) (G_law_is_root := G_law_is_root) (g_law_is_root := g_law_is_root) (k_law_is_root := k_law_is_root) (b_law_is_root := b_law_is_root) (G_law_told := G_law_told) (g_law_told := g_law_told) (k_law_told := k_law_told) (b_law_told := b_law_told) (G_by_falling := G_by_falling) (g_by_falling := g_by_falling) (k_by_falling := k_by_falling) (b_by_falling := b_by_falling) (G_value_at := G_value_at) (g_value_at := g_value_at) (k_value_at := k_value_at) (b_value_at := b_value_at)
end T
open PySem PySem.W PyProof.Rows
set_option maxHeartbeats 0 in
theorem PySem.Challenge.cw_threadworth_k08_bounds_of_numbers_and_po_holds : PySem.Challenge.rw_threadworth_k08_bounds_of_numbers_and_po.Holds := by
  w_on; o_law; k_head; (case hw => w_witness2)
  k_fill
  refine L2.walk_ofG (l := PySem.Challenge.rw_threadworth_k08_bounds_of_numbers_and_po) (n := 63) (k := 10) (x := "script") (sp := fun w => T.spLaw _) rfl (by decide) rfl ⟨rfl, by decide, by decide⟩ (fun w h Y => PySem.W.kIn_of Y) ?F (fun _ _ a ns hl hS => ⟨a, ns, rfl, hS, hl, fun _ => rfl⟩)
  case F =>
    intro w mg fa h KX G hmg
    refine' T.all_mk KX G hmg ?a_is_world ?l_is_world ?c_is_world ?k_is_world ?a_law_number ?l_law_number ?c_law_number ?k_law_number ?a_law_next ?l_law_next ?c_law_next ?k_law_next ?a_law_draws ?l_law_draws ?c_law_draws ?k_law_draws ?a_check_world ?l_check_world ?c_check_world ?k_check_world ?a_is_number ?l_is_number ?c_is_number ?k_is_number ?a_check_number ?l_check_number ?c_check_number ?k_check_number ?a_lowest_ ?l_lowest_ ?c_lowest_ ?k_lowest_ ?a_inverse_ ?l_inverse_ ?c_inverse_ ?k_inverse_ ?a_number ?l_number ?c_number ?k_number ?a_loop_worth ?l_loop_worth ?c_loop_worth ?k_loop_worth ?a_check_two_ ?l_check_two_ ?c_check_two_ ?k_check_two_ ?a_times ?l_times ?c_times ?k_times ?a_over ?l_over ?c_over ?k_over ?a_power ?l_power ?c_power ?k_power ?a_integer_text_ ?l_integer_text_ ?c_integer_text_ ?k_integer_text_ ?a_number_text ?l_number_text ?c_number_text ?k_number_text ?l_Malformed_init ?c_Malformed_init ?k_Malformed_init ?a_figure_count_ ?l_figure_count_ ?c_figure_count_ ?k_figure_count_ ?a_is_integer_ ?l_is_integer_ ?c_is_integer_ ?k_is_integer_ ?a_integer_of_ ?l_integer_of_ ?c_integer_of_ ?k_integer_of_ ?a_read_any_number ?l_read_any_number ?c_read_any_number ?k_read_any_number ?a_read_number ?l_read_number ?c_read_number ?k_read_number ?a_is_poly ?l_is_poly ?c_is_poly ?k_is_poly ?a_check_poly ?l_check_poly ?c_check_poly ?k_check_poly ?a_multiplied_polys ?l_multiplied_polys ?c_multiplied_polys ?k_multiplied_polys ?a_split_off_ ?l_split_off_ ?c_split_off_ ?k_split_off_ ?a_value_at ?l_value_at ?c_value_at ?k_value_at ?a_value ?l_value ?c_value ?k_value ?a_root_count_ ?l_root_count_ ?c_root_count_ ?k_root_count_ ?a_roots ?l_roots ?c_roots ?k_roots ?a_check_count_ ?l_check_count_ ?c_check_count_ ?k_check_count_ ?a_power_of_d ?l_power_of_d ?c_power_of_d ?k_power_of_d ?a_falling ?l_falling ?c_falling ?k_falling ?a_rising ?l_rising ?c_rising ?k_rising ?a_by_falling ?l_by_falling ?c_by_falling ?k_by_falling ?a_law_error2 ?l_law_error2 ?c_law_error2 ?k_law_error2 ?a_law_told ?l_law_told ?c_law_told ?k_law_told ?a_law_is_counted ?l_law_is_counted ?c_law_is_counted ?k_law_is_counted ?a_law_is_root ?l_law_is_root ?c_law_is_root ?k_law_is_root ?a_law ?l_law ?c_law ?k_law ?zn_int ?zn_range ?zn_abs ?zn_str ?zn_divmod ?zn_len ?zn_all ?zn_repr ?zn_list ?zn_tuple ?zn_max ?zn_enumerate ?zn_reversed ?zn_isinstance ?zn_sorted ?n_gcd ?n_PRIMES ?l_PRIMES ?n_NotWorld ?x_NotWorld ?kc_NotWorld ?bc_NotWorld ?tc_NotWorld ?n_NotNumber ?x_NotNumber ?kc_NotNumber ?bc_NotNumber ?tc_NotNumber ?n_NotPoly ?x_NotPoly ?kc_NotPoly ?bc_NotPoly ?tc_NotPoly ?n_BadNumber ?x_BadNumber ?kc_BadNumber ?bc_BadNumber ?tc_BadNumber ?n_NoAnswer ?x_NoAnswer ?kc_NoAnswer ?bc_NoAnswer ?tc_NoAnswer ?n_TooLarge ?x_TooLarge ?kc_TooLarge ?bc_TooLarge ?tc_TooLarge ?ld_number ?n_MOST_POWER ?n_MOST_FIGURES ?n_CHUNK_FIGURES ?n_CHUNK ?n_MOST_PARTS ?n_MOST_ROOT ?n_MOST_COUNT ?n_ONE ?l_ONE ?n_Malformed ?x_Malformed ?r_Malformed ?sa_Malformed ?ga_Malformed ?gg_Malformed ?na_Malformed ?ii_Malformed ?kc_Malformed ?ec_Malformed ?tc_Malformed ?hd_Malformed ?ti_Malformed ?ss_Malformed ?kd_roots ?n_WorthError ?ebc ?ehd ?ety ?hn_cls ?ht_cls ?n_NotFamily ?n_NotDiagram ?n_NotWord ?n_NotMatrix ?hg_NotWorld ?hk_NotWorld ?hd_NotWorld ?ha_NotWorld ?hm_NotWorld ?sE_NotWorld ?tE_NotWorld ?t_NotWorld_NotWorld ?t_NotWorld_NotFamily ?t_NotWorld_NotDiagram ?t_NotWorld_NotNumber ?t_NotWorld_NotWord ?t_NotWorld_NotPoly ?t_NotWorld_NotMatrix ?t_NotWorld_BadNumber ?t_NotWorld_NoAnswer ?t_NotWorld_TooLarge ?t_NotWorld_Malformed ?hg_NotNumber ?hk_NotNumber ?hd_NotNumber ?ha_NotNumber ?hm_NotNumber ?sE_NotNumber ?tE_NotNumber ?t_NotNumber_NotWorld ?t_NotNumber_NotFamily ?t_NotNumber_NotDiagram ?t_NotNumber_NotNumber ?t_NotNumber_NotWord ?t_NotNumber_NotPoly ?t_NotNumber_NotMatrix ?t_NotNumber_BadNumber ?t_NotNumber_NoAnswer ?t_NotNumber_TooLarge ?t_NotNumber_Malformed ?hg_NotPoly ?hk_NotPoly ?hd_NotPoly ?ha_NotPoly ?hm_NotPoly ?sE_NotPoly ?tE_NotPoly ?t_NotPoly_NotWorld ?t_NotPoly_NotFamily ?t_NotPoly_NotDiagram ?t_NotPoly_NotNumber ?t_NotPoly_NotWord ?t_NotPoly_NotPoly ?t_NotPoly_NotMatrix ?t_NotPoly_BadNumber ?t_NotPoly_NoAnswer ?t_NotPoly_TooLarge ?t_NotPoly_Malformed ?hg_BadNumber ?hk_BadNumber ?hd_BadNumber ?ha_BadNumber ?hm_BadNumber ?sE_BadNumber ?tE_BadNumber ?t_BadNumber_NotWorld ?t_BadNumber_NotFamily ?t_BadNumber_NotDiagram ?t_BadNumber_NotNumber ?t_BadNumber_NotWord ?t_BadNumber_NotPoly ?t_BadNumber_NotMatrix ?t_BadNumber_BadNumber ?t_BadNumber_NoAnswer ?t_BadNumber_TooLarge ?t_BadNumber_Malformed ?hg_NoAnswer ?hk_NoAnswer ?hd_NoAnswer ?ha_NoAnswer ?hm_NoAnswer ?sE_NoAnswer ?tE_NoAnswer ?t_NoAnswer_NotWorld ?t_NoAnswer_NotFamily ?t_NoAnswer_NotDiagram ?t_NoAnswer_NotNumber ?t_NoAnswer_NotWord ?t_NoAnswer_NotPoly ?t_NoAnswer_NotMatrix ?t_NoAnswer_BadNumber ?t_NoAnswer_NoAnswer ?t_NoAnswer_TooLarge ?t_NoAnswer_Malformed ?hg_Malformed ?hk_Malformed ?ha_Malformed ?hm_Malformed ?sE_Malformed ?tE_Malformed ?t_Malformed_NotWorld ?t_Malformed_NotFamily ?t_Malformed_NotDiagram ?t_Malformed_NotNumber ?t_Malformed_NotWord ?t_Malformed_NotPoly ?t_Malformed_NotMatrix ?t_Malformed_BadNumber ?t_Malformed_NoAnswer ?t_Malformed_TooLarge ?t_Malformed_Malformed
    (case a_is_world => k_is); (case l_is_world => k_is); (case c_is_world => k_is); (case k_is_world => k_is); (case a_law_number => k_is); (case l_law_number => k_is); (case c_law_number => k_is); (case k_law_number => k_is)
    (case a_law_next => k_is); (case l_law_next => k_is); (case c_law_next => k_is); (case k_law_next => k_is); (case a_law_draws => k_is); (case l_law_draws => k_is); (case c_law_draws => k_is); (case k_law_draws => k_is)
    (case a_check_world => k_is); (case l_check_world => k_is); (case c_check_world => k_is); (case k_check_world => k_is); (case a_is_number => k_is); (case l_is_number => k_is); (case c_is_number => k_is); (case k_is_number => k_is)
    (case a_check_number => k_is); (case l_check_number => k_is); (case c_check_number => k_is); (case k_check_number => k_is); (case a_lowest_ => k_is); (case l_lowest_ => k_is); (case c_lowest_ => k_is); (case k_lowest_ => k_is)
    (case a_inverse_ => k_is); (case l_inverse_ => k_is); (case c_inverse_ => k_is); (case k_inverse_ => k_is); (case a_number => k_is); (case l_number => k_is); (case c_number => k_is); (case k_number => k_is)
    (case a_loop_worth => k_is); (case l_loop_worth => k_is); (case c_loop_worth => k_is); (case k_loop_worth => k_is); (case a_check_two_ => k_is); (case l_check_two_ => k_is); (case c_check_two_ => k_is); (case k_check_two_ => k_is)
    (case a_times => k_is); (case l_times => k_is); (case c_times => k_is); (case k_times => k_is); (case a_over => k_is); (case l_over => k_is); (case c_over => k_is); (case k_over => k_is)
    (case a_power => k_is); (case l_power => k_is); (case c_power => k_is); (case k_power => k_is); (case a_integer_text_ => k_is); (case l_integer_text_ => k_is); (case c_integer_text_ => k_is); (case k_integer_text_ => k_is)
    (case a_number_text => k_is); (case l_number_text => k_is); (case c_number_text => k_is); (case k_number_text => k_is); (case a_figure_count_ => k_is); (case l_figure_count_ => k_is); (case c_figure_count_ => k_is); (case k_figure_count_ => k_is)
    (case a_is_integer_ => k_is); (case l_is_integer_ => k_is); (case c_is_integer_ => k_is); (case k_is_integer_ => k_is); (case a_integer_of_ => k_is); (case l_integer_of_ => k_is); (case c_integer_of_ => k_is); (case k_integer_of_ => k_is)
    (case a_read_any_number => k_is); (case l_read_any_number => k_is); (case c_read_any_number => k_is); (case k_read_any_number => k_is); (case a_read_number => k_is); (case l_read_number => k_is); (case c_read_number => k_is); (case k_read_number => k_is)
    (case a_is_poly => k_is); (case l_is_poly => k_is); (case c_is_poly => k_is); (case k_is_poly => k_is); (case a_check_poly => k_is); (case l_check_poly => k_is); (case c_check_poly => k_is); (case k_check_poly => k_is)
    (case a_multiplied_polys => k_is); (case l_multiplied_polys => k_is); (case c_multiplied_polys => k_is); (case k_multiplied_polys => k_is); (case a_split_off_ => k_is); (case l_split_off_ => k_is); (case c_split_off_ => k_is); (case k_split_off_ => k_is)
    (case a_value_at => k_is); (case l_value_at => k_is); (case c_value_at => k_is); (case k_value_at => k_is); (case a_value => k_is); (case l_value => k_is); (case c_value => k_is); (case k_value => k_is)
    (case a_root_count_ => k_is); (case l_root_count_ => k_is); (case c_root_count_ => k_is); (case k_root_count_ => k_is); (case a_roots => k_is); (case l_roots => k_is); (case c_roots => k_is); (case k_roots => k_is)
    (case a_check_count_ => k_is); (case l_check_count_ => k_is); (case c_check_count_ => k_is); (case k_check_count_ => k_is); (case a_power_of_d => k_is); (case l_power_of_d => k_is); (case c_power_of_d => k_is); (case k_power_of_d => k_is)
    (case a_falling => k_is); (case l_falling => k_is); (case c_falling => k_is); (case k_falling => k_is); (case a_rising => k_is); (case l_rising => k_is); (case c_rising => k_is); (case k_rising => k_is)
    (case a_by_falling => k_is); (case l_by_falling => k_is); (case c_by_falling => k_is); (case k_by_falling => k_is); (case a_law_error2 => k_is); (case l_law_error2 => k_is); (case c_law_error2 => k_is); (case k_law_error2 => k_is)
    (case a_law_told => k_is); (case l_law_told => k_is); (case c_law_told => k_is); (case k_law_told => k_is); (case a_law_is_counted => k_is); (case l_law_is_counted => k_is); (case c_law_is_counted => k_is); (case k_law_is_counted => k_is)
    (case a_law_is_root => k_is); (case l_law_is_root => k_is); (case c_law_is_root => k_is); (case k_law_is_root => k_is); (case a_law => k_is); (case l_law => k_is); (case c_law => k_is); (case k_law => k_is)
    (case zn_int => k_is); (case zn_range => k_is); (case zn_abs => k_is); (case zn_str => k_is); (case zn_divmod => k_is); (case zn_len => k_is); (case zn_all => k_is); (case zn_repr => k_is)
    (case zn_list => k_is); (case zn_tuple => k_is); (case zn_max => k_is); (case zn_enumerate => k_is); (case zn_reversed => k_is); (case zn_isinstance => k_is); (case zn_sorted => k_is); (case n_gcd => k_is)
    (case n_PRIMES => k_is); (case l_PRIMES => k_is); (case n_NotWorld => k_is); (case x_NotWorld => k_exc); (case kc_NotWorld => k_is); (case bc_NotWorld => k_is); (case tc_NotWorld => k_is); (case n_NotNumber => k_is)
    (case x_NotNumber => k_exc); (case kc_NotNumber => k_is); (case bc_NotNumber => k_is); (case tc_NotNumber => k_is); (case n_NotPoly => k_is); (case x_NotPoly => k_exc); (case kc_NotPoly => k_is); (case bc_NotPoly => k_is)
    (case tc_NotPoly => k_is); (case n_BadNumber => k_is); (case x_BadNumber => k_exc); (case kc_BadNumber => k_is); (case bc_BadNumber => k_is); (case tc_BadNumber => k_is); (case n_NoAnswer => k_is); (case x_NoAnswer => k_exc)
    (case kc_NoAnswer => k_is); (case bc_NoAnswer => k_is); (case tc_NoAnswer => k_is); (case n_TooLarge => k_is); (case x_TooLarge => k_exc); (case kc_TooLarge => k_is); (case bc_TooLarge => k_is); (case tc_TooLarge => k_is)
    (case ld_number => k_is); (case n_MOST_POWER => k_is); (case n_MOST_FIGURES => k_is); (case n_CHUNK_FIGURES => k_is); (case n_CHUNK => k_is); (case n_MOST_PARTS => k_is); (case n_MOST_ROOT => k_is); (case n_MOST_COUNT => k_is)
    (case n_ONE => k_is); (case l_ONE => k_is); (case n_Malformed => k_is); (case x_Malformed => k_is); (case r_Malformed => rfl); (case sa_Malformed => k_is); (case ga_Malformed => k_is); (case gg_Malformed => k_is)
    (case na_Malformed => k_is); (case ii_Malformed => k_is); (case kc_Malformed => k_is); (case ec_Malformed => k_is); (case tc_Malformed => k_is); (case hd_Malformed => k_is); (case ti_Malformed => k_is); (case ss_Malformed => first | rfl | k_is)
    (case kd_roots => k_is); (case n_WorthError => k_is); (case ebc => k_is); (case ehd => k_is); (case ety => k_is); (case hn_cls => k_is); (case ht_cls => k_is); (case n_NotFamily => k_is)
    (case n_NotDiagram => k_is); (case n_NotWord => k_is); (case n_NotMatrix => k_is); (case hg_NotWorld => k_is); (case hk_NotWorld => k_is); (case hd_NotWorld => k_is); (case ha_NotWorld => k_is); (case hm_NotWorld => k_is)
    (case sE_NotWorld => k_is); (case tE_NotWorld => kit_is); (case t_NotWorld_NotWorld => kit_is); (case t_NotWorld_NotFamily => kit_is); (case t_NotWorld_NotDiagram => kit_is); (case t_NotWorld_NotNumber => kit_is); (case t_NotWorld_NotWord => kit_is); (case t_NotWorld_NotPoly => kit_is)
    (case t_NotWorld_NotMatrix => kit_is); (case t_NotWorld_BadNumber => kit_is); (case t_NotWorld_NoAnswer => kit_is); (case t_NotWorld_TooLarge => kit_is); (case t_NotWorld_Malformed => kit_is); (case hg_NotNumber => k_is); (case hk_NotNumber => k_is); (case hd_NotNumber => k_is)
    (case ha_NotNumber => k_is); (case hm_NotNumber => k_is); (case sE_NotNumber => k_is); (case tE_NotNumber => kit_is); (case t_NotNumber_NotWorld => kit_is); (case t_NotNumber_NotFamily => kit_is); (case t_NotNumber_NotDiagram => kit_is); (case t_NotNumber_NotNumber => kit_is)
    (case t_NotNumber_NotWord => kit_is); (case t_NotNumber_NotPoly => kit_is); (case t_NotNumber_NotMatrix => kit_is); (case t_NotNumber_BadNumber => kit_is); (case t_NotNumber_NoAnswer => kit_is); (case t_NotNumber_TooLarge => kit_is); (case t_NotNumber_Malformed => kit_is); (case hg_NotPoly => k_is)
    (case hk_NotPoly => k_is); (case hd_NotPoly => k_is); (case ha_NotPoly => k_is); (case hm_NotPoly => k_is); (case sE_NotPoly => k_is); (case tE_NotPoly => kit_is); (case t_NotPoly_NotWorld => kit_is); (case t_NotPoly_NotFamily => kit_is)
    (case t_NotPoly_NotDiagram => kit_is); (case t_NotPoly_NotNumber => kit_is); (case t_NotPoly_NotWord => kit_is); (case t_NotPoly_NotPoly => kit_is); (case t_NotPoly_NotMatrix => kit_is); (case t_NotPoly_BadNumber => kit_is); (case t_NotPoly_NoAnswer => kit_is); (case t_NotPoly_TooLarge => kit_is)
    (case t_NotPoly_Malformed => kit_is); (case hg_BadNumber => k_is); (case hk_BadNumber => k_is); (case hd_BadNumber => k_is); (case ha_BadNumber => k_is); (case hm_BadNumber => k_is); (case sE_BadNumber => k_is); (case tE_BadNumber => kit_is)
    (case t_BadNumber_NotWorld => kit_is); (case t_BadNumber_NotFamily => kit_is); (case t_BadNumber_NotDiagram => kit_is); (case t_BadNumber_NotNumber => kit_is); (case t_BadNumber_NotWord => kit_is); (case t_BadNumber_NotPoly => kit_is); (case t_BadNumber_NotMatrix => kit_is); (case t_BadNumber_BadNumber => kit_is)
    (case t_BadNumber_NoAnswer => kit_is); (case t_BadNumber_TooLarge => kit_is); (case t_BadNumber_Malformed => kit_is); (case hg_NoAnswer => k_is); (case hk_NoAnswer => k_is); (case hd_NoAnswer => k_is); (case ha_NoAnswer => k_is); (case hm_NoAnswer => k_is)
    (case sE_NoAnswer => k_is); (case tE_NoAnswer => kit_is); (case t_NoAnswer_NotWorld => kit_is); (case t_NoAnswer_NotFamily => kit_is); (case t_NoAnswer_NotDiagram => kit_is); (case t_NoAnswer_NotNumber => kit_is); (case t_NoAnswer_NotWord => kit_is); (case t_NoAnswer_NotPoly => kit_is)
    (case t_NoAnswer_NotMatrix => kit_is); (case t_NoAnswer_BadNumber => kit_is); (case t_NoAnswer_NoAnswer => kit_is); (case t_NoAnswer_TooLarge => kit_is); (case t_NoAnswer_Malformed => kit_is); (case hg_Malformed => k_is); (case hk_Malformed => k_is); (case ha_Malformed => k_is)
    (case hm_Malformed => k_is); (case sE_Malformed => k_is); (case tE_Malformed => kit_is); (case t_Malformed_NotWorld => kit_is); (case t_Malformed_NotFamily => kit_is); (case t_Malformed_NotDiagram => kit_is); (case t_Malformed_NotNumber => kit_is); (case t_Malformed_NotWord => kit_is)
    (case t_Malformed_NotPoly => kit_is); (case t_Malformed_NotMatrix => kit_is); (case t_Malformed_BadNumber => kit_is); (case t_Malformed_NoAnswer => kit_is); (case t_Malformed_TooLarge => kit_is); (case t_Malformed_Malformed => kit_is); (case l_Malformed_init => k_is); (case c_Malformed_init => k_is)
    (case k_Malformed_init => k_is)
