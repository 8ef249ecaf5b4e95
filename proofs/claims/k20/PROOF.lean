import PyProof.Rows.All
import Wide.All
import OpenK.AllK
import Wide.FinOn
import HandS.ForMost
import HandS.HeadHook2
import HandS.Head2
import HandS.HeadEnd
import HandS.IsInst
import PySem.Challenge.RW_partloft_k20_pasts
set_option Elab.async false
set_option linter.all false
set_option maxRecDepth 100000
set_option maxHeartbeats 4000000
/-! the head by one kernel run -/
namespace Pd
open PySem PySem.Spec PyProof.Rows L2
theorem ba {a b : Bool} (h : (a && b) = true) : a = true ∧ b = true := Bool.and_eq_true_iff.mp h
/-! ### the head -/
def refsP (o : Obj) : List Addr := He.refsD o ++ match o.data with
  | .dict es _ => es.toList.flatMap fun e => He.refV e.key
  | _ => []
def growP (g : Addr → Option Obj) (as : List Addr) : List Addr := (as ++ as.flatMap fun a => match g a with
  | some o => refsP o
  | none => []).eraseDups
def asP (g : Addr → Option Obj) : Nat → List Addr
  | 0 => [mainGlobals]
  | n + 1 => growP g (asP g n)
abbrev AlP : Type := Bool × List He.FnW
def obsP (fa : List He.Fa) (fn : List He.DefD) (ex : PySem.W.Frag → Bool) (K : PySem.W.Frag) : AlP := (((fa.all fun f => f.ok K) && fn.all fun d => d.ok K) && ex K, fn.map fun d => He.fnW K d.at_)
def valP (fn : List He.DefD) : AlP := (true, fn.map He.DefD.val)
def SaysP (fa : List He.Fa) (fn : List He.DefD) (ex : PySem.W.Frag → Bool) (K : PySem.W.Frag) : Prop := obsP fa fn ex K = valP fn
def obsPG (n : Nat) (fa : List He.Fa) (fn : List He.DefD) (ex : PySem.W.Frag → Bool) (g : Addr → Option Obj) : AlP := obsP fa fn ex (He.frG g (asP g n))
def hookP (n : Nat) (fa : List He.Fa) (fn : List He.DefD) (ex : PySem.W.Frag → Bool) : PySem.W.Hook where
  α := AlP
  obs := fun s => obsPG n fa fn ex s.heap.get?
  val := fun _ => valP fn
  says := fun _ h => ∃ K : PySem.W.Frag, K.In h ∧ SaysP fa fn ex K
  of := fun _ _ e => ⟨_, He.frG_in, e⟩
  keeps := fun _ _ _ ⟨K, hK, c⟩ k => ⟨K, PySem.W.Frag.In.keeps hK k, c⟩
theorem obsPG_eq {n : Nat} {fa : List He.Fa} {fn : List He.DefD} {ex : PySem.W.Frag → Bool} {g : Addr → Option Obj} {s : Shared} (h : ∀ a, g a = s.heap.get? a) : obsPG n fa fn ex g = (hookP n fa fn ex).obs s := by
  have e : g = s.heap.get? := funext h
  rw [e] <;> rfl
section
variable {fa : List He.Fa} {fn : List He.DefD} {ex : PySem.W.Frag → Bool} {K : PySem.W.Frag}
theorem SaysP.d (c : SaysP fa fn ex K) : He.SaysD fa fn K := by
  have h1 : (((fa.all fun f => f.ok K) && fn.all fun d => d.ok K) && ex K) = true := congrArg (fun z : AlP => z.1) c
  have h2 : (fn.map fun d => He.fnW K d.at_) = fn.map He.DefD.val := congrArg (fun z : AlP => z.2) c
  exact Prod.ext (ba h1).1 h2
theorem SaysP.more (c : SaysP fa fn ex K) : ex K = true := (ba (congrArg (fun z : AlP => z.1) c : (((fa.all fun f => f.ok K) && fn.all fun d => d.ok K) && ex K) = true)).2
end
/-- a def of the top, of no default -/
def defD (i : Str) (st : Stmt) : He.DefD := ⟨(i, none), i, i, defArgs st, defBody st, defScope st, [], []⟩
theorem funOf {K : PySem.W.Frag} {x q : Str} {st : Stmt} {f : Addr} {fd : FuncData} (F : FunD K x q (defArgs st) (defBody st) (defScope st) [] [] f fd) : Fun K x q st f fd := by
  obtain ⟨oc, od, dV, kV, doc, pm, an, cdv, ct, osl, rfl, lk, hcd, d1, d2⟩ := F.ex
  have e : dV = .none := by
    rcases d1 with ⟨_, e⟩ | ⟨e, _⟩
    · exact e
    · exact absurd rfl e
  subst e
  exact ⟨⟨oc, od, kV, doc, pm, an, cdv, ct, osl, rfl, lk, hcd⟩, F.kp⟩
end Pd

set_option Elab.async false
set_option linter.all false
set_option maxRecDepth 100000
set_option maxHeartbeats 4000000
namespace K20
open PySem L2
def topS (i : Nat) : Stmt := PySem.Challenge.pw_partloft_k20_pasts.main.body.getD i (.Pass ⟨0, 0, 0, 0⟩)
abbrev sInit : Stmt := inClass (topS 1) 0
abbrev sPres : Stmt := inClass (topS 1) 1
abbrev sAdd : Stmt := inClass (topS 1) 2
abbrev sBack : Stmt := inClass (topS 1) 3
abbrev sForw : Stmt := inClass (topS 1) 4
abbrev sBef : Stmt := inClass (topS 1) 5
abbrev sAft : Stmt := inClass (topS 1) 6
abbrev sCell : Stmt := topS 3
abbrev sLaw : Stmt := topS 4
/-! ### the object -/
def pf (t : Str) (m : Int) (l1 l2 : Addr) : List (Str × V) := [("_text", .str t), ("_limit", .int m), ("_earlier", .ref l1), ("_later", .ref l2)]
theorem lk_t {t : Str} {m : Int} {l1 l2 : Addr} : (pf t m l1 l2).lookup ("_text" : Str) = some (.str t) := by kernel_rfl
theorem lk_m {t : Str} {m : Int} {l1 l2 : Addr} : (pf t m l1 l2).lookup ("_limit" : Str) = some (.int m) := by kernel_rfl
theorem lk_e {t : Str} {m : Int} {l1 l2 : Addr} : (pf t m l1 l2).lookup ("_earlier" : Str) = some (.ref l1) := by kernel_rfl
theorem lk_l {t : Str} {m : Int} {l1 l2 : Addr} : (pf t m l1 l2).lookup ("_later" : Str) = some (.ref l2) := by kernel_rfl
theorem pt_t {t u : Str} {m : Int} {l1 l2 : Addr} : putF "_text" (.str u) (pf t m l1 l2) = pf u m l1 l2 := by kernel_rfl
theorem pt_l {t : Str} {m : Int} {l1 l2 k : Addr} : putF "_later" (.ref k) (pf t m l1 l2) = pf t m l1 k := by kernel_rfl
theorem pt_all {t : Str} {m : Int} {l1 l2 : Addr} : putF "_later" (.ref l2) (putF "_earlier" (.ref l1) (putF "_limit" (.int m) (putF "_text" (.str t) []))) = pf t m l1 l2 := by kernel_rfl
theorem pf_len {t : Str} {m : Int} {l1 l2 : Addr} : (pf t m l1 l2).length = 4 := rfl
structure At (C : Addr) (H : Hp) (p dx l1 l2 : Addr) (t : Str) (m : Int) (es ls : List Str) : Prop where
  ins : H p = some (.ins C dx (pf t m l1 l2))
  e : H l1 = some (.lst (es.map V.str))
  l : H l2 = some (.lst (ls.map V.str))
  ne : l1 ≠ l2
def Fr (p l1 l2 : Addr) (H H' : Hp) : Prop := ∀ b o, H b = some o → b ≠ p → b ≠ l1 → b ≠ l2 → H' b = some o
theorem At.n1 {C : Addr} {H : Hp} {p dx l1 l2 : Addr} {t : Str} {m : Int} {es ls : List Str} (a : At C H p dx l1 l2 t m es ls) : p ≠ l1 := ne_of a.ins a.e (by intro q; cases q)
theorem At.n2 {C : Addr} {H : Hp} {p dx l1 l2 : Addr} {t : Str} {m : Int} {es ls : List Str} (a : At C H p dx l1 l2 t m es ls) : p ≠ l2 := ne_of a.ins a.l (by intro q; cases q)
/-! ### promises -/
def spInit (C : Addr) : Sp := fun vs H Q _ => ∃ (p dx : Addr) (t : Str) (m : Int), vs = [.ref p, .str t, .int m] ∧ H p = some (.ins C dx []) ∧ ∀ H' l1 l2, H l1 = none → H l2 = none → (∀ b o, H b = some o → b ≠ p → H' b = some o) → At C H' p dx l1 l2 t m [] [] → Q .non H'
def spPres (C : Addr) : Sp := fun vs H Q _ => ∃ (p dx l1 l2 : Addr) (t : Str) (m : Int) (es ls : List Str), vs = [.ref p] ∧ At C H p dx l1 l2 t m es ls ∧ Q (.str t) H
def spBef (C : Addr) : Sp := fun vs H Q _ => ∃ (p dx l1 l2 : Addr) (t : Str) (m : Int) (es ls : List Str), vs = [.ref p] ∧ At C H p dx l1 l2 t m es ls ∧ Q (.int es.length) H
def spAft (C : Addr) : Sp := fun vs H Q _ => ∃ (p dx l1 l2 : Addr) (t : Str) (m : Int) (es ls : List Str), vs = [.ref p] ∧ At C H p dx l1 l2 t m es ls ∧ Q (.int ls.length) H
def addE (m : Int) (es : List Str) (t : Str) : List Str := if m < ((es ++ [t]).length : Int) then (es ++ [t]).tail else es ++ [t]
def spAdd (C : Addr) : Sp := fun vs H Q _ => ∃ (p dx l1 l2 : Addr) (t u : Str) (m : Int) (es ls : List Str), vs = [.ref p, .str u] ∧ At C H p dx l1 l2 t m es ls ∧ es.length ≤ 100 ∧
  ∀ H' k, H k = none → Fr p l1 l2 H H' → At C H' p dx l1 k u m (addE m es t) [] → Q .non H'
def spBack (C : Addr) : Sp := fun vs H Q _ => ∃ (p dx l1 l2 : Addr) (t : Str) (m : Int) (es ls : List Str), vs = [.ref p] ∧ At C H p dx l1 l2 t m es ls ∧ ls.length ≤ 100 ∧
  (es = [] → Q (.bl false) H) ∧ ∀ e0 x, es = e0 ++ [x] → ∀ H', Fr p l1 l2 H H' → At C H' p dx l1 l2 x m e0 (ls ++ [t]) → Q (.bl true) H'
def spForw (C : Addr) : Sp := fun vs H Q _ => ∃ (p dx l1 l2 : Addr) (t : Str) (m : Int) (es ls : List Str), vs = [.ref p] ∧ At C H p dx l1 l2 t m es ls ∧ es.length ≤ 100 ∧
  (ls = [] → Q (.bl false) H) ∧ ∀ e0 x, ls = e0 ++ [x] → ∀ H', Fr p l1 l2 H H' → At C H' p dx l1 l2 x m (es ++ [t]) e0 → Q (.bl true) H'
def spCell (K : PySem.W.Frag) : Sp := fun vs H Q _ => ∃ (a : Addr) (ns : List Int) (k : Nat), vs = [.ref a, .int k] ∧ SqL K H a (ns.map V.int) ∧ Q (.int (ns.getD k 0)) H
def spLaw (K : PySem.W.Frag) : Sp := fun vs H Q _ => ∃ (a : Addr) (ns : List Int), vs = [.ref a] ∧ SqL K H a (ns.map V.int) ∧ ns.length ≤ 63 ∧ ∀ H', Q (.bl true) H'
structure Txt (K : PySem.W.Frag) (mg : Str → Option Value) (C : Addr) : Prop where
  cl : Cls K C
  nT : NoAttr K C "_text"
  nM : NoAttr K C "_limit"
  nE : NoAttr K C "_earlier"
  nL : NoAttr K C "_later"
  mgC : mg "Past" = some (.ref C)
  len : mg "len" = none
section
variable {P : Program} {w : World} {K : PySem.W.Frag} {mg : Str → Option Value} {base : Heap}
theorem scI : FnScope ["self", "text", "limit"] ["self", "text", "limit"] (defScope sInit) := ⟨rfl, rfl, rfl, by decide +kernel, rfl, by decide +kernel, by decide +kernel⟩
theorem ok_init {f C : Addr} {fd : FuncData} (F : Fun K "__init__" "Past.__init__" sInit f fd) (T : Txt K mg C) : FnOk P w K mg base CX0 1 f fd ["self", "text", "limit"] (spInit C) := by
  refine F.ok scI (fun vs H Q E h => ?_) (fun cdv A outer s H vs Q E hr h => ?_)
  · obtain ⟨p, dx, t, m, rfl, _⟩ := h
    rfl
  · obtain ⟨p, dx, t, m, rfl, hp, k⟩ := h
    refine ⟨_, pss_cons (ps_fld (pv 0) (pv 1) rfl) (pss_cons (ps_fld (pv 0) (pv 2) rfl) (pss_cons (ps_fld (pv 0) (pe_lst pa_nil) rfl) (pss_one (ps_fld (pv 0) (pe_lst pa_nil) rfl)))), ?_⟩
    refine ⟨_, rfl, _, rfl, p, C, dx, [], rfl, hp, T.cl, T.nT, (by show 0 < 1000; decide), ?_⟩
    refine ⟨_, rfl, _, rfl, p, C, dx, _, rfl, upd_same, T.cl, T.nM, (by show 1 < 1000; decide), ?_⟩
    refine ⟨Nat.zero_le _, fun l1 h1 => ?_⟩
    have np1 : p ≠ l1 := fun q => by
      rw [q, upd_same] at h1
      cases h1
    have h1' : H l1 = none := by
      rw [upd_ne np1.symm, upd_ne np1.symm] at h1
      exact h1
    refine ⟨_, rfl, p, C, dx, _, rfl, (by rw [upd_ne np1, upd_same]), T.cl, T.nE, (by show 2 < 1000; decide), ?_⟩
    refine ⟨Nat.zero_le _, fun l2 h2 => ?_⟩
    have np2 : p ≠ l2 := fun q => by
      rw [q, upd_same] at h2
      cases h2
    have n12 : l1 ≠ l2 := fun q => by
      rw [← q, upd_ne np1.symm, upd_same] at h2
      cases h2
    have h2' : H l2 = none := by
      rw [upd_ne np2.symm, upd_ne n12.symm, upd_ne np2.symm, upd_ne np2.symm] at h2
      exact h2
    refine ⟨_, rfl, p, C, dx, _, rfl, (by rw [upd_ne np2, upd_same]), T.cl, T.nL, (by show 3 < 1000; decide), ?_⟩
    refine k _ l1 l2 h1' h2' (fun b o e nb => ?_) ⟨?_, ?_, ?_, n12⟩
    · rw [upd_ne nb, upd_ne (ne_of_none e h2'), upd_ne nb, upd_ne (ne_of_none e h1'), upd_ne nb, upd_ne nb]
      exact e
    · rw [upd_same, pt_all]
    · rw [upd_ne np1.symm, upd_ne n12, upd_ne np1.symm, upd_same]
      rfl
    · rw [upd_ne np2.symm, upd_same]
      rfl
theorem scS {st : Stmt} (h : FnScope ["self"] ["self"] (defScope st)) : FnScope ["self"] ["self"] (defScope st) := h
theorem scP : FnScope ["self"] ["self"] (defScope sPres) := ⟨rfl, rfl, rfl, by decide +kernel, rfl, by decide +kernel, by decide +kernel⟩
theorem ok_pres {f C : Addr} {fd : FuncData} (F : Fun K "present" "Past.present" sPres f fd) (T : Txt K mg C) : FnOk P w K mg base CX0 1 f fd ["self"] (spPres C) := by
  refine F.ok scP (fun vs H Q E h => ?_) (fun cdv A outer s H vs Q E hr h => ?_)
  · obtain ⟨p, dx, l1, l2, t, m, es, ls, rfl, _⟩ := h
    rfl
  · obtain ⟨p, dx, l1, l2, t, m, es, ls, rfl, a, k⟩ := h
    exact ⟨_, pss_one (ps_ret (pe_fld (pv 0) rfl)), _, rfl, p, C, dx, _, _, rfl, a.ins, T.cl, T.nT, lk_t, k⟩
theorem scB : FnScope ["self"] ["self"] (defScope sBef) := ⟨rfl, rfl, rfl, by decide +kernel, rfl, by decide +kernel, by decide +kernel⟩
theorem ok_bef {f C : Addr} {fd : FuncData} (F : Fun K "before" "Past.before" sBef f fd) (T : Txt K mg C) : FnOk P w K mg base CX0 1 f fd ["self"] (spBef C) := by
  refine F.ok scB (fun vs H Q E h => ?_) (fun cdv A outer s H vs Q E hr h => ?_)
  · obtain ⟨p, dx, l1, l2, t, m, es, ls, rfl, _⟩ := h
    rfl
  · obtain ⟨p, dx, l1, l2, t, m, es, ls, rfl, a, k⟩ := h
    refine ⟨_, pss_one (ps_ret (pe_callB call_len_seq (by rfl) T.len PySem.boot_len (pa_cons (pe_fld (pv 0) rfl) pa_nil))), _, rfl, p, C, dx, _, _, rfl, a.ins, T.cl, T.nE, lk_e, l1, _, rfl, .inl (SqL.of a.e), ?_⟩
    rw [List.length_map]
    exact k
theorem scAf : FnScope ["self"] ["self"] (defScope sAft) := ⟨rfl, rfl, rfl, by decide +kernel, rfl, by decide +kernel, by decide +kernel⟩
theorem ok_aft {f C : Addr} {fd : FuncData} (F : Fun K "after" "Past.after" sAft f fd) (T : Txt K mg C) : FnOk P w K mg base CX0 1 f fd ["self"] (spAft C) := by
  refine F.ok scAf (fun vs H Q E h => ?_) (fun cdv A outer s H vs Q E hr h => ?_)
  · obtain ⟨p, dx, l1, l2, t, m, es, ls, rfl, _⟩ := h
    rfl
  · obtain ⟨p, dx, l1, l2, t, m, es, ls, rfl, a, k⟩ := h
    refine ⟨_, pss_one (ps_ret (pe_callB call_len_seq (by rfl) T.len PySem.boot_len (pa_cons (pe_fld (pv 0) rfl) pa_nil))), _, rfl, p, C, dx, _, _, rfl, a.ins, T.cl, T.nL, lk_l, l2, _, rfl, .inl (SqL.of a.l), ?_⟩
    rw [List.length_map]
    exact k
theorem new_later {C p dx l1 l2 k : Addr} {t u : Str} {m : Int} {es es2 ls : List Str} {H H2 : Hp} (a : At C H p dx l1 l2 t m es ls) (fr : Fr p l1 l2 H H2) (e2 : H2 l1 = some (.lst (es2.map V.str))) (l2h : H2 l2 = some (.lst (ls.map V.str)))
    (hk : upd H2 p (.ins C dx (pf u m l1 l2)) k = none) : p ≠ k ∧ H k = none ∧ Fr p l1 l2 H (upd (upd (upd H2 p (.ins C dx (pf u m l1 l2))) k (.lst [])) p (.ins C dx (pf u m l1 k))) ∧
      At C (upd (upd (upd H2 p (.ins C dx (pf u m l1 l2))) k (.lst [])) p (.ins C dx (pf u m l1 k))) p dx l1 k u m es2 [] := by
  have n1 := a.n1
  have n2 := a.n2
  have npk : p ≠ k := fun z => by
    rw [z, upd_same] at hk
    cases hk
  have hk2 : H2 k = none := by
    rw [upd_ne npk.symm] at hk
    exact hk
  have nk1 : l1 ≠ k := fun z => by
    rw [← z, e2] at hk2
    cases hk2
  have nk2 : l2 ≠ k := fun z => by
    rw [← z, l2h] at hk2
    cases hk2
  refine ⟨npk, ?_, fun b o e nb nb1 nb2 => ?_, ?_, ?_, ?_, nk1⟩
  · cases q : H k with
    | none => rfl
    | some o =>
      rw [fr k o q npk.symm nk1.symm nk2.symm] at hk2
      cases hk2
  · have q := fr b o e nb nb1 nb2
    rw [upd_ne nb, upd_ne (ne_of_none q hk2), upd_ne nb]
    exact q
  · rw [upd_same]
  · rw [upd_ne n1.symm, upd_ne nk1, upd_ne n1.symm]
    exact e2
  · rw [upd_ne npk.symm, upd_same]
    rfl
theorem scA : FnScope ["self", "text"] ["self", "text"] (defScope sAdd) := ⟨rfl, rfl, rfl, by decide +kernel, rfl, by decide +kernel, by decide +kernel⟩
theorem ok_add {f C : Addr} {fd : FuncData} (F : Fun K "add" "Past.add" sAdd f fd) (T : Txt K mg C) : FnOk P w K mg base CX0 1 f fd ["self", "text"] (spAdd C) := by
  refine F.ok scA (fun vs H Q E h => ?_) (fun cdv A outer s H vs Q E hr h => ?_)
  · obtain ⟨p, dx, l1, l2, t, u, m, es, ls, rfl, _⟩ := h
    rfl
  · obtain ⟨p, dx, l1, l2, t, u, m, es, ls, rfl, a, hl, k⟩ := h
    have n1 := a.n1
    have n2 := a.n2
    refine ⟨_, pss_cons (ps_expr (pe_bm PySem.F.plainAttrs_list PySem.F.slot_list_append PySem.F.type_list_append mt_append (pe_fld (pv 0) rfl) (pa_cons (pe_fld (pv 0) rfl) pa_nil)))
      (pss_cons (ps_if (pt_cmpR op_gt (pe_callB call_len_seq (by rfl) T.len PySem.boot_len (pa_cons (pe_fld (pv 0) rfl) pa_nil)) (pe_fld (pv 0) rfl) (nomark _))
        (pss_one (ps_expr (pe_bm PySem.F.plainAttrs_list PySem.F.slot_list_pop PySem.F.type_list_pop mt_popAt (pe_fld (pv 0) rfl) (pa_cons pe_int pa_nil)))) pss_nil)
      (pss_cons (ps_fld (pv 0) (pv 1) rfl) (pss_one (ps_fld (pv 0) (pe_lst pa_nil) rfl)))), ?_⟩
    refine ⟨_, rfl, p, C, dx, _, _, rfl, a.ins, T.cl, T.nE, lk_e, .inl ⟨rfl, _, SqL.of a.e⟩, _, rfl, p, C, dx, _, _, rfl, a.ins, T.cl, T.nT, lk_t, l1, _, _, rfl, rfl, a.e, Nat.lt_of_le_of_lt (by rw [List.length_map]; exact hl) (by decide), ?_⟩
    have i1 : upd H l1 (.lst (es.map V.str ++ [V.str t])) p = some (.ins C dx (pf t m l1 l2)) := by
      rw [upd_ne n1]
      exact a.ins
    have e1 : upd H l1 (.lst (es.map V.str ++ [V.str t])) l1 = some (.lst ((es ++ [t]).map V.str)) := by
      rw [upd_same, List.map_append] <;> rfl
    have l1' : upd H l1 (.lst (es.map V.str ++ [V.str t])) l2 = some (.lst (ls.map V.str)) := by
      rw [upd_ne a.ne.symm]
      exact a.l
    have f1 : Fr p l1 l2 H (upd H l1 (.lst (es.map V.str ++ [V.str t]))) := fun b o e _ nb _ => by
      rw [upd_ne nb]
      exact e
    generalize upd H l1 (.lst (es.map V.str ++ [V.str t])) = H1 at i1 e1 l1' f1
    refine ⟨_, rfl, p, C, dx, _, _, rfl, i1, T.cl, T.nE, lk_e, l1, _, rfl, .inl (SqL.of e1), _, rfl, p, C, dx, _, _, rfl, i1, T.cl, T.nM, lk_m, _, _, rfl, rfl, _, rfl, ?_⟩
    rw [List.length_map]
    have fin : ∀ (H2 : Hp) (es2 : List Str), Fr p l1 l2 H H2 → H2 p = some (.ins C dx (pf t m l1 l2)) → H2 l1 = some (.lst (es2.map V.str)) → H2 l2 = some (.lst (ls.map V.str)) → es2 = addE m es t →
        tSeq (sFld K (tVar 0) (tVar 1) "_text") (sFld K (tVar 0) (tLst tNil) "_later") { nx := fun _ H' => Q .non H', rt := Q } (start ["self", "text"] [V.ref p, V.str u]) H2 := fun H2 es2 fr i2 e2 h2 ee => by
      refine ⟨_, rfl, _, rfl, p, C, dx, _, rfl, i2, T.cl, T.nT, (by rw [pf_len]; decide), ?_⟩
      rw [pt_t]
      refine ⟨Nat.zero_le _, fun kk hk => ?_⟩
      obtain ⟨q1, q2, q3, q4⟩ := new_later a fr e2 h2 hk
      refine ⟨_, rfl, p, C, dx, _, rfl, (by rw [upd_ne q1, upd_same]), T.cl, T.nL, (by rw [pf_len]; decide), ?_⟩
      rw [pt_l]
      rw [ee] at q4
      exact k _ kk q2 q3 q4
    refine ite2 (fun hc => ?_) (fun hc => ?_)
    · have hc := of_decide_eq_true hc
      obtain ⟨x, xs, ex⟩ : ∃ x xs, es ++ [t] = x :: xs := by
        cases es with
        | nil => exact ⟨t, [], rfl⟩
        | cons y ys => exact ⟨y, ys ++ [t], rfl⟩
      have ea : addE m es t = xs := by
        unfold addE
        rw [if_pos hc, ex]
        rfl
      rw [ex] at e1
      refine ⟨_, rfl, p, C, dx, _, _, rfl, i1, T.cl, T.nE, lk_e, .inl ⟨rfl, _, SqL.of e1⟩, l1, _, 0, 0, V.str x, rfl, rfl, e1, by decide, by decide, ?_, rfl, ?_⟩
      · rw [List.length_map, List.length_cons]
        unfold seqIndex?
        simp
      · refine fin _ xs (fun b o e nb nb1 nb2 => ?_) ?_ upd_same ?_ ea.symm
        · rw [upd_ne nb1]
          exact f1 b o e nb nb1 nb2
        · rw [upd_ne n1]
          exact i1
        · rw [upd_ne a.ne.symm]
          exact l1'
    · have hc := of_decide_eq_false (Bool.eq_false_iff.mpr hc)
      refine fin _ (es ++ [t]) f1 i1 e1 l1' ?_
      unfold addE
      rw [if_neg hc]
theorem scK : FnScope ["self"] ["self"] (defScope sBack) := ⟨rfl, rfl, rfl, by decide +kernel, rfl, by decide +kernel, by decide +kernel⟩
theorem emp_map {es : List Str} : (es.map V.str).isEmpty = es.isEmpty := by
  cases es <;> rfl
theorem ok_back {f C : Addr} {fd : FuncData} (F : Fun K "back" "Past.back" sBack f fd) (T : Txt K mg C) : FnOk P w K mg base CX0 1 f fd ["self"] (spBack C) := by
  refine F.ok scK (fun vs H Q E h => ?_) (fun cdv A outer s H vs Q E hr h => ?_)
  · obtain ⟨p, dx, l1, l2, t, m, es, ls, rfl, _⟩ := h
    rfl
  · obtain ⟨p, dx, l1, l2, t, m, es, ls, rfl, a, hl, k1, k2⟩ := h
    have n1 := a.n1
    have n2 := a.n2
    refine ⟨_, pss_cons (ps_if (pt_not (pt_truth (pe_fld (pv 0) rfl) (fun _ => rfl))) (pss_one (ps_ret pe_bl)) pss_nil)
      (pss_cons (ps_expr (pe_bm PySem.F.plainAttrs_list PySem.F.slot_list_append PySem.F.type_list_append mt_append (pe_fld (pv 0) rfl) (pa_cons (pe_fld (pv 0) rfl) pa_nil)))
      (pss_cons (ps_fld (pv 0) (pe_bm0 PySem.F.plainAttrs_list PySem.F.slot_list_pop PySem.F.type_list_pop mt_pop (pe_fld (pv 0) rfl)) rfl) (pss_one (ps_ret pe_bl)))), ?_⟩
    refine ⟨_, rfl, p, C, dx, _, _, rfl, a.ins, T.cl, T.nE, lk_e, _, .inl ⟨_, SqL.of a.e, rfl⟩, ?_⟩
    rw [emp_map]
    rcases List.eq_nil_or_concat es with rfl | ⟨e0, x, rfl⟩
    · exact k1 rfl
    · have ne : (!(!(e0.concat x).isEmpty)) = false := by
        rw [List.concat_eq_append]
        cases e0 <;> rfl
      rw [ne]
      refine iteF ?_
      have ae := a.e
      have e2 : H l2 = some (.lst (ls.map V.str)) := a.l
      refine ⟨_, rfl, p, C, dx, _, _, rfl, a.ins, T.cl, T.nL, lk_l, .inl ⟨rfl, _, SqL.of a.l⟩, _, rfl, p, C, dx, _, _, rfl, a.ins, T.cl, T.nT, lk_t, l2, _, _, rfl, rfl, a.l, Nat.lt_of_le_of_lt (by rw [List.length_map]; exact hl) (by decide), ?_⟩
      have i1 : upd H l2 (.lst (ls.map V.str ++ [V.str t])) p = some (.ins C dx (pf t m l1 l2)) := by
        rw [upd_ne n2]
        exact a.ins
      have e1 : upd H l2 (.lst (ls.map V.str ++ [V.str t])) l1 = some (.lst (e0.map V.str ++ [V.str x])) := by
        rw [upd_ne a.ne, ae, List.concat_eq_append, List.map_append] <;> rfl
      refine ⟨_, rfl, p, C, dx, _, _, rfl, i1, T.cl, T.nE, lk_e, .inl ⟨rfl, _, SqL.of e1⟩, l1, _, V.str x, rfl, rfl, e1, by simp, ?_⟩
      rw [List.dropLast_concat]
      refine ⟨_, rfl, p, C, dx, _, rfl, (by rw [upd_ne n1]; exact i1), T.cl, T.nT, (by rw [pf_len]; decide), ?_⟩
      rw [pt_t]
      refine k2 e0 x (List.concat_eq_append) _ (fun b o e nb nb1 nb2 => ?_) ⟨upd_same, ?_, ?_, a.ne⟩
      · rw [upd_ne nb, upd_ne nb1, upd_ne nb2]
        exact e
      · rw [upd_ne n1.symm, upd_same]
      · rw [upd_ne n2.symm, upd_ne a.ne.symm, upd_same, List.map_append] <;> rfl
theorem scFo : FnScope ["self"] ["self"] (defScope sForw) := ⟨rfl, rfl, rfl, by decide +kernel, rfl, by decide +kernel, by decide +kernel⟩
theorem ok_forw {f C : Addr} {fd : FuncData} (F : Fun K "forward" "Past.forward" sForw f fd) (T : Txt K mg C) : FnOk P w K mg base CX0 1 f fd ["self"] (spForw C) := by
  refine F.ok scFo (fun vs H Q E h => ?_) (fun cdv A outer s H vs Q E hr h => ?_)
  · obtain ⟨p, dx, l1, l2, t, m, es, ls, rfl, _⟩ := h
    rfl
  · obtain ⟨p, dx, l1, l2, t, m, es, ls, rfl, a, hl, k1, k2⟩ := h
    have n1 := a.n1
    have n2 := a.n2
    refine ⟨_, pss_cons (ps_if (pt_not (pt_truth (pe_fld (pv 0) rfl) (fun _ => rfl))) (pss_one (ps_ret pe_bl)) pss_nil)
      (pss_cons (ps_expr (pe_bm PySem.F.plainAttrs_list PySem.F.slot_list_append PySem.F.type_list_append mt_append (pe_fld (pv 0) rfl) (pa_cons (pe_fld (pv 0) rfl) pa_nil)))
      (pss_cons (ps_fld (pv 0) (pe_bm0 PySem.F.plainAttrs_list PySem.F.slot_list_pop PySem.F.type_list_pop mt_pop (pe_fld (pv 0) rfl)) rfl) (pss_one (ps_ret pe_bl)))), ?_⟩
    refine ⟨_, rfl, p, C, dx, _, _, rfl, a.ins, T.cl, T.nL, lk_l, _, .inl ⟨_, SqL.of a.l, rfl⟩, ?_⟩
    rw [emp_map]
    rcases List.eq_nil_or_concat ls with rfl | ⟨e0, x, rfl⟩
    · exact k1 rfl
    · have ne : (!(!(e0.concat x).isEmpty)) = false := by
        rw [List.concat_eq_append]
        cases e0 <;> rfl
      rw [ne]
      refine iteF ?_
      have ae := a.l
      refine ⟨_, rfl, p, C, dx, _, _, rfl, a.ins, T.cl, T.nE, lk_e, .inl ⟨rfl, _, SqL.of a.e⟩, _, rfl, p, C, dx, _, _, rfl, a.ins, T.cl, T.nT, lk_t, l1, _, _, rfl, rfl, a.e, Nat.lt_of_le_of_lt (by rw [List.length_map]; exact hl) (by decide), ?_⟩
      have i1 : upd H l1 (.lst (es.map V.str ++ [V.str t])) p = some (.ins C dx (pf t m l1 l2)) := by
        rw [upd_ne n1]
        exact a.ins
      have e1 : upd H l1 (.lst (es.map V.str ++ [V.str t])) l2 = some (.lst (e0.map V.str ++ [V.str x])) := by
        rw [upd_ne a.ne.symm, ae, List.concat_eq_append, List.map_append] <;> rfl
      refine ⟨_, rfl, p, C, dx, _, _, rfl, i1, T.cl, T.nL, lk_l, .inl ⟨rfl, _, SqL.of e1⟩, l2, _, V.str x, rfl, rfl, e1, by simp, ?_⟩
      rw [List.dropLast_concat]
      refine ⟨_, rfl, p, C, dx, _, rfl, (by rw [upd_ne n2]; exact i1), T.cl, T.nT, (by rw [pf_len]; decide), ?_⟩
      rw [pt_t]
      refine k2 e0 x (List.concat_eq_append) _ (fun b o e nb nb1 nb2 => ?_) ⟨upd_same, ?_, ?_, a.ne⟩
      · rw [upd_ne nb, upd_ne nb2, upd_ne nb1]
        exact e
      · rw [upd_ne n1.symm, upd_ne a.ne, upd_same, List.map_append] <;> rfl
      · rw [upd_ne n2.symm, upd_same]
theorem scC : FnScope ["script", "k"] ["script", "k"] (defScope sCell) := ⟨rfl, rfl, rfl, by decide +kernel, rfl, by decide +kernel, by decide +kernel⟩
theorem ok_cell {f : Addr} {fd : FuncData} (F : Fun K "_law_cell" "_law_cell" sCell f fd) (gl : mg "len" = none) (gi : mg "int" = none) : FnOk P w K mg base CX0 1 f fd ["script", "k"] (spCell K) := by
  refine F.ok scC (fun vs H Q E h => ?_) (fun cdv A outer s H vs Q E hr h => ?_)
  · obtain ⟨a, ns, k, rfl, _⟩ := h
    rfl
  · obtain ⟨a, ns, k, rfl, hS, q⟩ := h
    refine ⟨_, pss_cons (ps_if (pt_cmpR op_lt (pv 1) (pe_callB call_len_seq (by rfl) gl PySem.boot_len (pa_cons (pv 0) pa_nil)) (nomark _))
      (pss_one (ps_ret (pe_callTy call_int1 (by rfl) gi (by decide +kernel) (pa_cons (pe_ix ix_list (pv 0) (pv 1) (fun _ _ => rfl)) pa_nil)))) pss_nil) (pss_one (ps_ret pe_int)), ?_⟩
    refine ⟨_, rfl, _, rfl, a, _, rfl, .inl hS, _, _, rfl, rfl, _, rfl, ?_⟩
    rw [List.length_map]
    refine ite2 (fun hc => ?_) (fun hc => ?_)
    · have hc := of_decide_eq_true hc
      have hk : k < ns.length := by omega
      have e : ns[k]? = some (ns.getD k 0) := by
        rw [List.getD_eq_getElem?_getD, List.getElem?_eq_getElem hk] <;> rfl
      refine ⟨_, rfl, _, rfl, a, _, _, _, rfl, rfl, hS, atI_nat (by rw [List.getElem?_map, e]; rfl), .inl ⟨_, rfl, q⟩⟩
    · have hc := of_decide_eq_false (Bool.eq_false_iff.mpr hc)
      have e : ns.getD k 0 = 0 := by
        rw [List.getD_eq_getElem?_getD, List.getElem?_eq_none (by omega)] <;> rfl
      rw [e] at q
      exact q
end
end K20

set_option Elab.async false
set_option linter.all false
set_option maxRecDepth 100000
set_option maxHeartbeats 4000000
namespace K20
open PySem L2
/-! ### the rows -/
def rowOf (es : List Str) (t : Str) (ls : List Str) : List Str := es ++ [t] ++ ls.reverse
theorem row_len (es : List Str) (t : Str) (ls : List Str) : (rowOf es t ls).length = es.length + 1 + ls.length := by
  unfold rowOf
  rw [List.length_append, List.length_append, List.length_reverse, List.length_singleton]
theorem row_at (es : List Str) (t : Str) (ls : List Str) : (rowOf es t ls)[es.length]? = some t := by
  unfold rowOf
  rw [List.getElem?_append_left (by rw [List.length_append, List.length_singleton]; omega), List.getElem?_append_right (Nat.le_refl _), Nat.sub_self] <;> rfl
theorem cut_head (es : List Str) (t : Str) (ls : List Str) : cutV ((rowOf es t ls).map V.str) none (some ((es.length : Int) + 1)) = (es ++ [t]).map V.str := by
  unfold cutV
  rw [List.length_map, row_len]
  have e : HT.sIx (es.length + 1 + ls.length) (es.length + 1 + ls.length) (some ((es.length : Int) + 1)) = es.length + 1 := by
    have := HT.sIx_nat (es.length + 1 + ls.length) (es.length + 1 + ls.length) (es.length + 1)
    rw [show ((es.length + 1 : Nat) : Int) = (es.length : Int) + 1 by omega] at this
    rw [this]
    omega
  rw [e, HT.sIx_none, Nat.sub_zero, List.drop_zero, ← List.map_take]
  unfold rowOf
  rw [List.take_left' (by rw [List.length_append, List.length_singleton])]
theorem cut_tail (es : List Str) (t u : Str) (m : Int) (h : (es.length : Int) ≤ m) : cutV ((es ++ [t] ++ [u]).map V.str) (some (0 - m - 1)) none = (rowOf (addE m es t) u []).map V.str := by
  unfold cutV
  have len : ((es ++ [t] ++ [u]).map V.str).length = es.length + 2 := by
    rw [List.length_map, List.length_append, List.length_append, List.length_singleton, List.length_singleton]
  rw [len, HT.sIx_none]
  have e : HT.sIx (es.length + 2) 0 (some (0 - m - 1)) = if m < (es.length : Int) + 1 then 1 else 0 := by
    show (if 0 - m - 1 < 0 then (0 - m - 1 + ((es.length + 2 : Nat) : Int)).toNat else min (0 - m - 1).toNat (es.length + 2)) = _
    rw [if_pos (by omega)]
    by_cases q : m < (es.length : Int) + 1
    · rw [if_pos q]
      omega
    · rw [if_neg q]
      omega
  rw [e]
  unfold rowOf addE
  rw [List.length_append, List.length_singleton, List.reverse_nil, List.append_nil]
  by_cases q : m < (es.length : Int) + 1
  · rw [if_pos q, if_pos (by omega), List.take_of_length_le (by rw [List.length_drop, len]; omega), ← List.map_drop, List.drop_append_of_le_length (by rw [List.length_append, List.length_singleton]; omega), List.drop_one]
  · rw [if_neg q, if_neg (by omega), List.drop_zero, List.take_of_length_le (by rw [len]; omega)]
theorem addE_len (es : List Str) (t : Str) (m : Int) (h : (es.length : Int) ≤ m) : ((addE m es t).length : Int) ≤ m := by
  unfold addE
  rw [List.length_append, List.length_singleton]
  by_cases q : m < ((es.length + 1 : Nat) : Int)
  · rw [if_pos q, List.length_tail, List.length_append, List.length_singleton]
    omega
  · rw [if_neg q, List.length_append, List.length_singleton]
    omega
/-! ### the state of the law -/
structure St (K : PySem.W.Frag) (C : Addr) (H0 H : Hp) (p dx l1 l2 r : Addr) (m : Int) (t : Str) (es ls : List Str) : Prop where
  same : Same H0 H
  p0 : H0 p = none
  z1 : H0 l1 = none
  z2 : H0 l2 = none
  at_ : At C H p dx l1 l2 t m es ls
  row : H r = some (.lst ((rowOf es t ls).map V.str))
  r1 : r ≠ l1
  r2 : r ≠ l2
  m0 : 1 ≤ m
  m6 : m ≤ 6
  len : (es.length : Int) + ls.length ≤ m
theorem St.rp {K : PySem.W.Frag} {C : Addr} {H0 H : Hp} {p dx l1 l2 r : Addr} {m : Int} {t : Str} {es ls : List Str} (s : St K C H0 H p dx l1 l2 r m t es ls) : r ≠ p := (ne_of s.at_.ins s.row (by intro q; cases q)).symm
theorem St.fr {K : PySem.W.Frag} {C : Addr} {H0 H H' : Hp} {p dx l1 l2 r : Addr} {m : Int} {t : Str} {es ls : List Str} (s : St K C H0 H p dx l1 l2 r m t es ls) (f : Fr p l1 l2 H H') : Same H0 H' := fun b o e =>
  f b o (s.same b o e) (fun q => by rw [q, s.p0] at e; cases e) (fun q => by rw [q, s.z1] at e; cases e) (fun q => by rw [q, s.z2] at e; cases e)
def slots (a p r : Addr) (m : Int) (n : Nat) (v5 v6 v7 : Option V) : L2.St := [some (.ref a), some (.int m), some (.ref p), some (.ref r), some (.int n), v5, v6, v7]
def Inv1 (K : PySem.W.Frag) (C a : Addr) (H0 : Hp) (m : Int) (σ : L2.St) (H : Hp) : Prop := ∃ p dx l1 l2 r t es ls v5 v6 v7, σ = slots a p r m (List.length es) v5 v6 v7 ∧ St K C H0 H p dx l1 l2 r m t es ls
/-! ### the test at the end of a turn -/
abbrev rLenS (K : PySem.W.Frag) : List V → Hp → VK → Prop := fun xs H Q => ∃ p ys, xs = [.ref p] ∧ (SqL K H p ys ∨ SqT K H p ys) ∧ Q (.int ys.length) H
abbrev rSub : R2 := rI0 fun i j => .int (i - j)
def tChk (K : PySem.W.Frag) (C : Addr) : TS :=
  tIfS (tOr (tTest (tOp rNe (tMeth C "present" (spPres C) [] E0 (tVar 2) tNil) (tOp (rIxL K) (tVar 3) (tVar 4)))) (tOr (tTest (tOp rNe (tMeth C "before" (spBef C) [] E0 (tVar 2) tNil) (tVar 4)))
    (tTest (tOp rNe (tMeth C "after" (spAft C) [] E0 (tVar 2) tNil) (tOp rSub (tOp rSub (tCB (rLenS K) (tCons (tVar 3) tNil)) (tC (.int 1))) (tVar 4)))))) (tRet (tC (.bl false))) tNext
theorem lk_none {t : Str} {m : Int} {l1 l2 : Addr} {x : Str} (h : ((pf t m l1 l2).lookup x).isNone = true) : (pf t m l1 l2).lookup x = none := Option.isNone_iff_eq_none.mp h
theorem chk_ok {K : PySem.W.Frag} {C a p dx l1 l2 r : Addr} {H0 H : Hp} {m : Int} {t : Str} {es ls : List Str} {v5 v6 v7 : Option V} {D : Ends} (s : St K C H0 H p dx l1 l2 r m t es ls) (q : D.nx (slots a p r m es.length v5 v6 v7) H) : tChk K C D (slots a p r m es.length v5 v6 v7) H := by
  have row := s.row
  have ne : ∀ x : V, (!decide (x = x)) = false := fun x => by rw [decide_eq_true rfl] <;> rfl
  have n1 : (pf t m l1 l2).lookup ("present" : Str) = none := by kernel_rfl
  have n2 : (pf t m l1 l2).lookup ("before" : Str) = none := by kernel_rfl
  have n3 : (pf t m l1 l2).lookup ("after" : Str) = none := by kernel_rfl
  refine ⟨_, rfl, p, dx, _, rfl, s.at_.ins, n1, p, dx, l1, l2, t, m, es, ls, rfl, s.at_, _, rfl, _, rfl, r, _, _, V.str t, rfl, rfl, SqL.of row, atI_nat (by rw [List.getElem?_map, row_at]; rfl), rfl, _, rfl, ?_⟩
  rw [ne]
  refine iteF ?_
  refine ⟨_, rfl, p, dx, _, rfl, s.at_.ins, n2, p, dx, l1, l2, t, m, es, ls, rfl, s.at_, _, rfl, rfl, _, rfl, ?_⟩
  rw [ne]
  refine iteF ?_
  refine ⟨_, rfl, p, dx, _, rfl, s.at_.ins, n3, p, dx, l1, l2, t, m, es, ls, rfl, s.at_, _, rfl, r, _, rfl, .inl (SqL.of row), _, _, rfl, rfl, _, rfl, _, _, rfl, rfl, rfl, _, rfl, ?_⟩
  have e : V.int ((((rowOf es t ls).map V.str).length : Int) - 1 - (es.length : Int)) = V.int (ls.length : Int) := by
    rw [List.length_map, row_len]
    congr 1
    omega
  show (if (!decide (V.int (ls.length : Int) = V.int ((((rowOf es t ls).map V.str).length : Int) - 1 - (es.length : Int)))) = true then _ else _)
  rw [e, ne]
  exact iteF q
end K20

set_option Elab.async false
set_option linter.all false
set_option maxRecDepth 100000
set_option maxHeartbeats 4000000
namespace K20
open PySem L2
theorem scL : FnScope ["script", "limit", "past", "row", "at", "k", "cell", "told"] ["script"] (defScope sLaw) := ⟨rfl, rfl, rfl, by decide +kernel, rfl, by decide +kernel, by decide +kernel⟩
structure Blt (mg : Str → Option Value) : Prop where
  len : mg "len" = none
  int : mg "int" = none
  abs : mg "abs" = none
  range : mg "range" = none
  min : mg "min" = none
  max : mg "max" = none
  str : mg "str" = none
  isi : mg "isinstance" = none
  bool : mg "bool" = none
theorem chk_z {K : PySem.W.Frag} {C a p dx l1 l2 r : Addr} {H0 H : Hp} {m z : Int} {t : Str} {es ls : List Str} {v5 v6 v7 : Option V} {D : Ends} (hz : z = (es.length : Int)) (s : St K C H0 H p dx l1 l2 r m t es ls) (q : D.nx (slots a p r m es.length v5 v6 v7) H) :
    tChk K C D [some (.ref a), some (.int m), some (.ref p), some (.ref r), some (.int z), v5, v6, v7] H := by
  subst hz
  exact chk_ok s q
theorem At.new {C : Addr} {H : Hp} {p dx l1 l2 q : Addr} {t : Str} {m : Int} {es ls : List Str} {o : HO} (a : At C H p dx l1 l2 t m es ls) (h : H q = none) : At C (upd H q o) p dx l1 l2 t m es ls :=
  ⟨by rw [upd_ne (ne_of_none a.ins h)]; exact a.ins, by rw [upd_ne (ne_of_none a.e h)]; exact a.e, by rw [upd_ne (ne_of_none a.l h)]; exact a.l, a.ne⟩
theorem Same.new {H0 H : Hp} {q : Addr} {o : HO} (s : Same H0 H) (h : H q = none) : Same H0 (upd H q o) := fun b u e => by
  have z := s b u e
  rw [upd_ne (ne_of_none z h)]
  exact z
theorem txt_len {z : Int} (h0 : 0 ≤ z) (h9 : z < 9) : ("t" : Str).length + (Str.ofString (toString z)).length ≤ sizeLine := by
  have a : ∀ n : _root_.Fin 9, ("t" : Str).length + (Str.ofString (toString (((n : Nat)) : Int))).length ≤ 1000 := by decide +kernel
  have q := a ⟨z.toNat, by omega⟩
  have e : ((z.toNat : Nat) : Int) = z := by omega
  have q : ("t" : Str).length + (Str.ofString (toString ((z.toNat : Nat) : Int))).length ≤ 1000 := q
  rw [e] at q
  exact Nat.le_trans q (by decide)
theorem dec_ne {b : Bool} : (!decide (V.bl b = V.bl b)) = false := by rw [decide_eq_true rfl] <;> rfl
section
variable {P : Program} {w : World} {K : PySem.W.Frag} {mg : Str → Option Value} {base : Heap}
theorem ok_law {f C fI f1 f2 f3 f4 f5 f6 fc : Addr} {fd fdI fd1 fd2 fd3 fd4 fd5 fd6 fdc : FuncData} (F : Fun K "law" "law" sLaw f fd) (B : Blt mg) (T : Txt K mg C) (M : Mk K C fI)
    (FI : Fun K "__init__" "Past.__init__" sInit fI fdI) (bI : Binds K fdI ["self", "text", "limit"] [])
    (F1 : Fun K "present" "Past.present" sPres f1 fd1) (b1 : Binds K fd1 ["self"] []) (m1 : Meth K C "present" f1)
    (F2 : Fun K "add" "Past.add" sAdd f2 fd2) (b2 : Binds K fd2 ["self", "text"] []) (m2 : Meth K C "add" f2)
    (F3 : Fun K "back" "Past.back" sBack f3 fd3) (b3 : Binds K fd3 ["self"] []) (m3 : Meth K C "back" f3)
    (F4 : Fun K "forward" "Past.forward" sForw f4 fd4) (b4 : Binds K fd4 ["self"] []) (m4 : Meth K C "forward" f4)
    (F5 : Fun K "before" "Past.before" sBef f5 fd5) (b5 : Binds K fd5 ["self"] []) (m5 : Meth K C "before" f5)
    (F6 : Fun K "after" "Past.after" sAft f6 fd6) (b6 : Binds K fd6 ["self"] []) (m6 : Meth K C "after" f6)
    (Fc : Fun K "_law_cell" "_law_cell" sCell fc fdc) (bc : Binds K fdc ["script", "k"] []) (mc : mg "_law_cell" = some (.ref fc)) : FnOk P w K mg base CX0 3 f fd ["script"] (spLaw K) := by
  have GI : FnOk P w K mg base CX0 1 fI fdI ["self", "text", "limit"] (spInit C) := ok_init FI T
  have G1 : FnOk P w K mg base CX0 1 f1 fd1 ["self"] (spPres C) := ok_pres F1 T
  have G2 : FnOk P w K mg base CX0 1 f2 fd2 ["self", "text"] (spAdd C) := ok_add F2 T
  have G3 : FnOk P w K mg base CX0 1 f3 fd3 ["self"] (spBack C) := ok_back F3 T
  have G4 : FnOk P w K mg base CX0 1 f4 fd4 ["self"] (spForw C) := ok_forw F4 T
  have G5 : FnOk P w K mg base CX0 1 f5 fd5 ["self"] (spBef C) := ok_bef F5 T
  have G6 : FnOk P w K mg base CX0 1 f6 fd6 ["self"] (spAft C) := ok_aft F6 T
  have Gc : FnOk P w K mg base CX0 1 fc fdc ["script", "k"] (spCell K) := ok_cell Fc B.len B.int
  refine F.ok scL (fun vs H Q E h => ?_) (fun cdv A outer s H vs Q E hr h => ?_)
  · obtain ⟨a, ns, rfl, _⟩ := h
    rfl
  · obtain ⟨a, ns, rfl, hS, hlen, k⟩ := h
    have hr1 : Room 1 _ := hr.mono (by decide)
    have nd := scL.nd
    refine ⟨_, pss_cons (ps_set (i := 1) nd rfl (Or.inl rfl) (pe_op op_add pe_int (pe_op op_mod (pe_callB call_abs (by rfl) B.abs (by decide +kernel) (pa_cons (pe_call Gc hr1 rfl mc Fc.kp bc .nil pass0 (pa_cons (pv 0) (pa_cons pe_int pa_nil))) pa_nil)) pe_int)))
      (pss_cons (ps_set (i := 2) nd rfl (Or.inl rfl) (pe_make M GI hr rfl T.mgC bI .nil pass0 (pa_cons pe_str (pa_cons (pv 1) pa_nil))))
      (pss_cons (ps_set (i := 3) nd rfl (Or.inl rfl) (pe_lst (pa_cons pe_str pa_nil)))
      (pss_cons (ps_set (i := 4) nd rfl (Or.inl rfl) pe_int)
      (pss_cons (ps_for PassesOwn.never rfl (pi_range1 rfl B.range (pa_cons (pe_callB (call_min2 rfl) (by rfl) B.min (by decide +kernel) (pa_cons pe_int (pa_cons (pe_callB (call_max2 rfl) (by rfl) B.max (by decide +kernel) (pa_cons pe_int (pa_cons (pe_op op_sub (pe_callB call_len_seq (by rfl) B.len PySem.boot_len (pa_cons (pv 0) pa_nil)) pe_int) pa_nil))) pa_nil))) pa_nil)) (pg_name (i := 5) nd rfl (Or.inl rfl))
        (pss_cons (ps_set (i := 6) nd rfl (Or.inl rfl) (pe_callB call_abs (by rfl) B.abs (by decide +kernel) (pa_cons (pe_call Gc hr1 rfl mc Fc.kp bc .nil pass0 (pa_cons (pv 0) (pa_cons (pe_op op_add pe_int (pv 5)) pa_nil))) pa_nil)))
        (pss_cons (ps_if (pt_cmpR op_lt (pe_op op_mod (pv 6) pe_int) pe_int (nomark _))
            -- row = (row[:at + 1] + ['t' + str(cell // 4 % 9)])[0 - limit - 1:]
            (pss_cons (ps_set (i := 3) nd rfl (Or.inl rfl) (pe_slice sl_list (pe_op op_cat (pe_slice sl_list (pv 3) po_none (po_some (pe_op op_add (pv 4) pe_int))) (pe_lst (pa_cons (pe_op op_add_str pe_str (pe_callTy call_str_int (by rfl) B.str (by decide +kernel) (pa_cons (pe_op op_mod (pe_op op_fdiv (pv 6) pe_int) pe_int) pa_nil))) pa_nil))) (po_some (pe_op op_sub (pe_op op_sub pe_int (pv 1)) pe_int)) po_none))
            (pss_cons (ps_set (i := 4) nd rfl (Or.inl rfl) (pe_op op_sub (pe_callB call_len_seq (by rfl) B.len PySem.boot_len (pa_cons (pv 3) pa_nil)) pe_int))
            (pss_one (ps_if (pt_cmp (pc_notN (pe_meth (pv 2) T.cl m2 G2 hr1 b2 .nil pass0 (pa_cons (pe_ix ix_list (pv 3) (pv 4) (fun _ _ => rfl)) pa_nil)))) (pss_one (ps_ret pe_bl)) pss_nil))))
            (pss_one (ps_if (pt_cmpR op_eq (pe_op op_mod (pv 6) pe_int) pe_int (nomark _))
              (pss_cons (ps_set (i := 7) nd rfl (Or.inl rfl) (pe_meth0 (pv 2) T.cl m3 G3 hr1 b3 .nil pass0))
              (pss_cons (ps_if (PW.pt (pw_or (pt_not (pt_val (pe_callB call_isi (by rfl) B.isi (by decide +kernel) (pa_cons (pv 7) (pa_cons (pe_bltn (v := .ty "bool") (u := .type "bool") rfl B.bool (by decide +kernel) rfl) pa_nil))))) (pw_or1 (pt_cmpR op_ne (pv 7) (pe_cmpR op_gt (pv 4) pe_int (nomark _)) (nomark _))))) (pss_one (ps_ret pe_bl)) pss_nil)
              (pss_one (ps_set (i := 4) nd rfl (Or.inl rfl) (pe_callB (call_max2 rfl) (by rfl) B.max (by decide +kernel) (pa_cons pe_int (pa_cons (pe_op op_sub (pv 4) pe_int) pa_nil)))))))
              (pss_cons (ps_set (i := 7) nd rfl (Or.inl rfl) (pe_meth0 (pv 2) T.cl m4 G4 hr1 b4 .nil pass0))
              (pss_cons (ps_if (PW.pt (pw_or (pt_not (pt_val (pe_callB call_isi (by rfl) B.isi (by decide +kernel) (pa_cons (pv 7) (pa_cons (pe_bltn (v := .ty "bool") (u := .type "bool") rfl B.bool (by decide +kernel) rfl) pa_nil))))) (pw_or1 (pt_cmpR op_ne (pv 7) (pe_cmpR op_lt (pe_op op_add (pv 4) pe_int) (pe_callB call_len_seq (by rfl) B.len PySem.boot_len (pa_cons (pv 3) pa_nil)) (nomark _)) (nomark _))))) (pss_one (ps_ret pe_bl)) pss_nil)
              (pss_one (ps_set (i := 4) nd rfl (Or.inl rfl) (pe_callB (call_min2 rfl) (by rfl) B.min (by decide +kernel) (pa_cons (pe_op op_sub (pe_callB call_len_seq (by rfl) B.len PySem.boot_len (pa_cons (pv 3) pa_nil)) pe_int) (pa_cons (pe_op op_add (pv 4) pe_int) pa_nil))))))))))
        (pss_one (ps_if (PW.pt (pw_or (pt_cmpR op_ne (pe_meth0 (pv 2) T.cl m1 G1 hr1 b1 .nil pass0) (pe_ix ix_list (pv 3) (pv 4) (fun _ _ => rfl)) (nomark _)) (pw_or (pt_cmpR op_ne (pe_meth0 (pv 2) T.cl m5 G5 hr1 b5 .nil pass0) (pv 4) (nomark _))
          (pw_or1 (pt_cmpR op_ne (pe_meth0 (pv 2) T.cl m6 G6 hr1 b6 .nil pass0) (pe_op op_sub (pe_op op_sub (pe_callB call_len_seq (by rfl) B.len PySem.boot_len (pa_cons (pv 3) pa_nil)) pe_int) (pv 4)) (nomark _)))))) (pss_one (ps_ret pe_bl)) pss_nil)))))
      (pss_one (ps_ret pe_bl)))))), ?_⟩
    refine ⟨_, rfl, a, ns, 0, rfl, hS, _, rfl, _, _, rfl, rfl, (by show (0 : Int) < 6; decide), _, _, rfl, rfl, ?_⟩
    generalize hx : (if ns.getD 0 0 < 0 then -(ns.getD 0 0) else ns.getD 0 0) = x0
    have hm0 : (1 : Int) ≤ 1 + x0 % 6 := by
      have := Int.emod_nonneg x0 (show (6 : Int) ≠ 0 by decide)
      omega
    have hm6 : 1 + x0 % 6 ≤ 6 := by
      have := Int.emod_lt_of_pos x0 (show (0 : Int) < 6 by decide)
      omega
    obtain ⟨m, em⟩ : ∃ m : Int, m = 1 + x0 % 6 := ⟨_, rfl⟩
    rw [← em] at hm0 hm6
    -- past = Past('start', limit)
    refine ⟨_, rfl, fun p dx np ndx ndp => ⟨p, dx, "start", m, (by rw [em]; rfl), upd_same, fun H1 l1 l2 z1 z2 fr at1 => ⟨rfl, ?_⟩⟩⟩
    have s1 : Same H H1 := fun b o e => by
      have nbp : b ≠ p := fun q => by
        rw [q, np] at e
        cases e
      refine fr b o ?_ nbp
      rw [upd_ne nbp, upd_ne (ne_of_none e ndx)]
      exact e
    have hz : ∀ l, upd (upd H dx (.own p)) p (.ins C dx []) l = none → H l = none := fun l z => by
      have n1 : l ≠ p := fun q => by
        rw [q, upd_same] at z
        cases z
      have n2 : l ≠ dx := fun q => by
        rw [q, upd_ne ndp, upd_same] at z
        cases z
      rw [upd_ne n1, upd_ne n2] at z
      exact z
    -- row = ['start']; at = 0
    refine ⟨by show 1 ≤ sizeLine; decide, fun r nr => ?_⟩
    have r1 : r ≠ l1 := fun q => by
      rw [q, at1.e] at nr
      cases nr
    have r2 : r ≠ l2 := fun q => by
      rw [q, at1.l] at nr
      cases nr
    have rp : r ≠ p := fun q => by
      rw [q, at1.ins] at nr
      cases nr
    have st0 : St K C H (upd H1 r (.lst [V.str "start"])) p dx l1 l2 r m "start" [] [] := ⟨fun b o e => by
        have q := s1 b o e
        rw [upd_ne (ne_of_none q nr)]
        exact q, np, hz l1 z1, hz l2 z2, ⟨by rw [upd_ne rp.symm]; exact at1.ins, by rw [upd_ne r1.symm]; exact at1.e, by rw [upd_ne r2.symm]; exact at1.l, at1.ne⟩, upd_same, r1, r2, hm0, hm6, by show (0 : Int) + 0 ≤ m; omega⟩
    have same0 := st0.same
    generalize upd H1 r (.lst [V.str "start"]) = H2 at st0 same0
    refine ⟨_, rfl, a, _, rfl, .inl (same0.seq hS), _, _, rfl, rfl, _, _, rfl, _, _, rfl, _, rfl, ?_, ?_, for_range (fun i σ H' => Inv1 K C a H m σ H') ⟨p, dx, l1, l2, r, _, [], [], none, none, none, (by rw [em]; rfl), st0⟩ ?_ ?_⟩
    · split <;> first | omega | (split <;> omega)
    · split <;> first | omega | (rename_i q; split at q <;> omega) | (split <;> omega)
    · rintro i σ H3 hi ⟨p, dx, l1, l2, r, t, es, ls, v5, v6, v7, rfl, st⟩
      have row := st.row
      have hlen3 := st.len
      have m06 := st.m6
      have m01 := st.m0
      -- cell = abs(_law_cell(script, 1 + k))
      refine ⟨_, rfl, _, rfl, _, _, rfl, rfl, a, ns, i + 1, (by show [V.ref a, V.int (1 + (0 + (i : Int)))] = [V.ref a, V.int ((i + 1 : Nat) : Int)]; congr 3; omega), st.same.seq hS, _, rfl, ?_⟩
      generalize hc0 : (if ns.getD (i + 1) 0 < 0 then -(ns.getD (i + 1) 0) else ns.getD (i + 1) 0) = c
      have c0 : 0 ≤ c := by
        rw [← hc0]
        split <;> omega
      refine ⟨_, rfl, _, _, rfl, rfl, (by show (0 : Int) < 4; decide), _, _, rfl, rfl, _, rfl, ?_⟩
      refine ite2 (fun hc => ?_) (fun hc => ?_)
      · -- a new text
        have d0 : 0 ≤ c / 4 % 9 := Int.emod_nonneg _ (by decide)
        have d9 : c / 4 % 9 < 9 := Int.emod_lt_of_pos _ (by decide)
        refine ⟨_, rfl, _, rfl, _, _, rfl, rfl, _, rfl, r, _, rfl, SqL.of row, fun q1 hq1 => ?_⟩
        rw [cut_head]
        refine ⟨_, rfl, _, _, rfl, rfl, ⟨by decide, by decide⟩, _, _, rfl, rfl, (by show (0 : Int) < 9; decide), _, rfl, ?_, _, _, rfl, rfl, ?_, ?_⟩
        · have : ∀ n : Fin 9, (n : Nat).log2 < 1920 := by decide
          have q := this ⟨(c / 4 % 9).natAbs, by omega⟩
          exact q
        · exact txt_len d0 d9
        let u : Str := ("t" : Str) ++ Str.ofString (toString (c / 4 % 9))
        refine ⟨by show 1 ≤ sizeLine; decide, fun q2 hq2 => ?_⟩
        have n12 : q1 ≠ q2 := fun z => by
          rw [← z, upd_same] at hq2
          cases hq2
        refine ⟨q1, q2, (es ++ [t]).map V.str, [V.str u], rfl, rfl, (by rw [upd_ne n12, upd_same]), upd_same, ?_, fun q3 hq3 => ?_⟩
        · rw [List.length_map, List.length_append, List.length_singleton, List.length_singleton]
          have : (sizeLine : Nat) = 16777216 := sizeLine_eq
          omega
        have ec : ((es ++ [t]).map V.str ++ [V.str u]) = (es ++ [t] ++ [u]).map V.str := by
          rw [List.map_append, List.map_append, List.map_append] <;> rfl
        have atd : ∀ {H : Hp} {q : Addr} {o : HO}, H q = none → At C H p dx l1 l2 t m es ls → At C (upd H q o) p dx l1 l2 t m es ls := fun h a => a.new h
        have a1 := (st.at_.new (o := .lst ((es ++ [t]).map V.str)) hq1).new (o := .lst [V.str u]) hq2
        have a2 := a1.new (o := .lst ((es ++ [t]).map V.str ++ [V.str u])) hq3
        have s2 := Same.new (o := .lst ((es ++ [t]).map V.str ++ [V.str u])) (Same.new (o := .lst [V.str u]) (Same.new (o := .lst ((es ++ [t]).map V.str)) st.same hq1) hq2) hq3
        refine ⟨_, rfl, _, _, rfl, rfl, _, _, rfl, rfl, _, rfl, q3, _, rfl, SqL.of upd_same, fun q4 hq4 => ?_⟩
        have a3 := a2.new (o := .lst (cutV ((es ++ [t]).map V.str ++ [V.str u]) (some (0 - m - 1)) none)) hq4
        have s3 := Same.new (o := .lst (cutV ((es ++ [t]).map V.str ++ [V.str u]) (some (0 - m - 1)) none)) s2 hq4
        have q4e : q4 ≠ l1 := fun z => by
          rw [z, a2.e] at hq4
          cases hq4
        have q4l : q4 ≠ l2 := fun z => by
          rw [z, a2.l] at hq4
          cases hq4
        have q4p : q4 ≠ p := fun z => by
          rw [z, a2.ins] at hq4
          cases hq4
        have hm1 : (es.length : Int) ≤ m := by omega
        have row4 : upd (upd (upd (upd H3 q1 (.lst ((es ++ [t]).map V.str))) q2 (.lst [V.str u])) q3 (.lst ((es ++ [t]).map V.str ++ [V.str u]))) q4 (.lst (cutV ((es ++ [t]).map V.str ++ [V.str u]) (some (0 - m - 1)) none)) q4 = some (.lst ((rowOf (addE m es t) u []).map V.str)) := by
          rw [upd_same, ec, cut_tail es t u m hm1]
        have rl : ((((rowOf (addE m es t) u []).map V.str).length : Nat) : Int) - 1 = ((addE m es t).length : Int) := by
          rw [List.length_map, row_len, List.length_nil]
          omega
        have na : (pf t m l1 l2).lookup ("add" : Str) = none := by kernel_rfl
        refine ⟨_, rfl, q4, _, rfl, .inl (SqL.of row4), _, _, rfl, rfl, ?_⟩
        refine ⟨_, rfl, p, dx, _, rfl, a3.ins, na, _, rfl, _, rfl, q4, _, _, V.str u, rfl, rfl, SqL.of row4, ?_, p, dx, l1, l2, t, u, m, es, ls, rfl, a3, by omega, fun H5 k5 z5 fr at5 => ?_⟩
        · show atI _ (((((rowOf (addE m es t) u []).map V.str).length : Nat) : Int) - 1) = _
          rw [rl]
          exact atI_nat (by rw [List.getElem?_map, row_at]; rfl)
        · refine ⟨_, rfl, ?_⟩
          show (if (!decide (V.non = V.non)) = true then _ else _)
          rw [decide_eq_true (rfl : V.non = V.non)]
          refine iteF ?_
          have same4 : Same H H5 := fun b o e => fr b o (s3 b o e) (fun q => by rw [q, st.p0] at e; cases e) (fun q => by rw [q, st.z1] at e; cases e) (fun q => by rw [q, st.z2] at e; cases e)
          have st' : St K C H H5 p dx l1 k5 q4 m u (addE m es t) [] := ⟨same4, st.p0, st.z1, s3.free z5, at5, fr _ _ row4 q4p q4e q4l, q4e, (fun q => by rw [← q, row4] at z5; cases z5), st.m0, st.m6, by have := addE_len es t m hm1; rw [List.length_nil]; omega⟩
          exact chk_z (es := addE m es t) rl st' ⟨p, dx, l1, k5, q4, u, addE m es t, [], _, _, _, rfl, st'⟩
      · refine ⟨_, rfl, _, _, rfl, rfl, (by show (0 : Int) < 4; decide), rfl, _, rfl, ?_⟩
        refine ite2 (fun hc2 => ?_) (fun hc2 => ?_)
        · -- back
          have nb : (pf t m l1 l2).lookup ("back" : Str) = none := by kernel_rfl
          refine ⟨_, rfl, p, dx, _, rfl, st.at_.ins, nb, p, dx, l1, l2, t, m, es, ls, rfl, st.at_, by omega, fun e => ?_, fun e0 x e H' fr at' => ?_⟩
          · subst e
            refine ⟨_, rfl, _, _, _, _, _, rfl, .ty _, .base (.bl _), kit_ty (r := true) (by decide +kernel), _, rfl, iteF ?_⟩
            refine ⟨_, rfl, _, rfl, _, _, rfl, rfl, rfl, _, rfl, ?_⟩
            show (if (!decide (V.bl false = V.bl (decide ((0 : Int) < ((([] : List Str).length : Nat) : Int))))) = true then _ else _)
            rw [decide_eq_false (show ¬ ((0 : Int) < ((([] : List Str).length : Nat) : Int)) by decide), dec_ne]
            refine iteF ⟨_, rfl, _, _, rfl, rfl, _, _, rfl, ?_⟩
            exact chk_z (es := []) (by decide) st ⟨p, dx, l1, l2, r, t, [], ls, _, _, _, rfl, st⟩
          · subst e
            rw [List.length_append, List.length_singleton] at hlen3
            have er : rowOf e0 x (ls ++ [t]) = rowOf (e0 ++ [x]) t ls := by
              unfold rowOf
              rw [List.reverse_append]
              simp
            have st' : St K C H H' p dx l1 l2 r m x e0 (ls ++ [t]) := ⟨st.fr fr, st.p0, st.z1, st.z2, at', by rw [er]; exact fr r _ row st.rp st.r1 st.r2, st.r1, st.r2, st.m0, st.m6, by rw [List.length_append, List.length_singleton]; omega⟩
            have el : ((e0 ++ [x]).length : Int) = (e0.length : Int) + 1 := by
              rw [List.length_append, List.length_singleton]
              omega
            refine ⟨_, rfl, _, _, _, _, _, rfl, .ty _, .base (.bl _), kit_ty (r := true) (by decide +kernel), _, rfl, iteF ?_⟩
            refine ⟨_, rfl, _, rfl, _, _, rfl, rfl, rfl, _, rfl, ?_⟩
            show (if (!decide (V.bl true = V.bl (decide ((0 : Int) < ((e0 ++ [x]).length : Int))))) = true then _ else _)
            rw [decide_eq_true (show (0 : Int) < ((e0 ++ [x]).length : Int) by omega), dec_ne]
            refine iteF ⟨_, rfl, _, _, rfl, rfl, _, _, rfl, ?_⟩
            exact chk_z (es := e0) (by rw [el]; split <;> omega) st' ⟨p, dx, l1, l2, r, x, e0, _, _, _, _, rfl, st'⟩
        · -- forward
          have nb : (pf t m l1 l2).lookup ("forward" : Str) = none := by kernel_rfl
          have rl : ∀ u : Str, ((((rowOf es t ls).map V.str).length : Nat) : Int) = (es.length : Int) + 1 + ls.length := fun _ => by
            rw [List.length_map, row_len]
            omega
          refine ⟨_, rfl, p, dx, _, rfl, st.at_.ins, nb, p, dx, l1, l2, t, m, es, ls, rfl, st.at_, by omega, fun e => ?_, fun e0 x e H' fr at' => ?_⟩
          · subst e
            refine ⟨_, rfl, _, _, _, _, _, rfl, .ty _, .base (.bl _), kit_ty (r := true) (by decide +kernel), _, rfl, iteF ?_⟩
            refine ⟨_, rfl, _, rfl, _, _, rfl, rfl, _, rfl, r, _, rfl, .inl (SqL.of row), _, _, rfl, rfl, rfl, _, rfl, ?_⟩
            show (if (!decide (V.bl false = V.bl (decide ((es.length : Int) + 1 < ((((rowOf es t []).map V.str).length : Nat) : Int))))) = true then _ else _)
            rw [rl t, decide_eq_false (show ¬ ((es.length : Int) + 1 < (es.length : Int) + 1 + (([] : List Str).length : Int)) by rw [List.length_nil]; omega), dec_ne]
            refine iteF ⟨_, rfl, r, _, rfl, .inl (SqL.of row), _, _, rfl, rfl, _, rfl, _, _, rfl, rfl, _, _, rfl, ?_⟩
            refine chk_z (es := es) ?_ st ⟨p, dx, l1, l2, r, t, es, [], _, _, _, rfl, st⟩
            rw [rl t, List.length_nil]
            split <;> omega
          · subst e
            rw [List.length_append, List.length_singleton] at hlen3
            have er : rowOf (es ++ [t]) x e0 = rowOf es t (e0 ++ [x]) := by
              unfold rowOf
              rw [List.reverse_append]
              simp
            have st' : St K C H H' p dx l1 l2 r m x (es ++ [t]) e0 := ⟨st.fr fr, st.p0, st.z1, st.z2, at', by rw [er]; exact fr r _ row st.rp st.r1 st.r2, st.r1, st.r2, st.m0, st.m6, by rw [List.length_append, List.length_singleton]; omega⟩
            have row' := fr r _ row st.rp st.r1 st.r2
            have el : ((e0 ++ [x]).length : Int) = (e0.length : Int) + 1 := by
              rw [List.length_append, List.length_singleton]
              omega
            refine ⟨_, rfl, _, _, _, _, _, rfl, .ty _, .base (.bl _), kit_ty (r := true) (by decide +kernel), _, rfl, iteF ?_⟩
            refine ⟨_, rfl, _, rfl, _, _, rfl, rfl, _, rfl, r, _, rfl, .inl (SqL.of row'), _, _, rfl, rfl, rfl, _, rfl, ?_⟩
            show (if (!decide (V.bl true = V.bl (decide ((es.length : Int) + 1 < ((((rowOf es t (e0 ++ [x])).map V.str).length : Nat) : Int))))) = true then _ else _)
            rw [rl t, decide_eq_true (show (es.length : Int) + 1 < (es.length : Int) + 1 + ((e0 ++ [x]).length : Int) by omega), dec_ne]
            refine iteF ⟨_, rfl, r, _, rfl, .inl (SqL.of row'), _, _, rfl, rfl, _, rfl, _, _, rfl, rfl, _, _, rfl, ?_⟩
            refine chk_z (es := es ++ [t]) ?_ st' ⟨p, dx, l1, l2, r, x, es ++ [t], e0, _, _, _, rfl, st'⟩
            rw [rl t, el, List.length_append, List.length_singleton]
            split <;> omega
    · rintro σ H3 ⟨p, dx, l1, l2, r, t, es, ls, v5, v6, v7, rfl, st⟩
      exact k _
end
end K20

set_option Elab.async false
set_option linter.all false
set_option maxRecDepth 100000
set_option maxHeartbeats 4000000
namespace K20
open PySem L2 Pd
def metD (c m : Str) (q : Str) (st : Stmt) : He.DefD := ⟨(c, some m), m, q, defArgs st, defBody st, defScope st, [], []⟩
def zFns : List He.DefD := [defD "law" sLaw, defD "_law_cell" sCell, metD "Past" "__init__" "Past.__init__" sInit, metD "Past" "present" "Past.present" sPres, metD "Past" "add" "Past.add" sAdd, metD "Past" "back" "Past.back" sBack, metD "Past" "forward" "Past.forward" sForw, metD "Past" "before" "Past.before" sBef, metD "Past" "after" "Past.after" sAft]
def zFa : List He.Fa := [.glo "law", .glo "_law_cell", .glo "Past", .cls "Past", .noat "Past" "_text", .noat "Past" "_limit", .noat "Past" "_earlier", .noat "Past" "_later", .mkr "Past", .meth "Past" "present", .meth "Past" "add", .meth "Past" "back", .meth "Past" "forward", .meth "Past" "before", .meth "Past" "after", .free "len", .free "int", .free "abs", .free "range", .free "min", .free "max", .free "str", .free "isinstance", .free "bool"]
theorem all20 {P : Program} {w : World} {K : PySem.W.Frag} {mg : Str → Option Value} {h : Heap} (X : K.In h) (G : h.Ns mainGlobals mg) (c : SaysP zFa zFns (fun _ => true) K) {fa : Addr} (hfa : mg "law" = some (.ref fa)) :
    ∃ fd : FuncData, (∀ (s : Shared) (v : Value), BindsTo s fd ⟨[v], []⟩ [("script", v)]) ∧ ∀ (base : Heap), K.In base → base.Ns mainGlobals mg → FnOk P w K mg base CX0 3 fa fd ["script"] (spLaw K) := by
  have cd := c.d
  obtain ⟨fdL, DL⟩ := cd.def_ 0 (d := defD "law" sLaw) rfl
  have FL : Fun K "law" "law" sLaw (He.ga K "law") fdL := funOf DL
  obtain ⟨fdC, DC⟩ := cd.def_ 1 (d := defD "_law_cell" sCell) rfl
  have FC : Fun K "_law_cell" "_law_cell" sCell (He.ga K "_law_cell") fdC := funOf DC
  obtain ⟨fd0, D0⟩ := cd.def_ 2 (d := metD "Past" "__init__" "Past.__init__" sInit) rfl
  have F0 : Fun K "__init__" "Past.__init__" sInit (He.ma K (He.ga K "Past") "__init__") fd0 := funOf D0
  have b0 := F0.binds (ps := ["self", "text", "limit"]) fun _ _ _ _ _ _ us hl => match us, hl with | [_, _, _], _ => rfl
  obtain ⟨fd1, D1⟩ := cd.def_ 3 (d := metD "Past" "present" "Past.present" sPres) rfl
  have F1 : Fun K "present" "Past.present" sPres (He.ma K (He.ga K "Past") "present") fd1 := funOf D1
  have b1 := F1.binds (ps := ["self"]) fun _ _ _ _ _ _ us hl => match us, hl with | [_], _ => rfl
  obtain ⟨fd2, D2⟩ := cd.def_ 4 (d := metD "Past" "add" "Past.add" sAdd) rfl
  have F2 : Fun K "add" "Past.add" sAdd (He.ma K (He.ga K "Past") "add") fd2 := funOf D2
  have b2 := F2.binds (ps := ["self", "text"]) fun _ _ _ _ _ _ us hl => match us, hl with | [_, _], _ => rfl
  obtain ⟨fd3, D3⟩ := cd.def_ 5 (d := metD "Past" "back" "Past.back" sBack) rfl
  have F3 : Fun K "back" "Past.back" sBack (He.ma K (He.ga K "Past") "back") fd3 := funOf D3
  have b3 := F3.binds (ps := ["self"]) fun _ _ _ _ _ _ us hl => match us, hl with | [_], _ => rfl
  obtain ⟨fd4, D4⟩ := cd.def_ 6 (d := metD "Past" "forward" "Past.forward" sForw) rfl
  have F4 : Fun K "forward" "Past.forward" sForw (He.ma K (He.ga K "Past") "forward") fd4 := funOf D4
  have b4 := F4.binds (ps := ["self"]) fun _ _ _ _ _ _ us hl => match us, hl with | [_], _ => rfl
  obtain ⟨fd5, D5⟩ := cd.def_ 7 (d := metD "Past" "before" "Past.before" sBef) rfl
  have F5 : Fun K "before" "Past.before" sBef (He.ma K (He.ga K "Past") "before") fd5 := funOf D5
  have b5 := F5.binds (ps := ["self"]) fun _ _ _ _ _ _ us hl => match us, hl with | [_], _ => rfl
  obtain ⟨fd6, D6⟩ := cd.def_ 8 (d := metD "Past" "after" "Past.after" sAft) rfl
  have F6 : Fun K "after" "Past.after" sAft (He.ma K (He.ga K "Past") "after") fd6 := funOf D6
  have b6 := F6.binds (ps := ["self"]) fun _ _ _ _ _ _ us hl => match us, hl with | [_], _ => rfl
  have bC := FC.binds (ps := ["script", "k"]) fun _ _ _ _ _ _ us hl => match us, hl with | [_, _], _ => rfl
  have mL := He.glo_ok X G (cd.fact 0 (f := .glo "law") rfl)
  have mC := He.glo_ok X G (cd.fact 1 (f := .glo "_law_cell") rfl)
  have mP := He.glo_ok X G (cd.fact 2 (f := .glo "Past") rfl)
  have z_len : mg "len" = none := He.free_ok X G (cd.fact 15 (f := .free "len") rfl)
  have z_int : mg "int" = none := He.free_ok X G (cd.fact 16 (f := .free "int") rfl)
  have z_abs : mg "abs" = none := He.free_ok X G (cd.fact 17 (f := .free "abs") rfl)
  have z_range : mg "range" = none := He.free_ok X G (cd.fact 18 (f := .free "range") rfl)
  have z_min : mg "min" = none := He.free_ok X G (cd.fact 19 (f := .free "min") rfl)
  have z_max : mg "max" = none := He.free_ok X G (cd.fact 20 (f := .free "max") rfl)
  have z_str : mg "str" = none := He.free_ok X G (cd.fact 21 (f := .free "str") rfl)
  have z_isinstance : mg "isinstance" = none := He.free_ok X G (cd.fact 22 (f := .free "isinstance") rfl)
  have z_bool : mg "bool" = none := He.free_ok X G (cd.fact 23 (f := .free "bool") rfl)
  have T : Txt K mg (He.ga K "Past") := ⟨He.cls_ok (cd.fact 3 (f := .cls "Past") rfl), He.noat_ok (cd.fact 4 (f := .noat "Past" "_text") rfl), He.noat_ok (cd.fact 5 (f := .noat "Past" "_limit") rfl), He.noat_ok (cd.fact 6 (f := .noat "Past" "_earlier") rfl), He.noat_ok (cd.fact 7 (f := .noat "Past" "_later") rfl), mP, z_len⟩
  have B : Blt mg := ⟨z_len, z_int, z_abs, z_range, z_min, z_max, z_str, z_isinstance, z_bool⟩
  have Mk1 : Mk K (He.ga K "Past") (He.ma K (He.ga K "Past") "__init__") := He.mkr_ok (cd.fact 8 (f := .mkr "Past") rfl)
  have m1 : Meth K (He.ga K "Past") "present" (He.ma K (He.ga K "Past") "present") := He.meth_ok (cd.fact 9 (f := .meth "Past" "present") rfl)
  have m2 : Meth K (He.ga K "Past") "add" (He.ma K (He.ga K "Past") "add") := He.meth_ok (cd.fact 10 (f := .meth "Past" "add") rfl)
  have m3 : Meth K (He.ga K "Past") "back" (He.ma K (He.ga K "Past") "back") := He.meth_ok (cd.fact 11 (f := .meth "Past" "back") rfl)
  have m4 : Meth K (He.ga K "Past") "forward" (He.ma K (He.ga K "Past") "forward") := He.meth_ok (cd.fact 12 (f := .meth "Past" "forward") rfl)
  have m5 : Meth K (He.ga K "Past") "before" (He.ma K (He.ga K "Past") "before") := He.meth_ok (cd.fact 13 (f := .meth "Past" "before") rfl)
  have m6 : Meth K (He.ga K "Past") "after" (He.ma K (He.ga K "Past") "after") := He.meth_ok (cd.fact 14 (f := .meth "Past" "after") rfl)
  have e := hfa.symm.trans mL
  cases e
  refine ⟨fdL, fun s v => FunD.bindsA (ps := ["script"]) DL (fun _ _ _ _ _ _ us hl => match us, hl with | [_], _ => rfl) s [v] rfl, fun base KB NB => ?_⟩
  exact ok_law FL B T Mk1 F0 b0 F1 b1 m1 F2 b2 m2 F3 b3 m3 F4 b4 m4 F5 b5 m5 F6 b6 m6 FC bC mC
abbrev zR : PySem.W.OpenRow := PySem.W.OpenLaw.row PySem.Challenge.rw_partloft_k20_pasts
abbrev zHk : PySem.W.Hook := hookP 6 zFa zFns (fun _ => true)
def zOb (s : PySem.W.SharedT) : AlP := obsPG 6 zFa zFns (fun _ => true) (HandSHeadRun.getT s)
theorem zOb_eq (s : PySem.W.SharedT) : zOb s = zHk.obs s.abs := obsPG_eq (HandSHeadRun.getT_eq s)
def zLoose : List Str := ["Past", "_law_cell"]
theorem zRunF (w : World) : HandSHeadRun.RunEq zR (PySem.W.view zR.prog [4]) zHk zOb 4000 zLoose (w.withFollow "special-get-raises" false) := by
  intro os
  kernel_rfl
theorem zRunT (w : World) : HandSHeadRun.RunEq zR (PySem.W.view zR.prog [4]) zHk zOb 4000 zLoose (w.withFollow "special-get-raises" true) := by
  intro os
  kernel_rfl
theorem zRun (w : World) : HandSHeadRun.RunEq zR (PySem.W.view zR.prog [4]) zHk zOb 4000 zLoose w := PySem.W.byRow2 "special-get-raises" zRunF zRunT w
end K20
open PySem PySem.W PySem.Calls PyProof.Rows
set_option maxRecDepth 100000 in
set_option maxHeartbeats 8000000 in
theorem PySem.Challenge.cw_partloft_k20_pasts_holds : PySem.Challenge.rw_partloft_k20_pasts.Holds := by
  w_on; o_law
  refine HandSHeadRun.head_any (r := OpenLaw.row PySem.Challenge.rw_partloft_k20_pasts) (q := view (OpenLaw.row PySem.Challenge.rw_partloft_k20_pasts).prog [4]) (H := K20.zHk) (ob := K20.zOb) (M := 4000) (loose := K20.zLoose) (d := HandSHeadRun.topDef (OpenLaw.row PySem.Challenge.rw_partloft_k20_pasts).prog 4) (kwd := []) K20.zOb_eq
    (by kernel_rfl) (fun s => by kernel_rfl) K20.zRun (by kernel_rfl) (by kernel_rfl) (by kernel_rfl) (by rfl) (by first | assumption | decide +kernel) (by decide +kernel) ⟨rfl, rfl, rfl, rfl, rfl, by decide +kernel⟩ ?hw ?hc
  case hw => w_witness2
  case hc =>
    refine L2.walk_ofE (l := PySem.Challenge.rw_partloft_k20_pasts) (n := 63) (k := 3) (x := "script") (CX := L2.CX0) rfl (by decide) (by kernel_rfl) ⟨rfl, by decide, by decide⟩ ?F (fun _ _ _ _ z => z)
    intro w mg fa h Y G hmg0
    obtain ⟨K, KX, c⟩ := Y
    have hmg : mg ("law" : PySem.Str) = some (.ref fa) := by
      have e : (HandSHeadRun.topDef (OpenLaw.row PySem.Challenge.rw_partloft_k20_pasts).prog 4).name = ("law" : PySem.Str) := by kernel_rfl
      rw [← e]
      exact hmg0
    obtain ⟨fd, hb, hF⟩ := K20.all20 (P := (PySem.Challenge.rw_partloft_k20_pasts).prog) (w := w) KX G c hmg
    exact ⟨K, fd, K20.spLaw K, KX, hb, fun H a ns hl _ hS => ⟨a, ns, rfl, hS, hl, fun _ => rfl⟩, hF⟩

