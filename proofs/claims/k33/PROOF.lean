import PyProof.Rows.All
import Wide.All
import OpenK.AllK
import Wide.FinOn
import Lean
import PyProof.EqAt
import PyProof.EqKinds
import PyProof.TupleCall
import PyProof.NeKinds
import PyProof.DelItemList
import PyProof.StationsW
import PyProof.Rows.Own
import PyProof.RulesDel
import PyProof.RulesAs
import PyProof.ExcBaseAll.ValueError
import KE.KTryMore
import PyProof.ExcArgs
import KE.KIsAll
import PyProof.ListRange
import PyProof.Rows.RuleM_int
import PyProof.Draws
import PyProof.EnumMake
import KE.KDictSum
import KE.KItemsList
import KE.KSortTup
import PyProof.MinMaxWalk
import PyProof.WalkInts
import PyProof.CallTypeRange
import KE.KEqDict
import PyProof.FitsInt
import PyProof.Rows.StrNews
import KE.KIntText
import PyProof.StrWalks
import PyProof.Rows.StrRules
import KE.KUnpackStar
import PyProof.StrLawsTight
import PyProof.StrLawsChain
import PyProof.Rows.StrClose
import PyProof.SetRoads
import PyProof.DictCompW
import PyProof.ReprRoads
import PyProof.ReprLen
import PyProof.AttrMissHeap
import KE.KDictOf
import PyProof.DictWalks
import PyProof.SeqI3
import PySem.Challenge.RW_chipbus_k33_clashes_refused
set_option genSizeOf false
set_option bootstrap.genMatcherCode false
set_option tactic.hygienic false
section
open PySem PySem.W PySem.Spec PyProof.Rows
def Xaa:=@wpAny_bind
def Xab:=@Heap.get?_push_of_some
def Xac:=@List.mem_singleton
def Xad:=@wpAny_pure
def Xae:=@List.length_map
def Xaf:=@Nat.le_refl
def Xag:=@List.getElem?_eq_some_iff
def Xah:=@Heap.get?_push_size
def Xai:=@Nat.lt_of_lt_of_le
def Xaj:=@Heap.lt_size
def Xak:=@List.getElem?_eq_getElem
def Xal:=@List.mem_cons
def Xam:=@List.size_toArray
def Xan:=@List.getElem?_map
def Xao:=@List.length_append
def Xap:=@decide_eq_true
def Xaq:=@Bool.false_ne_true
def Xar:=@Nat.ne_of_lt
def Xas:=@decide_eq_false
def Xat:=@Int.toNat_natCast
def Xau:=@List.mem_of_getElem?
def Xav:=@Nat.le_trans
def Xaw:=@Option.map_eq_some_iff
def Xax:=@List.mem_append_right
def Xay:=@List.length_cons
def Xaz:=@wpAny_mono
def XaA:=@List.mem_cons_self
def XaB:=@List.mem_cons_of_mem
def XaC:=@List.map_append
def XaD:=@Nat.testBit_and
def XaE:=@Heap.get?_update_other
def XaF:=@List.mem_append
def XaG:=@Heap.size_push
def XaH:=@decide_eq_false_iff_not
def XaI:=@Heap.get?_update_self
def XaJ:=@List.mem_map
def XaK:=@List.getD_eq_getElem?_getD
def XaL:=@Nat.lt_of_le_of_lt
def XaM:=@List.getElem?_eq_none
def XaN:=@Array.getElem?_eq_getElem
def XaO:=@wpAny_holding
def XaP:=@wpAny_newObj_type
def XaQ:=@of_decide_eq_true
def XaR:=@List.length_take
def XaS:=@List.map_cons
def XaT:=@Nat.lt_irrefl
def XaU:=@wpAny_truthy_bool
def XaV:=@List.mem_append_left
def XaW:=@Nat.pow_le_pow_right
def XaX:=@wpAny_field
def XaY:=@List.take_of_length_le
def XaZ:=@List.length_nil
def Xa0:=@wpAny_call_entry
def Xa1:=@wpAny_setField
def Xa2:=@Nat.lt_succ_self
def Xa3:=@List.length_drop
def Xa4:=@wpAny_askSetting
def Xa5:=@List.replicate_succ
def Xa6:=@wpAny_seqItems
def Xa7:=@List.append_nil
def Xa8:=@Bool.and_eq_true
def Xa9:=@Nat.testBit_succ
def Xba:=@wpAny_setState_of
def Xbb:=@List.nodup_append
def Xbc:=@Nat.mod_lt
def Xbd:=@List.mem_nil_iff
def Xbe:=@List.all_eq_true
def Xbf:=@List.getElem_mem
def Xbg:=@wpAny_Call_Name_kw
def Xbh:=@Array.getElem?_toList
def Xbi:=@Int.emod_lt_of_pos
def Xbj:=@List.getElem?_append_left
def Xbk:=@Nat.ne_of_gt
def Xbl:=@Nat.pow_succ
def Xbm:=@List.mem_of_mem_drop
def Xbn:=@Nat.lt_succ_of_lt
def Xbo:=@wpAny_standAt
def Xbp:=@List.mem_map_of_mem
def Xbq:=@Nat.testBit_two_pow
def Xbr:=@Nat.and_le_right
def Xbs:=@decide_eq_decide
def Xbt:=@List.getElem?_set_self
def Xbu:=@wpAny_call
def Xbv:=@Nat.le_of_lt
def Xbw:=@codeAny_mono
def Xbx:=@Nat.lt_trans
def Xby:=@List.map_map
def Xbz:=@wpAny_passesOwn
def XbA:=@List.nodup_cons
def XbB:=@List.length_replicate
def XbC:=@List.mem_iff_getElem?
def XbD:=@Int.emod_nonneg
def XbE:=@Nat.two_pow_pos
def XbF:=@List.getElem?_append_right
def XbG:=@Array.getElem?_eq_some_iff
def XbH:=@Nat.lt_of_succ_lt
def XbI:=@Heap.get?_none_of_le
def XbJ:=@List.getElem_toArray
def XbK:=@List.mem_of_mem_take
def XbL:=@Nat.le_succ
def XbM:=@wpAny_attempt
def XbN:=@wpAny_execs_nil
def XbO:=@wpAny_pyIter_tuple
def XbP:=@Bool.false_eq_true
def XbQ:=@wpAny_updateSeq
def XbR:=@wpAny_setField_rec
def XbS:=@Nat.not_lt_zero
def XbT:=@Nat.min_eq_left
end
set_option Elab.async false
set_option linter.all false
set_option maxRecDepth 100000
set_option maxHeartbeats 4000000
local macro_rules | `(tactic| omega)=>`(tactic| lia)
section
set_option maxRecDepth 1000000
set_option maxHeartbeats 0
namespace Hd
open PySem PySem.W
noncomputable def runQ (p:Program)(w:World)(n₀:Nat)(ann:Option Value)(N:Nat):SharedT→Thread→Option SharedT:=
 @Nat.rec (fun _=>SharedT→Thread→Option SharedT) (fun _ _=>none) (fun _ ih s t=>match through t with
  | true=>some s
  | false=>match Fast.tw6613529449190102663 n₀ ann t with
   | false=>none
   | true=>match Fast.tw10156331382660048174 (Fast.tw11892475500146522536 Fast.tw14364793385576792824) p w s t with
    | some (s',t')=>ih s' t'
    | none=>none) N
theorem zjF {p:Program}{w:World}{n₀:Nat}{ann:Option Value}:∀ {N:Nat} {s s':SharedT} {t:Thread},runQ p w n₀ ann N s t=some s'→topRun treeTable p w n₀ ann N s.abs t=some s'.abs
 | 0,s,s',t,h=>by cases h
 | N+1,s,s',t,h=>by
  have h:(match through t with
  | true=>some s
  | false=>match Fast.tw6613529449190102663 n₀ ann t with
   | false=>none
   | true=>match Fast.tw10156331382660048174 (Fast.tw11892475500146522536 Fast.tw14364793385576792824) p w s t with
    | some (s',t')=>runQ p w n₀ ann N s' t'
    | none=>none)=some s':=h
  rw [← Fast.te6613529449190102663,← Fast.te10156331382660048174,← Fast.te11892475500146522536,← Fast.te14364793385576792824] at h
  unfold topRun
  cases ht:through t with
  | true=>rw [ht] at h;cases h;rfl
  | false =>
   rw [ht] at h
   cases hk:stepOk n₀ ann t with
   | false=>rw [hk] at h;cases h
   | true =>
    rw [hk] at h
    cases hs:stepT (denote treeTable) p w s t with
    | none=>rw [hs] at h;cases h
    | some r=>obtain ⟨s₂,t₂⟩:=r;rw [hs] at h;dsimp only;rw [stepT_spec hs];exact zjF h
noncomputable def treeL:List Obj→Nat→BT→BT:=@List.rec Obj (fun _=>Nat→BT→BT) (fun _ t=>t) (fun o _ ih n t=>ih (n+1) (t.ins n o))
noncomputable def zkQ (P:Params):BT:=treeL (boot_heap P).objs.toList 0 .nil
theorem zjw (P:Params):absHeap (zkQ P) 11 (boot_heap P).life=boot_heap P:=by kernel_rfl
theorem zir (P:Params):((boot_heap P).isNs mainGlobals && (Array.mk []:Array GenState).size == 0,(boot_heap P).objs.size,(boot_heap P).nsMap mainGlobals "__annotations__")=(true,11,some (.ref 6)):=by kernel_rfl
noncomputable def zeG (P:Params)(os:OsState):SharedT:=⟨zkQ P,11,(boot_heap P).life,Array.mk [],boot_drawn,boot_toks,os⟩
noncomputable def getT (s:SharedT)(a:Addr):Option Obj:=match Nat.blt a s.n with
 | true=>match s.tree.get a with
  | some o=>alive o
  | none=>none
 | false=>none
theorem zkJ {s:SharedT}{a:Addr}{o:Obj}(h:getT s a=some o):s.abs.heap.get? a=some o:=by
 unfold getT at h
 cases e:Nat.blt a s.n with
 | false=>rw [e] at h;cases h
 | true =>
  rw [e] at h
  cases g:s.tree.get a with
  | none=>rw [g] at h;cases h
  | some x=>rw [g] at h;exact (abs_get (Nat.le_of_ble_eq_true e) g).trans h
theorem zgw {s:SharedT}:∀ {as:List Addr} {L:List (Nat×Obj)},as.map (getT s)=L.map (fun p=>some p.2)→as.map s.abs.heap.get? = L.map (fun p=>some p.2)
 | [],[],_=>rfl
 | [],_ :: _,h=>by cases h
 | _ :: _,[],h=>by cases h
 | a :: as,p :: L,h=>by
  obtain ⟨h1,h2⟩:=List.cons.inj h
  exact List.cons_eq_cons.mpr ⟨zkJ h1,zgw h2⟩
abbrev zgH (p q:Program)(loose:List Str)(Xt:Shared→Bool)(N:Nat)(g0:Bool)(w:World)(os:OsState):Prop:=(runQ p w 11 (some (.ref 6)) N (zeG w.params os) (topStub p)).map (fun s =>
   ((staticsOk (importedModules p.main.body) (boot_heap w.params) s.abs.heap && namesBound p s.abs.heap && gensDone s.abs && laidKept (boot_heap w.params) s.abs.heap),openSeen q loose (importedModules p.main.body) Xt g0 s.abs))=some (true,openGood q loose)
def zj6 (p q:Program)(loose:List Str)(Xt:Shared→Bool)(N:Nat)(g0:Bool):Prop:=∀ (w:World) (os:OsState),zgH p q loose Xt N g0 w os
def SeenF (row:String)(b:Bool)(p q:Program)(loose:List Str)(Xt:Shared→Bool)(N:Nat)(g0:Bool):Prop:=∀ (w:World) (os:OsState),zgH p q loose Xt N g0 (w.withFollow row b) os
theorem zf5 {p q:Program}{loose:List Str}{Xt:Shared→Bool}{K:Params→Frag}{as:List Addr}{ex:∀ P,as=(K P).map (·.1)}{N:Nat}{g0:Bool}{w:World}(h:∀ os,zgH p q loose Xt N g0 w os)(e:opening p=plainProg p.main.scope.names)(f:∀ s,fenceModules? p s=some s)(hN:Nat.ble 600 N=true)
  (hK:∀ os:OsState,(runQ p w 11 (some (.ref 6)) N (zeG w.params os) (topStub p)).map (fun s=>as.map (getT s))=some ((K w.params).map fun p=>some p.2)) :
  (openEnds treeTable p w N).map (fun s=>(openSeen q loose (importedModules p.main.body) Xt g0 s,(kHook K as ex).obs s))=some (openGood q loose,(kHook K as ex).val w):=by
 have ho:=boot_open e hN f w
 obtain ⟨⟨hh,gs,d,k,os⟩,e1,e2⟩:=Xaw.mp ho
 obtain ⟨rfl,rfl,rfl,rfl⟩:hh=boot_heap w.params∧gs=Array.mk []∧d=boot_drawn∧k=boot_toks:=by simpa using e2
 obtain ⟨z1,z2,z3⟩:_∧_∧_:=by simpa only [Prod.mk.injEq] using zir w.params
 obtain ⟨s,r,l⟩:=Xaw.mp (h os)
 obtain ⟨s',r',l'⟩:=Xaw.mp (hK os)
 rw [r] at r'
 cases r'
 have l3:=zgw l'
 obtain ⟨l1,l2⟩:_∧_:=by simpa only [Prod.mk.injEq] using l
 have r:=zjF r
 have ea:(zeG w.params os).abs=⟨boot_heap w.params,Array.mk [],boot_drawn,boot_toks,os⟩:=by
  show (⟨absHeap (zkQ w.params) 11 (boot_heap w.params).life,Array.mk [],boot_drawn,boot_toks,os⟩:Shared)=_
  rw [zjw]
 rw [ea] at r
 have t:topFrom treeTable p w N ⟨boot_heap w.params,Array.mk [],boot_drawn,boot_toks,os⟩=some s.abs:=by
  unfold topFrom
  dsimp only
  rw [z1,z2,z3,r]
  show (match staticsOk (importedModules p.main.body) (boot_heap w.params) s.abs.heap && namesBound p s.abs.heap && gensDone s.abs && laidKept (boot_heap w.params) s.abs.heap with | true=>_ | false=>_)=_
  rw [l1]
 unfold openEnds
 rw [e1]
 show (topFrom treeTable p w N _).map _=_
 rw [t]
 exact congrArg some (Prod.ext l2 l3)
open PySem.Calls PyProof.Rows in
abbrev G1 (p q:Program)(N:Nat)(w:World)(os:OsState):Prop:=(runQ p w 11 (some (.ref 6)) N (zeG w.params os) (topStub p)).map (fun s =>
   ((staticsOk (importedModules p.main.body) (boot_heap w.params) s.abs.heap && namesBound p s.abs.heap && gensDone s.abs && laidKept (boot_heap w.params) s.abs.heap),seen ((recsOf q).map (·.name)) (ownsOf q) [] { s.abs with gens:=#[] }))=some (true,expectedOf q)
open PySem.Calls PyProof.Rows in
abbrev G2 (p q:Program)(loose:List Str)(Xt:Shared→Bool)(N:Nat)(g0:Bool)(w:World)(os:OsState):Prop:=(runQ p w 11 (some (.ref 6)) N (zeG w.params os) (topStub p)).map (fun s =>
   (s.abs.heap.bltView,s.abs.heap.keysOk (looseW q loose) ((recsOf q).map (·.name)) ((litsOf q).map (·.1)) ((clssOf q (looseW q loose)).map (·.name)) && s.abs.heap.accountedOkI (importedModules p.main.body) && s.abs.heap.isNs mainGlobals && s.abs.heap.isNs builtinsNs && tablesOk q s.abs.heap && Xt s.abs && (if g0 then s.abs.gens.size == 0 else !leftWithCleanup s.abs.gens),tabsOk q s.abs,pinSeenD q (drecsOf q) s.abs))=some (bltViewBooted,true,true,pinGoodD (drecsOf q))
open PySem.Calls PyProof.Rows in
abbrev G3 (p q:Program)(loose:List Str)(N:Nat)(w:World)(os:OsState):Prop:=(runQ p w 11 (some (.ref 6)) N (zeG w.params os) (topStub p)).map (fun s =>
   (plainSeenE q (looseW q loose) s.abs,plainSeenD q loose s.abs,wideSeen q s.abs,clsSeenW q loose s.abs))=some (plainGoodE q (looseW q loose),plainGoodD q loose,wideGood q,clsGoodW q loose)
theorem nine {α A B C D E F G H I J:Type}{o:Option α}{f:α→A}{g:α→B}{f1:α→C}{f2:α→D}{f3:α→E}{f4:α→F}{f5:α→G}{f6:α→H}{f7:α→I}{f8:α→J}{a:A}{b:B}{c:C}{d:D}{e:E}{i:F}{j:G}{k:H}{l:I}{m:J}(h:o.map (fun s=>(f s,g s))=some (a,b))(h':o.map (fun s=>(f1 s,f2 s,f3 s,f4 s))=some (c,d,e,i))(h'':o.map (fun s=>(f5 s,f6 s,f7 s,f8 s))=some (j,k,l,m)) :
  o.map (fun s=>(f s,g s,f1 s,f2 s,f3 s,f4 s,f5 s,f6 s,f7 s,f8 s))=some (a,b,c,d,e,i,j,k,l,m):=by
 cases o with
 | none=>cases h
 | some s=>cases h;cases h';cases h'';rfl
theorem zkl {p q:Program}{loose:List Str}{Xt:Shared→Bool}{N:Nat}{g0:Bool}{w:World}{os:OsState}(h:G1 p q N w os)(h':G2 p q loose Xt N g0 w os)(h'':G3 p q loose N w os):zgH p q loose Xt N g0 w os:=nine h h' h''
theorem left_of {p q:Program}{loose:List Str}{Xt:Shared→Bool}{K:Params→Frag}{as:List Addr}{ex:∀ P,as=(K P).map (·.1)}{N:Nat}{g0:Bool}(h:zj6 p q loose Xt N g0)(e:opening p=plainProg p.main.scope.names)(f:∀ s,fenceModules? p s=some s)(hN:Nat.ble 600 N=true)
  (hK:∀ (w:World) (os:OsState),(runQ p w 11 (some (.ref 6)) N (zeG w.params os) (topStub p)).map (fun s=>as.map (getT s))=some ((K w.params).map fun p=>some p.2)) :
  LeftO p q loose Xt (kHook K as ex).obs (kHook K as ex).val N g0:=fun w=>zf5 (h w) e f hN (hK w)
theorem left_split {p q:Program}{loose:List Str}{Xt:Shared→Bool}{K:Params→Frag}{as:List Addr}{ex:∀ P,as=(K P).map (·.1)}{N:Nat}{g0:Bool}(row:String)(h:SeenF row false p q loose Xt N g0)(h':SeenF row true p q loose Xt N g0)(e:opening p=plainProg p.main.scope.names)(f:∀ s,fenceModules? p s=some s)(hN:Nat.ble 600 N=true)
  (hK:∀ (w:World) (os:OsState),(runQ p (w.withFollow row false) 11 (some (.ref 6)) N (zeG (w.withFollow row false).params os) (topStub p)).map (fun s=>as.map (getT s))=some ((K (w.withFollow row false).params).map fun p=>some p.2))
  (hK':∀ (w:World) (os:OsState),(runQ p (w.withFollow row true) 11 (some (.ref 6)) N (zeG (w.withFollow row true).params os) (topStub p)).map (fun s=>as.map (getT s))=some ((K (w.withFollow row true).params).map fun p=>some p.2)) :
  LeftO p q loose Xt (kHook K as ex).obs (kHook K as ex).val N g0:=fun w=>by
 have z:=World.withFollow_self w row
 cases hb:w.params.followText row <;> rw [hb] at z
 ·have:=zf5 (ex:=ex) (h w) e f hN (hK w)
  rw [z] at this;exact this
 ·have:=zf5 (ex:=ex) (h' w) e f hN (hK' w)
  rw [z] at this;exact this
end Hd
end
section
set_option maxRecDepth 1000000
set_option maxHeartbeats 0
namespace Hd
open PySem PySem.W
def vw:Program:=PySem.W.view PySem.Challenge.pw_chipbus_k33_clashes_refused [0,2,3,4,5,6,7,8,9,10,11,12,13,15,16,17,19,20,21,23,24,25,26,28,29,30,31,32,33,34,35,37,38,39,40,41,42,43,44,46,47,48,49,50,51,52,54,55,56,57,58,59,60,61,62,64,65,66,67,68,69,70,71,72,73,74,75,76,77,78,79,80,81,82,83,84]
def ls:List Str:=["Store","Latch","Meter","Pipe","Board"]
theorem g1:∀ (w:World) (os:OsState),G1 PySem.Challenge.rw_chipbus_k33_clashes_refused.row.prog vw 14546 w os:=by
 intro w os
 kernel_rfl
theorem g2:∀ (w:World) (os:OsState),G2 PySem.Challenge.rw_chipbus_k33_clashes_refused.row.prog vw ls (fun s=>xlAt vw [] s && recOk (RowW.records (OpenRow.toRowW (OpenLaw.row PySem.Challenge.rw_chipbus_k33_clashes_refused))) s) 14546 true w os:=by
 intro w os
 kernel_rfl
theorem g3:∀ (w:World) (os:OsState),G3 PySem.Challenge.rw_chipbus_k33_clashes_refused.row.prog vw ls 14546 w os:=by
 intro w os
 kernel_rfl
theorem h1:zj6 PySem.Challenge.rw_chipbus_k33_clashes_refused.row.prog vw ls (fun s=>xlAt vw [] s && recOk (RowW.records (OpenRow.toRowW (OpenLaw.row PySem.Challenge.rw_chipbus_k33_clashes_refused))) s) 14546 true:=fun w os=>zkl (g1 w os) (g2 w os) (g3 w os)
end Hd
open PySem PySem.W in
local macro_rules | `(tactic| o_head $H)=>`(tactic| (
 refine holds_open (q:=Hd.vw) (loose:=Hd.ls) (Xt:=fun s=>xlAt Hd.vw [] s && recOk (RowW.records (OpenRow.toRowW (OpenLaw.row PySem.Challenge.rw_chipbus_k33_clashes_refused))) s) (XP:=XL Hd.vw []) (Yf:=Hook.obs $H) (Ya:=Hook.val $H) (YP:=Hook.says $H) (N:=14546) ?hl (Hook.of $H) (Hook.keeps $H) (fun s e=>xl_of s (Bool.and_eq_true_iff.mp e).1) XL.keeps (by rfl) (by rfl) (by rfl) (fun s e=>recFacts_of (Bool.and_eq_true_iff.mp e).2) (by rfl) (by first | assumption | decide +kernel) (by decide +kernel) ⟨rfl,rfl,rfl,rfl,rfl,by decide +kernel⟩ ?hw ?hc
 (case hl=>refine Hd.left_of Hd.h1 (by kernel_rfl) (fun s=>by kernel_rfl) rfl ?h2;(case h2=>(intro w os;kernel_rfl)))))
open_top Hd.top for PySem.Challenge.rw_chipbus_k33_clashes_refused
end
section
namespace L2
open PySem PySem.Spec PyProof.Rows
abbrev Key:=Sum Int Str
def zfc:Key→Value→Bool
 | .inl k,v=>Value.isInt k v
 | .inr x,v=>Value.isStrOf x v
def keyH (w:World):Key→Int
 | .inl k=>hashInt k
 | .inr x=>hashStr w x
theorem zaD:∀ {k:Key} {v:Value},zfc k v=true→(∃ i t,k=Sum.inl i∧v=Value.int i t)∨(∃ x t,k=Sum.inr x∧v=Value.str x t)
 | .inl i,v,h=>by
  obtain ⟨t,e⟩:=Value.isInt_shape (k:=i) (v:=v) h
  exact .inl ⟨i,t,rfl,e⟩
 | .inr x,v,h=>by
  obtain ⟨t,e⟩:=Value.isStrOf_shape (x:=x) (v:=v) h
  exact .inr ⟨x,t,rfl,e⟩
theorem zhZ (i:Int)(t:Tok):zfc (.inl i) (.int i t)=true:=by simp [zfc,Value.isInt]
theorem zhY (x:Str)(t:Tok):zfc (.inr x) (.str x t)=true:=by simp [zfc,Value.isStrOf]
theorem key_ll (a b:Int):decide ((Sum.inl a:Key)=Sum.inl b)=(a == b):=by
 by_cases e:a=b
 ·subst e;simp
 ·have h:¬ (Sum.inl a:Key)=Sum.inl b:=fun q=>e (Sum.inl.inj q)
  rw [Xas h]
  exact (beq_eq_false_iff_ne.mpr e).symm
theorem key_rr (a b:Str):decide ((Sum.inr a:Key)=Sum.inr b)=decide (a=b):=by
 by_cases e:a=b
 ·subst e;simp
 ·have h:¬ (Sum.inr a:Key)=Sum.inr b:=fun q=>e (Sum.inr.inj q)
  rw [Xas h,Xas e]
theorem key_lr (a:Int)(b:Str):decide ((Sum.inl a:Key)=Sum.inr b)=false:=Xas (fun q=>nomatch q)
theorem key_rl (a:Str)(b:Int):decide ((Sum.inr a:Key)=Sum.inl b)=false:=Xas (fun q=>nomatch q)
def zaI (prog:Program)(w:World):PySem.KeyKind prog w Key where
 is:=zfc
 hash:=keyH w
 inj:=fun v a b ha hb=>by
  rcases zaD ha with ⟨i,t,rfl,rfl⟩ | ⟨x,t,rfl,rfl⟩
  ·rcases zaD hb with ⟨j,u,rfl,e⟩ | ⟨y,u,rfl,e⟩
   ·injection e with e1 _;rw [e1]
   ·exact nomatch e
  ·rcases zaD hb with ⟨j,u,rfl,e⟩ | ⟨y,u,rfl,e⟩
   ·exact nomatch e
   ·injection e with e1 _;rw [e1]
 byValue:=fun k v h=>by
  rcases zaD h with ⟨i,t,rfl,rfl⟩ | ⟨x,t,rfl,rfl⟩ <;> rfl
 pyHash:=fun hv h=>by
  rcases zaD hv with ⟨i,t,rfl,rfl⟩ | ⟨x,t,rfl,rfl⟩
  ·exact wpAny_pyHash_int h
  ·exact wpAny_pyHash_str h
 eqBool:=fun hu hv h=>by
  rcases zaD hu with ⟨i,t,rfl,rfl⟩ | ⟨x,t,rfl,rfl⟩
  ·rcases zaD hv with ⟨j,u,rfl,rfl⟩ | ⟨y,u,rfl,rfl⟩
   ·rw [key_ll] at h;exact wpAny_eqBool_int h
   ·rw [key_lr] at h;exact SeqAt.EqAt.int_str i t y u _ _ _ _ h
  ·rcases zaD hv with ⟨j,u,rfl,rfl⟩ | ⟨y,u,rfl,rfl⟩
   ·rw [key_rl] at h;exact SeqAt.EqAt.str_int x t j u _ _ _ _ h
   ·rw [key_rr] at h;exact wpAny_eqBool_str h
 «strs»:=fun k x t v h=>by
  rcases zaD h with ⟨i,u,rfl,e⟩ | ⟨y,u,rfl,e⟩
  ·exact nomatch e
  ·injection e with e1 _
   subst e1
   cases v <;> rfl
theorem zf3 (prog:Program)(w:World)(i:Int)(t:Tok):(zaI prog w).is (.inl i) (.int i t)=true:=zhZ i t
theorem zf2 (prog:Program)(w:World)(x:Str)(t:Tok):(zaI prog w).is (.inr x) (.str x t)=true:=zhY x t
inductive V where
 | non | bl (b:Bool) | int (i:Int) | str (x:Str) | byt (b:Array UInt8) | flt (b:UInt64) | ref (a:Addr) | ty (n:String)
 deriving DecidableEq
def RelV:V→Value→Prop
 | .non,u=>u=Value.none
 | .bl b,u=>u=Value.bool b
 | .int i,u=>∃ t,u=Value.int i t
 | .str x,u=>∃ t,u=Value.str x t
 | .byt b,u=>∃ t,u=Value.bytes b t
 | .flt b,u=>∃ t,u=Value.float b t
 | .ref a,u=>u=Value.ref a
 | .ty n,u=>u=Value.type n
abbrev Vals:List V→List Value→Prop:=Paired RelV
theorem Vals.length {xs:List V}{us:List Value}(r:Vals xs us):xs.length=us.length:=Paired.length r
theorem Vals.get:∀ {xs:List V} {us:List Value} {i:Nat} {x:V},Vals xs us→xs[i]? = some x→∃ u,us[i]? = some u∧RelV x u
 | _,_,_,_,.nil,e=>by simp at e
 | _,_,0,_,.cons r _,e=>by simp at e;subst e;exact ⟨_,rfl,r⟩
 | _,_,i+1,x,.cons _ t,e=>by
  obtain ⟨u,h1,h2⟩:=Vals.get (i:=i) (x:=x) t (by simpa using e)
  exact ⟨u,by simpa using h1,h2⟩
theorem Vals.append:∀ {xs ys:List V} {us ws:List Value},Vals xs us→Vals ys ws→Vals (xs ++ ys) (us ++ ws)
 | _,_,_,_,.nil,s=>s
 | _,_,_,_,.cons r t,s=>.cons r (Vals.append t s)
theorem Vals.take:∀ {xs:List V} {us:List Value} (n:Nat),Vals xs us→Vals (xs.take n) (us.take n)
 | _,_,0,_=>.nil
 | _,_,_+1,.nil=>.nil
 | _,_,n+1,.cons r t=>.cons r (Vals.take n t)
theorem Vals.drop:∀ {xs:List V} {us:List Value} (n:Nat),Vals xs us→Vals (xs.drop n) (us.drop n)
 | _,_,0,r=>r
 | _,_,_+1,.nil=>.nil
 | _,_,n+1,.cons _ t=>Vals.drop n t
def RelO:Option V→Option Value→Prop
 | some v,some u=>RelV v u
 | none,none=>True
 | _,_=>False
def KV {κ:Type}:List (κ×V)→List (κ×Value)→Prop:=Paired fun (p:κ×V) (q:κ×Value)=>p.1=q.1∧RelV p.2 q.2
def kV:Key→V
 | .inl i=>.int i
 | .inr x=>.str x
inductive HO where
 
 | lst (xs:List V)
 
 | tup (xs:List V)
 
 | dK (kvs:List (Key×V)) | dT (kvs:List (List Key×V))
 
 | set (S:Int→Bool) (n:Nat)
 
 | ins (C dx:Addr) (fs:List (Str×V))
 
 | own (x:Addr)
 
 | xd (fs:List (Str×V))
 
 | met (f x:Addr)
 
 | rng (lo hi:Int)
 
 | frz (o:Obj) (u:HO)
 
 | tbl (ps:Array Value)
 
 | ext (φ:Heap→Prop)
abbrev Hp:=Addr→Option HO
def upd (H:Hp)(a:Addr)(o:HO):Hp:=fun b=>if b=a then some o else H b
theorem zab {H:Hp}{a:Addr}{o:HO}:upd H a o a=some o:=by unfold upd;rw [if_pos rfl]
theorem zag {H:Hp}{a b:Addr}{o:HO}(h:b≠a):upd H a o b=H b:=by unfold upd;rw [if_neg h]
theorem zfB {H:Hp}{a:Addr}{o u:HO}:upd (upd H a o) a u=upd H a u:=by
 funext b;unfold upd;split <;> rfl
theorem ne_of {H:Hp}{a b:Addr}{o u:HO}(h:H a=some o)(h':H b=some u)(d:o≠u):a≠b:=by
 intro e;subst e;rw [h] at h';exact d (Option.some.inj h')
theorem zaj {H:Hp}{a b:Addr}{o:HO}(h:H a=some o)(h':H b=none):a≠b:=by
 intro e;subst e;rw [h] at h';cases h'
section
variable (P:Program)(w:World)
def ObjOk (H:Hp)(h:Heap)(a:Addr):HO→Prop
 | .lst xs=>xs.length≤sizeLine∧∃ (its:List Value) (n:Nat),Vals xs its∧h.get? a=some { cls:=.type "list",data:=.seq its.toArray n }
 | .tup xs=>(xs.length≤sizeLine∧∃ o,h.get? a=some o∧o.dict=none)∧∃ its:List Value,Vals xs its∧IsTup h a its.toArray
 | .dK kvs=>kvs.length≤sizeLine∧(a == sysModules)=false∧∃ vs,KV kvs vs∧h.DictOf (zaI P w) a vs
 | .dT kvs=>kvs.length≤sizeLine∧(a == sysModules)=false∧∃ xs:List (List Key×Addr×Value),
   Paired (fun (p:List Key×V) (q:List Key×Addr×Value)=>p.1=q.1∧H q.2.1=some (.tup (p.1.map kV))∧RelV p.2 q.2.2) kvs xs ∧
   ∃ o es ep,h.get? a=some o∧o.ExactDict∧o.data = .dict es ep∧es.toList=xs.map (entryOfKey (tupleKind (zaI P w)))∧(xs.map (·.1)).Nodup
 | .set S n=>h.SetOf (intKind P w) a S n
 | .ins C dx fs=>H dx=some (.own a)∧fs.length≤1000∧dx≠a∧h.get? a=some (W.instObj C dx) ∧
   ∃ mA,h.Ns1 dx mA∧(∀ f,RelO (fs.lookup f) (mA f))∧PySem.Within mA (fs.map (·.1))
 | .own _=>∃ o,h.get? a=some o
 | .xd fs=>∃ mA,h.Ns1 a mA∧∀ f,RelO (fs.lookup f) (mA f)
 | .rng lo hi=>∃ t u v,h.get? a=some { cls:=.type "range",data:=.fields #[.int lo t,.int hi u,.int 1 v] }
 | .frz o u=>h.get? a=some o∧ObjOk H h a u
 | .tbl ps=>h.get? a=some { cls:=.none,data:=.fields ps }
 | .met f x=>h.get? a=some (W.methodObj (.ref f) (.ref x))
 | .ext φ=>φ h∧(∃ o,h.get? a=some o)∧∀ h1 h2:Heap,φ h1→(∀ o,h1.get? a=some o→h2.get? a=some o)→φ h2
def HOk (H:Hp)(h:Heap):Prop:=∀ a o,H a=some o→ObjOk P w H h a o
end
section
variable {P:Program}{w:World}{H H':Hp}{h h':Heap}{a:Addr}{o:HO}
theorem ObjOk.lt (x:ObjOk P w H h a o):a<h.objs.size:=by
 cases o with
 | lst xs=>obtain ⟨_,_,_,_,e⟩:=x;exact Xaj e
 | tup xs=>obtain ⟨_,_,_,p⟩:=x;exact p.lt
 | dK kvs=>obtain ⟨_,_,_,_,o,_,_,e,_⟩:=x;exact Xaj e
 | dT kvs=>obtain ⟨_,_,_,_,o,_,_,e,_⟩:=x;exact Xaj e
 | set S n=>obtain ⟨o,_,_,_,e,_⟩:=x;exact Xaj e
 | ins C dx fs=>obtain ⟨_,_,_,e,_⟩:=x;exact Xaj e
 | own y=>obtain ⟨_,e⟩:=x;exact Xaj e
 | xd fs=>obtain ⟨_,⟨_,_,_,e,_⟩,_⟩:=x;exact Xaj e
 | rng lo hi=>obtain ⟨_,_,_,e⟩:=x;exact Xaj e
 | frz ob u=>obtain ⟨e,_⟩:=x;exact Xaj e
 | tbl ps=>exact Xaj (show h.get? a=some _ from x)
 | met f y=>exact Xaj (show h.get? a=some _ from x)
 | ext φ=>obtain ⟨_,⟨_,e⟩,_⟩:=x;exact Xaj e
theorem Paired.mapP {α β:Type}{F G:α→β→Prop}:∀ {l₁:List α} {l₂:List β},Paired F l₁ l₂→(∀ a b,F a b→G a b)→Paired G l₁ l₂
 | _,_,.nil,_=>.nil
 | _,_,.cons r t,f=>.cons (f _ _ r) (Paired.mapP t f)
theorem ObjOk.stay (x:ObjOk P w H h a o)(k:∀ b u,(b=a∨H b=some (.own a))→h.get? b=some u→h'.get? b=some u)
  (ho:∀ b,H b=some (.own a)→H' b=some (.own a)) (ht:∀ b xs,H b=some (.tup xs)→H' b=some (.tup xs)):ObjOk P w H' h' a o:=by
 induction o with
 | lst xs=>obtain ⟨z,its,n,r,e⟩:=x;exact ⟨z,its,n,r,k _ _ (.inl rfl) e⟩
 | tup xs=>obtain ⟨⟨z,o,eo,dn⟩,its,r,ob,e,c⟩:=x;exact ⟨⟨z,o,k _ _ (.inl rfl) eo,dn⟩,its,r,ob,k _ _ (.inl rfl) e,c⟩
 | dK kvs=>obtain ⟨z,y,vs,r,ob,es,ep,e,c⟩:=x;exact ⟨z,y,vs,r,ob,es,ep,k _ _ (.inl rfl) e,c⟩
 | dT kvs =>
  obtain ⟨z,y,xs,r,ob,es,ep,e,c⟩:=x
  exact ⟨z,y,xs,Paired.mapP r fun p q z=>⟨z.1,ht _ _ z.2.1,z.2.2⟩,ob,es,ep,k _ _ (.inl rfl) e,c⟩
 | set S n=>obtain ⟨ob,es,ep,t,e,c⟩:=x;exact ⟨ob,es,ep,t,k _ _ (.inl rfl) e,c⟩
 | ins C dx fs =>
  obtain ⟨d,z,ne,e,mA,⟨od,es,ep,e2,c⟩,r⟩:=x
  exact ⟨ho _ d,z,ne,k _ _ (.inl rfl) e,mA,⟨od,es,ep,k _ _ (.inr d) e2,c⟩,r⟩
 | own y=>obtain ⟨ob,e⟩:=x;exact ⟨ob,k _ _ (.inl rfl) e⟩
 | xd fs=>obtain ⟨mA,⟨od,es,ep,e,c⟩,r⟩:=x;exact ⟨mA,⟨od,es,ep,k _ _ (.inl rfl) e,c⟩,r⟩
 | rng lo hi=>obtain ⟨t,u,v,e⟩:=x;exact ⟨t,u,v,k _ _ (.inl rfl) e⟩
 | frz ob u ih=>obtain ⟨e,q⟩:=x;exact ⟨k _ _ (.inl rfl) e,ih q⟩
 | tbl ps =>
  have e:h.get? a=some { cls:=.none,data:=.fields ps }:=x
  show h'.get? a=some { cls:=.none,data:=.fields ps }
  exact k a _ (.inl rfl) e
 | met f y =>
  have e:h.get? a=some (W.methodObj (.ref f) (.ref y)):=x
  show h'.get? a=some (W.methodObj (.ref f) (.ref y))
  exact k a _ (.inl rfl) e
 | ext φ=>obtain ⟨p,⟨o,e⟩,st⟩:=x;exact ⟨st _ _ p fun o q=>k _ _ (.inl rfl) q,⟨o,k _ _ (.inl rfl) e⟩,st⟩
theorem HOk.lt (x:HOk P w H h)(e:H a=some o):a<h.objs.size:=(x a o e).lt
theorem HOk.fresh (x:HOk P w H h)(e:h.objs.size≤a):H a=none:=by
 cases q:H a with
 | none=>rfl
 | some u=>exact absurd (Xai (x.lt q) e) (XaT _)
theorem HOk.kept (x:HOk P w H h)(k:∀ b u,h.get? b=some u→h'.get? b=some u):HOk P w H h':=fun a o e =>
 (x a o e).stay (fun b u _ q=>k b u q) (fun _ q=>q) fun _ _ q=>q
theorem HOk.laid (x:HOk P w H h)(k:∀ b u,h.get? b=some u→h'.get? b=some u)(hp:h.objs.size≤a)(new:ObjOk P w (upd H a o) h' a o):HOk P w (upd H a o) h':=fun b u e=>by
 have hn:=x.fresh hp
 by_cases hb:b=a
 ·subst hb;rw [zab] at e;cases e;exact new
 ·rw [zag hb] at e
  exact (x b u e).stay (fun c v _ q=>k c v q) (fun c q=>by rw [zag (zaj q hn)];exact q) fun c xs q=>by rw [zag (zaj q hn)];exact q
end
def Rd (H:Hp)(a:Addr)(u:HO):Prop:=H a=some u∨∃ o,H a=some (.frz o u)
theorem Rd.ok {P:Program}{w:World}{H:Hp}{h:Heap}{a:Addr}{u:HO}(r:Rd H a u)(x:HOk P w H h):ObjOk P w H h a u:=by
 rcases r with r | ⟨o,r⟩
 ·exact x a u r
 ·obtain ⟨_,q⟩:=x a _ r
  exact q
def Mut:Option HO→Prop
 | some (.lst _)=>True
 | some (.dK _)=>True
 | some (.dT _)=>True
 | some (.set _ _)=>True
 | some (.ins _ _ _)=>True
 | some (.ext _)=>True
 | _=>False
section
variable {P:Program}{w:World}{H:Hp}{h h':Heap}{x e:Addr}{o':HO}
theorem HOk.write (ok:HOk P w H h)(mu:Mut (H x))(he:e=x∨H e=some (.own x))(k:∀ b u,b≠e→h.get? b=some u→h'.get? b=some u)(heo:∃ u,h'.get? e=some u)
  (new:ObjOk P w (upd H x o') h' x o'):HOk P w (upd H x o') h':=fun b u q=>by
 have nown:∀ c y,H c=some (.own y)→c≠x:=fun c y r z=>by subst z;rw [r] at mu;exact mu
 have ntup:∀ c xs,H c=some (.tup xs)→c≠x:=fun c xs r z=>by subst z;rw [r] at mu;exact mu
 by_cases hb:b=x
 ·subst hb;rw [zab] at q;cases q;exact new
 ·rw [zag hb] at q
  by_cases hbe:b=e
  ·have q':H b=some (.own x):=by
    rcases he with z | z
    ·exact absurd (hbe.trans z) hb
    ·rw [hbe];exact z
   rw [q] at q';cases q'
   obtain ⟨v,hv⟩:=heo
   exact ⟨v,by rw [hbe];exact hv⟩
  ·refine (ok b u q).stay (fun c v hc r=>k c v ?_ r) (fun c r=>by rw [zag (nown c b r)];exact r) fun c xs r=>by rw [zag (ntup c xs r)];exact r
   rcases hc with rfl | hc
   ·exact hbe
   ·rintro rfl
    rcases he with z | z
    ·exact nown c b hc z
    ·rw [hc] at z;cases z;exact hb rfl
end
structure Un (fs ex:List Addr)(H H':Hp)(h h':Heap):Prop where
 keep:∀ b o,h.get? b=some o→H b=none→b ∉ fs→b ∉ ex→h'.get? b=some o
 slot:∀ b o,h.get? b=some o→H b=none→b∈fs→b ∉ ex→∃ sl,h'.get? b=some { o with slots:=sl }
 free:∀ b o,h.get? b=some o→H b=none→b ∉ ex→H' b=none
 there:∀ b o,h.get? b=some o→b ∉ ex→∃ o',h'.get? b=some o'
 tups:∀ b xs,H b=some (.tup xs)→H' b=some (.tup xs)
 frzs:∀ b o u,H b=some (.frz o u)→H' b=some (.frz o u)
 tbls:∀ b ps,H b=some (.tbl ps)→∃ more,H' b=some (.tbl (ps ++ more))
section
variable {fs fs' ex ex':List Addr}{H H1 H2:Hp}{h h1 h2 h':Heap}{a x e:Addr}{o:HO}
theorem Un.any (u:Un fs ex H H1 h h1){b:Addr}{ob:Obj}(q:h.get? b=some ob)(n:H b=none)(hx:b ∉ ex):∃ sl,h1.get? b=some { ob with slots:=sl }:=by
 by_cases hb:b∈fs
 ·exact u.slot b ob q n hb hx
 ·exact ⟨ob.slots,u.keep b ob q n hb hx⟩
theorem Un.kept (k:∀ b u,h.get? b=some u→h'.get? b=some u):Un fs ex H H h h':=
 ⟨fun b ob q _ _ _=>k b ob q,fun b ob q _ _ _=>⟨ob.slots,k b ob q⟩,fun _ _ _ n _=>n,fun b ob q _=>⟨ob,k b ob q⟩,fun _ _ q=>q,fun _ _ _ q=>q,fun _ ps q=>⟨#[],by rw [q];simp⟩⟩
theorem Un.refl:Un fs ex H H h h:=Un.kept fun _ _ q=>q
theorem Un.laid (k:∀ b u,h.get? b=some u→h'.get? b=some u)(hp:h.objs.size≤a)(hn:H a=none):Un fs ex H (upd H a o) h h' where
 keep:=fun b u q _ _ _=>k b u q
 slot:=fun b u q _ _ _=>⟨u.slots,k b u q⟩
 free:=fun b u q n _=>by rw [zag (Xar (Xai (Xaj q) hp))];exact n
 there:=fun b u q _=>⟨u,k b u q⟩
 tups:=fun b xs q=>by rw [zag (zaj q hn)];exact q
 frzs:=fun b u xs q=>by rw [zag (zaj q hn)];exact q
 tbls:=fun b ps q=>⟨#[],by rw [zag (zaj q hn),q];simp⟩
theorem Un.write (mu:Mut (H x))(he:e=x∨H e=some (.own x))(k:∀ b u,b≠e→h.get? b=some u→h'.get? b=some u)(heo:∃ u,h'.get? e=some u):Un fs ex H (upd H x o) h h':=by
 have hx:∀ b,H b=none→b≠x:=fun b n z=>by subst z;rw [n] at mu;exact mu
 have hb:∀ b,H b=none→b≠e:=fun b n z=>by
  subst z
  rcases he with r | r
  ·exact hx b n r
  ·rw [n] at r;cases r
 have hm:∀ b u,H b=some u→¬ Mut (some u)→b≠x:=fun b u q nm z=>by subst z;rw [q] at mu;exact nm mu
 refine ⟨fun b u q n _ _=>k b u (hb b n) q,fun b u q n _ _=>⟨u.slots,k b u (hb b n) q⟩,fun b u q n _=>by rw [zag (hx b n)];exact n,fun b u q _=>?_,
  fun b xs q=>by rw [zag (hm b _ q fun z=>z)];exact q,fun b u xs q=>by rw [zag (hm b _ q fun z=>z)];exact q,fun b ps q=>⟨#[],by rw [zag (hm b _ q fun z=>z),q];simp⟩⟩
 by_cases hbe:b=e
 ·subst hbe;exact heo
 ·exact ⟨u,k b u hbe q⟩
end
def trk (h:Heap)(H:Hp):List Addr:=(List.range h.objs.size).filter fun a=>(H a).isSome
def hidT (h:Heap)(H:Hp):Heap:=W.hideAll h (trk h H)
theorem zh4 (h:Heap)(H:Hp):(hidT h H).objs.size=h.objs.size:=W.hideAll_size _ _
theorem zjh {h:Heap}{H:Hp}{b:Addr}{o:Obj}(e:h.get? b=some o)(n:H b=none):(hidT h H).get? b=some o:=
 W.hideAll_get _ e fun hm=>by
  have q:(H b).isSome=true:=(List.mem_filter.mp hm).2
  rw [n] at q;simp at q
theorem zkB {h:Heap}{H:Hp}{b:Addr}{o:Obj}(e:(hidT h H).get? b=some o):h.get? b=some o∧H b=none:=by
 have e':h.get? b=some o:=W.of_hideAll (trk h H) e
 refine ⟨e',?_⟩
 cases q:H b with
 | none=>rfl
 | some x =>
  have hm:b∈trk h H:=List.mem_filter.mpr ⟨List.mem_range.mpr (Xaj e'),by simp [q]⟩
  have z:(hidT h H).get? b=none:=W.hideAll_none (trk h H) hm
  rw [z] at e;cases e
structure Mod (K:W.Frag)(mg:Str→Option Value)(base:Heap):Prop where
 kin:K.In base
 glob:base.Ns mainGlobals mg
 blt:∃ mb,base.Ns builtinsNs mb∧∀ x:Str,x ≠ "__name__" → mb x=bootBuiltins x
 nolimit:base.NoLimit
structure Cx where
 prog:Program
 w:World
 K:W.Frag
 mg:Str→Option Value
 base:Heap
 A:Around
 N:List Str
 s₀:Shared
 H₀:Hp
 env:Env
 outer:List Env
 stack:List Env
 ex:List Addr
 fn:Str→Bool
 calm:Bool
 pn:List (Addr×Obj)
 xe:Value→Shared→Prop
def frs (l:List Env):List Addr:=l.filterMap (·.frame)
abbrev Cx.fs (X:Cx):List Addr:=frs X.outer
def Vis (sc:Scope)(x:Str):Prop:=sc.names.lookup x=some .local∨sc.names.lookup x=some .cell∨sc.names.lookup x=some .free
def Loc (sc:Scope)(x:Str):Prop:=sc.names.lookup x=some .local∨sc.names.lookup x=some .cell
def Look (env:Env)(h:Heap)(m:Str→Option Value)(x:Str)(u:Value):Prop:=
 (env.kindOf x=some .local∧m x=some u)∨((env.kindOf x=some .cell∨env.kindOf x=some .free)∧∃ c,env.cells.lookup x=some c∧h.IsCell c (some u))
structure Cx.Ok (X:Cx):Prop where
 mod:Mod X.K X.mg X.base
 kind:X.env.scope.kind = .function
 glob:X.env.globals=mainGlobals
 blt:X.env.builtins=builtinsNs
 above:X.s₀.heap.objs.size≤X.env.locals
 inj:∀ x y c,X.env.cells.lookup x=some c→X.env.cells.lookup y=some c→x=y
 has:∀ x,(X.env.kindOf x=some .cell∨X.env.kindOf x=some .free)→∃ c,X.env.cells.lookup x=some c
 cab:∀ x c,X.fn x=true→X.env.cells.lookup x=some c→X.s₀.heap.objs.size≤c
 hd:X.calm=true→X.A.handled=none
 frames:X.A.frames=some X.stack
 stk:X.stack=X.outer∨(X.stack=X.env :: X.outer∧X.env.frame=some X.env.locals)
 exf:∀ b∈X.ex,b≠X.env.locals∧∀ x c,X.env.cells.lookup x=some c→c≠b
 bs:∀ b o,X.base.get? b=some o→X.s₀.heap.get? b=some o∧X.H₀ b=none
 bsz:X.base.objs.size≤X.s₀.heap.objs.size
 noex:∀ b o,X.base.get? b=some o→b ∉ X.ex
 exfs:∀ b∈X.ex,b ∉ X.fs
 funs:X.s₀.heap.FunFrames X.base X.outer
 frf:∀ b∈X.fs,X.H₀ b=none
structure Inv (X:Cx)(pins:List (Addr×Obj))(σ:List (Option V))(H:Hp)(s:Shared):Prop where
 ok:X.Ok
 os:s.os=X.s₀.os
 bare:AllBare s.gens
 base:Un X.fs X.ex X.H₀ H X.s₀.heap s.heap
 loc:∃ m,s.heap.Ns X.env.locals m∧∀ (i:Nat) (x:Str) (v:V),X.N[i]? = some x→σ[i]? = some (some v)→Vis X.env.scope x→∃ u,RelV v u∧Look X.env s.heap m x u
 cell:∀ x c,X.env.cells.lookup x=some c→∃ v,s.heap.IsCell c v
 free:H X.env.locals=none
 freeC:∀ x c,X.env.cells.lookup x=some c→H c=none
 pin:∀ p∈X.pn ++ pins,s.heap.get? p.1=some p.2∧H p.1=none∧p.1≠X.env.locals∧p.1 ∉ X.fs∧∀ v,p.2.data≠.cell v
 hok:HOk X.prog X.w H s.heap
 len:σ.length=X.N.length
section
variable {X:Cx}{pins:List (Addr×Obj)}{σ:List (Option V)}{H H':Hp}{s:Shared}{h':Heap}
theorem Cx.Ok.nofr (ok:X.Ok){b:Addr}{o:Obj}(e:X.base.get? b=some o):b ∉ X.fs:=fun hb=>by
 have:=(ok.funs.mem hb).1
 rw [e] at this;cases this
theorem Inv.bs (I:Inv X pins σ H s):∀ b o,X.base.get? b=some o→s.heap.get? b=some o∧H b=none:=fun b o e =>
 ⟨I.base.keep b o (I.ok.bs b o e).1 (I.ok.bs b o e).2 (I.ok.nofr e) (I.ok.noex b o e),I.base.free b o (I.ok.bs b o e).1 (I.ok.bs b o e).2 (I.ok.noex b o e)⟩
theorem Inv.bk (I:Inv X pins σ H s):∀ b o,X.base.get? b=some o→s.heap.get? b=some o:=fun b o e=>(I.bs b o e).1
theorem Inv.mod (I:Inv X pins σ H s):Mod X.K X.mg X.base:=I.ok.mod
theorem Inv.kIn (I:Inv X pins σ H s):X.K.In s.heap:=I.ok.mod.kin.keeps I.bk
theorem Inv.lt (I:Inv X pins σ H s):X.env.locals<s.heap.objs.size:=let ⟨_,hn,_⟩:=I.loc;hn.lt
theorem Inv.sz (I:Inv X pins σ H s):X.s₀.heap.objs.size≤s.heap.objs.size:=Xav I.ok.above (Xbv I.lt)
theorem Inv.nofs (I:Inv X pins σ H s){a:Addr}(h:s.heap.objs.size≤a):a ∉ X.fs:=fun hb=>by
 obtain ⟨_,o,ho,_⟩:=I.ok.funs.mem hb
 exact absurd (Xai (Xaj ho) (Xav I.sz h)) (XaT _)
theorem Inv.cne (I:Inv X pins σ H s):∀ x c,X.env.cells.lookup x=some c→c≠X.env.locals:=fun x c e z=>by
 obtain ⟨v,o,ho,hd⟩:=I.cell x c e
 obtain ⟨m,⟨o',es,ep,ho',hd',_⟩,_⟩:=I.loc
 rw [z,ho'] at ho;cases ho;rw [hd'] at hd;cases hd
theorem Inv.funs (I:Inv X pins σ H s):s.heap.FunFrames X.base X.outer:=by
 have all:∀ (l:List Env),(∀ b∈frs l,b∈X.fs)→X.s₀.heap.FunFrames X.base l→s.heap.FunFrames X.base l:=by
  intro l
  induction l with
  | nil=>intro _ _;trivial
  | cons env r ih =>
   intro hs hl
   obtain ⟨hk,⟨L,o,hf,hn,ho,hd⟩,hr⟩:=hl
   have hL:L∈X.fs:=hs L (by unfold frs;rw [List.filterMap_cons,hf];exact XaA)
   obtain ⟨sl,e⟩:=I.base.slot L o ho (I.ok.frf L hL) hL fun z=>I.ok.exfs L z hL
   exact ⟨hk,⟨L,_,hf,hn,e,hd⟩,ih (fun b hb=>hs b (by unfold frs;rw [List.filterMap_cons,hf];exact XaB _ hb)) hr⟩
 exact all X.outer (fun _ hb=>hb) I.ok.funs
theorem Inv.stack (I:Inv X pins σ H s):s.heap.FunFrames X.base X.stack:=by
 rcases I.ok.stk with e | ⟨e,hf⟩
 ·rw [e];exact I.funs
 ·rw [e]
  obtain ⟨m,hn,_⟩:=I.loc
  refine .cons (by rw [I.ok.kind];decide) hf hn ?_ I.funs
  exact XbI (Xav I.ok.bsz I.ok.above)
theorem Inv.stkSub (I:Inv X pins σ H s):∀ b∈frs X.stack,b∈X.env.locals :: X.fs:=fun b hb=>by
 rcases I.ok.stk with e | ⟨e,hf⟩
 ·rw [e] at hb;exact XaB _ hb
 ·rw [e] at hb
  unfold frs at hb
  rw [List.filterMap_cons,hf] at hb
  exact hb
theorem Inv.stkFree (I:Inv X pins σ H s):∀ b∈frs X.stack,H b=none:=fun b hb=>by
 rcases Xal.mp (I.stkSub b hb) with e | hb
 ·rw [e];exact I.free
 ·obtain ⟨_,o,ho,_⟩:=I.ok.funs.mem hb
  exact I.base.free b o ho (I.ok.frf b hb) fun z=>I.ok.exfs b z hb
theorem Inv.step {g':Array GenState}{t':Nat}{d':Drawn}{ch:List Addr}(I:Inv X pins σ H s)
  (hch:∀ b∈ch,(b∈X.ex∨X.s₀.heap.objs.size≤b)∧b≠X.env.locals∧(∀ x c,X.env.cells.lookup x=some c→c≠b)∧∀ p∈X.pn ++ pins,p.1≠b)
  (keep:∀ b o,b≠X.env.locals→b ∉ X.fs→b ∉ ch→s.heap.get? b=some o→H b=none→h'.get? b=some o)
  (slot:∀ b o,b≠X.env.locals→b∈X.fs→b ∉ ch→s.heap.get? b=some o→H b=none→∃ sl,h'.get? b=some { o with slots:=sl }) (free:∀ b o,b ∉ ch→s.heap.get? b=some o→H b=none→H' b=none)
  (there:∀ b o,b ∉ ch→s.heap.get? b=some o→∃ o',h'.get? b=some o')
  (tups:∀ b xs,H b=some (.tup xs)→H' b=some (.tup xs)) (frzs:∀ b o u,H b=some (.frz o u)→H' b=some (.frz o u)) (tbls:∀ b ps,H b=some (.tbl ps)→∃ more,H' b=some (.tbl (ps ++ more)))
  (ns:∀ m,s.heap.Ns X.env.locals m→h'.Ns X.env.locals m) (hok:HOk X.prog X.w H' h') (hg:AllBare g') :
  Inv X pins σ H' { s with heap:=h',gens:=g',drawn:=d',toks:=t' }:=by
 have neL:∀ b o,X.s₀.heap.get? b=some o→b≠X.env.locals:=fun b o e=>Xar (Xai (Xaj e) I.ok.above)
 have neC:∀ b o,X.s₀.heap.get? b=some o→b ∉ X.ex→b ∉ ch:=fun b o e hx hb=>by
  rcases (hch b hb).1 with z | z
  ·exact hx z
  ·exact absurd (Xai (Xaj e) z) (XaT _)
 have cellK:∀ x c,X.env.cells.lookup x=some c→∀ v,s.heap.IsCell c v→h'.IsCell c v:=fun x c e v ⟨o,ho,hd⟩=>by
  have nch:c ∉ ch:=fun z=>(hch c z).2.2.1 x c e rfl
  by_cases hc:c∈X.fs
  ·obtain ⟨sl,q⟩:=slot c o (I.cne x c e) hc nch ho (I.freeC x c e)
   exact ⟨_,q,hd⟩
  ·exact ⟨o,keep c o (I.cne x c e) hc nch ho (I.freeC x c e),hd⟩
 refine ⟨I.ok,I.os,hg,⟨fun b o e n hb hx=>?_,fun b o e n hb hx=>?_,fun b o e n hx=>?_,fun b o e hx=>?_,fun b xs e=>tups b xs (I.base.tups b xs e),fun b o xs e=>frzs b o xs (I.base.frzs b o xs e),fun b ps e=>?_⟩,?_,fun x c e=>?_,?_,fun x c e=>?_,fun p hp=>?_,hok,I.len⟩
 ·exact keep b o (neL b o e) hb (neC b o e hx) (I.base.keep b o e n hb hx) (I.base.free b o e n hx)
 ·obtain ⟨sl,e1⟩:=I.base.slot b o e n hb hx
  obtain ⟨sl',e2⟩:=slot b _ (neL b o e) hb (neC b o e hx) e1 (I.base.free b o e n hx)
  exact ⟨sl',e2⟩
 ·obtain ⟨o',e1⟩:=I.base.there b o e hx
  exact free b o' (neC b o e hx) e1 (I.base.free b o e n hx)
 ·obtain ⟨o',e1⟩:=I.base.there b o e hx
  exact there b o' (neC b o e hx) e1
 ·obtain ⟨m1,e1⟩:=I.base.tbls b ps e
  obtain ⟨m2,e2⟩:=tbls b _ e1
  exact ⟨m1 ++ m2,by rw [e2,Array.append_assoc]⟩
 ·obtain ⟨m,hn,hl⟩:=I.loc
  refine ⟨m,ns m hn,fun i x v e1 e2 e3=>?_⟩
  obtain ⟨u,r,l⟩:=hl i x v e1 e2 e3
  refine ⟨u,r,?_⟩
  rcases l with l | ⟨k,c,e,z⟩
  ·exact .inl l
  ·exact .inr ⟨k,c,e,cellK x c e _ z⟩
 ·obtain ⟨v,z⟩:=I.cell x c e
  exact ⟨v,cellK x c e v z⟩
 ·obtain ⟨m,⟨o,_,_,ho,_⟩,_⟩:=I.loc
  exact free _ o (fun z=>(hch _ z).2.1 rfl) ho I.free
 ·obtain ⟨v,o,ho,hd⟩:=I.cell x c e
  exact free c o (fun z=>(hch c z).2.2.1 x c e rfl) ho (I.freeC x c e)
 ·obtain ⟨e,n,ne,nf,d⟩:=I.pin p hp
  have nch:p.1 ∉ ch:=fun z=>(hch p.1 z).2.2.2 p hp rfl
  exact ⟨keep p.1 p.2 ne nf nch e n,free p.1 p.2 nch e n,ne,nf,d⟩
theorem Inv.un {t':Nat}(I:Inv X pins σ H s)(u:Un X.fs [] H H' s.heap h')(hok:HOk X.prog X.w H' h'):Inv X pins σ H' { s with heap:=h',toks:=t' }:=by
 obtain ⟨m,⟨o,es,ep,ho,r⟩,_⟩:=id I.loc
 obtain ⟨sl,hL⟩:=u.any ho I.free (by simp)
 exact I.step (g':=s.gens) (d':=s.drawn) (ch:=[]) (fun _ z=>nomatch z) (fun b o _ hb _ e n=>u.keep b o e n hb (by simp)) (fun b o _ hb _ e n=>u.slot b o e n hb (by simp)) (fun b o _ e n=>u.free b o e n (by simp)) (fun b o _ e=>u.there b o e (by simp)) u.tups u.frzs u.tbls (fun m' hm=>by
  obtain ⟨o',es',ep',ho',r'⟩:=hm
  rw [ho] at ho';cases ho'
  exact ⟨_,es',ep',hL,r'⟩) hok I.bare
theorem Inv.call {g':Array GenState}{t':Nat}{d':Drawn}{ch:List Addr}(I:Inv X pins σ H s)(u:Un (frs X.stack) ch H H' s.heap h')(hok:HOk X.prog X.w H' h')(hg:AllBare g')
  (hch:∀ b∈ch,(b∈X.ex∨X.s₀.heap.objs.size≤b)∧b≠X.env.locals∧(∀ x c,X.env.cells.lookup x=some c→c≠b)∧∀ p∈X.pn ++ pins,p.1≠b) :
  Inv X pins σ H' { s with heap:=h',gens:=g',drawn:=d',toks:=t' }:=by
 obtain ⟨m,⟨o,es,ep,ho,r⟩,_⟩:=id I.loc
 obtain ⟨sl,hL⟩:=u.any ho I.free fun z=>(hch _ z).2.1 rfl
 exact I.step (ch:=ch) hch (fun b o hL hb hc e n=>u.keep b o e n (fun z=>(Xal.mp (I.stkSub b z)).elim hL hb) hc) (fun b o _ _ hc e n=>u.any e n hc) (fun b o hc e n=>u.free b o e n hc) (fun b o hc e=>u.there b o e hc) u.tups u.frzs u.tbls (fun m' hm=>by
  obtain ⟨o',es',ep',ho',r'⟩:=hm
  rw [ho] at ho';cases ho'
  exact ⟨_,es',ep',hL,r'⟩) hok hg
theorem Inv.turned {t':Nat}{it:Addr}(I:Inv X pins σ H s)(k:∀ b o,b≠it→s.heap.get? b=some o→h'.get? b=some o)(hn:H it=none)(hL:it≠X.env.locals)
  (h1:it∈X.ex∨X.s₀.heap.objs.size≤it) (h2:∀ x c,X.env.cells.lookup x=some c→c≠it) (h3:∀ p∈X.pn ++ pins,p.1≠it):Inv X pins σ H { s with heap:=h',toks:=t' }:=by
 have nit:∀ b u,H b=some u→b≠it:=fun b u e z=>by rw [z,hn] at e;cases e
 refine I.step (g':=s.gens) (d':=s.drawn) (ch:=[it]) (fun b hb=>?_) (fun b o _ _ hc e _=>k b o (fun z=>hc (by simp [z])) e) (fun b o _ _ hc e _=>⟨o.slots,k b o (fun z=>hc (by simp [z])) e⟩) (fun _ _ _ _ n=>n)
  (fun b o hc e=>⟨o,k b o (fun z=>hc (by simp [z])) e⟩) (fun _ _ e=>e) (fun _ _ _ e=>e) (fun b ps e=>⟨#[],by rw [e];simp⟩) (fun m hm=>?_) (fun b u e=>?_) I.bare
 ·have e:b=it:=by simpa using hb
  subst e
  exact ⟨h1,hL,h2,h3⟩
 ·obtain ⟨o,es,ep,ho,r⟩:=hm
  exact ⟨o,es,ep,k _ o (Ne.symm hL) ho,r⟩
 ·refine (I.hok b u e).stay (fun c v hc q=>k c v ?_ q) (fun _ q=>q) fun _ _ q=>q
  rcases hc with z | z
  ·rw [z];exact nit b u e
  ·exact nit c _ z
theorem Inv.tok (I:Inv X pins σ H s)(t:Nat):Inv X pins σ H { s with toks:=t }:=I.un (h':=s.heap) (t':=t) Un.refl I.hok
theorem Inv.kept {t':Nat}(I:Inv X pins σ H s)(k:∀ b u,s.heap.get? b=some u→h'.get? b=some u):Inv X pins σ H { s with heap:=h',toks:=t' }:=I.un (Un.kept k) (I.hok.kept k)
theorem Inv.laid {a:Addr}{o:HO}{t':Nat}(I:Inv X pins σ H s)(k:∀ b u,s.heap.get? b=some u→h'.get? b=some u)(hp:s.heap.objs.size≤a)(new:ObjOk X.prog X.w (upd H a o) h' a o) :
  Inv X pins σ (upd H a o) { s with heap:=h',toks:=t' }:=I.un (Un.laid k hp (I.hok.fresh hp)) (I.hok.laid k hp new)
theorem Inv.write {x e:Addr}{o:HO}{t':Nat}(I:Inv X pins σ H s)(mu:Mut (H x))(he:e=x∨H e=some (.own x))(k:∀ b u,b≠e→s.heap.get? b=some u→h'.get? b=some u)(heo:∃ u,h'.get? e=some u)
  (new:ObjOk X.prog X.w (upd H x o) h' x o):Inv X pins σ (upd H x o) { s with heap:=h',toks:=t' }:=I.un (Un.write mu he k heo) (I.hok.write mu he k heo new)
theorem Inv.pins_of {pins':List (Addr×Obj)}(I:Inv X pins σ H s)(h:∀ p∈pins',s.heap.get? p.1=some p.2∧H p.1=none∧p.1≠X.env.locals∧p.1 ∉ X.fs∧∀ v,p.2.data≠.cell v):Inv X pins' σ H s:=
 ⟨I.ok,I.os,I.bare,I.base,I.loc,I.cell,I.free,I.freeC,fun p hp=>(XaF.mp hp).elim (fun z=>I.pin p (XaV _ z)) (h p),I.hok,I.len⟩
theorem zew {N:List Str}(hN:N.Nodup){i j:Nat}{x:Str}(a:N[i]? = some x)(b:N[j]? = some x):i=j:=by
 obtain ⟨h1,e1⟩:=Xag.mp a
 obtain ⟨h2,e2⟩:=Xag.mp b
 exact (List.getElem_inj hN).mp (e1.trans e2.symm)
theorem zeP {M:Model}{A:Around}{E:Value→Shared→Prop}{i:Nat}{x:Str}{v:V}{u:Value}{Q:Unit→Shared→Prop}(I:Inv X pins σ H s)(hN:X.N.Nodup)(hi:X.N[i]? = some x)(hx:Loc X.env.scope x)(r:RelV v u)
  (h:∀ s',Inv X pins (σ.set i (some v)) H s'→(∃ a,Heap.SameBut a s.heap s'.heap∧(a=X.env.locals∨X.env.cells.lookup x=some a))→Q () s') (hf:X.fn x=true∨X.env.scope.names.lookup x=some .local:=by first | exact .inl rfl | exact .inr rfl | assumption):wpAny M A (storeName X.env x u) Q E s:=by
 obtain ⟨m,hn,hl⟩:=id I.loc
 have hcls:(X.env.scope.kind == .class || (X.env.scope.kind == .module && X.env.locals != X.env.globals))=false:=by rw [I.ok.kind];rfl
 have hiσ:i<σ.length:=by rw [I.len];exact (Xag.mp hi).1
 have cne:=I.cne
 have tracked:∀ {a:Addr} {h':Heap},(∃ o,s.heap.get? a=some o∧H a=none)→Heap.SameBut a s.heap h'→HOk X.prog X.w H h':=fun {a h'} ha hs b ob e=>by
  obtain ⟨_,_,hfree⟩:=ha
  refine (I.hok b ob e).stay (fun c w' hc q=>(hs.2 c ?_).trans q) (fun _ q=>q) fun _ _ q=>q
  rintro rfl
  rcases hc with rfl | hc
  ·rw [hfree] at e;cases e
  ·rw [hfree] at hc;cases hc
 rcases hx with hk | hk
 ·refine wpAny_storeName_local hk hn (fun h' hn' hs=>?_) hcls
  obtain ⟨oL,_,_,hoL,_⟩:=id hn
  refine h _ ⟨I.ok,I.os,I.bare,⟨fun b o e n hb hx=>?_,fun b o e n hb hx=>?_,I.base.free,fun b o e hx=>?_,I.base.tups,I.base.frzs,I.base.tbls⟩,⟨_,hn',fun j y v' e1 e2 e3=>?_⟩,fun y c e=>?_,I.free,I.freeC,fun p hp=>?_,tracked ⟨oL,hoL,I.free⟩ hs,by simpa using I.len⟩ ⟨_,hs,.inl rfl⟩
  ·exact (hs.2 b (Xar (Xai (Xaj e) I.ok.above))).trans (I.base.keep b o e n hb hx)
  ·obtain ⟨sl,e1⟩:=I.base.slot b o e n hb hx
   exact ⟨sl,(hs.2 b (Xar (Xai (Xaj e) I.ok.above))).trans e1⟩
  ·obtain ⟨o',e1⟩:=I.base.there b o e hx
   exact ⟨o',(hs.2 b (Xar (Xai (Xaj e) I.ok.above))).trans e1⟩
  ·by_cases hj:j=i
   ·subst hj
    rw [hi] at e1;cases e1
    rw [Xbt hiσ] at e2
    cases e2
    exact ⟨u,r,.inl ⟨hk,by simp⟩⟩
   ·rw [List.getElem?_set_ne (Ne.symm hj)] at e2
    obtain ⟨u',r',q⟩:=hl j y v' e1 e2 e3
    refine ⟨u',r',?_⟩
    rcases q with ⟨k,e⟩ | ⟨k,c,e,z⟩
    ·refine .inl ⟨k,?_⟩
     have:y≠x:=fun e=>hj (zew hN e1 (e ▸ hi))
     simp [this,e]
    ·exact .inr ⟨k,c,e,z.sameBut hs (cne y c e)⟩
  ·obtain ⟨w',z⟩:=I.cell y c e
   exact ⟨w',z.sameBut hs (cne y c e)⟩
  ·obtain ⟨e,n,ne,nf,d⟩:=I.pin p hp
   exact ⟨(hs.2 p.1 ne).trans e,n,ne,nf,d⟩
 ·have hfn:X.fn x=true:=by
   rcases hf with z | z
   ·exact z
   ·rw [z] at hk;cases hk
  obtain ⟨c,hc⟩:=I.ok.has x (.inl hk)
  obtain ⟨w',z⟩:=I.cell x c hc
  refine wpAny_storeName_cell I.ok.kind hk hc z (fun h' hc' hs=>?_)
  obtain ⟨oc,hoc,hocd⟩:=id z
  refine h { s with heap:=h' } ⟨I.ok,I.os,I.bare,⟨fun b o e n hb hx=>?_,fun b o e n hb hx=>?_,I.base.free,fun b o e hx=>?_,I.base.tups,I.base.frzs,I.base.tbls⟩,⟨m,hn.sameBut hs (Ne.symm (cne x c hc)),fun j y v' e1 e2 e3=>?_⟩,fun y c' e=>?_,I.free,I.freeC,fun p hp=>?_,tracked ⟨oc,hoc,I.freeC x c hc⟩ hs,by simpa using I.len⟩ ⟨c,hs,.inr hc⟩
  ·exact (hs.2 b (Xar (Xai (Xaj e) (I.ok.cab x c hfn hc)))).trans (I.base.keep b o e n hb hx)
  ·obtain ⟨sl,e1⟩:=I.base.slot b o e n hb hx
   exact ⟨sl,(hs.2 b (Xar (Xai (Xaj e) (I.ok.cab x c hfn hc)))).trans e1⟩
  ·obtain ⟨o',e1⟩:=I.base.there b o e hx
   exact ⟨o',(hs.2 b (Xar (Xai (Xaj e) (I.ok.cab x c hfn hc)))).trans e1⟩
  ·by_cases hj:j=i
   ·subst hj
    rw [hi] at e1;cases e1
    rw [Xbt hiσ] at e2
    cases e2
    exact ⟨u,r,.inr ⟨.inl hk,c,hc,hc'⟩⟩
   ·rw [List.getElem?_set_ne (Ne.symm hj)] at e2
    obtain ⟨u',r',q⟩:=hl j y v' e1 e2 e3
    refine ⟨u',r',?_⟩
    rcases q with q | ⟨k,c',e,z'⟩
    ·exact .inl q
    ·refine .inr ⟨k,c',e,z'.sameBut hs ?_⟩
     rintro rfl
     exact hj (zew hN e1 (I.ok.inj _ _ _ e hc ▸ hi))
  ·by_cases hcc:c'=c
   ·subst hcc;exact ⟨_,hc'⟩
   ·obtain ⟨w2,z2⟩:=I.cell y c' e
    exact ⟨w2,z2.sameBut hs hcc⟩
  ·obtain ⟨e,n,ne,nf,d⟩:=I.pin p hp
   refine ⟨(hs.2 p.1 ?_).trans e,n,ne,nf,d⟩
   intro q
   rw [q,hoc] at e
   have q':oc=p.2:=Option.some.inj e
   exact d w' (by rw [← q'];exact hocd)
theorem zbx {M:Model}{A:Around}{E:Value→Shared→Prop}{i:Nat}{x:Str}{v:V}{u:Value}{Q:Unit→Shared→Prop}(I:Inv X pins σ H s)(hN:X.N.Nodup)(hi:X.N[i]? = some x)(hx:Loc X.env.scope x)(r:RelV v u)
  (h:∀ s',Inv X pins (σ.set i (some v)) H s'→Q () s') (hf:X.fn x=true∨X.env.scope.names.lookup x=some .local:=by first | exact .inl rfl | exact .inr rfl | assumption):wpAny M A (storeName X.env x u) Q E s:=
 zeP I hN hi hx r (fun s' I' _=>h s' I') hf
theorem Inv.call' {s':Shared}{ch:List Addr}(I:Inv X pins σ H s)(ho:s'.os=s.os)(u:Un (frs X.stack) ch H H' s.heap s'.heap)(hok:HOk X.prog X.w H' s'.heap)(hg:AllBare s'.gens)
  (hch:∀ b∈ch,(b∈X.ex∨X.s₀.heap.objs.size≤b)∧b≠X.env.locals∧(∀ x c,X.env.cells.lookup x=some c→c≠b)∧∀ p∈X.pn ++ pins,p.1≠b):Inv X pins σ H' s':=by
 obtain ⟨h',g',d',t',o'⟩:=s'
 have e:o'=s.os:=ho
 subst e
 exact I.call (g':=g') (t':=t') (d':=d') u hok hg hch
end
abbrev XK:=Value→Option Addr→Hp→Prop
abbrev St:=List (Option V)
abbrev VK:=V→Hp→Prop
abbrev TE:=St→Hp→VK→Prop
abbrev TT:=St→Hp→(Bool→Hp→Prop)→Prop
abbrev TA:=St→Hp→(List V→Hp→Prop)→Prop
structure Ends where
 nx:St→Hp→Prop
 rt:VK
 bk:St→Hp→Prop:=fun _ _=>False
 ct:St→Hp→Prop:=fun _ _=>False
abbrev TS:=Ends→St→Hp→Prop
inductive EP (X:Cx)(pins:List (Addr×Obj))(σ:St)(Q:VK)(u:Value)(s':Shared):Prop
 | mk (v:_) (H':_) (z0_:Inv X pins σ H' s') (z1_:RelV v u) (z2_:Q v H')
inductive TP (X:Cx)(pins:List (Addr×Obj))(σ:St)(Q:Bool→Hp→Prop)(b:Bool)(s':Shared):Prop
 | mk (H':_) (z0_:Inv X pins σ H' s') (z1_:Q b H')
inductive AP (X:Cx)(pins:List (Addr×Obj))(σ:St)(Q:List V→Hp→Prop)(us:List Value)(s':Shared):Prop
 | mk (vs:_) (H':_) (z0_:Inv X pins σ H' s') (z1_:Vals vs us) (z2_:Q vs H')
def SP (X:Cx)(pins:List (Addr×Obj))(D:Ends)(f:Flow)(s':Shared):Prop:=
 match f with
 | .next=>∃ σ' H',Inv X pins σ' H' s'∧D.nx σ' H'
 | .brk=>∃ σ' H',Inv X pins σ' H' s'∧D.bk σ' H'
 | .cont=>∃ σ' H',Inv X pins σ' H' s'∧D.ct σ' H'
 | .ret u=>∃ v σ' H',Inv X pins σ' H' s'∧RelV v u∧D.rt v H'
def PE (X:Cx)(e:Expr)(t:TE):Prop:=
 ∀ (pins:List (Addr×Obj)) (s:Shared) (σ:St) (H:Hp) (Q:VK),Inv X pins σ H s→t σ H Q→wpAny (model X.prog X.w) X.A (eval e X.env) (EP X pins σ Q) X.xe s
def PT (X:Cx)(e:Expr)(t:TT):Prop:=
 ∀ (pins:List (Addr×Obj)) (s:Shared) (σ:St) (H:Hp) (Q:Bool→Hp→Prop),Inv X pins σ H s→t σ H Q→wpAny (model X.prog X.w) X.A (isTrue e X.env (eval e X.env)) (TP X pins σ Q) X.xe s
def PW (X:Cx)(e:Expr)(t:TT):Prop:=
 ∀ (whole:Sem Value) (pins:List (Addr×Obj)) (s:Shared) (σ:St) (H:Hp) (Q:Bool→Hp→Prop),Inv X pins σ H s→t σ H Q→wpAny (model X.prog X.w) X.A (isTrue e X.env whole) (TP X pins σ Q) X.xe s
theorem PW.pt {X:Cx}{e:Expr}{t:TT}(h:PW X e t):PT X e t:=h _
def PA (X:Cx)(es:List Expr)(t:TA):Prop:=
 ∀ (pos:Pos) (pins:List (Addr×Obj)) (s:Shared) (σ:St) (H:Hp) (Q:List V→Hp→Prop),Inv X pins σ H s→t σ H Q→wpAny (model X.prog X.w) X.A (spliced (backTo pos (starEach es X.env))) (AP X pins σ Q) X.xe s
def PS (X:Cx)(st:Stmt)(t:TS):Prop:=
 ∀ (pins:List (Addr×Obj)) (s:Shared) (σ:St) (H:Hp) (D:Ends),Inv X pins σ H s→t D σ H→wpAny (model X.prog X.w) X.A (exec st X.env) (SP X pins D) X.xe s
def PSs (X:Cx)(st:List Stmt)(t:TS):Prop:=
 ∀ (pins:List (Addr×Obj)) (s:Shared) (σ:St) (H:Hp) (D:Ends),Inv X pins σ H s→t D σ H→wpAny (model X.prog X.w) X.A (execs st X.env) (SP X pins D) X.xe s
theorem thn {α:Type}{t:Sem α}{Q Q':α→Shared→Prop}{M:Model}{A:Around}{E:Value→Shared→Prop}{s:Shared}(h:wpAny M A t Q E s)(hQ:∀ a s,Q a s→Q' a s):wpAny M A t Q' E s:=Xaz h hQ fun _ _ x=>x
section
variable {X:Cx}
inductive tVar (i:Nat)(σ:St)(H:Hp)(Q:VK):Prop
 | mk (v:_) (z0_:σ[i]? = some (some v)) (z1_:Q v H)
def tC (v:V):TE:=fun _ H Q=>Q v H
theorem pe_var {i:Nat}{x:Str}{pos:Pos}(hN:X.N[i]? = some x)(hv:Vis X.env.scope x)(hd:(x == ("__debug__" : Str))=false:=by decide)(hcd:(x == ("__classdict__" : Str))=false:=by decide):PE X (.Name x pos) (tVar i):=by
 intro pins s σ H Q I h
 obtain ⟨v,e,h⟩:=h
 obtain ⟨m,hn,hl⟩:=I.loc
 obtain ⟨u,r,l⟩:=hl i x v hN e hv
 have fin:EP X pins σ Q u s:=⟨v,H,I,r,h⟩
 rcases l with ⟨hk,hm⟩ | ⟨hk,c,hc,hcell⟩
 ·exact wpAny_Name (wpAny_loadName_local I.ok.kind hk hn hm fin) hd
 ·rcases hk with hk | hk
  ·exact wpAny_Name (wpAny_loadName_cell I.ok.kind hk hc hcell fin) hd
  ·exact wpAny_Name (wpAny_loadName_free I.ok.kind hk hc hcell fin hcd) hd
theorem zad {i j pos}:PE X (.Constant (.int i) j pos) (tC (.int i)):=fun _ _ _ H _ I h=>wpAny_Constant_int ⟨.int i,H,I.tok _,⟨_,rfl⟩,h⟩
theorem zcJ {b j pos}:PE X (.Constant (.bool b) j pos) (tC (.bl b)):=fun _ _ _ H _ I h=>Constant_bool ⟨.bl b,H,I,rfl,h⟩
theorem zdw {j pos}:PE X (.Constant .none j pos) (tC .non):=fun _ _ _ H _ I h=>Constant_none ⟨.non,H,I,rfl,h⟩
theorem zaE {x j pos}:PE X (.Constant (.str x) j pos) (tC (.str x)):=fun _ _ _ H _ I h=>Calls.Constant_str ⟨.str x,H,I.tok _,⟨_,rfl⟩,h⟩
def Gl (X:Cx)(x:Str):Prop:=X.env.kindOf x=some .globalImplicit
theorem zbt {E:Value→Shared→Prop}{pins:List (Addr×Obj)}{s:Shared}{σ:St}{H:Hp}{x:Str}{u:Value}{pos:Pos}{Q:Value→Shared→Prop}(I:Inv X pins σ H s)(hg:Gl X x)(hm:X.mg x=some u)(h:Q u s)
  (hd:(x == ("__debug__" : Str))=false:=by decide):wpAny (model X.prog X.w) X.A (eval (.Name x pos) X.env) Q E s:=
 Calls.Name_function_global I.ok.kind hg (Calls.loadGlobal_global (by rw [I.ok.glob];exact I.mod.glob.keeps I.bk) hm h) hd
theorem zcr {E:Value→Shared→Prop}{pins:List (Addr×Obj)}{s:Shared}{σ:St}{H:Hp}{x:Str}{u:Value}{pos:Pos}{Q:Value→Shared→Prop}(I:Inv X pins σ H s)(hg:Gl X x)(hm:X.mg x=none)(hv:bootBuiltins x=some u)(h:Q u s)
  (hn:x ≠ "__name__" := by decide) (hd:(x == ("__debug__" : Str))=false:=by decide):wpAny (model X.prog X.w) X.A (eval (.Name x pos) X.env) Q E s:=by
 obtain ⟨mb,h1,h2⟩:=I.mod.blt
 exact Calls.Name_function_global I.ok.kind hg (Calls.loadGlobal_builtin (by rw [I.ok.glob];exact I.mod.glob.keeps I.bk) hm (by rw [I.ok.blt];exact h1.keeps I.bk) ((h2 x hn).trans hv) h) hd
theorem zeq {x:Str}{v:V}{u:Value}{pos:Pos}(hg:Gl X x)(hm:X.mg x=some u)(r:RelV v u)(hd:(x == ("__debug__" : Str))=false:=by decide):PE X (.Name x pos) (tC v):=
 fun _ _ _ H _ I h=>zbt I hg hm ⟨v,H,I,r,h⟩ hd
theorem zaL {x:Str}{v:V}{u:Value}{pos:Pos}(hg:Gl X x)(hm:X.mg x=none)(hv:bootBuiltins x=some u)(r:RelV v u)(hn:x ≠ "__name__" := by decide)(hd:(x == ("__debug__" : Str))=false:=by decide):PE X (.Name x pos) (tC v):=
 fun _ _ _ H _ I h=>zcr I hg hm hv ⟨v,H,I,r,h⟩ hn hd
variable {a b:Expr}{ta tb:TE}{pos:Pos}
def PC (X:Cx)(op:CmpOp)(a b:Expr)(t:TE):Prop:=
 ∀ (pins:List (Addr×Obj)) (s:Shared) (σ:St) (H:Hp) (Q:VK),Inv X pins σ H s→t σ H Q →
  wpAny (model X.prog X.w) X.A (eval a X.env) (fun v s₁=>wpAny (model X.prog X.w) X.A (eval b X.env) (fun u s₂=>wpAny (model X.prog X.w) X.A (compareOp op v u) (EP X pins σ Q) X.xe s₂) X.xe s₁) X.xe s
theorem zc9 (b:Expr){op:CmpOp}(h:op≠.In)(h2:op≠.NotIn):behindInMarks op b=false:=by
 have e1:(op == CmpOp.In)=false:=by cases op <;> first | rfl | exact absurd rfl h
 have e2:(op == CmpOp.NotIn)=false:=by cases op <;> first | rfl | exact absurd rfl h2
 cases b <;> simp [behindInMarks,e1,e2]
def tIsN (ta:TE):TE:=fun σ H Q=>ta σ H fun x H1=>Q (.bl (decide (x = .non))) H1
def tNotN (ta:TE):TE:=fun σ H Q=>ta σ H fun x H1=>Q (.bl (!decide (x = .non))) H1
theorem RelV.none_iff {x:V}{v:Value}(r:RelV x v):(v == Value.none)=decide (x = .non):=by
 cases x with
 | non=>cases r;rfl
 | bl _=>cases r;rfl
 | int _=>obtain ⟨t,rfl⟩:=r;rfl
 | str _=>obtain ⟨t,rfl⟩:=r;rfl
 | byt _=>obtain ⟨t,rfl⟩:=r;rfl
 | flt _=>obtain ⟨t,rfl⟩:=r;rfl
 | ref _=>cases r;rfl
 | ty _=>cases r;rfl
theorem zdx {j pos'}(ha:PE X a ta):PC X .Is a (.Constant .none j pos') (tIsN ta):=by
 intro pins s σ H Q I h
 refine thn (ha pins s σ H _ I h) fun v s1 hh_=>?_
 obtain ⟨x,H1,I1,r1,q1⟩:=hh_
 exact Constant_none (is_none_gen ⟨.bl _,H1,I1,by rw [r1.none_iff];rfl,q1⟩)
theorem zcK {j pos'}(ha:PE X a ta):PC X .IsNot a (.Constant .none j pos') (tNotN ta):=by
 intro pins s σ H Q I h
 refine thn (ha pins s σ H _ I h) fun v s1 hh_=>?_
 obtain ⟨x,H1,I1,r1,q1⟩:=hh_
 exact Constant_none (isnot_none_gen ⟨.bl _,H1,I1,by rw [r1.none_iff];rfl,q1⟩)
inductive tB_1 (Q:Bool→Hp→Prop)(x:V)(H1:Hp):Prop
 | mk (c:_) (z0_:x = .bl c) (z1_:Q c H1)
def tB (t:TE):TT:=fun σ H Q=>t σ H (tB_1 Q)
theorem zhI {op:CmpOp}{t:TE}(h:PC X op a b t)(h1:behindInMarks op b=false:=by first | exact zc9 _ (by decide) (by decide) | rfl):PE X (.Compare a [op] [b] pos) t:=fun pins s σ H Q I hw=>wpAny_Compare1 (h pins s σ H Q I hw) h1
theorem zb3 {op:CmpOp}{t:TE}(h:PC X op a b t)(h1:behindInMarks op b=false:=by first | exact zc9 _ (by decide) (by decide) | rfl):PT X (.Compare a [op] [b] pos) (tB t):=by
 intro pins s σ H Q I hw
 refine wpAny_isTrue_Compare1 (thn (h pins s σ H _ I hw) fun v s1 h1=>thn h1 fun u s2 h2=>thn h2 fun c s3 hh_=>?_) h1
 obtain ⟨x,H1,I1,r1,q1⟩:=hh_
 obtain ⟨d,rfl,q⟩:=q1
 cases r1
 exact XaU ⟨H1,I1,q⟩
theorem zaP {e:Expr}{t:TE}(h:PE X e t)(he:∀ whole,isTrue e X.env whole=(do let v ← whole;standAt e.pos;holding [v] (truthy v)):=by intro _;rfl):PT X e (tB t):=by
 intro pins s σ H Q I hw
 refine isTrue_plain (thn (h pins s σ H _ I hw) fun v s1 hh_=>?_) (he _)
 obtain ⟨x,H1,I1,r1,q1⟩:=hh_
 obtain ⟨d,rfl,q⟩:=q1
 cases r1
 exact XaU ⟨H1,I1,q⟩
variable {tA tB':TT}{rest:List Expr}
def tAnd (t u:TT):TT:=fun σ H Q=>t σ H fun c H1=>if c=true then u σ H1 Q else Q false H1
def tOr (t u:TT):TT:=fun σ H Q=>t σ H fun c H1=>if c=true then Q true H1 else u σ H1 Q
def tNot (t:TT):TT:=fun σ H Q=>t σ H fun c H1=>Q (!c) H1
theorem zhx (ha:PT X a tA):PW X (.BoolOp .And [a] pos) tA:=by
 intro wh pins s σ H Q I h
 refine isTrue_and (thn (ha pins s σ H Q I h) fun c s1 e=>?_)
 cases c with
 | true=>exact isTrue_and_nil e
 | false=>exact e
theorem zbF (ha:PT X a tA):PW X (.BoolOp .Or [a] pos) tA:=by
 intro wh pins s σ H Q I h
 refine isTrue_or (thn (ha pins s σ H Q I h) fun c s1 e=>?_)
 cases c with
 | false=>exact isTrue_or_nil e
 | true=>exact e
theorem zjJ (ha:PT X a tA)(hb:PW X (.BoolOp .And (b :: rest) pos) tB'):PW X (.BoolOp .And (a :: b :: rest) pos) (tAnd tA tB'):=by
 intro wh pins s σ H Q I h
 refine isTrue_and (thn (ha pins s σ H _ I h) fun c s1 ⟨H1,I1,q1⟩=>?_)
 cases c with
 | true=>exact hb wh pins s1 σ H1 Q I1 q1
 | false=>exact ⟨H1,I1,q1⟩
theorem zcf (ha:PT X a tA)(hb:PW X (.BoolOp .Or (b :: rest) pos) tB'):PW X (.BoolOp .Or (a :: b :: rest) pos) (tOr tA tB'):=by
 intro wh pins s σ H Q I h
 refine isTrue_or (thn (ha pins s σ H _ I h) fun c s1 ⟨H1,I1,q1⟩=>?_)
 cases c with
 | true=>exact ⟨H1,I1,q1⟩
 | false=>exact hb wh pins s1 σ H1 Q I1 q1
theorem zaX (ha:PT X a tA):PT X (.UnaryOp .Not a pos) (tNot tA):=by
 intro pins s σ H Q I h
 exact isTrue_not (thn (ha pins s σ H (fun c H1=>Q (!c) H1) I h) fun c s1 ⟨H1,I1,q1⟩=>⟨H1,I1,q1⟩)
inductive tAndV_1 (tb:TE)(σ:St)(Q:VK)(x:V)(H1:Hp):Prop
 | mk (c:_) (z0_:x = .bl c) (z1_:if c=true then tb σ H1 Q else Q (.bl false) H1)
def tAndV (ta tb:TE):TE:=fun σ H Q=>ta σ H (tAndV_1 tb σ Q)
inductive tOrV_1 (tb:TE)(σ:St)(Q:VK)(x:V)(H1:Hp):Prop
 | mk (c:_) (z0_:x = .bl c) (z1_:if c=true then Q (.bl true) H1 else tb σ H1 Q)
def tOrV (ta tb:TE):TE:=fun σ H Q=>ta σ H (tOrV_1 tb σ Q)
inductive tNotV_1 (Q:VK)(x:V)(H1:Hp):Prop
 | mk (c:_) (z0_:x = .bl c) (z1_:Q (.bl (!c)) H1)
def tNotV (ta:TE):TE:=fun σ H Q=>ta σ H (tNotV_1 Q)
theorem zbh {op}{t:TE}(h:PE X a t):PE X (.BoolOp op [a] pos) t:=fun pins s σ H Q I hw=>BoolOp_one (h pins s σ H Q I hw)
theorem zbn (ha:PE X a ta)(hb:PE X (.BoolOp .And (b :: rest) pos) tb):PE X (.BoolOp .And (a :: b :: rest) pos) (tAndV ta tb):=by
 intro pins s σ H Q I h
 refine BoolOp_and (thn (ha pins s σ H _ I h) fun v s1 hh_=>?_)
 obtain ⟨x,H1,I1,r1,q1⟩:=hh_
 obtain ⟨c,rfl,q1⟩:=q1
 cases r1
 refine XaU ?_
 cases c with
 | true=>exact hb pins s1 σ H1 Q I1 q1
 | false=>exact ⟨.bl false,H1,I1,rfl,q1⟩
theorem ziW (ha:PE X a ta)(hb:PE X (.BoolOp .Or (b :: rest) pos) tb):PE X (.BoolOp .Or (a :: b :: rest) pos) (tOrV ta tb):=by
 intro pins s σ H Q I h
 refine BoolOp_or (thn (ha pins s σ H _ I h) fun v s1 hh_=>?_)
 obtain ⟨x,H1,I1,r1,q1⟩:=hh_
 obtain ⟨c,rfl,q1⟩:=q1
 cases r1
 refine XaU ?_
 cases c with
 | false=>exact hb pins s1 σ H1 Q I1 q1
 | true=>exact ⟨.bl true,H1,I1,rfl,q1⟩
theorem zjN (ha:PE X a ta):PE X (.UnaryOp .Not a pos) (tNotV ta):=by
 intro pins s σ H Q I h
 refine UnaryOp_ (thn (ha pins s σ H _ I h) fun v s1 hh_=>?_)
 obtain ⟨x,H1,I1,r1,q1⟩:=hh_
 obtain ⟨c,rfl,q1⟩:=q1
 cases r1
 exact not_of (XaU ⟨.bl (!c),H1,I1,rfl,q1⟩)
end
def SqL (K:W.Frag)(H:Hp)(a:Addr)(xs:List V):Prop:=
 Rd H a (.lst xs) ∨
  ∃ (o:Obj) (its:Array Value) (n:Nat),K.lookup a=some o∧o.cls = .type "list" ∧ o.dict=none∧o.data = .seq its n∧its.size≤sizeLine∧Vals xs its.toList
def SqT (K:W.Frag)(H:Hp)(a:Addr)(xs:List V):Prop:=
 Rd H a (.tup xs) ∨
  ∃ (o:Obj) (its:Array Value) (n:Nat),K.lookup a=some o∧o.cls = .type "tuple" ∧ o.data = .seq its n∧its.size≤sizeLine∧Vals xs its.toList
def absV:Value→Option V
 | .none=>some .non
 | .bool b=>some (.bl b)
 | .int i _=>some (.int i)
 | .str x _=>some (.str x)
 | .bytes b _=>some (.byt b)
 | .float b _=>some (.flt b)
 | .ref a=>some (.ref a)
 | .type n=>some (.ty n)
 | _=>none
theorem RelV.abs {x:V}{u:Value}(r:RelV x u):absV u=some x:=by
 cases x with
 | non=>cases r;rfl
 | bl _=>cases r;rfl
 | int _=>obtain ⟨t,rfl⟩:=r;rfl
 | str _=>obtain ⟨t,rfl⟩:=r;rfl
 | byt _=>obtain ⟨t,rfl⟩:=r;rfl
 | flt _=>obtain ⟨t,rfl⟩:=r;rfl
 | ref _=>cases r;rfl
 | ty _=>cases r;rfl
theorem RelV.inj {x y:V}{u:Value}(r:RelV x u)(q:RelV y u):x=y:=Option.some.inj (r.abs.symm.trans q.abs)
theorem Vals.inj:∀ {xs ys:List V} {us:List Value},Vals xs us→Vals ys us→xs=ys
 | _,_,_,.nil,.nil=>rfl
 | _,_,_,.cons r t,.cons r' t'=>by rw [r.inj r',Vals.inj t t']
section
variable {X:Cx}{pins:List (Addr×Obj)}{σ:St}{H:Hp}{s:Shared}{a:Addr}{xs ys:List V}
theorem SqL.of {K:W.Frag}(h:H a=some (.lst xs)):SqL K H a xs:=.inl (.inl h)
theorem SqT.of {K:W.Frag}(h:H a=some (.tup xs)):SqT K H a xs:=.inl (.inl h)
theorem Inv.list (I:Inv X pins σ H s)(h:SqL X.K H a xs):∃ its:List Value,Vals xs its∧PlainL s.heap a its.toArray∧xs.length≤sizeLine:=by
 rcases h with h | ⟨o,its,n,hk,hc,hd,hs,hz,r⟩
 ·obtain ⟨z,its,n,r,e⟩:=h.ok I.hok
  exact ⟨its,r,⟨_,n,e,rfl,rfl,rfl⟩,z⟩
 ·refine ⟨its.toList,r,⟨o,n,I.kIn a o hk,hc,hd,by simpa using hs⟩,?_⟩
  have e:=r.length
  simp only [Array.length_toList] at e
  omega
theorem Inv.tuple (I:Inv X pins σ H s)(h:SqT X.K H a xs):∃ its:List Value,Vals xs its∧IsTup s.heap a its.toArray∧xs.length≤sizeLine:=by
 rcases h with h | ⟨o,its,n,hk,hc,hs,hz,r⟩
 ·obtain ⟨z,its,r,p⟩:=h.ok I.hok
  exact ⟨its,r,p,z.1⟩
 ·refine ⟨its.toList,r,⟨o,I.kIn a o hk,hc,n,by simpa using hs⟩,?_⟩
  have e:=r.length
  simp only [Array.length_toList] at e
  omega
theorem Inv.list_inj (I:Inv X pins σ H s)(h:SqL X.K H a xs)(h':SqL X.K H a ys):xs=ys:=by
 obtain ⟨its,r,⟨o,n,e,_,_,d⟩,_⟩:=I.list h
 obtain ⟨its',r',⟨o',n',e',_,_,d'⟩,_⟩:=I.list h'
 rw [e] at e';cases e'
 rw [d] at d'
 injection d' with d1 _
 have:its=its':=by simpa using congrArg Array.toList d1
 subst this
 exact r.inj r'
theorem Inv.tuple_inj (I:Inv X pins σ H s)(h:SqT X.K H a xs)(h':SqT X.K H a ys):xs=ys:=by
 obtain ⟨its,r,⟨o,e,_,n,d⟩,_⟩:=I.tuple h
 obtain ⟨its',r',⟨o',e',_,n',d'⟩,_⟩:=I.tuple h'
 rw [e] at e';cases e'
 rw [d] at d'
 injection d' with d1 _
 have:its=its':=by simpa using congrArg Array.toList d1
 subst this
 exact r.inj r'
end
abbrev Cx.wish (X:Cx)(E:Value→Shared→Prop):Cx:={ X with xe:=E }
abbrev Cx.nox (X:Cx):Cx:=X.wish fun _ _=>False
theorem Cx.Ok.wish {X:Cx}(ok:X.Ok)(E:Value→Shared→Prop):(X.wish E).Ok:=
 ⟨ok.mod,ok.kind,ok.glob,ok.blt,ok.above,ok.inj,ok.has,ok.cab,ok.hd,ok.frames,ok.stk,ok.exf,ok.bs,ok.bsz,ok.noex,ok.exfs,ok.funs,ok.frf⟩
theorem Cx.Ok.unwish {X:Cx}{E:Value→Shared→Prop}(ok:(X.wish E).Ok):X.Ok:=
 ⟨ok.mod,ok.kind,ok.glob,ok.blt,ok.above,ok.inj,ok.has,ok.cab,ok.hd,ok.frames,ok.stk,ok.exf,ok.bs,ok.bsz,ok.noex,ok.exfs,ok.funs,ok.frf⟩
section
variable {X:Cx}{pins:List (Addr×Obj)}{σ:St}{H:Hp}{s:Shared}{E:Value→Shared→Prop}
theorem Inv.wish (I:Inv X pins σ H s)(E:Value→Shared→Prop):Inv (X.wish E) pins σ H s:=⟨I.ok.wish E,I.os,I.bare,I.base,I.loc,I.cell,I.free,I.freeC,I.pin,I.hok,I.len⟩
theorem Inv.unwish (I:Inv (X.wish E) pins σ H s):Inv X pins σ H s:=⟨I.ok.unwish,I.os,I.bare,I.base,I.loc,I.cell,I.free,I.freeC,I.pin,I.hok,I.len⟩
theorem SP.unwish {D:Ends}{f:Flow}{s':Shared}(h:SP (X.wish E) pins D f s'):SP X pins D f s':=by
 cases f with
 | next=>obtain ⟨σ',H',I,q⟩:=h;exact ⟨σ',H',I.unwish,q⟩
 | brk=>obtain ⟨σ',H',I,q⟩:=h;exact ⟨σ',H',I.unwish,q⟩
 | cont=>obtain ⟨σ',H',I,q⟩:=h;exact ⟨σ',H',I.unwish,q⟩
 | ret u=>obtain ⟨v,σ',H',I,r,q⟩:=h;exact ⟨v,σ',H',I.unwish,r,q⟩
theorem PT.nox {e:Expr}{t:TT}(h:PT X.nox e t):PT X e t:=fun pins s σ H Q I hw =>
 Xaz (h pins s σ H Q (I.wish _) hw) (fun _ _ ⟨H',I',q⟩=>⟨H',I'.unwish,q⟩) fun _ _ z=>False.elim z
theorem PSs.nox {st:List Stmt}{t:TS}(h:PSs X.nox st t):PSs X st t:=fun pins s σ H D I hw =>
 Xaz (h pins s σ H D (I.wish _) hw) (fun _ _ q=>q.unwish) fun _ _ z=>False.elim z
end
section
variable {X:Cx}{st:Stmt}{rest:List Stmt}{t u:TS}{e:Expr}{te:TE}{pos:Pos}
def tNext:TS:=fun D σ H=>D.nx σ H
def tSeq (t u:TS):TS:=fun D σ H=>t { D with nx:=u D } σ H
theorem zap:PSs X [] tNext:=fun _ _ σ H _ I h=>XbN ⟨σ,H,I,h⟩
theorem zaf (h1:PS X st t)(h2:PSs X rest u):PSs X (st :: rest) (tSeq t u):=by
 intro pins s σ H D I h
 refine wpAny_execs_cons (thn (h1 pins s σ H { D with nx:=u D } I h) fun f s1 q=>?_)
 cases f with
 | next =>
  obtain ⟨σ',H',I',q⟩:=q
  exact h2 pins s1 σ' H' D I' q
 | ret v=>exact q
 | brk=>exact q
 | cont=>exact q
theorem zah (h1:PS X st t):PSs X [st] t:=by
 intro pins s σ H D I h
 refine wpAny_execs_cons (thn (h1 pins s σ H D I h) fun f s1 q=>?_)
 cases f with
 | next=>exact XbN q
 | ret v=>exact q
 | brk=>exact q
 | cont=>exact q
theorem Inv.quiet {pins:List (Addr×Obj)}{σ:St}{H:Hp}{s:Shared}(I:Inv X pins σ H s):interactive X.env=false:=by simp [interactive,I.ok.kind]
def tDrop (te:TE):TS:=fun D σ H=>te σ H fun _ H1=>D.nx σ H1
theorem zaA (he:PE X e te)(hs:swapsWith e none pos.line X.env=pure false:=by rfl):PS X (.Expr e pos) (tDrop te):=by
 intro pins s σ H D I h
 exact wpAny_Expr_any (thn (he pins s σ H _ I h) fun v s1 ⟨x,H1,I1,r1,q1⟩=>⟨σ,H1,I1,q1⟩) I.quiet hs
def tRet (te:TE):TS:=fun D σ H=>te σ H D.rt
theorem zaq (he:PE X e te):PS X (.Return (some e) pos) (tRet te):=by
 intro pins s σ H D I h
 exact wpAny_Return_some (thn (he pins s σ H _ I h) fun v s1 ⟨x,H1,I1,r1,q1⟩=>⟨x,σ,H1,I1,r1,q1⟩)
def tIfS (c:TT)(t u:TS):TS:=fun D σ H=>c σ H fun b H1=>if b=true then t D σ H1 else u D σ H1
theorem zaG {c:Expr}{a b:List Stmt}{tc:TT}(hc:PT X c tc)(ha:PSs X a t)(hb:PSs X b u):PS X (.If c a b pos) (tIfS tc t u):=by
 intro pins s σ H D I h
 refine wpAny_If (thn (hc pins s σ H _ I h) fun d s1 ⟨H1,I1,q1⟩=>?_)
 cases d with
 | true=>exact ha pins s1 σ H1 D I1 q1
 | false=>exact hb pins s1 σ H1 D I1 q1
def tNever:TS:=fun _ _ _=>False
theorem za6:PS X st tNever:=fun _ _ _ _ _ _ h=>h.elim
end
abbrev TG:=V→St→Hp→(St→Hp→Prop)→Prop
abbrev TGs:=List V→St→Hp→(St→Hp→Prop)→Prop
def PG (X:Cx)(target:Expr)(t:TG):Prop:=
 ∀ (pins:List (Addr×Obj)) (s:Shared) (σ:St) (H:Hp) (v:V) (u:Value) (Q:St→Hp→Prop),Inv X pins σ H s→RelV v u→t v σ H Q →
  wpAny (model X.prog X.w) X.A (assign target X.env u) (fun _ s'=>∃ σ' H',Inv X pins σ' H' s'∧Q σ' H') X.xe s
def PGs (X:Cx)(ts:List Expr)(t:TGs):Prop:=
 ∀ (pins:List (Addr×Obj)) (s:Shared) (σ:St) (H:Hp) (vs:List V) (us:List Value) (Q:St→Hp→Prop),Inv X pins σ H s→Vals vs us→t vs σ H Q →
  wpAny (model X.prog X.w) X.A (assignInOrder ((assignEach ts X.env).map (·.2)) us) (fun _ s'=>∃ σ' H',Inv X pins σ' H' s'∧Q σ' H') X.xe s
abbrev TIp:=V→V→Hp→VK→Prop
def PIp (X:Cx)(op:Operator)(t:TIp):Prop:=
 ∀ (pins:List (Addr×Obj)) (s:Shared) (σ:St) (H:Hp) (x y:V) (v u:Value) (Q:VK),Inv X pins σ H s→RelV x v→RelV y u→t x y H Q →
  wpAny (model X.prog X.w) X.A (inplaceOp op v u) (EP X pins σ Q) X.xe s
section
variable {X:Cx}{pos:Pos}
def za7 (i:Nat):TG:=fun v σ H Q=>Q (σ.set i (some v)) H
theorem zkr {i:Nat}{x:Str}(hN:X.N.Nodup)(hi:X.N[i]? = some x)(hx:Loc X.env.scope x)(hf:X.fn x=true∨X.env.scope.names.lookup x=some .local:=by first | exact .inl rfl | exact .inr rfl | assumption):PG X (.Name x pos) (za7 i):=by
 intro pins s σ H v u Q I r h
 exact wpAny_assign_Name (zbx I hN hi hx r (fun s' I'=>⟨_,H,I',h⟩) hf)
def gNil:TGs:=fun vs σ H Q=>vs=[]∧Q σ H
inductive gCons (t:TG)(u:TGs)(vs:List V)(σ:St)(H:Hp)(Q:St→Hp→Prop):Prop
 | mk (v:_) (r:_) (z0_:vs=v :: r) (z1_:t v σ H fun σ' H'=>u r σ' H' Q)
theorem zaY:PGs X [] gNil:=by
 intro pins s σ H vs us Q I r h
 obtain ⟨e,h⟩:=h
 subst e
 cases r
 exact assignInOrder_nil ⟨σ,H,I,h⟩
theorem zao {e:Expr}{es:List Expr}{t:TG}{u:TGs}(h1:PG X e t)(h2:PGs X es u)
  (hs:(assignEach (e :: es) X.env).map (·.2)=assign e X.env :: (assignEach es X.env).map (·.2):=by rfl):PGs X (e :: es) (gCons t u):=by
 intro pins s σ H vs us Q I r h
 obtain ⟨v,vr,e1,h⟩:=h
 subst e1
 cases r with
 | cons r rr =>
  rw [hs]
  refine assignInOrder_cons (thn (h1 pins s σ H _ _ _ I r h) fun _ s1 ⟨σ1,H1,I1,q1⟩=>?_)
  exact h2 pins s1 σ1 H1 _ _ Q I1 rr q1
inductive gTup (K:W.Frag)(n:Nat)(t:TGs)(v:V)(σ:St)(H:Hp)(Q:St→Hp→Prop):Prop
 | mk (a:_) (xs:_) (z0_:v = .ref a) (z1_:SqT K H a xs) (z2_:xs.length=n) (z3_:t xs σ H Q)
theorem zbv {es:List Expr}{k:Nat}{t:TGs}{n:Nat}(hc:X.calm=true)(h:PGs X es t)
  (hn:(assignEach es X.env).length=n:=by rfl) (hst:(assignEach es X.env).findIdx? (·.1)=none:=by rfl):PG X (.Tuple es k pos) (gTup X.K n t):=by
 intro pins s σ H v u Q I r hw
 obtain ⟨a,xs,e1,hq,hl,hw⟩:=hw
 subst e1
 cases r
 obtain ⟨its,rv,ht,hz⟩:=I.tuple hq
 refine assign_Tuple_tuple (I.ok.hd hc) ht (by simp [hn,← hl,rv.length]) hst fun h' hx=>?_
 have I1:Inv X pins σ H { s with heap:=h' }:=I.kept (t':=s.toks) fun b o e=>hx b o (Xar (Xaj e)) e
 exact h pins _ σ H xs _ Q I1 (by simpa using rv) hw
def tAsg (te:TE)(g:TG):TS:=fun D σ H=>te σ H fun x H1=>g x σ H1 D.nx
theorem zcR {tg e:Expr}{te:TE}{g:TG}(he:PE X e te)(hg:PG X tg g)(hs:swapsWithSole [tg] e pos.line X.env=pure false:=by rfl)(hw:swappedStores [tg] e X.env=pure none:=by rfl)
  (h1:(assignEach [tg] X.env).map (·.2)=[assign tg X.env]:=by rfl):PS X (.Assign [tg] e pos) (tAsg te g):=by
 intro pins s σ H D I h
 refine wpAny_Assign_stores (thn (he pins s σ H _ I h) fun v s1 hh_=>?_) hs hw
 obtain ⟨x,H1,I1,r1,q1⟩:=hh_
 rw [h1]
 exact thn (hg pins s1 σ H1 x v _ I1 r1 q1) fun _ s2 q=>q
theorem zhy {i:Nat}{x:Str}{e:Expr}{te:TE}{pos':Pos}(hN:X.N.Nodup)(hi:X.N[i]? = some x)(hx:Loc X.env.scope x)(he:PE X e te)(hs:swapsWith e (some (.Name x pos')) pos.line X.env=pure false:=by rfl)(hf:X.fn x=true∨X.env.scope.names.lookup x=some .local:=by first | exact .inl rfl | exact .inr rfl | assumption) :
  PS X (.Assign [.Name x pos'] e pos) (tAsg te (za7 i)):=by
 intro pins s σ H D I h
 refine wpAny_Assign_Name (thn (he pins s σ H _ I h) fun v s1 hh_=>?_) hs
 obtain ⟨y,H1,I1,r1,q1⟩:=hh_
 exact zbx I1 hN hi hx r1 (fun s2 I2=>⟨_,H1,I2,q1⟩) hf
inductive tAug (i:Nat)(te:TE)(ti:TIp)(D:Ends)(σ:St)(H:Hp):Prop
 | mk (x:_) (z0_:σ[i]? = some (some x)) (z1_:te σ H fun y H1=>ti x y H1 fun z H2=>D.nx (σ.set i (some z)) H2)
theorem zjL {i:Nat}{x:Str}{e:Expr}{te:TE}{op:Operator}{ti:TIp}{pos':Pos}(hN:X.N.Nodup)(hi:X.N[i]? = some x)(hx:Loc X.env.scope x)(he:PE X e te)(ho:PIp X op ti)(hf:X.fn x=true∨X.env.scope.names.lookup x=some .local:=by first | exact .inl rfl | exact .inr rfl | assumption) :
  PS X (.AugAssign (.Name x pos') op e pos) (tAug i te ti):=by
 intro pins s σ H D I h
 obtain ⟨v,e1,h⟩:=h
 obtain ⟨m,hn,hl⟩:=I.loc
 have vis:Vis X.env.scope x:=by rcases hx with k | k;exact .inl k;exact .inr (.inl k)
 obtain ⟨u,r,l⟩:=hl i x v hi e1 vis
 refine wpAny_AugAssign_Name ?_
 have go:wpAny (model X.prog X.w) X.A (eval e X.env) (fun w s₂=>wpAny (model X.prog X.w) X.A (inplaceOp op u w) (fun r s₃=>wpAny (model X.prog X.w) X.A (storeName X.env x r) (fun _=>SP X pins D .next) X.xe s₃) X.xe s₂) X.xe s:=by
  refine thn (he pins s σ H _ I h) fun w s1 hh_=>?_
  obtain ⟨y,H1,I1,r1,q1⟩:=hh_
  refine thn (ho pins s1 σ H1 v y u w _ I1 r r1 q1) fun z s2 hh_=>?_
  obtain ⟨zv,H2,I2,r2,q2⟩:=hh_
  exact zbx I2 hN hi hx r2 (fun s3 I3=>⟨_,H2,I3,q2⟩) hf
 rcases l with ⟨hk,hm⟩ | ⟨hk,c,hc,hcell⟩
 ·exact wpAny_loadName_local I.ok.kind hk hn hm go
 ·rcases hk with hk | hk
  ·exact wpAny_loadName_cell I.ok.kind hk hc hcell go
  ·rcases hx with k | k
   ·have:X.env.scope.names.lookup x=some .free:=hk
    rw [k] at this;cases this
   ·have:X.env.scope.names.lookup x=some .free:=hk
    rw [k] at this;cases this
end
section
variable {X:Cx}{pos:Pos}
def zjC (c:TT)(tb:TS):TS:=fun D σ H=>∃ W:Nat→St→Hp→Prop,(∃ m,W m σ H)∧∀ m σ H,W m σ H →
 c σ H fun b H1=>if b=true then ∃ N:St→Hp→Prop,(∀ σ' H',N σ' H'→∃ m',m'<m∧W m' σ' H')∧tb { D with nx:=N,ct:=N,bk:=D.nx } σ H1 else D.nx σ H1
theorem zen {c:Expr}{body:List Stmt}{tc:TT}{tb:TS}(hp:PassesOwn (model X.prog X.w) X.A X.env X.xe)(hc:PT X c tc)(hb:PSs X body tb):PS X (.While c body [] pos) (zjC tc tb):=by
 intro pins s σ H D I h
 obtain ⟨W,⟨m0,w0⟩,turn⟩:=h
 refine wpAny_While (codeAny_whileLoop (fun n s'=>∃ σ' H',Inv X pins σ' H' s'∧W n σ' H') ?_ m0 ⟨σ,H,I,w0⟩)
 rintro n s1 ⟨σ1,H1,I1,w1⟩
 refine Xbz hp (thn (hc pins s1 σ1 H1 _ I1 (turn n σ1 H1 w1)) fun b s2 ⟨H2,I2,q2⟩=>?_)
 cases b with
 | true =>
  obtain ⟨N,hN,q2⟩:=q2
  rw [if_pos rfl]
  refine Xbz hp (thn (hb pins s2 σ1 H2 _ I2 q2) fun f s3 q3=>?_)
  cases f with
  | next =>
   obtain ⟨σ3,H3,I3,n3⟩:=q3
   obtain ⟨m',hm,w3⟩:=hN σ3 H3 n3
   exact ⟨m',hm,σ3,H3,I3,w3⟩
  | cont =>
   obtain ⟨σ3,H3,I3,n3⟩:=q3
   obtain ⟨m',hm,w3⟩:=hN σ3 H3 n3
   exact ⟨m',hm,σ3,H3,I3,w3⟩
  | brk=>exact q3
  | ret v=>exact q3
 | false =>
  rw [if_neg Xaq]
  exact XbN ⟨σ1,H2,I2,q2⟩
end
structure It where
 go:Nat→Hp→Prop
 yld:Nat→Hp→V→Hp→Prop
 stop:Nat→Hp→Prop
def FpOk (X:Cx)(pins:List (Addr×Obj))(H:Hp)(b:Addr):Prop:=
 H b=none∧b≠X.env.locals∧b ∉ X.fs∧(b∈X.ex∨X.s₀.heap.objs.size≤b)∧(∀ x c,X.env.cells.lookup x=some c→c≠b)∧∀ p∈X.pn ++ pins,p.1≠b
theorem Inv.fpOk {X:Cx}{pins:List (Addr×Obj)}{σ:St}{H H':Hp}{s:Shared}{b:Addr}(I:Inv X pins σ H s)(hb:s.heap.objs.size≤b)(hn:H' b=none):FpOk X pins H' b:=by
 refine ⟨hn,Xbk (Xai I.lt hb),I.nofs hb,.inr (Xav I.sz hb),fun x c e z=>?_,fun p hp z=>?_⟩
 ·obtain ⟨v,q⟩:=I.cell x c e
  exact absurd (Xai q.lt (by rw [z];exact hb)) (XaT _)
 ·exact absurd (Xai (Xaj (I.pin p hp).1) (by rw [z];exact hb)) (XaT _)
structure Turn (P:Program)(w:World)(K:W.Frag)(tg:Expr)(J:It)(fp:List Addr)(it:Addr)(tn:Nat→Heap→Prop):Prop where
 mem:it∈fp
 obj:∀ i h,tn i h→∀ b∈fp,∃ o,h.get? b=some o∧∀ v,o.data≠.cell v
 keep:∀ i h h',tn i h→(∀ b∈fp,∀ o,h.get? b=some o→h'.get? b=some o)→tn i h'
 item:∀ (X:Cx),X.prog=P→X.w=w→X.K=K→X.calm=true→∀ (i:Nat) (pins:List (Addr×Obj)) (s:Shared) (σ:St) (H:Hp) (E:Value→Shared→Prop),Inv X pins σ H s→(∀ b∈fp,FpOk X pins H b)→tn i s.heap→J.go i H →
  wpAny (model P w) X.A (pyNext (.ref it)) (fun r s1=>∃ u,r=some u ∧
   wpAny (model P w) X.A (letOwnedTupleGo tg (.ref it) u) (fun _ s2=>∃ x H',Inv X pins σ H' s2∧RelV x u∧J.yld i H x H'∧tn (i+1) s2.heap∧∀ b∈fp,H' b=none) E s1) E s
 done:∀ (X:Cx),X.prog=P→X.w=w→X.K=K→X.calm=true→∀ (i:Nat) (pins:List (Addr×Obj)) (s:Shared) (σ:St) (H:Hp) (E:Value→Shared→Prop),Inv X pins σ H s→(∀ b∈fp,FpOk X pins H b)→tn i s.heap→J.stop i H →
  wpAny (model P w) X.A (pyNext (.ref it)) (fun r s1=>r=none∧Inv X pins σ H s1) E s
 self:∀ (A:Around) (i:Nat) (s:Shared) (Q:Value→Shared→Prop) (E:Value→Shared→Prop),tn i s.heap→Q (.ref it) s→wpAny (model P w) A (pyIter (.ref it)) Q E s
abbrev TI:=St→Hp→(It→Hp→Prop)→Prop
def PIE (X:Cx)(pins:List (Addr×Obj))(σ:St)(tg:Expr)(R:It→Hp→Prop)(itv:Value)(s2:Shared):Prop:=
 ∃ (it:Addr) (fp:List Addr) (tn:Nat→Heap→Prop) (J:It) (H':Hp),itv = .ref it∧Inv X pins σ H' s2∧Turn X.prog X.w X.K tg J fp it tn∧tn 0 s2.heap∧(∀ b∈fp,FpOk X pins H' b)∧R J H'
def PI (X:Cx)(tg iter:Expr)(wi:TI):Prop:=
 ∀ (pins:List (Addr×Obj)) (s:Shared) (σ:St) (H:Hp) (R:It→Hp→Prop),Inv X pins σ H s→wi σ H R →
  wpAny (model X.prog X.w) X.A (eval iter X.env) (fun v s1=>wpAny (model X.prog X.w) X.A (pyIter v) (PIE X pins σ tg R) X.xe s1) X.xe s
theorem zji {M:Model}{A:Around}{E:Value→Shared→Prop}{s:Shared}{tg:Expr}{it:Addr}{u:Value}{o:Obj}{n:String}{vs:Array Value}{Q:Unit→Shared→Prop}(ho:s.heap.get? it=some o)(hc:o.cls = .type n)(hd:o.data = .fields vs)
    (hn:["enumerate","zip","dict_itemiterator","dict_reverseitemiterator","odict_iterator","itertools.zip_longest","itertools.pairwise"].contains n=false) (hQ:Q () s):wpAny M A (letOwnedTupleGo tg (.ref it) u) Q E s:=by
  unfold letOwnedTupleGo
  cases tg <;> first
    | exact Xad hQ
    | (cases u <;> first
        | exact Xad hQ
        | (refine Xaa (wpAny_load ho ?_)
           rw [hc,hd]
           show wpAny M A (if (["enumerate","zip","dict_itemiterator","dict_reverseitemiterator","odict_iterator","itertools.zip_longest","itertools.pairwise"].contains n && vs[0]? == some (rawInt _))=true then _ else _) Q E s
           rw [if_neg (by intro h;rw [hn,Bool.false_and] at h;cases h)]
           exact Xad hQ))
def Itl (K:W.Frag)(a:Addr):It:=
 ⟨fun i H=>∃ xs x,SqL K H a xs∧xs[i]? = some x,fun i H x H'=>H'=H∧∀ xs,SqL K H a xs→xs[i]? = some x,fun i H=>∃ xs,SqL K H a xs∧xs.length≤i⟩
def Itt (K:W.Frag)(a:Addr):It:=
 ⟨fun i H=>∃ xs x,SqT K H a xs∧xs[i]? = some x,fun i H x H'=>H'=H∧∀ xs,SqT K H a xs→xs[i]? = some x,fun i H=>∃ xs,SqT K H a xs∧xs.length≤i⟩
def Itr (lo:Int)(n:Nat):It:=⟨fun i _=>i<n,fun i H x H'=>H'=H∧x = .int (lo+i),fun i _=>n≤i⟩
theorem zhl {P:Program}{w:World}{K:W.Frag}{tg:Expr}(a it:Addr):Turn P w K tg (Itl K a) [it] it (fun i h=>h.IsListIter it a i) where
 mem:=by simp
 obj:=fun i h st b hb=>by
  have e:b=it:=by simpa using hb
  subst e
  obtain ⟨o,e,c,d⟩:=st
  exact ⟨o,e,fun v z=>by rw [d] at z;cases z⟩
 keep:=fun i h h' st k=>st.at fun o e=>k it (by simp) o e
 item:=by
  intro X hP hw hK hc i pins s σ H E I hf st hg
  subst hP hw hK
  obtain ⟨xs,x,hq,hx⟩:=hg
  obtain ⟨its,rv,p,hz⟩:=I.list hq
  obtain ⟨u,hu,ru⟩:=rv.get hx
  obtain ⟨f0,f1,f2,f3,f4,f5⟩:=hf it (by simp)
  refine wpAny_pyNext_list_item st p.isList (x:=u) (by simpa using hu) fun h' st' sb=>?_
  have I1:Inv X pins σ H { s with heap:=h' }:=I.turned (t':=s.toks) (fun b o hb e=>(sb.2 b hb).trans e) f0 f1 f3 f4 f5
  obtain ⟨o,e,c,d⟩:=id st'
  exact ⟨u,rfl,zji (s:={ s with heap:=h' }) e c d (by decide) ⟨x,H,I1,ru,⟨rfl,fun ys hy=>by rw [I.list_inj hy hq];exact hx⟩,st',fun b hb=>(hf b hb).1⟩⟩
 done:=by
  intro X hP hw hK hc i pins s σ H E I hf st hg
  subst hP hw hK
  obtain ⟨xs,hq,hx⟩:=hg
  obtain ⟨its,rv,p,hz⟩:=I.list hq
  obtain ⟨f0,f1,f2,f3,f4,f5⟩:=hf it (by simp)
  have hl:=rv.length
  exact wpAny_pyNext_list_end (I.ok.hd hc) st p.isList (by simp;omega) fun h' eb=>⟨rfl,I.turned (t':=s.toks) (fun b o hb e=>eb b o hb e) f0 f1 f3 f4 f5⟩
 self:=fun _ _ _ _ _ st h=>wpAny_pyIter_listiter st h
theorem zgK {P:Program}{w:World}{K:W.Frag}{tg:Expr}(a it:Addr):Turn P w K tg (Itt K a) [it] it (fun i h=>h.IsTupleIter it a i) where
 mem:=by simp
 obj:=fun i h st b hb=>by
  have e:b=it:=by simpa using hb
  subst e
  obtain ⟨o,e,c,d⟩:=st
  exact ⟨o,e,fun v z=>by rw [d] at z;cases z⟩
 keep:=fun i h h' st k=>st.at fun o e=>k it (by simp) o e
 item:=by
  intro X hP hw hK hc i pins s σ H E I hf st hg
  subst hP hw hK
  obtain ⟨xs,x,hq,hx⟩:=hg
  obtain ⟨its,rv,p,hz⟩:=I.tuple hq
  obtain ⟨u,hu,ru⟩:=rv.get hx
  obtain ⟨f0,f1,f2,f3,f4,f5⟩:=hf it (by simp)
  refine wpAny_pyNext_tuple_item st (show s.heap.IsTuple a its.toArray from p) (x:=u) (by simpa using hu) fun h' st' sb=>?_
  have I1:Inv X pins σ H { s with heap:=h' }:=I.turned (t':=s.toks) (fun b o hb e=>(sb.2 b hb).trans e) f0 f1 f3 f4 f5
  obtain ⟨o,e,c,d⟩:=id st'
  exact ⟨u,rfl,zji (s:={ s with heap:=h' }) e c d (by decide) ⟨x,H,I1,ru,⟨rfl,fun ys hy=>by rw [I.tuple_inj hy hq];exact hx⟩,st',fun b hb=>(hf b hb).1⟩⟩
 done:=by
  intro X hP hw hK hc i pins s σ H E I hf st hg
  subst hP hw hK
  obtain ⟨xs,hq,hx⟩:=hg
  obtain ⟨its,rv,p,hz⟩:=I.tuple hq
  obtain ⟨f0,f1,f2,f3,f4,f5⟩:=hf it (by simp)
  have hl:=rv.length
  exact wpAny_pyNext_tuple_end (I.ok.hd hc) st (show s.heap.IsTuple a its.toArray from p) (by simp;omega) fun h' eb=>⟨rfl,I.turned (t':=s.toks) (fun b o hb e=>eb b o hb e) f0 f1 f3 f4 f5⟩
 self:=fun _ _ _ _ _ st h=>wpAny_pyIter_tupleiter st h
theorem zgL {P:Program}{w:World}{K:PySem.W.Frag}{tg:Expr}(it:Addr)(lo:Int)(n:Nat):Turn P w K tg (Itr lo n) [it] it (fun i h=>IsRangeIter h it (lo+(i:Nat) * 1) ((n:Int) - (i:Nat)) 1) where
 mem:=by simp
 obj:=fun i h st b hb=>by
  have e:b=it:=by simpa using hb
  subst e
  exact ⟨_,st,fun v z=>by
   have z':Data.fields _=Data.cell v:=z
   cases z'⟩
 keep:=fun i h h' st k=>k it (by simp) _ st
 item:=by
  intro X hP hw hK hc i pins s σ H E I hf st hg
  subst hP hw hK
  obtain ⟨f0,f1,f2,f3,f4,f5⟩:=hf it (by simp)
  have W:=Walks.range (prog:=X.prog) (w:=X.w) (I.ok.hd hc) it lo 1 n
  refine W.item i s _ _ hg st fun v h' tk hv st' kk=>?_
  obtain ⟨t,rfl⟩:=hv
  have I1:Inv X pins σ H { s with heap:=h',toks:=tk }:=I.turned (fun b o hb e=>kk b o (by simpa using hb) e) f0 f1 f3 f4 f5
  refine ⟨_,rfl,zji (s:={ s with heap:=h',toks:=tk }) (n := "range_iterator") st' rfl rfl (by decide) ⟨.int (lo+i),H,I1,⟨t,?_⟩,⟨rfl,rfl⟩,st',fun b hb=>(hf b hb).1⟩⟩
  rw [Int.mul_one]
 done:=by
  intro X hP hw hK hc i pins s σ H E I hf st hg
  subst hP hw hK
  obtain ⟨f0,f1,f2,f3,f4,f5⟩:=hf it (by simp)
  exact wpAny_pyNext_range_end (I.ok.hd hc) st (by have:n≤i:=hg;omega) fun h' eb=>⟨rfl,I.turned (t':=s.toks) (fun b o hb e=>eb b o hb e) f0 f1 f3 f4 f5⟩
 self:=fun _ _ _ _ _ st h=>wpAny_pyIter_rangeiter st h
section
variable {X:Cx}{tg:Expr}
inductive iList_1 (K:W.Frag)(R:It→Hp→Prop)(x:V)(H1:Hp):Prop
 | mk (a:_) (z0_:x = .ref a) (z1_:(∃ xs,SqL K H1 a xs)) (z2_:R (Itl K a) H1)
def iList (K:W.Frag)(tl:TE):TI:=fun σ H R=>tl σ H (iList_1 K R)
inductive iTup_1 (K:W.Frag)(R:It→Hp→Prop)(x:V)(H1:Hp):Prop
 | mk (a:_) (z0_:x = .ref a) (z1_:(∃ xs,SqT K H1 a xs)) (z2_:R (Itt K a) H1)
def iTup (K:W.Frag)(tl:TE):TI:=fun σ H R=>tl σ H (iTup_1 K R)
theorem zbA {l:Expr}{tl:TE}(hl:PE X l tl):PI X tg l (iList X.K tl):=by
 intro pins s σ H R I h
 refine thn (hl pins s σ H _ I h) fun v s1 hh_=>?_
 obtain ⟨x,H1,I1,r1,q1⟩:=hh_
 obtain ⟨a,e,⟨xs,hq⟩,q⟩:=q1
 subst e
 cases r1
 obtain ⟨its,rv,p,hz⟩:=I1.list hq
 refine wpAny_pyIter_list p.isList ?_
 refine ⟨s1.heap.objs.size,[s1.heap.objs.size],_,_,H1,rfl,I1.kept (t':=s1.toks) fun b o e=>Xab _ e,zhl a _,⟨_,Xah _ rfl,rfl,rfl⟩,fun b hb=>?_,q⟩
 have e:b=s1.heap.objs.size:=by simpa using hb
 subst e
 exact I1.fpOk (Xaf _) (I1.hok.fresh (Xaf _))
theorem zhE {l:Expr}{tl:TE}(hl:PE X l tl):PI X tg l (iTup X.K tl):=by
 intro pins s σ H R I h
 refine thn (hl pins s σ H _ I h) fun v s1 hh_=>?_
 obtain ⟨x,H1,I1,r1,q1⟩:=hh_
 obtain ⟨a,e,⟨xs,hq⟩,q⟩:=q1
 subst e
 cases r1
 obtain ⟨its,rv,p,hz⟩:=I1.tuple hq
 refine XbO (show s1.heap.IsTuple a its.toArray from p) ?_
 refine ⟨s1.heap.objs.size,[s1.heap.objs.size],_,_,H1,rfl,I1.kept (t':=s1.toks) fun b o e=>Xab _ e,zgK a _,⟨_,Xah _ rfl,rfl,rfl⟩,fun b hb=>?_,q⟩
 have e:b=s1.heap.objs.size:=by simpa using hb
 subst e
 exact I1.fpOk (Xaf _) (I1.hok.fresh (Xaf _))
theorem zgl {pins:List (Addr×Obj)}{σ:St}{H:Hp}{s:Shared}{R:It→Hp→Prop}{E:Value→Shared→Prop}{lo hi:Int}{t u v:Tok}{tk:Nat}(I:Inv X pins σ H s)(h1:-(2 ^ 62)≤lo)(h2:lo<2 ^ 62)(h3:-(2 ^ 62)≤hi)(h4:hi<2 ^ 62)
  (q:R (Itr lo (hi - lo).toNat) H):wpAny (model X.prog X.w) X.A (pyIter (.ref s.heap.objs.size)) (PIE X pins σ tg R) E { s with heap:=s.heap.push { cls:=.type "range",data:=.fields #[.int lo t,.int hi u,.int 1 v] },toks:=tk }:=by
 refine wpAny_pyIter_range (IsRange.new ..) (small_one h1 h2 h3 h4) ?_
 have I1:Inv X pins σ H { s with heap:=s.heap.push { cls:=.type "range",data:=.fields #[.int lo t,.int hi u,.int 1 v] },toks:=tk }:=I.kept fun b o e=>Xab _ e
 refine ⟨(s.heap.push { cls:=.type "range",data:=.fields #[.int lo t,.int hi u,.int 1 v] }).objs.size,[(s.heap.push { cls:=.type "range",data:=.fields #[.int lo t,.int hi u,.int 1 v] }).objs.size],_,_,H,rfl,
  I1.kept (t':=tk) fun b o e=>Xab _ e,zgL _ lo (hi - lo).toNat,?_,fun b hb=>?_,q⟩
 ·have e1:lo+((0:Nat):Int) * 1=lo:=by simp
  have e2:(((hi - lo).toNat:Nat):Int) - ((0:Nat):Int)=Builtin.Range.rangeSize lo hi 1:=by rw [rangeSize_one];split <;> omega
  show IsRangeIter _ _ (lo+((0:Nat):Int) * 1) ((((hi - lo).toNat:Nat):Int) - ((0:Nat):Int)) 1
  rw [e1,e2]
  exact Xah _ rfl
 ·have e:b=(s.heap.push { cls:=.type "range",data:=.fields #[.int lo t,.int hi u,.int 1 v] }).objs.size:=by simpa using hb
  subst e
  exact I1.fpOk (Xaf _) (I1.hok.fresh (Xaf _))
inductive iRng1_1 (R:It→Hp→Prop)(vs:List V)(H1:Hp):Prop
 | mk (j:Int) (z0_:vs=[.int j]) (z1_:-(2 ^ 62)≤j) (z2_:j<2 ^ 62) (z3_:R (Itr 0 j.toNat) H1)
def iRng1 (ta:TA):TI:=fun σ H R=>ta σ H (iRng1_1 R)
inductive iRng2_1 (R:It→Hp→Prop)(vs:List V)(H1:Hp):Prop
 | mk (i j:Int) (z0_:vs=[.int i,.int j]) (z1_:(-(2 ^ 62)≤i∧i<2 ^ 62∧-(2 ^ 62)≤j∧j<2 ^ 62)) (z2_:R (Itr i (j - i).toNat) H1)
def iRng2 (ta:TA):TI:=fun σ H R=>ta σ H (iRng2_1 R)
theorem zbu {a:Expr}{ta:TA}{p pos:Pos}(hg:Gl X "range")(hm:X.mg "range" = none)(ha:PA X [a] ta)(hs:starEach [a] X.env=[(false,eval a X.env)]:=by rfl):PI X tg (.Call (.Name "range" p) [a] [] pos) (iRng1 ta):=by
 intro pins s σ H R I h
 refine Call_ (zcr I hg hm boot_range (PyProof.Rows.callWith_type1 (thn (ha pos pins s σ H _ I h) fun us s1 hh_=>?_) hs rfl))
 obtain ⟨vs,H1,I1,r1,q1⟩:=hh_
 obtain ⟨j,e,q1,q2,q⟩:=q1
 subst e
 cases r1 with
 | cons r rr =>
  cases rr
  obtain ⟨t,rfl⟩:=r
  exact call_range_1 (zgl I1 (by omega) (by omega) q1 q2 (by simpa using q))
theorem zhF {a b:Expr}{ta:TA}{p pos:Pos}(hg:Gl X "range")(hm:X.mg "range" = none)(ha:PA X [a,b] ta)(hs:starEach [a,b] X.env=[(false,eval a X.env),(false,eval b X.env)]:=by rfl)(hs2:starEach [b] X.env=[(false,eval b X.env)]:=by rfl) :
  PI X tg (.Call (.Name "range" p) [a,b] [] pos) (iRng2 ta):=by
 intro pins s σ H R I h
 refine Call_ (zcr I hg hm boot_range (PyProof.Rows.callWith_type1 (thn (ha pos pins s σ H _ I h) fun us s1 hh_=>?_) (by rw [hs,hs2]) (by rw [hs2];rfl)))
 obtain ⟨vs,H1,I1,r1,q1⟩:=hh_
 obtain ⟨i,j,e,⟨q1,q2,q3,q4⟩,q⟩:=q1
 subst e
 cases r1 with
 | cons r rr =>
  cases rr with
  | cons r' rr =>
   cases rr
   obtain ⟨t,rfl⟩:=r
   obtain ⟨t',rfl⟩:=r'
   exact call_range_2 (zgl I1 q1 q2 q3 q4 q)
def tFor (wi:TI)(g:TG)(tb:TS):TS:=fun D σ H=>wi σ H fun J H1=>∃ W:Nat→Nat→St→Hp→Prop,(∃ m,W 0 m σ H1)∧∀ i m σ H,W i m σ H →
 (J.stop i H∧D.nx σ H)∨(J.go i H∧∃ N:St→Hp→Prop,(∀ σ' H',N σ' H'→∃ m',m'<m∧W (i+1) m' σ' H')∧∀ x H',J.yld i H x H'→g x σ H' fun σ2 H2=>tb { D with nx:=N,ct:=N,bk:=D.nx } σ2 H2)
def zd0 (fp:List Addr)(h:Heap):List (Addr×Obj):=fp.filterMap fun b=>(h.get? b).map fun o=>(b,o)
theorem za9 {fp:List Addr}{h:Heap}{b:Addr}{o:Obj}(hb:b∈fp)(e:h.get? b=some o):(b,o)∈zd0 fp h:=List.mem_filterMap.mpr ⟨b,hb,by rw [e];rfl⟩
theorem zhT {fp:List Addr}{h:Heap}{p:Addr×Obj}(hp:p∈zd0 fp h):p.1∈fp∧h.get? p.1=some p.2:=by
 obtain ⟨b,hb,e⟩:=List.mem_filterMap.mp hp
 cases q:h.get? b with
 | none=>rw [q] at e;cases e
 | some o =>
  rw [q] at e
  have e':(b,o)=p:=Option.some.inj e
  subst e'
  exact ⟨hb,q⟩
theorem Inv.pinned {pins:List (Addr×Obj)}{σ:St}{H:Hp}{s:Shared}{fp:List Addr}(I:Inv X pins σ H s)(hf:∀ b∈fp,FpOk X pins H b)(ho:∀ b∈fp,∃ o,s.heap.get? b=some o∧∀ v,o.data≠.cell v):Inv X (pins ++ zd0 fp s.heap) σ H s:=
 I.pins_of fun p hp=>(XaF.mp hp).elim (fun z=>I.pin p (Xax _ z)) fun z=>by
  obtain ⟨hb,e⟩:=zhT z
  obtain ⟨f0,f1,f2,_⟩:=hf p.1 hb
  obtain ⟨o,e',d⟩:=ho p.1 hb
  rw [e] at e';cases e'
  exact ⟨e,f0,f1,f2,d⟩
theorem Inv.unpinned {pins pl:List (Addr×Obj)}{σ:St}{H:Hp}{s:Shared}(I:Inv X (pins ++ pl) σ H s):Inv X pins σ H s:=I.pins_of fun p hp=>I.pin p (Xax _ (XaV _ hp))
theorem zbg {iter:Expr}{body:List Stmt}{wi:TI}{g:TG}{tb:TS}{pos:Pos}(hp:PassesOwn (model X.prog X.w) X.A X.env X.xe)(hc:X.calm=true)(hi:PI X tg iter wi)(hg:PG X tg g)(hb:PSs X body tb)
  (hs:∀ x,foldedSetIterable iter X.env x=pure x:=by intro _;rfl):PS X (.For tg iter body [] pos) (tFor wi g tb):=by
 intro pins s σ H D I h
 refine wpAny_For (thn (hi pins s σ H _ I h) fun v s1 h1=>thn h1 fun itv s2 h2=>?_) hs
 obtain ⟨it,fp,tn,J,H2,e,I2,T,st2,f2,W,⟨m0,w0⟩,turn⟩:=h2
 subst e
 
 have stat:∀ {H':Hp},(∀ b∈fp,H' b=none)→∀ b∈fp,FpOk X pins H' b:=fun hn b hb=>⟨hn b hb,(f2 b hb).2⟩
 refine codeAny_forLoop_any (fun n s'=>∃ i σ' H',Inv X pins σ' H' s'∧tn i s'.heap∧(∀ b∈fp,H' b=none)∧W i n σ' H') ?_ m0 ⟨0,σ,H2,I2,st2,fun b hb=>(f2 b hb).1,w0⟩
 rintro n s3 ⟨i,σ3,H3,I3,st3,fr3,w3⟩
 rcases turn i n σ3 H3 w3 with ⟨stop,qn⟩ | ⟨go,N,hN,step⟩
 ·refine Xbz hp (thn (T.done X rfl rfl rfl hc i pins s3 σ3 H3 X.xe I3 (stat fr3) st3 stop) fun r s4 ⟨hr,I4⟩=>?_)
  subst hr
  exact XbN ⟨σ3,H3,I4,qn⟩
 ·refine Xbz hp (thn (T.item X rfl rfl rfl hc i pins s3 σ3 H3 X.xe I3 (stat fr3) st3 go) fun r s4 ⟨u,hr,h4⟩=>?_)
  subst hr
  refine Xbz hp (thn h4 fun _ s5 hh_=>?_)
  obtain ⟨x,H5,I5,r5,y5,st5,fr5⟩:=hh_
  have I5':=I5.pinned (stat fr5) (T.obj _ _ st5)
  refine Xbz hp (thn (hg _ s5 σ3 H5 x u _ I5' r5 (step x H5 y5)) fun _ s6 ⟨σ6,H6,I6,q6⟩=>?_)
  refine Xbz hp (thn (hb _ s6 σ6 H6 _ I6 q6) fun f s7 q7=>?_)
  have again:∀ {σ7:St} {H7:Hp},Inv X (pins ++ zd0 fp s5.heap) σ7 H7 s7→N σ7 H7→∃ m,m<n∧∃ i σ' H',Inv X pins σ' H' s7∧tn i s7.heap∧(∀ b∈fp,H' b=none)∧W i m σ' H':=fun {σ7 H7} I7 n7=>by
   obtain ⟨m',hm,w7⟩:=hN σ7 H7 n7
   refine ⟨m',hm,i+1,σ7,H7,I7.unpinned,T.keep _ _ _ st5 fun b hb o e=>(I7.pin (b,o) (Xax _ (Xax _ (za9 hb e)))).1,fun b hb=>?_,w7⟩
   obtain ⟨o,e,d⟩:=T.obj _ _ st5 b hb
   exact (I7.pin (b,o) (Xax _ (Xax _ (za9 hb e)))).2.1
  cases f with
  | next=>obtain ⟨σ7,H7,I7,n7⟩:=q7;exact again I7 n7
  | cont=>obtain ⟨σ7,H7,I7,n7⟩:=q7;exact again I7 n7
  | brk=>obtain ⟨σ7,H7,I7,q7⟩:=q7;exact ⟨σ7,H7,I7.unpinned,q7⟩
  | ret v=>obtain ⟨x7,σ7,H7,I7,r7,q7⟩:=q7;exact ⟨x7,σ7,H7,I7.unpinned,r7,q7⟩
end
theorem zda {K:PySem.W.Frag}{a:Addr}{xs:List V}{g:TG}{tb:TS}{D:Ends}{σ:St}{H:Hp}(Pv:Nat→St→Hp→Prop)(h0:Pv 0 σ H)(hl:∀ i σ H,i≤xs.length→Pv i σ H→SqL K H a xs)
  (hs:∀ i x σ H,xs[i]? = some x→Pv i σ H→g x σ H fun σ2 H2=>tb { D with nx:=Pv (i+1),ct:=Pv (i+1),bk:=D.nx } σ2 H2) (hd:∀ σ H,Pv xs.length σ H→D.nx σ H) :
  ∃ W:Nat→Nat→St→Hp→Prop,(∃ m,W 0 m σ H)∧∀ i m σ H,W i m σ H →
   ((Itl K a).stop i H∧D.nx σ H)∨((Itl K a).go i H∧∃ N:St→Hp→Prop,(∀ σ' H',N σ' H'→∃ m',m'<m∧W (i+1) m' σ' H')∧∀ x H',(Itl K a).yld i H x H'→g x σ H' fun σ2 H2=>tb { D with nx:=N,ct:=N,bk:=D.nx } σ2 H2):=by
 refine ⟨fun i m σ H=>m=xs.length - i∧i≤xs.length∧Pv i σ H,⟨xs.length,by simp,Nat.zero_le _,h0⟩,?_⟩
 rintro i m σ H ⟨rfl,hi,p⟩
 have q:=hl i σ H hi p
 by_cases hlt:i<xs.length
 ·refine .inr ⟨⟨xs,xs[i],q,by simp [hlt]⟩,Pv (i+1),fun σ' H' p'=>⟨xs.length - (i+1),by omega,rfl,hlt,p'⟩,fun x H' y=>?_⟩
  obtain ⟨e,y⟩:=y
  subst e
  exact hs i x σ _ (y xs q) p
 ·have e:i=xs.length:=by omega
  subst e
  exact .inl ⟨⟨xs,q,Xaf _⟩,hd σ H p⟩
theorem zkM {K:PySem.W.Frag}{a:Addr}{xs:List V}{g:TG}{tb:TS}{D:Ends}{σ:St}{H:Hp}(Pv:Nat→St→Hp→Prop)(h0:Pv 0 σ H)(hl:∀ i σ H,i≤xs.length→Pv i σ H→SqT K H a xs)
  (hs:∀ i x σ H,xs[i]? = some x→Pv i σ H→g x σ H fun σ2 H2=>tb { D with nx:=Pv (i+1),ct:=Pv (i+1),bk:=D.nx } σ2 H2) (hd:∀ σ H,Pv xs.length σ H→D.nx σ H) :
  ∃ W:Nat→Nat→St→Hp→Prop,(∃ m,W 0 m σ H)∧∀ i m σ H,W i m σ H →
   ((Itt K a).stop i H∧D.nx σ H)∨((Itt K a).go i H∧∃ N:St→Hp→Prop,(∀ σ' H',N σ' H'→∃ m',m'<m∧W (i+1) m' σ' H')∧∀ x H',(Itt K a).yld i H x H'→g x σ H' fun σ2 H2=>tb { D with nx:=N,ct:=N,bk:=D.nx } σ2 H2):=by
 refine ⟨fun i m σ H=>m=xs.length - i∧i≤xs.length∧Pv i σ H,⟨xs.length,by simp,Nat.zero_le _,h0⟩,?_⟩
 rintro i m σ H ⟨rfl,hi,p⟩
 have q:=hl i σ H hi p
 by_cases hlt:i<xs.length
 ·refine .inr ⟨⟨xs,xs[i],q,by simp [hlt]⟩,Pv (i+1),fun σ' H' p'=>⟨xs.length - (i+1),by omega,rfl,hlt,p'⟩,fun x H' y=>?_⟩
  obtain ⟨e,y⟩:=y
  subst e
  exact hs i x σ _ (y xs q) p
 ·have e:i=xs.length:=by omega
  subst e
  exact .inl ⟨⟨xs,q,Xaf _⟩,hd σ H p⟩
theorem zbQ {lo:Int}{n:Nat}{g:TG}{tb:TS}{D:Ends}{σ:St}{H:Hp}(Pv:Nat→St→Hp→Prop)(h0:Pv 0 σ H)
  (hs:∀ i σ H,i<n→Pv i σ H→g (.int (lo+i)) σ H fun σ2 H2=>tb { D with nx:=Pv (i+1),ct:=Pv (i+1),bk:=D.nx } σ2 H2) (hd:∀ σ H,Pv n σ H→D.nx σ H) :
  ∃ W:Nat→Nat→St→Hp→Prop,(∃ m,W 0 m σ H)∧∀ i m σ H,W i m σ H →
   ((Itr lo n).stop i H∧D.nx σ H)∨((Itr lo n).go i H∧∃ N:St→Hp→Prop,(∀ σ' H',N σ' H'→∃ m',m'<m∧W (i+1) m' σ' H')∧∀ x H',(Itr lo n).yld i H x H'→g x σ H' fun σ2 H2=>tb { D with nx:=N,ct:=N,bk:=D.nx } σ2 H2):=by
 refine ⟨fun i m σ H=>m=n - i∧i≤n∧Pv i σ H,⟨n,by simp,Nat.zero_le _,h0⟩,?_⟩
 rintro i m σ H ⟨rfl,hi,p⟩
 by_cases hlt:i<n
 ·refine .inr ⟨hlt,Pv (i+1),fun σ' H' p'=>⟨n - (i+1),by omega,rfl,hlt,p'⟩,fun x H' y=>?_⟩
  obtain ⟨e,y⟩:=y
  subst e y
  exact hs i σ _ hlt p
 ·have e:i=n:=by omega
  subst e
  exact .inl ⟨Xaf _,hd σ H p⟩
theorem zec {c:TT}{tb:TS}{D:Ends}{σ:St}{H:Hp}(Pv:St→Hp→Prop)(μ:St→Hp→Nat)(h0:Pv σ H)
  (hs:∀ σ H,Pv σ H→c σ H fun b H1=>if b=true then tb { D with nx:=fun σ' H'=>Pv σ' H'∧μ σ' H'<μ σ H,ct:=fun σ' H'=>Pv σ' H'∧μ σ' H'<μ σ H,bk:=D.nx } σ H1 else D.nx σ H1)
  (mono:∀ σ H Q Q',(∀ b H1,Q b H1→Q' b H1)→c σ H Q→c σ H Q'):zjC c tb D σ H:=by
 refine ⟨fun m σ H=>m=μ σ H∧Pv σ H,⟨_,rfl,h0⟩,?_⟩
 rintro m σ H ⟨rfl,p⟩
 refine mono σ H _ _ (fun b H1 q=>?_) (hs σ H p)
 cases b with
 | true=>exact ⟨_,fun σ' H' ⟨p',l⟩=>⟨_,l,rfl,p'⟩,q⟩
 | false=>exact q
abbrev R2:=V→V→Hp→VK→Prop
def OpR (X:Cx)(f:Value→Value→Sem Value)(r:R2):Prop:=
 ∀ (pins:List (Addr×Obj)) (s:Shared) (σ:St) (H:Hp) (x y:V) (v u:Value) (Q:VK),Inv X pins σ H s→RelV x v→RelV y u→r x y H Q →
  wpAny (model X.prog X.w) X.A (f v u) (EP X pins σ Q) X.xe s
def UnR (X:Cx)(f:Value→Sem Value)(r:V→Hp→VK→Prop):Prop:=
 ∀ (pins:List (Addr×Obj)) (s:Shared) (σ:St) (H:Hp) (x:V) (v:Value) (Q:VK),Inv X pins σ H s→RelV x v→r x H Q →
  wpAny (model X.prog X.w) X.A (f v) (EP X pins σ Q) X.xe s
def zbH (X:Cx)(f:Value)(r:List V→Hp→VK→Prop):Prop:=
 ∀ (pins:List (Addr×Obj)) (s:Shared) (σ:St) (H:Hp) (xs:List V) (us:List Value) (Q:VK),Inv X pins σ H s→Vals xs us→r xs H Q →
  wpAny (model X.prog X.w) X.A (call f us) (EP X pins σ Q) X.xe s
def TruR (X:Cx)(r:V→Hp→(Bool→Hp→Prop)→Prop):Prop:=
 ∀ (pins:List (Addr×Obj)) (s:Shared) (σ:St) (H:Hp) (x:V) (v:Value) (Q:Bool→Hp→Prop),Inv X pins σ H s→RelV x v→r x H Q →
  wpAny (model X.prog X.w) X.A (truthy v) (TP X pins σ Q) X.xe s
def tOp (r:R2)(ta tb:TE):TE:=fun σ H Q=>ta σ H fun x H1=>tb σ H1 fun y H2=>r x y H2 Q
def tUn (r:V→Hp→VK→Prop)(ta:TE):TE:=fun σ H Q=>ta σ H fun x H1=>r x H1 Q
inductive rI (C:Int→Int→Prop)(g:Int→Int→V)(x:V)(y:V)(H:Hp)(Q:VK):Prop
 | mk (i:_) (j:_) (z0_:x = .int i) (z1_:y = .int j) (z2_:C i j) (z3_:Q (g i j) H)
inductive rI0 (g:Int→Int→V)(x:V)(y:V)(H:Hp)(Q:VK):Prop
 | mk (i:_) (j:_) (z0_:x = .int i) (z1_:y = .int j) (z2_:Q (g i j) H)
inductive rU (g:Int→V)(x:V)(H:Hp)(Q:VK):Prop
 | mk (i:_) (z0_:x = .int i) (z1_:Q (g i) H)
section
variable {X:Cx}{a b c:Expr}{ta tb tc:TE}{pos:Pos}
theorem binT (ha:PE X a ta)(hb:PE X b tb){pins:List (Addr×Obj)}{s:Shared}{σ:St}{H:Hp}{R:V→V→Hp→Prop}(I:Inv X pins σ H s)
  (h:ta σ H fun x H1=>tb σ H1 fun y H2=>R x y H2) {Q:Value→Shared→Prop} {f:Value→Value→Sem Value}
  (hf:∀ v u s2 x y H2,Inv X pins σ H2 s2→RelV x v→RelV y u→R x y H2→wpAny (model X.prog X.w) X.A (f v u) Q X.xe s2) :
  wpAny (model X.prog X.w) X.A (eval a X.env) (fun v s₁=>wpAny (model X.prog X.w) X.A (eval b X.env) (fun u s₂=>wpAny (model X.prog X.w) X.A (f v u) Q X.xe s₂) X.xe s₁) X.xe s:=by
 refine thn (ha pins s σ H _ I h) fun v s1 hh_=>?_
 obtain ⟨x,H1,I1,r1,q1⟩:=hh_
 refine thn (hb pins s1 σ H1 _ I1 q1) fun u s2 hh_=>?_
 obtain ⟨y,H2,I2,r2,q2⟩:=hh_
 exact hf v u s2 x y H2 I2 r1 r2 q2
theorem zak {op:Operator}{r:R2}(ho:OpR X (binaryOp op) r)(ha:PE X a ta)(hb:PE X b tb):PE X (.BinOp a op b pos) (tOp r ta tb):=by
 intro pins s σ H Q I h
 exact wpAny_BinOp (binT ha hb I h fun v u s2 x y H2 I2 rx ry q=>ho pins s2 σ H2 x y v u Q I2 rx ry q)
theorem pe_un {op:UnaryOp}{r:V→Hp→VK→Prop}(ho:UnR X (unaryOp op) r)(ha:PE X a ta):PE X (.UnaryOp op a pos) (tUn r ta):=by
 intro pins s σ H Q I h
 exact UnaryOp_ (thn (ha pins s σ H _ I h) fun v s1 ⟨x,H1,I1,r1,q1⟩=>ho pins s1 σ H1 x v Q I1 r1 q1)
theorem opI {f:Value→Value→Sem Value}{C:Int→Int→Prop}{g:Int→Int→Int}
  (rule:∀ (i j:Int) (t u:Tok) (s:Shared) (Q:Value→Shared→Prop) (E:Value→Shared→Prop),C i j→Q (.int (g i j) s.toks) { s with toks:=s.toks+1 }→wpAny (model X.prog X.w) X.A (f (.int i t) (.int j u)) Q E s) :
  OpR X f (rI C fun i j=>.int (g i j)):=by
 intro pins s σ H x y v u Q I rx ry h
 obtain ⟨i,j,rfl,rfl,hc,q⟩:=h
 obtain ⟨t,rfl⟩:=rx
 obtain ⟨t',rfl⟩:=ry
 exact rule i j t t' s _ _ hc ⟨.int (g i j),H,I.tok _,⟨_,rfl⟩,q⟩
theorem opI0 {f:Value→Value→Sem Value}{g:Int→Int→Int}
  (rule:∀ (i j:Int) (t u:Tok) (s:Shared) (Q:Value→Shared→Prop) (E:Value→Shared→Prop),Q (.int (g i j) s.toks) { s with toks:=s.toks+1 }→wpAny (model X.prog X.w) X.A (f (.int i t) (.int j u)) Q E s) :
  OpR X f (rI0 fun i j=>.int (g i j)):=by
 intro pins s σ H x y v u Q I rx ry h
 obtain ⟨i,j,rfl,rfl,q⟩:=h
 obtain ⟨t,rfl⟩:=rx
 obtain ⟨t',rfl⟩:=ry
 exact rule i j t t' s _ _ ⟨.int (g i j),H,I.tok _,⟨_,rfl⟩,q⟩
theorem opB0 {f:Value→Value→Sem Value}{g:Int→Int→Bool}
  (rule:∀ (i j:Int) (t u:Tok) (s:Shared) (Q:Value→Shared→Prop) (E:Value→Shared→Prop),Q (.bool (g i j)) s→wpAny (model X.prog X.w) X.A (f (.int i t) (.int j u)) Q E s) :
  OpR X f (rI0 fun i j=>.bl (g i j)):=by
 intro pins s σ H x y v u Q I rx ry h
 obtain ⟨i,j,rfl,rfl,q⟩:=h
 obtain ⟨t,rfl⟩:=rx
 obtain ⟨t',rfl⟩:=ry
 exact rule i j t t' s _ _ ⟨.bl (g i j),H,I,rfl,q⟩
def CPow (i j:Int):Prop:=0≤j∧j≤1000000∧i.natAbs<2 ^ 64
theorem zgJ (k:Nat):(0:Int)≤2 ^ k:=by
 rw [two_pow_cast]
 exact Int.natCast_nonneg _
theorem zaM:OpR X (binaryOp .Add) (rI0 fun i j=>.int (i+j)):=opI0 fun _ _ _ _ _ _ _ q=>add_int q
theorem zb5:OpR X (binaryOp .Sub) (rI0 fun i j=>.int (i - j)):=opI0 fun _ _ _ _ _ _ _ q=>sub_int q
theorem zax:OpR X (binaryOp .Mod) (rI (fun _ j=>0<j) fun i j=>.int (i % j)):=opI fun i j _ _ _ _ _ hc q=>by
 have h1:(0:Int)<j:=hc
 exact mod_int' (by omega) (by rw [Int.fmod_eq_emod_of_nonneg i (by omega)];exact q)
theorem zgq:OpR X (binaryOp .Pow) (rI CPow fun i j=>.int (i ^ j.toNat)):=opI fun _ _ _ _ _ _ _ hc q=>pow_int_small hc.1 hc.2.1 hc.2.2 q
theorem zd3:OpR X (binaryOp .LShift) (rI CPow fun i j=>.int (i * 2 ^ j.toNat)):=opI fun _ _ _ _ _ _ _ hc q=>lshift_int_small hc.1 hc.2.1 hc.2.2 q
theorem op_shr:OpR X (binaryOp .RShift) (rI (fun _ j=>0≤j) fun i j=>.int (i / 2 ^ j.toNat)):=opI fun i j _ _ _ _ _ hc q =>
 rshift_int hc (by rw [Int.fdiv_eq_ediv_of_nonneg i (zgJ _)];exact q)
theorem zaW:OpR X (binaryOp .BitAnd) (rI0 fun i j=>.int (Builtin.bitAnd i j)):=opI0 fun _ _ _ _ _ _ _ q=>and_int q
theorem zhM:OpR X (binaryOp .BitOr) (rI0 fun i j=>.int (Builtin.bitOr i j)):=opI0 fun _ _ _ _ _ _ _ q=>or_int q
theorem zhL:OpR X (binaryOp .BitXor) (rI0 fun i j=>.int (Builtin.bitXor i j)):=opI0 fun _ _ _ _ _ _ _ q=>xor_int q
theorem zh2:OpR X (inplaceOp .Add) (rI0 fun i j=>.int (i+j)):=opI0 fun _ _ _ _ _ _ _ q=>iadd_int q
theorem unI {f:Value→Sem Value}{g:Int→Int}
  (rule:∀ (i:Int) (t:Tok) (s:Shared) (Q:Value→Shared→Prop) (E:Value→Shared→Prop),Q (.int (g i) s.toks) { s with toks:=s.toks+1 }→wpAny (model X.prog X.w) X.A (f (.int i t)) Q E s) :
  UnR X f (rU fun i=>.int (g i)):=by
 intro pins s σ H x v Q I rx h
 obtain ⟨i,rfl,q⟩:=h
 obtain ⟨t,rfl⟩:=rx
 exact rule i t s _ _ ⟨.int (g i),H,I.tok _,⟨_,rfl⟩,q⟩
theorem zjA:UnR X (unaryOp .USub) (rU fun i=>.int (-i)):=unI fun _ _ _ _ _ q=>neg_int q
end
def scal:V→V→Bool
 | .non,.non=>true | .non,.int _=>true | .int _,.non=>true | .non,.bl _=>true | .bl _,.non=>true | .non,.str _=>true | .str _,.non=>true
 | .int _,.int _=>true | .bl _,.bl _=>true | .str _,.str _=>true | .byt _,.byt _=>true
 | .int _,.str _=>true | .str _,.int _=>true | .bl _,.str _=>true | .str _,.bl _=>true
 | _,_=>false
def rEq:R2:=fun x y H Q=>scal x y=true∧Q (.bl (decide (x=y))) H
def rNe:R2:=fun x y H Q=>scal x y=true∧Q (.bl (!decide (x=y))) H
theorem zic {i j:Int}:decide (V.int i=V.int j)=(i == j):=by
 rw [Bool.eq_iff_iff]
 simp
theorem zj1 {i j:Bool}:decide (V.bl i=V.bl j)=(i == j):=by
 rw [Bool.eq_iff_iff]
 simp
theorem zib {i j:Str}:decide (V.str i=V.str j)=(i == j):=by
 rw [Bool.eq_iff_iff]
 simp
theorem zid {i j:Array UInt8}:decide (V.byt i=V.byt j)=(i.toList == j.toList):=by
 rw [Bool.eq_iff_iff]
 cases i
 cases j
 simp
section
variable {X:Cx}{a b c:Expr}{ta tb tc:TE}{pos:Pos}
theorem zaF {pins:List (Addr×Obj)}{σ:St}{H:Hp}{s:Shared}{Q:VK}{k k':Bool}(I:Inv X pins σ H s)(q:Q (.bl k) H)(e:k=k'):EP X pins σ Q (.bool k') s:=by
 subst e
 exact ⟨.bl k,H,I,rfl,q⟩
theorem zbG:OpR X (compareOp .Eq) rEq:=by
 intro pins s σ H x y v u Q I rx ry h
 obtain ⟨hs,q⟩:=h
 cases x with
 | non =>
  cases rx
  cases y with
  | non=>cases ry;exact PySem.EqNone.eq_none_none (zaF I q (by simp))
  | bl j=>cases ry;exact PySem.EqNone.eq_none_bool (zaF I q (by simp))
  | int j=>obtain ⟨t',rfl⟩:=ry;exact PySem.EqNone.eq_none_int (zaF I q (by simp))
  | str j=>obtain ⟨t',rfl⟩:=ry;exact PySem.EqNone.eq_none_str (zaF I q (by simp))
  | _=>exact absurd (show false=true from hs) Xaq
 | bl i =>
  cases rx
  cases y with
  | non=>cases ry;exact PySem.EqNone.eq_bool_none (zaF I q (by simp))
  | bl j=>cases ry;exact eq_bool (zaF I q zj1)
  | str j=>obtain ⟨t',rfl⟩:=ry;exact PySem.EqMixed.eq_bool_str (zaF I q (by simp))
  | _=>exact absurd (show false=true from hs) Xaq
 | int i =>
  obtain ⟨t,rfl⟩:=rx
  cases y with
  | non=>cases ry;exact PySem.EqNone.eq_int_none (zaF I q (by simp))
  | int j=>obtain ⟨t',rfl⟩:=ry;exact eq_int (zaF I q zic)
  | str j=>obtain ⟨t',rfl⟩:=ry;exact PySem.EqMixed.eq_int_str (zaF I q (by simp))
  | _=>exact absurd (show false=true from hs) Xaq
 | str i =>
  obtain ⟨t,rfl⟩:=rx
  cases y with
  | non=>cases ry;exact PySem.EqNone.eq_str_none (zaF I q (by simp))
  | bl j=>cases ry;exact PySem.EqMixed.eq_str_bool (zaF I q (by simp))
  | int j=>obtain ⟨t',rfl⟩:=ry;exact PySem.EqMixed.eq_str_int (zaF I q (by simp))
  | str j=>obtain ⟨t',rfl⟩:=ry;exact eq_str (zaF I q zib)
  | _=>exact absurd (show false=true from hs) Xaq
 | byt i =>
  obtain ⟨t,rfl⟩:=rx
  cases y with
  | byt j=>obtain ⟨t',rfl⟩:=ry;exact W.eq_bytes (zaF I q zid)
  | _=>exact absurd (show false=true from hs) Xaq
 | _=>cases y <;> exact absurd (show false=true from hs) Xaq
theorem zfP:OpR X (compareOp .NotEq) rNe:=by
 intro pins s σ H x y v u Q I rx ry h
 obtain ⟨hs,q⟩:=h
 cases x with
 | non =>
  cases rx
  cases y with
  | non=>cases ry;exact PySem.EqNone.ne_none_none (zaF I q (by simp))
  | bl j=>cases ry;exact PySem.EqNone.ne_none_bool (zaF I q (by simp))
  | int j=>obtain ⟨t',rfl⟩:=ry;exact PySem.EqNone.ne_none_int (zaF I q (by simp))
  | str j=>obtain ⟨t',rfl⟩:=ry;exact PySem.EqNone.ne_none_str (zaF I q (by simp))
  | _=>exact absurd (show false=true from hs) Xaq
 | bl i =>
  cases rx
  cases y with
  | non=>cases ry;exact PySem.EqNone.ne_bool_none (zaF I q (by simp))
  | bl j=>cases ry;exact ne_bool (zaF I q (congrArg not zj1))
  | str j=>obtain ⟨t',rfl⟩:=ry;exact PySem.EqMixed.ne_bool_str (zaF I q (by simp))
  | _=>exact absurd (show false=true from hs) Xaq
 | int i =>
  obtain ⟨t,rfl⟩:=rx
  cases y with
  | non=>cases ry;exact PySem.EqNone.ne_int_none (zaF I q (by simp))
  | int j=>obtain ⟨t',rfl⟩:=ry;exact ne_int (zaF I q (congrArg not zic))
  | str j=>obtain ⟨t',rfl⟩:=ry;exact PySem.EqMixed.ne_int_str (zaF I q (by simp))
  | _=>exact absurd (show false=true from hs) Xaq
 | str i =>
  obtain ⟨t,rfl⟩:=rx
  cases y with
  | non=>cases ry;exact PySem.EqNone.ne_str_none (zaF I q (by simp))
  | bl j=>cases ry;exact PySem.EqMixed.ne_str_bool (zaF I q (by simp))
  | int j=>obtain ⟨t',rfl⟩:=ry;exact PySem.EqMixed.ne_str_int (zaF I q (by simp))
  | str j=>obtain ⟨t',rfl⟩:=ry;exact ne_str (zaF I q (congrArg not zib))
  | _=>exact absurd (show false=true from hs) Xaq
 | byt i =>
  obtain ⟨t,rfl⟩:=rx
  cases y with
  | byt j=>obtain ⟨t',rfl⟩:=ry;exact W.ne_bytes (zaF I q (congrArg not zid))
  | _=>exact absurd (show false=true from hs) Xaq
 | _=>cases y <;> exact absurd (show false=true from hs) Xaq
theorem zhN:OpR X (compareOp .Lt) (rI0 fun i j=>.bl (decide (i<j))):=opB0 fun _ _ _ _ _ _ _ q=>lt_int q
theorem zgT:OpR X (compareOp .LtE) (rI0 fun i j=>.bl (decide (i≤j))):=opB0 fun _ _ _ _ _ _ _ q=>le_int q
theorem ze0:OpR X (compareOp .Gt) (rI0 fun i j=>.bl (decide (j<i))):=opB0 fun _ _ _ _ _ _ _ q=>gt_int q
theorem op_ge:OpR X (compareOp .GtE) (rI0 fun i j=>.bl (decide (j≤i))):=opB0 fun _ _ _ _ _ _ _ q=>ge_int q
theorem zav (b:Expr){op:CmpOp}(h:op≠.In:=by decide)(h2:op≠.NotIn:=by decide):behindInMarks op b=false:=by
 have e1:(op == CmpOp.In)=false:=by cases op <;> first | rfl | exact absurd rfl h
 have e2:(op == CmpOp.NotIn)=false:=by cases op <;> first | rfl | exact absurd rfl h2
 cases b <;> simp [behindInMarks,e1,e2]
theorem za3 {op:CmpOp}{r:R2}(ho:OpR X (compareOp op) r)(ha:PE X a ta)(hb:PE X b tb)(hm:behindInMarks op b=false):PE X (.Compare a [op] [b] pos) (tOp r ta tb):=by
 intro pins s σ H Q I h
 exact wpAny_Compare1 (binT ha hb I h fun v u s2 x y H2 I2 rx ry q=>ho pins s2 σ H2 x y v u Q I2 rx ry q) hm
inductive tTest_1 (Q:Bool→Hp→Prop)(x:V)(H':Hp):Prop
 | mk (k:_) (z0_:x = .bl k) (z1_:Q k H')
def zkd (t:TE):TT:=fun σ H Q=>t σ H (tTest_1 Q)
theorem zau {op:CmpOp}{r:R2}(ho:OpR X (compareOp op) r)(ha:PE X a ta)(hb:PE X b tb)(hm:behindInMarks op b=false):PT X (.Compare a [op] [b] pos) (zkd (tOp r ta tb)):=by
 intro pins s σ H Q I h
 refine wpAny_isTrue_Compare1 (thn (ha pins s σ H _ I h) fun v s1 ⟨x,H1,I1,r1,q1⟩=>thn (hb pins s1 σ H1 _ I1 q1) fun u s2 ⟨y,H2,I2,r2,q2⟩ =>
  thn (ho pins s2 σ H2 x y v u _ I2 r1 r2 q2) fun c s3 ⟨z,H3,I3,r3,k,e,q3⟩=>?_) hm
 subst e
 cases r3
 exact XaU ⟨H3,I3,q3⟩
inductive tChain_1 (r':R2)(tc:TE)(σ:St)(Q:VK)(y:V)(z:V)(H3:Hp):Prop
 | mk (k:_) (z0_:z = .bl k) (z1_:(if k=true then tc σ H3 fun w' H4=>r' y w' H4 Q else Q (.bl false) H3))
def zjD (r r':R2)(ta tb tc:TE):TE:=fun σ H Q=>ta σ H fun x H1=>tb σ H1 fun y H2=>r x y H2 (tChain_1 r' tc σ Q y)
theorem zi0 {op op':CmpOp}{r r':R2}(ho:OpR X (compareOp op) r)(ho':OpR X (compareOp op') r')(ha:PE X a ta)(hb:PE X b tb)(hc:PE X c tc)
  (hm:lastMarks [op,op'] [b,c]=false:=by with_unfolding_all rfl):PE X (.Compare a [op,op'] [b,c] pos) (zjD r r' ta tb tc):=by
 intro pins s σ H Q I h
 refine Compare_chain (thn (ha pins s σ H _ I h) fun v s1 ⟨x,H1,I1,r1,q1⟩=>chain_link (thn (hb pins s1 σ H1 _ I1 q1) fun u s2 ⟨y,H2,I2,r2,q2⟩ =>
  thn (ho pins s2 σ H2 x y v u _ I2 r1 r2 q2) fun d s3 ⟨z,H3,I3,r3,k,e,q3⟩=>?_)) hm
 subst e
 cases r3
 refine XaU ?_
 cases k with
 | false=>exact ite_ff ⟨.bl false,H3,I3,rfl,q3⟩
 | true=>exact ite_tt (chain_last (thn (hc pins s3 σ H3 _ I3 q3) fun w' s4 ⟨z',H4,I4,r4,q4⟩=>ho' pins s4 σ H4 y z' u w' Q I4 r2 r4 q4))
theorem ziU {op op':CmpOp}{r r':R2}(ho:OpR X (compareOp op) r)(ho':OpR X (compareOp op') r')(ha:PE X a ta)(hb:PE X b tb)(hc:PE X c tc)
  (hm:lastMarks [op,op'] [b,c]=false:=by with_unfolding_all rfl):PT X (.Compare a [op,op'] [b,c] pos) (zkd (zjD r r' ta tb tc)):=by
 intro pins s σ H Q I h
 refine isTrue_chain (thn (ha pins s σ H _ I h) fun v s1 ⟨x,H1,I1,r1,q1⟩=>test_link (thn (hb pins s1 σ H1 _ I1 q1) fun u s2 ⟨y,H2,I2,r2,q2⟩ =>
  thn (ho pins s2 σ H2 x y v u _ I2 r1 r2 q2) fun d s3 ⟨z,H3,I3,r3,k,e,q3⟩=>?_)) hm
 subst e
 cases r3
 refine XaU ?_
 cases k with
 | false =>
  obtain ⟨k',e',q'⟩:=q3
  cases e'
  exact ite_ff ⟨H3,I3,q'⟩
 | true =>
  refine ite_tt (test_last (thn (hc pins s3 σ H3 _ I3 q3) fun w' s4 ⟨z',H4,I4,r4,q4⟩=>thn (ho' pins s4 σ H4 y z' u w' _ I4 r2 r4 q4) fun d' s5 hh_=>?_))
  obtain ⟨z2,H5,I5,r5,k2,e2,q5⟩:=hh_
  subst e2
  cases r5
  exact XaU ⟨H5,I5,q5⟩
def TruV (K:W.Frag)(x:V)(H:Hp)(k:Bool):Prop:=
 match x with
 | .non=>k=false
 | .bl b=>k=b
 | .int i=>k=(i != 0)
 | .str y=>y.length≤sizeLine∧k=((y.length:Int) != 0)
 | .byt y=>y.size≤sizeLine∧k=((y.size:Int) != 0)
 | .ref p=>(∃ xs,SqL K H p xs∧k = !xs.isEmpty)∨(∃ xs,SqT K H p xs∧k = !xs.isEmpty)∨∃ kvs,H p=some (.dK kvs)∧k = !kvs.isEmpty
 | _=>False
theorem zg5 {κ:Type}{kvs:List (κ×V)}{vs:List (κ×Value)}(r:KV kvs vs):(!vs.isEmpty) = !kvs.isEmpty:=by
 cases r <;> rfl
theorem zd4 {xs:List V}{its:List Value}(r:Vals xs its):(!its.toArray.isEmpty) = !xs.isEmpty:=by
 cases r <;> simp
theorem zfa:(sizeLine:Nat)<2 ^ 63:=by rw [sizeLine_eq];decide
theorem tru_ok:TruR X (fun x H Q=>∃ k,TruV X.K x H k∧Q k H):=by
 intro pins s σ H x v Q I rx h
 obtain ⟨k,e,q⟩:=h
 have hl:=zfa
 have hs:sizeLine=16777216:=sizeLine_eq
 cases x with
 | non =>
  cases rx
  have e':k=false:=e
  subst e'
  exact truthy_none ⟨H,I,q⟩
 | bl b =>
  cases rx
  have e':k=b:=e
  subst e'
  exact XaU ⟨H,I,q⟩
 | int i =>
  obtain ⟨t,rfl⟩:=rx
  have e':k=(i != 0):=e
  subst e'
  exact PySem.P.truthy_int ⟨H,I,q⟩
 | str y =>
  obtain ⟨t,rfl⟩:=rx
  obtain ⟨hy,e'⟩:y.length≤sizeLine∧k=((y.length:Int) != 0):=e
  subst e'
  exact PySem.P.truthy_str (by omega) ⟨H,I.tok _,q⟩
 | byt y =>
  obtain ⟨t,rfl⟩:=rx
  obtain ⟨hy,e'⟩:y.size≤sizeLine∧k=((y.size:Int) != 0):=e
  subst e'
  exact W.truthy_bytes (by omega) ⟨H,I.tok _,q⟩
 | ref p =>
  cases rx
  have e':(∃ xs,SqL X.K H p xs∧k = !xs.isEmpty)∨(∃ xs,SqT X.K H p xs∧k = !xs.isEmpty)∨∃ kvs,H p=some (.dK kvs)∧k = !kvs.isEmpty:=e
  rcases e' with ⟨xs,hx,e'⟩ | ⟨xs,hx,e'⟩ | ⟨kvs,hx,e'⟩
  ·subst e'
   obtain ⟨its,r,pl,hz⟩:=I.list hx
   have hlen:=r.length
   exact wpAny_truthy_list pl.isList (by simp only [Xam];omega) ⟨H,I.tok _,by rw [zd4 r];exact q⟩
  ·subst e'
   obtain ⟨its,r,pl,hz⟩:=I.tuple hx
   have hlen:=r.length
   exact truthy_tuple pl (by simp only [Xam];omega) ⟨H,I.tok _,by rw [zd4 r];exact q⟩
  ·subst e'
   obtain ⟨hz,hS,vs,r,m⟩:kvs.length≤sizeLine∧(p == sysModules)=false∧∃ vs,KV kvs vs∧s.heap.DictOf (zaI X.prog X.w) p vs:=I.hok p _ hx
   have hlen:kvs.length=vs.length:=Paired.length r
   exact wpAny_truthy_dict hS m (by omega) ⟨H,I.tok _,by rw [zg5 r];exact q⟩
 | _=>exact (show False from e).elim
theorem ziT (ha:PE X a ta)(he:∀ whole,isTrue a X.env whole=(do let v ← whole;standAt a.pos;holding [v] (truthy v))) :
  PT X a (fun σ H Q=>ta σ H fun x H'=>∃ k,TruV X.K x H' k∧Q k H'):=by
 intro pins s σ H Q I h
 exact isTrue_plain (thn (ha pins s σ H _ I h) fun v s1 ⟨x,H1,I1,r1,q1⟩=>tru_ok pins s1 σ H1 x v Q I1 r1 q1) (he _)
theorem zgU:OpR X (binaryOp .Add) (fun x y H Q=>∃ i j,x = .str i∧y = .str j∧i.length+j.length≤sizeLine∧Q (.str (i ++ j)) H):=by
 intro pins s σ H x y v u Q I rx ry h
 obtain ⟨i,j,rfl,rfl,hz,q⟩:=h
 obtain ⟨t,rfl⟩:=rx
 obtain ⟨t',rfl⟩:=ry
 exact add_str (fun t' tk=>⟨.str (i ++ j),H,I.tok _,⟨_,rfl⟩,q⟩) hz
theorem zcw {x:V}{us:List Value}(r:Vals [x] us):∃ u,us=[u]∧RelV x u:=by
 cases r with
 | cons r1 r2=>cases r2;exact ⟨_,rfl,r1⟩
theorem zfA {x y:V}{us:List Value}(r:Vals [x,y] us):∃ u w',us=[u,w']∧RelV x u∧RelV y w':=by
 cases r with
 | cons r1 r2 =>
  cases r2 with
  | cons r3 r4=>cases r4;exact ⟨_,_,rfl,r1,r3⟩
theorem zio (hc:X.calm=true):zbH X (.builtin "max") (fun xs H Q=>∃ i j,xs=[.int i,.int j]∧Q (.int (if j > i then j else i)) H):=by
 intro pins s σ H xs us Q I r h
 obtain ⟨i,j,rfl,q⟩:=h
 obtain ⟨u,w',rfl,⟨t,rfl⟩,⟨t',rfl⟩⟩:=zfA r
 refine max_two_ints (I.ok.hd hc) fun h' tk k=>⟨_,H,I.kept k,?_,q⟩
 by_cases hj:j > i
 ·rw [if_pos hj,if_pos hj];exact ⟨_,rfl⟩
 ·rw [if_neg hj,if_neg hj];exact ⟨_,rfl⟩
theorem zfs:zbH X (.type "int") (fun xs H Q=>(∃ i,xs=[.int i]∧Q (.int i) H)∨∃ k,xs=[.bl k]∧Q (.int (if k then 1 else 0)) H):=by
 intro pins s σ H xs us Q I r h
 rcases h with ⟨i,rfl,q⟩ | ⟨k,rfl,q⟩
 ·obtain ⟨u,rfl,t,rfl⟩:=zcw r
  exact call_int_int ⟨.int i,H,I,⟨_,rfl⟩,q⟩
 ·obtain ⟨u,rfl,r1⟩:=zcw r
  cases r1
  exact call_int_bool ⟨.int (if k then 1 else 0),H,I.tok _,⟨_,rfl⟩,q⟩
end
structure ObjM (h:Heap)(x dx C:Addr)(mA:Str→Option Value):Prop where
 obj:h.get? x=some (W.instObj C dx)
 ns:h.Ns1 dx mA
 ne:dx≠x
set_option tactic.hygienic true in
theorem zcq {h:Heap}{dx:Addr}{mA:Str→Option Value}(n:h.Ns1 dx mA):∃ od,h.get? dx=some od∧∀ name,W.lookIn name od=some (mA name):=by
 obtain ⟨o,es,ep,ho,hd,hk,_,hm⟩:=n
 refine ⟨o,ho,fun name=>?_⟩
 have e:=hm name
 unfold nsFind findBy at e
 rw [← Array.find?_toList] at e
 unfold W.lookIn
 rw [hd]
 dsimp only
 split
 ·rename_i y q
  rw [q] at e
  exact congrArg some e
 ·rename_i q
  rw [q] at e
  have a:es.toList.any (·.refKey)=false:=by
   rw [List.any_eq_false]
   intro y hy
   obtain ⟨z,t,hkey⟩:=hk y (Array.mem_toList_iff.mp hy)
   simp [DictEntry.refKey,hkey]
  have a':¬ es.toList.any (·.refKey)=true:=by rw [a];exact Xaq
  rw [if_neg a']
  exact congrArg some e
theorem ObjM.look {h:Heap}{x dx C:Addr}{mA:Str→Option Value}(I:ObjM h x dx C mA):∃ od,W.InstAt h x (W.instObj C dx) C (some od)∧∀ name,W.lookIn name od=some (mA name):=
 let ⟨od,ho,hl⟩:=zcq I.ns
 ⟨od,⟨I.obj,rfl,rfl,ho⟩,hl⟩
section
variable {prog:Program}{w:World}{A:Around}{E:Value→Shared→Prop}{s:Shared}{K:W.Frag}{x dx C f:Addr}{mA:Str→Option Value}{name:Str}{v:Value}
theorem zkI {expr:Bool}{Q:Value→Shared→Prop}(X:K.In s.heap)(I:ObjM s.heap x dx C mA)(hg:W.plainGet K C name=true)(hh:W.hasDictIn K C=true)
  (ha:W.findIn K (.ref C) name=some none) (hv:mA name=some v) (hv':W.handedIn v=true) (h:Q v { s with toks:=s.toks+1 }) :
  wpAny (model prog w) A (getAttr (.ref x) name expr) Q E s:=by
 obtain ⟨od,J,hl⟩:=I.look
 exact W.get_value X J (W.plainGet_of hg).1 (W.findObj_own hh ha rfl (by rw [hl,hv])) hv' h
theorem zkj {ns:List Str}{Q:Unit→Shared→Prop}(X:K.In s.heap)(I:ObjM s.heap x dx C mA)
  (hs:W.findIn K (.ref C) "__setattr__" = some (some (.builtin "object.__setattr__"))) (hp:W.plainOver K C=true) (ht:W.takerIn K C name=some none) (hh:W.hasDictIn K C=true)
  (hw:PySem.Within mA ns) (hsz:ns.length≤sizeLine)
  (h:∀ h',ObjM h' x dx C (fun y=>if y=name then some v else mA y)→Heap.SameBut dx s.heap h'→Q () { s with heap:=h',toks:=s.toks+2 }) :
  wpAny (model prog w) A (setAttr (.ref x) name v) Q E s:=by
 obtain ⟨od,J,hl⟩:=I.look
 refine W.set_plain X J hs (W.osa_open (s:={ s with toks:=s.toks+1 }) (r:=none) X J hp ht fun b=>?_)
 obtain ⟨cd,hc,hd'⟩:=W.any_some hh
 have hx:s.heap.get? x=some ⟨.ref C,some dx,.plain,#[]⟩:=I.obj
 refine Xaa (Xad (Xaa (Xaa (wpAny_loadPart hx (Xaa (W.Looks.here (s:={ s with toks:=s.toks+1 }) (W.looks_clsIn X hc) ?_))))))
 rw [hd']
 refine Xad (a:=some dx) (Xaa (Xad (Xaa ?_)))
 refine wpAny_nsSet1 (s:={ s with toks:=s.toks+1 }) I.ns fun h' hn2 hs2=>?_
 obtain ⟨oD,esD,epD,hoD,hdD,hcD⟩:=hn2.count (PySem.Within.cons name v hw)
 refine Xaa (wpAny_lookBehind hoD (by rw [hdD];exact pastItsLine_dict (Xav hcD (by rw [Xay];omega))) ?_)
 exact Xad (h _ ⟨(hs2.2 _ (Ne.symm I.ne)).trans I.obj,hn2,I.ne⟩ hs2)
theorem zgs {R:Result→Shared→Prop}{vs:List Value}{kw:List (Str×Value)}(X:K.In s.heap)(hm:W.makesIn K C=true)
  (hi:W.findIn K (.ref C) "__init__" = some (some (.ref f))) (hf:W.typeIn K (.ref f)=some (.type "function"))
  (h:codeAny (model prog w) (A.under (.builtin "type.__call__" ⟨.ref C :: vs,kw⟩)) (.call (.ref f) ⟨.ref (s.heap.objs.size+1) :: vs,kw⟩) (W.InitBack (s.heap.objs.size+1) R)
   { s with heap:=(s.heap.push W.emptyDict).push (W.instObj C s.heap.objs.size) }) :
  codeAny (model prog w) A (.call (.ref C) ⟨vs,kw⟩) R s:=by
 obtain ⟨hh,g,d,t,os⟩:=s
 exact W.make_core (W.makes_of X hm) (W.looks_findIn X hi) (fun self=>W.bind_fn X self hf) (.inl rfl) h
end
def putF (f:Str)(v:V):List (Str×V)→List (Str×V)
 | []=>[(f,v)]
 | (g,x) :: r=>if g=f then (g,v) :: r else (g,x) :: putF f v r
theorem zci (f g:Str)(v:V):∀ fs:List (Str×V),(putF f v fs).lookup g=if g=f then some v else fs.lookup g
 | []=>by
  show List.lookup g [(f,v)]=_
  by_cases h:g=f
  ·have hb:(g == f)=true:=beq_iff_eq.mpr h
   simp only [List.lookup,hb,if_pos h]
  ·have hb:(g == f)=false:=beq_eq_false_iff_ne.mpr h
   simp only [List.lookup,hb,if_neg h]
 | (k,x) :: r=>by
  have ih:=zci f g v r
  rw [show putF f v ((k,x) :: r)=(if k=f then (k,v) :: r else (k,x) :: putF f v r) from rfl]
  by_cases hk:k=f
  ·rw [if_pos hk]
   by_cases h:g=k
   ·have hb:(g == k)=true:=beq_iff_eq.mpr h
    simp only [List.lookup,hb,if_pos (h.trans hk)]
   ·have hb:(g == k)=false:=beq_eq_false_iff_ne.mpr h
    simp only [List.lookup,hb,if_neg (fun e:g=f=>h (e.trans hk.symm))]
  ·rw [if_neg hk]
   by_cases h:g=k
   ·have hb:(g == k)=true:=beq_iff_eq.mpr h
    simp only [List.lookup,hb,if_neg (fun e:g=f=>hk (h.symm.trans e))]
   ·have hb:(g == k)=false:=beq_eq_false_iff_ne.mpr h
    simp only [List.lookup,hb]
    exact ih
theorem zbP (f:Str)(v:V):∀ fs:List (Str×V),f∈(putF f v fs).map (·.1)∧∀ g,g∈fs.map (·.1)→g∈(putF f v fs).map (·.1)
 | []=>⟨by simp [putF],fun g h=>by simp at h⟩
 | (k,x) :: r=>by
  obtain ⟨i1,i2⟩:=zbP f v r
  rw [show putF f v ((k,x) :: r)=(if k=f then (k,v) :: r else (k,x) :: putF f v r) from rfl]
  by_cases hk:k=f
  ·rw [if_pos hk]
   subst hk
   exact ⟨by simp,fun g h=>by simpa using h⟩
  ·rw [if_neg hk]
   refine ⟨?_,fun g h=>?_⟩
   ·rw [XaS]
    exact XaB _ i1
   ·rw [XaS] at h ⊢
    rcases Xal.mp h with e | e
    ·exact Xal.mpr (.inl e)
    ·exact XaB _ (i2 g e)
theorem zcj (f:Str)(v:V):∀ fs:List (Str×V),(putF f v fs).length≤fs.length+1
 | []=>by simp [putF]
 | (k,x) :: r=>by
  have ih:=zcj f v r
  rw [show putF f v ((k,x) :: r)=(if k=f then (k,v) :: r else (k,x) :: putF f v r) from rfl]
  by_cases hk:k=f
  ·rw [if_pos hk,Xay,Xay];omega
  ·rw [if_neg hk,Xay,Xay];omega
theorem RelO.some_of {v:V}{o:Option Value}(r:RelO (some v) o):∃ u,o=some u∧RelV v u:=by
 cases o with
 | none=>exact (show False from r).elim
 | some u=>exact ⟨u,rfl,r⟩
theorem zff {v:V}{u:Value}(r:RelV v u):W.handedIn u=true:=by
 cases v with
 | non=>cases (show u=Value.none from r);rfl
 | bl b=>cases (show u=Value.bool b from r);rfl
 | int i=>obtain ⟨t,e⟩:=(show ∃ t,u=Value.int i t from r);cases e;rfl
 | str x=>obtain ⟨t,e⟩:=(show ∃ t,u=Value.str x t from r);cases e;rfl
 | byt b=>obtain ⟨t,e⟩:=(show ∃ t,u=Value.bytes b t from r);cases e;rfl
 | flt b=>obtain ⟨t,e⟩:=(show ∃ t,u=Value.float b t from r);cases e;rfl
 | ref a=>cases (show u=Value.ref a from r);rfl
 | ty n=>cases (show u=Value.type n from r);rfl
section
variable {P:Program}{w:World}{H H':Hp}{h h':Heap}{a C dx:Addr}{fs fs':List (Str×V)}
theorem zez (hok:HOk P w H h)(e:H a=some (.ins C dx fs)):∃ mA,ObjM h a dx C mA∧(∀ f,RelO (fs.lookup f) (mA f))∧PySem.Within mA (fs.map (·.1))∧fs.length≤1000∧H dx=some (.own a):=by
 obtain ⟨d,z,ne,ob,mA,n,r,q⟩:=(show ObjOk P w H h a (.ins C dx fs) from hok a _ e)
 exact ⟨mA,⟨ob,n,ne⟩,r,q,z,d⟩
end
structure Cls (K:W.Frag)(C:Addr):Prop where
 pg:W.plainGet K C Str.empty=true
 hd:W.hasDictIn K C=true
 po:W.plainOver K C=true
 sa:W.findIn K (.ref C) "__setattr__" = some (some (.builtin "object.__setattr__"))
theorem Cls.get {K:W.Frag}{C:Addr}(c:Cls K C)(f:Str):W.plainGet K C f=true:=c.pg
def NoAttr (K:W.Frag)(C:Addr)(f:Str):Prop:=W.findIn K (.ref C) f=some none
theorem NoAttr.taker {K:W.Frag}{C:Addr}{f:Str}(n:NoAttr K C f):W.takerIn K C f=some none:=by
 unfold W.takerIn
 rw [show W.findIn K (.ref C) f=some none from n]
 rfl
structure Meth (K:W.Frag)(C:Addr)(m:Str)(f:Addr):Prop where
 at_:W.findIn K (.ref C) m=some (some (.ref f))
 fn:W.isFn K (.ref f)=true
 kp:W.keepIn K (.ref f)=true
section
variable {X:Cx}{pins:List (Addr×Obj)}{σ:St}{H:Hp}{s:Shared}{a C dx:Addr}{fs:List (Str×V)}{f:Str}{v:V}{A:Around}{E:Value→Shared→Prop}
theorem zg8 {b:Bool}{Q:Value→Shared→Prop}(I:Inv X pins σ H s)(e:H a=some (.ins C dx fs))(c:Cls X.K C)(n:NoAttr X.K C f)(l:fs.lookup f=some v)
  (h:∀ u s',Inv X pins σ H s'→RelV v u→Q u s'):wpAny (model X.prog X.w) A (getAttr (.ref a) f b) Q E s:=by
 obtain ⟨mA,O,r,_,_,_⟩:=zez I.hok e
 obtain ⟨u,hu,ru⟩:=RelO.some_of (v:=v) (o:=mA f) (by rw [← l];exact r f)
 exact zkI I.kIn O (c.get f) c.hd n hu (zff ru) (h u _ (I.tok _) ru)
theorem zgN {y:V}{u:Value}{Q:Unit→Shared→Prop}(I:Inv X pins σ H s)(e:H a=some (.ins C dx fs))(c:Cls X.K C)(n:NoAttr X.K C f)(hl:fs.length<1000)(ry:RelV y u)
  (h:∀ s',Inv X pins σ (upd H a (.ins C dx (putF f y fs))) s'→Q () s'):wpAny (model X.prog X.w) A (setAttr (.ref a) f u) Q E s:=by
 obtain ⟨mA,O,r,wi,_,ho⟩:=zez I.hok e
 have hz:(fs.map (·.1)).length≤sizeLine:=by rw [Xae,sizeLine_eq];omega
 refine zkj I.kIn O c.sa c.po n.taker c.hd wi hz fun h' O' sb=>h _ ?_
 have hd:∃ o,h'.get? dx=some o:=let ⟨o,_,_,e',_⟩:=O'.ns;⟨o,e'⟩
 refine I.write (x:=a) (e:=dx) (by rw [e];exact True.intro) (.inr ho) (fun b q hb z=>(sb.2 b hb).trans z) hd ?_
 refine ⟨by rw [zag O.ne];exact ho,?_,O.ne,O'.obj,_,O'.ns,fun g=>?_,fun g hg=>?_⟩
 ·have:=zcj f y fs;omega
 ·show RelO ((putF f y fs).lookup g) (if g=f then some u else mA g)
  rw [zci]
  by_cases q:g=f
  ·rw [if_pos q,if_pos q];exact ry
  ·rw [if_neg q,if_neg q];exact r g
 ·by_cases q:g=f
  ·rw [q];exact (zbP f y fs).1
  ·refine (zbP f y fs).2 g (wi g fun z=>hg ?_)
   show (if g=f then some u else mA g)=none
   rw [if_neg q];exact z
theorem Inv.made (I:Inv X pins σ H s):Inv X pins σ (upd (upd H s.heap.objs.size (.own (s.heap.objs.size+1))) (s.heap.objs.size+1) (.ins C s.heap.objs.size []))
  { s with heap:=(s.heap.push W.emptyDict).push (W.instObj C s.heap.objs.size) }:=by
 have e1:(s.heap.push W.emptyDict).get? s.heap.objs.size=some W.emptyDict:=Xah s.heap rfl
 have e2:((s.heap.push W.emptyDict).push (W.instObj C s.heap.objs.size)).get? (s.heap.objs.size+1)=some (W.instObj C s.heap.objs.size):=by
  have:=Xah (s.heap.push W.emptyDict) (o:=W.instObj C s.heap.objs.size) rfl
  rwa [XaG] at this
 have e3:(s.heap.push W.emptyDict).Ns s.heap.objs.size (fun _=>none):=⟨W.emptyDict,#[],_,e1,rfl,(fun e he=>absurd he (by simp)),fun _=>rfl⟩
 have I1:=I.laid (a:=s.heap.objs.size) (o:=.own (s.heap.objs.size+1)) (h':=s.heap.push W.emptyDict) (t':=s.toks) (fun b u q=>Xab _ q) (Xaf _) ⟨_,e1⟩
 refine I1.laid (a:=s.heap.objs.size+1) (o:=.ins C s.heap.objs.size []) (t':=s.toks) (fun b u q=>Xab _ q) (Nat.le_of_eq (XaG _ _)) ?_
 have ne:s.heap.objs.size≠s.heap.objs.size+1:=Xar (Xa2 _)
 refine ⟨by rw [zag ne,zab],Nat.zero_le _,ne,e2,fun _=>none,(Heap.Ns1.of_empty e3).at fun o q=>Xab _ q,fun _=>True.intro,fun y hy=>absurd rfl hy⟩
theorem ziu {prog:Program}{w:World}{env:Env}{e:Expr}{f:Str}{pos:Pos}{s:Shared}{Q:Value→Shared→Prop}(hb:attributeBase e f env (eval e env)=eval e env)
  (h:wpAny (model prog w) A (eval e env) (fun o s₁=>wpAny (model prog w) A (getAttr o f true) Q E s₁) E s):wpAny (model prog w) A (eval (.Attribute e f pos) env) Q E s:=
 Attribute_any_ h (by rw [arm_eval_Attribute,hb])
end
inductive tFld_1 (K:W.Frag)(f:Str)(Q:VK)(x:V)(H1:Hp):Prop
 | mk (a:_) (C:_) (dx:_) (fs:_) (v:_) (z0_:x = .ref a) (z1_:H1 a=some (.ins C dx fs)) (z2_:Cls K C) (z3_:NoAttr K C f) (z4_:fs.lookup f=some v) (z5_:Q v H1)
def tFld (K:W.Frag)(ta:TE)(f:Str):TE:=fun σ H Q=>ta σ H (tFld_1 K f Q)
inductive sFld_1 (K:W.Frag)(f:Str)(D:Ends)(σ:St)(y:V)(x:V)(H2:Hp):Prop
 | mk (a:_) (C:_) (dx:_) (fs:_) (z0_:x = .ref a) (z1_:H2 a=some (.ins C dx fs)) (z2_:Cls K C) (z3_:NoAttr K C f) (z4_:fs.length<1000) (z5_:D.nx σ (upd H2 a (.ins C dx (putF f y fs))))
def sFld (K:W.Frag)(ta tv:TE)(f:Str):TS:=fun D σ H=>tv σ H fun y H1=>ta σ H1 (sFld_1 K f D σ y)
section
variable {X:Cx}{o e value:Expr}{f:Str}{pos pos' tpos:Pos}{ta tv:TE}
theorem pe_fld (he:PE X e ta)(hb:attributeBase e f X.env (eval e X.env)=eval e X.env):PE X (.Attribute e f pos) (tFld X.K ta f):=by
 intro pins s σ H Q I h
 refine ziu hb (thn (he pins s σ H _ I h) fun u s1 hh_=>?_)
 obtain ⟨x,H1,I1,rx,a,C,dx,fs,v,ex,ea,c,n,l,q⟩:=hh_
 subst ex
 obtain rfl:u=Value.ref a:=rx
 exact zg8 I1 ea c n l fun u' s2 I2 ru=>⟨v,H1,I2,ru,q⟩
theorem zb4 (ha:PE X o ta)(hv:PE X value tv)(hs:swapsWith value (some (.Attribute o f pos')) pos.line X.env=pure false):PS X (.Assign [.Attribute o f pos'] value pos) (sFld X.K ta tv f):=by
 intro pins s σ H D I h
 refine plainObj_wpAny_Assign_Attribute (thn (hv pins s σ H _ I h) fun u s1 ⟨y,H1,I1,ry,q⟩=>thn (ha pins s1 σ H1 _ I1 q) fun ov s2 hh_=>?_) hs
 obtain ⟨x,H2,I2,rx,a,C,dx,fs,ex,ea,c,n,l,q2⟩:=hh_
 subst ex
 obtain rfl:ov=Value.ref a:=rx
 exact zgN I2 ea c n l ry fun s3 I3=>⟨σ,_,I3,q2⟩
end
section
variable {X:Cx}{pins:List (Addr×Obj)}{σ:St}{H:Hp}{s:Shared}{A:Around}{E:Value→Shared→Prop}{Q:Value→Shared→Prop}{c:Value}{b:Bool}
inductive TyOf (K:W.Frag)(H:Hp):V→Value→Prop where
 | non:TyOf K H .non (.type "NoneType")
 | bl (x:Bool):TyOf K H (.bl x) (.type "bool")
 | int (i:Int):TyOf K H (.int i) (.type "int")
 | str (x:Str):TyOf K H (.str x) (.type "str")
 | flt (x:UInt64):TyOf K H (.flt x) (.type "float")
 | lst {a:Addr} {xs:List V} (e:H a=some (.lst xs)):TyOf K H (.ref a) (.type "list")
 | frz {a:Addr} {o:Obj} {xs:List V} (e:H a=some (.frz o (.lst xs))):TyOf K H (.ref a) (.type "list")
 | tup {a:Addr} {xs:List V} (e:H a=some (.tup xs)):TyOf K H (.ref a) (.type "tuple")
 | dK {a:Addr} {kvs:List (Key×V)} (e:H a=some (.dK kvs)):TyOf K H (.ref a) (.type "dict")
 | dT {a:Addr} {kvs:List (List Key×V)} (e:H a=some (.dT kvs)):TyOf K H (.ref a) (.type "dict")
 | ins {a C dx:Addr} {fs:List (Str×V)} (e:H a=some (.ins C dx fs)) (cl:Cls K C) (ha:W.findIn K (.ref C) "__class__" = some (some (.builtin "object.__class__")))
   (hn:W.specialIn K (.builtin "object.__class__") "__get__" = some (some (.builtin "getset_descriptor.__get__"))) (htk:W.takesIn K (.builtin "object.__class__")=some true)
   (hm:W.mroIn K C (.type "object")=some true):TyOf K H (.ref a) (.ref C)
theorem zfe {x:V}{u t:Value}(I:Inv X pins σ H s)(rx:RelV x u)(ty:TyOf X.K H x t)(e:W.kitOne X.K t c=some b)(h:∀ tk,Q (.bool b) { s with toks:=tk }) :
  wpAny (model X.prog X.w) A (call (.builtin "isinstance") [u,c]) Q E s:=by
 cases ty with
 | non=>cases (show u=Value.none from rx);exact W.kia_one W.kitx_none I.kIn True.intro e (fun z=>nomatch z) h
 | bl y=>cases (show u=Value.bool y from rx);exact W.kia_one W.kitx_bool I.kIn True.intro e (fun z=>nomatch z) h
 | int i=>obtain ⟨t,q⟩:=(show ∃ t,u=Value.int i t from rx);cases q;exact W.kia_one W.kitx_int I.kIn True.intro e (fun z=>nomatch z) h
 | str y=>obtain ⟨t,q⟩:=(show ∃ t,u=Value.str y t from rx);cases q;exact W.kia_one W.kitx_str I.kIn True.intro e (fun z=>nomatch z) h
 | flt y=>obtain ⟨t,q⟩:=(show ∃ t,u=Value.float y t from rx);cases q;exact W.kia_one W.kitx_float I.kIn True.intro e (fun z=>nomatch z) h
 | @lst a xs ea =>
  cases (show u=Value.ref a from rx)
  obtain ⟨_,_,n,_,h1⟩:=(show ObjOk X.prog X.w H s.heap a (.lst xs) from I.hok a _ ea)
  exact W.kia_one W.kitx_list I.kIn ⟨_,h1,rfl⟩ e (fun z=>nomatch z) h
 | @frz a ob xs ea =>
  cases (show u=Value.ref a from rx)
  obtain ⟨_,_,_,n,_,h1⟩:=(show ObjOk X.prog X.w H s.heap a (.frz ob (.lst xs)) from I.hok a _ ea)
  exact W.kia_one W.kitx_list I.kIn ⟨_,h1,rfl⟩ e (fun z=>nomatch z) h
 | @tup a xs ea =>
  cases (show u=Value.ref a from rx)
  obtain ⟨_,_,_,p⟩:=(show ObjOk X.prog X.w H s.heap a (.tup xs) from I.hok a _ ea)
  obtain ⟨o,h1,h2,_⟩:=p
  exact W.kia_one W.kitx_tuple I.kIn ⟨o,h1,h2⟩ e (fun z=>nomatch z) h
 | @dK a kvs ea =>
  cases (show u=Value.ref a from rx)
  obtain ⟨_,_,vs,_,p⟩:=(show ObjOk X.prog X.w H s.heap a (.dK kvs) from I.hok a _ ea)
  obtain ⟨o,es,ep,h1,h2,_⟩:=p
  exact W.kia_one W.kitx_dict I.kIn ⟨o,h1,h2.1⟩ e (fun z=>nomatch z) h
 | @dT a kvs ea =>
  cases (show u=Value.ref a from rx)
  obtain ⟨_,_,xs,_,o,es,ep,h1,h2,_⟩:=(show ObjOk X.prog X.w H s.heap a (.dT kvs) from I.hok a _ ea)
  exact W.kia_one W.kitx_dict I.kIn ⟨o,h1,h2.1⟩ e (fun z=>nomatch z) h
 | @ins a C dx fs ea cl ha hn htk hm =>
  cases (show u=Value.ref a from rx)
  obtain ⟨mA,O,_⟩:=zez I.hok ea
  obtain ⟨od,J,_⟩:=O.look
  exact W.kia_one (W.kitx_own (cl.get _) cl.hd ha hn htk hm) I.kIn J e (fun z=>nomatch z) h
end
structure Room (k:Nat)(A:Around):Prop where
 hd:A.handled=none
 dp:A.depth+3 * k+5<recursionLimit
 un:A.units+16 * k+200<cLine
 gd:A.guards=some []
theorem Room.mono {j k:Nat}{A:Around}(r:Room k A)(h:j≤k):Room j A:=⟨r.hd,by have:=r.dp;omega,by have:=r.un;omega,r.gd⟩
theorem Room.deeper {k:Nat}{A:Around}(r:Room (k+1) A)(env:Env):Room k (A.deeper env):=
 ⟨r.hd,by have:=r.dp;show A.depth+1+3 * k+5<_;omega,by have:=r.un;show A.units+3+16 * k+200<_;omega,r.gd⟩
theorem Room.in1 {k:Nat}{A:Around}(r:Room (k+1) A):Room k A.in1:=
 ⟨r.hd,by have:=r.dp;show A.depth+3 * k+5<_;omega,by have:=r.un;show A.units+1+16 * k+200<_;omega,r.gd⟩
theorem zg3 {A:Around}{C:Addr}{us:List Value}{kw:List (Str×Value)}:(A.under (.builtin "type.__call__" ⟨.ref C :: us,kw⟩)).depth=A.depth+1:=by
 first | rfl | simp [Around.under,Code.weight,Code.isCreation,Code.isGuard,Code.isCaller,Code.frames,Code.isFrame,guardIds]
theorem zg2 {A:Around}{C:Addr}{us:List Value}{kw:List (Str×Value)}:(A.under (.builtin "type.__call__" ⟨.ref C :: us,kw⟩)).units=A.units+1:=by
 first | rfl | simp [Around.under,Code.cUnits,Code.frames,Code.isFrame]
theorem zf4 {A:Around}{C:Addr}{us:List Value}{kw:List (Str×Value)}(h:A.guards=some []):(A.under (.builtin "type.__call__" ⟨.ref C :: us,kw⟩)).guards=some []:=by
 have hc:(Code.builtin "type.__call__" ⟨Value.ref C :: us,kw⟩).guards=[]:=by
  first | rfl | (simp [Code.guards,Code.isGuard,guardIds];done) | (unfold Code.guards;rw [if_neg];decide +kernel) | skip
 simp only [Around.under,h,hc]
 rfl
theorem Room.make {k:Nat}{A:Around}(r:Room (k+1) A)(C:Addr)(us:List Value)(kw:List (Str×Value)):Room k (A.under (.builtin "type.__call__" ⟨.ref C :: us,kw⟩)):=
 ⟨r.hd,by have:=r.dp;rw [zg3];omega,by have:=r.un;rw [zg2];omega,zf4 r.gd⟩
theorem Room.depth {k:Nat}{A:Around}(r:Room k A):A.depth<recursionLimit:=by have:=r.dp;omega
theorem Room.units {k:Nat}{A:Around}(r:Room k A):A.units+64<cLine:=by have:=r.un;omega
def tNil:TA:=fun _ H Q=>Q [] H
def tCons (ta:TE)(tr:TA):TA:=fun σ H Q=>ta σ H fun x H1=>tr σ H1 fun xs H2=>Q (x :: xs) H2
section
variable {X:Cx}{e:Expr}{es:List Expr}{te:TE}{t:TA}{pos:Pos}
theorem zae:PA X [] tNil:=fun _ _ _ _ H Q I h=>Calls.spliced_nil ⟨[],H,I,.nil,h⟩
theorem zaa (ha:PE X e te)(hr:PA X es t)(hs:starEach (e :: es) X.env=(false,eval e X.env) :: starEach es X.env:=by rfl):PA X (e :: es) (tCons te t):=by
 intro pos pins s σ H Q I h
 rw [hs]
 show wpAny _ _ (spliced ((false,eval e X.env) :: backTo pos (starEach es X.env))) _ _ s
 refine Calls.spliced_cons (thn (ha pins s σ H _ I h) fun u s1 hh_=>?_)
 obtain ⟨x,H1,I1,r1,q1⟩:=hh_
 exact thn (hr pos pins s1 σ H1 _ I1 q1) fun us s2 ⟨xs,H2,I2,r2,q2⟩=>⟨x :: xs,H2,I2,.cons r1 r2,q2⟩
def tTup (t:TA):TE:=fun σ H Q=>t σ H fun xs H1=>xs.length≤sizeLine∧∀ p,H1 p=none→Q (.ref p) (upd H1 p (.tup xs))
def tLst (t:TA):TE:=fun σ H Q=>t σ H fun xs H1=>xs.length≤sizeLine∧∀ p,H1 p=none→Q (.ref p) (upd H1 p (.lst xs))
theorem zaK {x1}(h:PA X es t):PE X (.Tuple es x1 pos) (tTup t):=by
 intro pins s σ H Q I hq
 refine wpAny_Tuple_spliced (thn (h pos pins s σ H _ I hq) fun us s1 ⟨xs,H1,I1,r,z,q⟩=>⟨by rw [← r.length];exact z,?_⟩)
 have hf:H1 s1.heap.objs.size=none:=I1.hok.fresh (Xaf _)
 refine ⟨.ref s1.heap.objs.size,upd H1 s1.heap.objs.size (.tup xs),I1.laid (t':=s1.toks) (fun b u e=>Xab _ e) (Xaf _) ?_,rfl,q _ hf⟩
 exact ⟨⟨z,_,Xah _ rfl,rfl⟩,us,r,⟨_,Xah _ rfl,rfl,_,rfl⟩⟩
theorem zaw (h:PA X es t):PE X (.List es pos) (tLst t):=by
 intro pins s σ H Q I hq
 refine wpAny_List_spliced (thn (h pos pins s σ H _ I hq) fun us s1 ⟨xs,H1,I1,r,z,q⟩=>⟨by rw [← r.length];exact z,?_⟩)
 have hf:H1 s1.heap.objs.size=none:=I1.hok.fresh (Xaf _)
 refine ⟨.ref s1.heap.objs.size,upd H1 s1.heap.objs.size (.lst xs),I1.laid (t':=s1.toks) (fun b u e=>Xab _ e) (Xaf _) ?_,rfl,q _ hf⟩
 exact ⟨z,us,0,r,Xah _ rfl⟩
end
abbrev Sp:=List V→Hp→VK→XK→Prop
abbrev CXT:=List Env→Hp→Shared→XK→Value→Shared→Prop
structure Env0 (P:Program)(w:World)(K:W.Frag)(mg:Str→Option Value)(base:Heap)(A:Around)(outer:List Env)(s:Shared)(H:Hp):Prop where
 frames:A.frames=some outer
 mod:Mod K mg base
 bs:∀ b o,base.get? b=some o→s.heap.get? b=some o∧H b=none
 bsz:base.objs.size≤s.heap.objs.size
 funs:s.heap.FunFrames base outer
 frf:∀ b∈frs outer,H b=none
 hok:HOk P w H s.heap
 bare:AllBare s.gens
def CE (outer:List Env)(P:Program)(w:World)(H:Hp)(s:Shared)(Q:VK)(u:Value)(s':Shared):Prop:=
 ∃ v H',s'.os=s.os∧AllBare s'.gens∧Un (frs outer) [] H H' s.heap s'.heap∧HOk P w H' s'.heap∧RelV v u∧Q v H'
def CR (CX:CXT)(outer:List Env)(P:Program)(w:World)(H:Hp)(s:Shared)(Q:VK)(E:XK)(r:Result)(s':Shared):Prop:=
 match r with
 | .ok (.ret u)=>CE outer P w H s Q u s'
 | .ok _=>False
 | .error e=>CX outer H s E e s'
structure FnOk (P:Program)(w:World)(K:W.Frag)(mg:Str→Option Value)(base:Heap)(CX:CXT)(k:Nat)(f:Addr)(fd:FuncData)(ps:List Str)(sp:Sp):Prop where
 len:∀ vs H Q E,sp vs H Q E→vs.length=ps.length
 run:∀ (A:Around) (outer:List Env) (s:Shared) (H:Hp) (args:Args) (us:List Value) (vs:List V) (Q:VK) (E:XK),Room k A→Env0 P w K mg base A outer s H→BindsTo s fd args (ps.zip us)→Vals vs us→sp vs H Q E →
  codeAny (model P w) A (.call (.ref f) args) (CR CX outer P w H s Q E) s
theorem Env0.make {P:Program}{w:World}{K:W.Frag}{mg:Str→Option Value}{base:Heap}{A:Around}{outer:List Env}{s:Shared}{H:Hp}(e:Env0 P w K mg base A outer s H)(C:Addr)(us:List Value)(kw:List (Str×Value)) :
  Env0 P w K mg base (A.under (.builtin "type.__call__" ⟨.ref C :: us,kw⟩)) outer s H:=⟨by first | exact e.frames | (simpa [Around.under,Code.envs,Code.isFrame,pushEnvs] using e.frames),e.mod,e.bs,e.bsz,e.funs,e.frf,e.hok,e.bare⟩
theorem Env0.in1 {P:Program}{w:World}{K:W.Frag}{mg:Str→Option Value}{base:Heap}{A:Around}{outer:List Env}{s:Shared}{H:Hp}(e:Env0 P w K mg base A outer s H) :
  Env0 P w K mg base A.in1 outer s H:=⟨e.frames,e.mod,e.bs,e.bsz,e.funs,e.frf,e.hok,e.bare⟩
section
variable {X:Cx}{pins:List (Addr×Obj)}{σ:St}{H:Hp}{s s':Shared}
theorem Inv.env0 (I:Inv X pins σ H s):Env0 X.prog X.w X.K X.mg X.base X.A X.stack s H:=
 ⟨I.ok.frames,I.ok.mod,I.bs,Xav I.ok.bsz I.sz,I.stack,I.stkFree,I.hok,I.bare⟩
theorem Inv.after {Q:VK}{u:Value}(I:Inv X pins σ H s)(h:CE X.stack X.prog X.w H s Q u s'):EP X pins σ Q u s':=by
 obtain ⟨v,H',os,bare,un,hok,r,q⟩:=h
 obtain ⟨hh,g,d,t,os'⟩:=s'
 obtain rfl:os'=s.os:=os
 exact ⟨v,H',I.call (h':=hh) (g':=g) (d':=d) (t':=t) (ch:=[]) un hok bare (fun b z=>absurd z (by simp)),r,q⟩
end
def ziF (sp:Sp)(dvs:List V)(E:XK)(t:TA):TE:=fun σ H Q=>t σ H fun vs H1=>sp (vs ++ dvs) H1 Q E
def Binds (K:W.Frag)(fd:FuncData)(ps:List Str)(ds:List Value):Prop:=
 ∀ (s:Shared) (us:List Value),K.In s.heap→(us ++ ds).length=ps.length→BindsTo s fd ⟨us,[]⟩ (ps.zip (us ++ ds))
theorem Binds.all {K:W.Frag}{fd:FuncData}{ps:List Str}(h:∀ us:List Value,us.length=ps.length→bindArgs fd ⟨us,[]⟩=pure (ps.zip us)):Binds K fd ps []:=fun s us _ hl=>by
 rw [Xa7] at hl ⊢
 exact .of_eq (h us hl)
def Passes (CX:CXT)(X:Cx)(E:XK):Prop:=∀ (pins:List (Addr×Obj)) (σ:St) (H:Hp) (s:Shared) (e:Value) (s':Shared),Inv X pins σ H s→CX X.stack H s E e s'→X.xe e s'
section
variable {X:Cx}{CX:CXT}{k:Nat}{f C:Addr}{fd:FuncData}{ps:List Str}{sp:Sp}{dvs:List V}{ds:List Value}{E:XK}{x m:Str}{p pos apos:Pos}{e o:Expr}{es:List Expr}{ta:TE}{t:TA}
theorem zjG {pins:List (Addr×Obj)}{σ:St}{H:Hp}{s:Shared}{Q:VK}{us:List Value}{vs:List V}(F:FnOk X.prog X.w X.K X.mg X.base CX k f fd ps sp)(hr:Room k X.A)(hb:Binds X.K fd ps ds)(hd:Vals dvs ds)(hx:Passes CX X E)
  (I:Inv X pins σ H s) (r:Vals vs us) (h:sp (vs ++ dvs) H Q E):wpAny (model X.prog X.w) X.A (call (.ref f) us) (EP X pins σ Q) X.xe s:=by
 have r2:Vals (vs ++ dvs) (us ++ ds):=r.append hd
 have hl:(us ++ ds).length=ps.length:=by rw [← r2.length];exact F.len _ _ _ _ h
 refine Xbu (Xbw (F.run X.A X.stack s H ⟨us,[]⟩ (us ++ ds) (vs ++ dvs) Q E hr I.env0 (hb s us I.kIn hl) r2 h) fun r s' hq=>?_)
 cases r with
 | error e=>exact hx pins σ H s e s' I hq
 | ok fl =>
  cases fl with
  | ret u=>exact I.after hq
  | next=>exact False.elim hq
  | brk=>exact False.elim hq
  | cont=>exact False.elim hq
theorem zkv (F:FnOk X.prog X.w X.K X.mg X.base CX k f fd ps sp)(hr:Room k X.A)(hg:Gl X x)(hm:X.mg x=some (.ref f))(hk:W.keepIn X.K (.ref f)=true)(hb:Binds X.K fd ps ds)(hd:Vals dvs ds)(hx:Passes CX X E)
  (ha:PA X (e :: es) t) (hdb:(x == ("__debug__" : Str))=false:=by decide) (he:starEach (e :: es) X.env=(false,eval e X.env) :: starEach es X.env:=by rfl) (hpl:(backTo pos (starEach es X.env)).any (·.1)=false:=by rfl) :
  PE X (.Call (.Name x p) (e :: es) [] pos) (ziF sp dvs E t):=by
 intro pins s σ H Q I h
 refine Xbg (zbt I hg hm ?_ hdb)
 refine W.callWith_K (h₀:=X.base) I.ok.mod.kin hk (thn (ha pos pins s σ H _ I h) fun us s1 ⟨vs,H1,I1,r,q⟩=>⟨I1.kIn,?_⟩) he hpl
 exact zjG F hr hb hd hx I1 r q
structure Mk (K:W.Frag)(C f:Addr):Prop where
 makes:W.makesIn K C=true
 init:W.findIn K (.ref C) "__init__" = some (some (.ref f))
 fn:W.isFn K (.ref f)=true
 kp:W.keepIn K (.ref C)=true
end
section
variable {X:Cx}{CX:CXT}{k:Nat}{f C:Addr}{fd:FuncData}{ps ks:List Str}{sp:Sp}{E:XK}{x m:Str}{p pos apos kpos:Pos}{e o:Expr}{es:List Expr}{kws:List Keyword}{te ta:TE}{t tk:TA}{nm:Option Str}
structure KBinds (K:W.Frag)(fd:FuncData)(ps ks:List Str)(g:List Value→List Value→List Value)(gV:List V→List V→List V):Prop where
 to:∀ (s:Shared) (us ws:List Value),K.In s.heap→(g us ws).length=ps.length→BindsTo s fd ⟨us,ks.zip ws⟩ (ps.zip (g us ws))
 rel:∀ {vs:List V} {us:List Value} {zs:List V} {ws:List Value},Vals vs us→Vals zs ws→Vals (gV vs zs) (g us ws)
variable {g:List Value→List Value→List Value}{gV:List V→List V→List V}
end
structure FnScope (N P:List Str)(sc:Scope):Prop where
 kind:sc.kind = .function
 co:sc.isCoroutine=false
 gen:sc.isGenerator=false
 nd:N.Nodup
 pre:N.take P.length=P
 par:∀ x∈P,sc.names.lookup x=some .local∨sc.names.lookup x=some .cell
 nofree:∀ y∈sc.names,y.2≠.free
theorem zfu {kindOf:Str→Option NameKind}{x:Str}:∀ {binds:List (Str×Value)} {m:Str→Option Value},(∀ v,(x,v) ∉ binds)→bindL kindOf binds m x=m x
 | [],_,_=>rfl
 | (n,v) :: r,m,h=>by
  unfold bindL
  rw [zfu fun w hw=>h w (XaB _ hw)]
  split
  ·have:x≠n:=by rintro rfl;exact h v XaA
   simp [this]
  ·rfl
theorem zfw {kindOf:Str→Option NameKind}{x:Str}:∀ {binds:List (Str×Value)} {m:Str→Option Value},(∀ v,(x,v) ∉ binds)→bindC kindOf binds m x=m x
 | [],_,_=>rfl
 | (n,v) :: r,m,h=>by
  unfold bindC
  rw [zfw fun w hw=>h w (XaB _ hw)]
  split
  ·rfl
  ·have:x≠n:=by rintro rfl;exact h v XaA
   simp [this]
theorem zfv {kindOf:Str→Option NameKind}{x:Str}{v:Value}:∀ {P:List Str} {vs:List Value} {i:Nat} {m:Str→Option Value},P.Nodup→P[i]? = some x→vs[i]? = some v→kindOf x=some .local →
  bindL kindOf (P.zip vs) m x=some v
 | [],_,_,_,_,h,_,_=>by simp at h
 | _ :: _,[],_,_,_,_,h,_=>by simp at h
 | p :: P,w :: vs,0,m,nd,h1,h2,hk=>by
  simp at h1 h2;subst h1;subst h2
  show bindL kindOf ((p,w) :: P.zip vs) m p=_
  unfold bindL
  rw [zfu fun v hv=>(XbA.mp nd).1 (List.of_mem_zip hv).1,if_pos hk]
  simp
 | p :: P,w :: vs,i+1,m,nd,h1,h2,hk=>by
  show bindL kindOf ((p,w) :: P.zip vs) m x=_
  unfold bindL
  exact zfv (i:=i) (XbA.mp nd).2 (by simpa using h1) (by simpa using h2) hk
theorem zfx {kindOf:Str→Option NameKind}{x:Str}{v:Value}:∀ {P:List Str} {vs:List Value} {i:Nat} {m:Str→Option Value},P.Nodup→P[i]? = some x→vs[i]? = some v→kindOf x≠some .local →
  bindC kindOf (P.zip vs) m x=some v
 | [],_,_,_,_,h,_,_=>by simp at h
 | _ :: _,[],_,_,_,_,h,_=>by simp at h
 | p :: P,w :: vs,0,m,nd,h1,h2,hk=>by
  simp at h1 h2;subst h1;subst h2
  show bindC kindOf ((p,w) :: P.zip vs) m p=_
  unfold bindC
  rw [zfw fun v hv=>(XbA.mp nd).1 (List.of_mem_zip hv).1,if_neg hk]
  simp
 | p :: P,w :: vs,i+1,m,nd,h1,h2,hk=>by
  show bindC kindOf ((p,w) :: P.zip vs) m x=_
  unfold bindC
  exact zfx (i:=i) (XbA.mp nd).2 (by simpa using h1) (by simpa using h2) hk
def start (N:List Str)(vs:List V):St:=vs.map some ++ List.replicate (N.length - vs.length) none
def cxOf (CX:CXT)(P:Program)(w:World)(K:W.Frag)(mg:Str→Option Value)(base:Heap)(N:List Str)(qual:Str)(scope:Scope)(f:Addr)(cd:Value)(A:Around)(outer:List Env)(s:Shared)(H:Hp)(E:XK):Cx where
 prog:=P
 w:=w
 K:=K
 mg:=mg
 base:=base
 A:=A.deeper (envOfC qual scope s.heap.objs.size f cd)
 N:=N
 s₀:=s
 H₀:=H
 env:=envOfC qual scope s.heap.objs.size f cd
 outer:=outer
 stack:=envOfC qual scope s.heap.objs.size f cd :: outer
 ex:=[]
 calm:=true
 fn:=fun _=>true
 pn:=[]
 xe:=fun e s'=>wpAny (model P w) (A.deeper (envOfC qual scope s.heap.objs.size f cd)) (leaving (envOfC qual scope s.heap.objs.size f cd) e) (fun _ s''=>CX outer H s E e s'') (fun e' s''=>CX outer H s E e' s'') s'
theorem zgE {sc:Scope}{n:Nat}{x:Str}(h:sc.names.lookup x=some .cell):∃ c,(cellsFrom n sc.names []).lookup x=some c:=by
 have q:=W.cellsFrom_some sc.names n [] (.inl h)
 exact Option.isSome_iff_exists.mp q
theorem zh3 {CX:CXT}{P:Program}{w:World}{K:W.Frag}{mg:Str→Option Value}{base:Heap}{N ps:List Str}{qual:Str}{scope:Scope}{f:Addr}{cd:Value}{A:Around}{outer:List Env}{s s1:Shared}{H:Hp}{E:XK}{us:List Value}{vs:List V}
  (S:FnScope N ps scope) (hd:A.handled=none) (e0:Env0 P w K mg base A outer s H) (hl:vs.length=ps.length) (r:Vals vs us)
  (x:InCallC s s.heap.objs.size (bindL (envOfC qual scope s.heap.objs.size f cd).kindOf (ps.zip us) fun _=>none) (cellsFrom (s.heap.objs.size+1) scope.names []) (bindC (envOfC qual scope s.heap.objs.size f cd).kindOf (ps.zip us) fun _=>none) s1) :
  Inv (cxOf CX P w K mg base N qual scope f cd A outer s H E) [] (start N vs) H s1:=by
 have hpl:ps.length≤N.length:=by have:=congrArg List.length S.pre;rw [XaR] at this;omega
 obtain ⟨h1,tk,rfl,hk⟩:=x.done
 have noA:∀ b:Addr,b ∉ (cxOf CX P w K mg base N qual scope f cd A outer s H E).ex:=fun b z=>absurd (show b∈([]:List Addr) from z) (by simp)
 refine ⟨⟨e0.mod,S.kind,rfl,rfl,Xaf _,fun y z c h1 h2=>?_,fun y hy=>?_,fun y c _ h=>?_,fun _=>hd,Around.frames_deeper e0.frames,.inr ⟨rfl,rfl⟩,fun b z=>absurd z (noA b),e0.bs,e0.bsz,fun b _ _=>noA b,fun b z=>absurd z (noA b),e0.funs,e0.frf⟩,
  rfl,e0.bare,Un.kept hk,⟨_,x.toInCall.ns,fun i y v h1 h2 h3=>?_⟩,fun y c h=>⟨_,x.cell y c h⟩,e0.hok.fresh (Xaf _),fun y c h=>?_,fun p hp=>absurd (show p∈([]:List (Addr×Obj)) from hp) (by simp),e0.hok.kept hk,?_⟩
 ·exact name_of_addr x.apart (PySem.mem_of_lookup h1) (PySem.mem_of_lookup h2)
 ·have hy:scope.names.lookup y=some .cell∨scope.names.lookup y=some .free:=hy
  rcases hy with hy | hy
  ·exact zgE hy
  ·exact absurd rfl (S.nofree _ (PySem.mem_of_lookup hy))
 ·exact Xbv (x.above y c (PySem.mem_of_lookup h))
 ·have hi:i<vs.length:=by
   unfold start at h2
   by_cases hi:i<vs.length
   ·exact hi
   ·rw [XbF (by simpa using hi)] at h2
    rw [List.getElem?_replicate] at h2
    split at h2 <;> cases h2
  have ha:vs[i]? = some v:=by
   unfold start at h2
   rw [Xbj (by simpa using hi),Xan] at h2
   cases e:vs[i]? with
   | none=>rw [e] at h2;cases h2
   | some a=>rw [e] at h2;cases h2;rfl
  obtain ⟨u,hu,rv⟩:=r.get ha
  have hp:ps[i]? = some y:=by
   rw [← S.pre,List.getElem?_take_of_lt (by omega)];exact h1
  have ndP:ps.Nodup:=by rw [← S.pre];exact S.nd.sublist (List.take_sublist _ _)
  refine ⟨u,rv,?_⟩
  rcases S.par y (Xau hp) with k | k
  ·exact .inl ⟨k,zfv ndP hp hu k⟩
  ·obtain ⟨c,e⟩:=zgE (n:=s.heap.objs.size+1) k
   refine .inr ⟨.inl k,c,e,?_⟩
   have q:=x.cell y c e
   rw [zfx ndP hp hu (by show scope.names.lookup y≠_;rw [k];decide)] at q
   exact q
 ·exact e0.hok.fresh (Xbv (x.above y c (PySem.mem_of_lookup h)))
 ·unfold start
  show _=N.length
  rw [Xao,Xae,XbB]
  omega
theorem zjm {CX:CXT}{P:Program}{w:World}{K:W.Frag}{mg:Str→Option Value}{base:Heap}{k:Nat}{f:Addr}{name qual:Str}{params:Arguments}{body:List Stmt}{scope:Scope}{dV kV doc pm cdv ct oc:Value}{an od:Option Addr}
  {osl:Array (Option Value)} {N ps:List Str} {sp:Sp} (lk:K.lookup f=some ⟨oc,od,.func (W.fnOf name qual params body scope dV kV doc pm an cdv ct),osl⟩) (hcd:W.codeIn K cdv qual=true) (S:FnScope N ps scope)
  (len:∀ vs H Q E,sp vs H Q E→vs.length=ps.length)
  (hbody:∀ (A:Around) (outer:List Env) (s:Shared) (H:Hp) (vs:List V) (Q:VK) (E:XK),Room k (A.deeper (envOfC qual scope s.heap.objs.size f cdv))→sp vs H Q E →
   ∃ t,PSs (cxOf CX P w K mg base N qual scope f cdv A outer s H E) body t∧t { nx:=fun _ H'=>Q .non H',rt:=Q } (start N vs) H) :
  FnOk P w K mg base CX (k+1) f (W.fnOf name qual params body scope dV kV doc pm an cdv ct) ps sp:=by
 refine ⟨len,fun A outer s H args us vs Q E hr e0 hb r hsp=>?_⟩
 have hl:=len _ _ _ _ hsp
 have KX:K.In s.heap:=e0.mod.kin.keeps fun b o e=>(e0.bs b o e).1
 have lim:s.heap.NoLimit:=e0.mod.nolimit.keeps fun b o e=>(e0.bs b o e).1
 have hkind:∀ y∈ps.zip us,scope.names.lookup y.1=some .local∨(scope.names.lookup y.1=some .cell∧((cellsFrom (s.heap.objs.size+1) scope.names []).lookup y.1).isSome=true):=fun ⟨n,v⟩ hy=>by
  rcases S.par n (List.of_mem_zip hy).1 with q | q
  ·exact .inl q
  ·exact .inr ⟨q,W.cellsFrom_some _ _ _ (.inl q)⟩
 refine codeAny_call_function hr.depth (KX _ _ lk) rfl S.co S.gen rfl (W.codeRec_of KX hcd) (hb _ _ _ _ ?_)
 refine wpAny_newFunctionEnv_cells S.kind hkind fun env he s1 x=>?_
 subst he
 refine ⟨lim.keeps x.toInCall.keep,codeAny_func ?_⟩
 obtain ⟨t,ht,hq⟩:=hbody A outer s H vs Q E (hr.deeper _) hsp
 have I:Inv (cxOf CX P w K mg base N qual scope f cdv A outer s H E) [] (start N vs) H s1:=zh3 S hr.hd e0 hl r x
 refine Xaz (ht [] s1 (start N vs) H _ I hq) (fun fl s' hs=>?_) fun e s' hs=>hs
 have fin:∀ {σ':St} {H':Hp} {v:V} {u:Value},Inv (cxOf CX P w K mg base N qual scope f cdv A outer s H E) [] σ' H' s'→RelV v u→Q v H'→CE outer P w H s Q u s':=
  fun {σ' H' v u} J rv q=>⟨v,H',J.os,J.bare,J.base,J.hok,rv,q⟩
 cases fl with
 | ret u =>
  obtain ⟨v,σ',H',J,rv,q⟩:=hs
  exact fin J rv q
 | next =>
  obtain ⟨σ',H',J,q⟩:=hs
  exact fin (v:=V.non) (u:=Value.none) J rfl q
 | brk =>
  obtain ⟨_,_,_,q⟩:=hs
  exact False.elim q
 | cont =>
  obtain ⟨_,_,_,q⟩:=hs
  exact False.elim q
section
variable {X:Cx}{x:Str}{p pos:Pos}{e:Expr}{es:List Expr}{t:TA}{id T:String}{r:List V→Hp→VK→Prop}
def tCB (r:List V→Hp→VK→Prop)(t:TA):TE:=fun σ H Q=>t σ H fun vs H1=>r vs H1 Q
theorem zal (hc:zbH X (.builtin id) r)(hg:Gl X x)(hm:X.mg x=none)(hv:bootBuiltins x=some (.builtin id))(ha:PA X (e :: es) t)(hn:x ≠ "__name__" := by decide)(hdb:(x == ("__debug__" : Str))=false:=by decide)
  (he:starEach (e :: es) X.env=(false,eval e X.env) :: starEach es X.env:=by rfl) (hpl:(backTo pos (starEach es X.env)).any (·.1)=false:=by rfl):PE X (.Call (.Name x p) (e :: es) [] pos) (tCB r t):=by
 intro pins s σ H Q I h
 refine Xbg (zcr I hg hm hv ?_ hn hdb)
 exact PyProof.Rows.callWith_builtin1 (thn (ha pos pins s σ H _ I h) fun us s1 ⟨vs,H1,I1,r1,q1⟩=>hc pins s1 σ H1 vs us Q I1 r1 q1) he hpl
theorem za1 (hc:zbH X (.type T) r)(hg:Gl X x)(hm:X.mg x=none)(hv:bootBuiltins x=some (.type T))(ha:PA X (e :: es) t)(hn:x ≠ "__name__" := by decide)(hdb:(x == ("__debug__" : Str))=false:=by decide)
  (he:starEach (e :: es) X.env=(false,eval e X.env) :: starEach es X.env:=by rfl) (hpl:(backTo pos (starEach es X.env)).any (·.1)=false:=by rfl):PE X (.Call (.Name x p) (e :: es) [] pos) (tCB r t):=by
 intro pins s σ H Q I h
 refine Xbg (zcr I hg hm hv ?_ hn hdb)
 exact PyProof.Rows.callWith_type1 (thn (ha pos pins s σ H _ I h) fun us s1 ⟨vs,H1,I1,r1,q1⟩=>hc pins s1 σ H1 vs us Q I1 r1 q1) he hpl
end
end L2
namespace HT
open PySem PyProof.Rows
def lexLt:List Int→List Int→Bool
 | [],[]=>false
 | [],_ :: _=>true
 | _ :: _,[]=>false
 | x :: xs,y :: ys=>if x=y then lexLt xs ys else decide (x<y)
theorem lexLt_cons (x y:Int)(xs ys:List Int):lexLt (x :: xs) (y :: ys)=if x=y then lexLt xs ys else decide (x<y):=rfl
theorem lexLt_nil_nil:lexLt [] []=false:=rfl
theorem zdT (y:Int)(ys:List Int):lexLt [] (y :: ys)=true:=rfl
theorem zdU (x:Int)(xs:List Int):lexLt (x :: xs) []=false:=rfl
theorem zjn (A:Around)(s:Shared)(a:Int)(t:Tok)(c:Int)(u:Tok):∃ e,SeqAt.EqAt A s (.int a t) (.int c u) e∧(e=true↔a=c):=
 ⟨(a == c),SeqAt.EqAt.int_int a t c u,by simp⟩
theorem ziQ (A:Around)(s:Shared)(a:Int)(t:Tok)(c:Int)(u:Tok)(prog:Program)(w:World)(E:Value→Shared→Prop)(Q:Value→Shared→Prop)(h:Q (.bool (decide (a<c))) s) :
  wpAny (model prog w) A (richCompare .Lt (.int a t) (.int c u)) Q E s:=
 (PyProof.Rows.lt_int h:wpAny (model prog w) A (compareOp .Lt (.int a t) (.int c u)) Q E s)
section
open PySem.SeqAt
open PySem.AutoSeq1 (wpAny_loadPart')
open PySem.MeetsSeq PySem.MeetsSeq2 PySem.MeetsSeq3
theorem zed (l b:Addr)(items items2:Array Value)(n n2:Nat)(dd dd2:Option Addr)(sl sl2:Array (Option Value))(ns ms:List Int)(hi:IntsAre items.toList ns)(hj:IntsAre items2.toList ms) :
  Meets (Builtin.«tuple.__lt__» ⟨[.ref l,.ref b],[]⟩)
   (fun _ R s=>s.heap.get? l=some { cls:=.type "tuple",dict:=dd,data:=.seq items n,slots:=sl }∧s.heap.get? b=some { cls:=.type "tuple",dict:=dd2,data:=.seq items2 n2,slots:=sl2 } ∧
    R (.ok (.ret (.bool (lexLt ns ms)))) s):=
 .of_wp fun prog w A R s h=>by
  obtain ⟨hp,g,d,tk,os⟩:=s;obtain ⟨hl,hb,h⟩:=h
  have f2:=AutoSeq1.sub_tuple_tuple
  have z1:items.size=ns.length:=by rw [← hi.length];simp
  have z2:items2.size=ms.length:=by rw [← hj.length];simp
  wp_walk using wpAny_loadPart' hl,wpAny_loadPart' hb,wpAny_forIn_list _ (fun rest b s'=>b.1=none∧s'=⟨hp,g,d,tk,os⟩∧∃ (vs ws:List Value) (ns' ms':List Int),rest=vs.zip ws ∧
   IntsAre vs ns'∧IntsAre ws ms'∧ns'.length+items2.size=ms'.length+items.size∧R (.ok (.ret (.bool (lexLt ns' ms')))) ⟨hp,g,d,tk,os⟩) _
  case turn =>
   rintro ⟨y,x⟩ rest b s' ⟨hb',rfl,vs,ws,ns',ms',hz,hvi,hwi,hlen,hR⟩
   cases hvi with
   | nil=>rw [List.zip_nil_left] at hz;cases hz
   | cons a t hvi' =>
    cases hwi with
    | nil=>rw [List.zip_nil_right] at hz;cases hz
    | cons c u hwi' =>
     rw [List.zip_cons_cons] at hz
     injection hz with hyx hrest
     injection hyx with hy hx
     subst hy hx
     rw [lexLt_cons] at hR
     simp only [Xay] at hlen
     obtain ⟨e,he,hiff⟩:=zjn A.in1 ⟨hp,g,d,tk,os⟩ a t c u
     refine Xaa (he prog w _ _ ?_)
     cases e with
     | true =>
      rw [if_pos (hiff.mp rfl)] at hR
      wp_walk
      exact ⟨rfl,rfl,_,_,_,_,hrest,hvi',hwi',by omega,hR⟩
     | false =>
      rw [if_neg (fun q=>absurd (hiff.mpr q) Xaq)] at hR
      have hri:=ziQ A.in1 ⟨hp,g,d,tk,os⟩ a t c u prog w
      wp_walk using hri
      exact ⟨_,rfl,by simpa using hR⟩
  case fin =>
   rintro ⟨b1,b2⟩ s' ⟨hb',rfl,vs,ws,ns',ms',hz,hvi,hwi,hlen,hR⟩
   simp only at hb'
   subst hb'
   have hv:lexLt ns' ms'=decide (items.size<items2.size):=by
    cases hvi with
    | nil =>
     cases hwi with
     | nil =>
      simp only [XaZ] at hlen
      rw [lexLt_nil_nil]
      exact (Xas (by omega)).symm
     | cons c u hw =>
      simp only [XaZ,Xay] at hlen
      rw [zdT]
      exact (Xap (by omega)).symm
    | cons a t hv =>
     cases hwi with
     | nil =>
      simp only [XaZ,Xay] at hlen
      rw [zdU]
      exact (Xas (by omega)).symm
     | cons c u hw =>
      rw [List.zip_cons_cons] at hz
      cases hz
   rw [hv] at hR
   wp_walk
   exact ⟨_,rfl,by simpa [Builtin.Tuple.tupleCompareSizes] using hR⟩
  case h =>
   exact ⟨rfl,rfl,items.toList,items2.toList,ns,ms,rfl,hi,hj,by omega,h⟩
end
section
variable {prog:Program}{w:World}{A:Around}{E:Value→Shared→Prop}{s:Shared}
theorem lt_tupInts {l b:Addr}{items items2:Array Value}{ns ms:List Int}{Q:Value→Shared→Prop}(hl:IsTup s.heap l items)(hb:IsTup s.heap b items2)(hi:IntsAre items.toList ns)(hj:IntsAre items2.toList ms)
  (hu:A.units<cLine) (h:Q (.bool (lexLt ns ms)) s):wpAny (model prog w) A (compareOp .Lt (.ref l) (.ref b)) Q E s:=by
 obtain ⟨⟨cls,dd,data,sl⟩,ho,hc,n,hd⟩:=id hl
 obtain ⟨⟨cls2,dd2,data2,sl2⟩,ho2,hc2,n2,hd2⟩:=id hb
 simp only at hc hd hc2 hd2
 subst hc hd hc2 hd2
 exact richCompare_meets_room (op:=.Lt) ⟨_,ho,rfl⟩ ⟨_,ho2,rfl⟩ PySem.F.slot_tuple_lt PySem.F.entry_tuple_lt (PySem.F.args_tuple_lt_2 _ _) (zed l b items items2 n n2 dd dd2 sl sl2 ns ms hi hj)
  ⟨ho,ho2,show Value.bool (lexLt ns ms)≠Value.notImplemented∧Q (.bool (lexLt ns ms)) s from ⟨(fun x=>nomatch x),h⟩⟩ hu
theorem cat_tup {t b:Addr}{vs ws:List Value}{Q:Value→Shared→Prop}(ht:IsTup s.heap t vs.toArray)(hb:IsTup s.heap b ws.toArray)(hv:vs≠[])
  (h1:ws=[]→Q (.ref t) s) (h2:ws≠[]→Q (.ref s.heap.objs.size) { s with heap:=s.heap.push { cls:=.type "tuple",data:=.seq (vs ++ ws).toArray } })
  (hsz:vs.length+ws.length≤sizeLine):wpAny (model prog w) A (binaryOp .Add (.ref t) (.ref b)) Q E s:=by
 obtain ⟨⟨cls,dd,data,sl⟩,ho,hc,n,hd⟩:=id ht
 obtain ⟨⟨cls2,dd2,data2,sl2⟩,ho2,hc2,n2,hd2⟩:=id hb
 simp only at hc hd hc2 hd2
 subst hc hd hc2 hd2
 have e:vs.toArray ++ ws.toArray=(vs ++ ws).toArray:=by simp
 by_cases hw:ws=[]
 ·exact concat_meets ⟨_,ho,rfl⟩ ⟨_,ho2,rfl⟩ noFill_tuple_add seq_tuple_add PySem.F.slot_tuple_add PySem.F.entry_tuple_add (PySem.F.args_tuple_add_2 _ _)
   (tuple_addW1 t b vs.toArray ws.toArray n n2 dd dd2 sl sl2 (by simpa using hv) (by simp [hw])) ⟨ho,ho2,h1 hw⟩
 ·refine concat_meets ⟨_,ho,rfl⟩ ⟨_,ho2,rfl⟩ noFill_tuple_add seq_tuple_add PySem.F.slot_tuple_add PySem.F.entry_tuple_add (PySem.F.args_tuple_add_2 _ _)
   (tuple_addW2 t b vs.toArray ws.toArray n n2 dd dd2 sl sl2 (by simpa using hv) (by simpa using hw) (by rw [Xam,Xam];exact hsz)) ⟨ho,ho2,?_⟩
  rw [e]
  exact h2 hw
def sIx (n d:Nat):Option Int→Nat
 | none=>d
 | some v=>if v<0 then (v+(n:Int)).toNat else min v.toNat n
theorem sIx_none (n d:Nat):sIx n d none=d:=rfl
theorem sIx_nat (n d k:Nat):sIx n d (some (k:Int))=min k n:=by
 show (if (k:Int)<0 then ((k:Int)+(n:Int)).toNat else min (k:Int).toNat n)=min k n
 rw [if_neg (by omega),Xat]
theorem sIx_le (n d:Nat)(hd:d≤n)(o:Option Int):sIx n d o≤n:=by
 cases o with
 | none=>exact hd
 | some v =>
  show (if v<0 then (v+(n:Int)).toNat else min v.toNat n)≤n
  by_cases hv:v<0
  ·rw [if_pos hv];omega
  ·rw [if_neg hv];exact Nat.min_le_right _ _
theorem zii (v:Int)(n d:Nat):(if v<0 then max (v+(n:Int)) 0 else min v (n:Int))=((sIx n d (some v):Nat):Int):=by
 show (if v<0 then max (v+(n:Int)) 0 else min v (n:Int))=(((if v<0 then (v+(n:Int)).toNat else min v.toNat n):Nat):Int)
 by_cases hv:v<0
 ·simp only [if_pos hv];omega
 ·simp only [if_neg hv];omega
theorem zhe (lo hi:Option Int)(n:Nat):Builtin.Slice.sliceAdjust lo hi 1 (n:Int)=(((sIx n 0 lo:Nat):Int),((sIx n n hi:Nat):Int)):=by
 have h1:¬ ((1:Int)<0):=by omega
 unfold Builtin.Slice.sliceAdjust
 simp only [h1,if_false]
 refine Prod.ext ?_ ?_
 ·cases lo with
  | none=>rfl
  | some v=>exact zii v n 0
 ·cases hi with
  | none=>rfl
  | some v=>exact zii v n n
theorem zgQ (i j:Nat):Builtin.Slice.slicePlaces (i:Int) (j:Int) 1=j - i:=by
 unfold Builtin.Slice.slicePlaces
 have h1:(1:Int) > 0:=by omega
 simp only [h1,if_true,Int.ediv_one]
 split <;> omega
theorem zdX {v:Value}{o:Option Int}{Q:Option Int→Shared→Prop}(p:IsPart v o)(h:Q o s):wpAny (model prog w) A (Builtin.Slice.slicePartIndex v) Q E s:=by
 cases p with
 | none=>exact slicePart_none h
 | int i t=>exact slicePart_int h
theorem zbE {sl:Addr}{vl vu:Value}{lo hi:Option Int}{n:Nat}{Q:Int×Int×Nat→Shared→Prop}(hs:s.heap.IsSliceOf sl vl vu .none)(pl:IsPart vl lo)(pu:IsPart vu hi)
  (h:Q (((sIx n 0 lo:Nat):Int),1,sIx n n hi - sIx n 0 lo) s):wpAny (model prog w) A (Builtin.Slice.sliceApplied (.ref sl) (pure (n:Int))) Q E s:=by
 obtain ⟨os,hos,hcs,hds⟩:=id hs
 unfold Builtin.Slice.sliceApplied Builtin.Slice.sliceFields
 refine Xaa (Xaa (XaX hos hds (x:=vl) rfl (Xaa (XaX hos hds (x:=vu) rfl (Xaa (XaX hos hds (x:=.none) rfl (Xad ?_)))))))
 refine Xaa (slicePart_none ?_)
 show wpAny _ _ (if ((1:Int) == 0)=true then _ else _) _ _ s
 rw [if_neg (by decide)]
 refine Xaa (zdX pl (Xaa (zdX pu (Xaa (Xad ?_)))))
 show wpAny _ _ (match Builtin.Slice.sliceAdjust lo hi 1 (n:Int) with | (lo,hi)=>pure (lo,(1:Int),Builtin.Slice.slicePlaces lo hi 1)) _ _ s
 rw [zhe lo hi n]
 show wpAny _ _ (pure (((sIx n 0 lo:Nat):Int),(1:Int),Builtin.Slice.slicePlaces ((sIx n 0 lo:Nat):Int) ((sIx n n hi:Nat):Int) 1)) _ _ s
 rw [zgQ]
 exact Xad h
theorem ziV (xs:Array Value)(i k:Nat):((List.range k).filterMap fun (m:Nat)=>xs[((i:Int)+(m:Int) * 1).toNat]?).toArray=((xs.toList.drop i).take k).toArray:=by
 have e:(fun (m:Nat)=>xs[((i:Int)+(m:Int) * 1).toNat]?)=fun m=>xs[i+m]?:=by
  funext m
  have:((i:Int)+(m:Int) * 1).toNat=i+m:=by omega
  rw [this]
 rw [e]
 have:=pick_run xs i k
 rw [List.filterMap_map] at this
 have e2:((fun x=>xs[x]?) ∘ fun x=>i+x)=fun m=>xs[i+m]?:=rfl
 rw [e2] at this
 rw [this]
theorem getItem_tuple_cut {t sl:Addr}{items:Array Value}{vl vu:Value}{lo hi:Option Int}{Q:Value→Shared→Prop}(ht:IsTup s.heap t items)(hs:s.heap.IsSliceOf sl vl vu .none)(pl:IsPart vl lo)(pu:IsPart vu hi)
  (hw:¬ (sIx items.size 0 lo=0∧sIx items.size items.size hi=items.size))
  (h:Q (.ref s.heap.objs.size) { s with heap:=s.heap.push { cls:=.type "tuple",data:=.seq ((items.toList.drop (sIx items.size 0 lo)).take (sIx items.size items.size hi - sIx items.size 0 lo)).toArray } })
  (hsz:items.size≤sizeLine):wpAny (model prog w) A (getItem (.ref t) (.ref sl)) Q E s:=by
 have htake:sizeOk (.seq ((items.toList.drop (sIx items.size 0 lo)).take (sIx items.size items.size hi - sIx items.size 0 lo)).toArray):=by
  show ((items.toList.drop (sIx items.size 0 lo)).take (sIx items.size items.size hi - sIx items.size 0 lo)).toArray.size≤sizeLine
  rw [Xam,XaR,Xa3,Array.length_toList]
  omega
 have hj:sIx items.size items.size hi≤items.size:=sIx_le _ _ (Xaf _) hi
 obtain ⟨os,hos,hcs,hds⟩:=id hs
 have hTs:s.TypeIs (.ref sl) "slice" := ⟨os,hos,hcs⟩
 unfold getItem
 try with_reducible refine XaO ?_
 first | refine Xaa (Xad ?_) | skip
 refine Xaa (wpAny_sequenceKey ht.typeIs (by decide) ?_)
 refine Xaa (wpAny_callSpecial?_slot (name:=Str.ofString "__getitem__") ht.typeIs PyProof.Rows.slot_tuple_getitem
  (Xa0 PyProof.Rows.slot_tuple_getitem ht.typeIs entry_tuple_getitem ?_ (args_tuple_getitem _ _)))
 show wpAny _ _ (Builtin.Tuple.tupleItemsOf (.ref t) >>= _) _ _ s
 refine Xaa (tupleItemsOf_ ht ?_)
 refine Xaa (wpAny_typeOf hTs ?_)
 rw [if_pos (by decide)]
 refine Xaa (zbE hs pl pu ?_)
 have hno:¬ ((((sIx items.size 0 lo:Nat):Int) == 0 && (1:Int) == 1 && (sIx items.size items.size hi - sIx items.size 0 lo) == items.size)=true):=by
  intro q
  rw [Xa8,Xa8] at q
  have q1:((sIx items.size 0 lo:Nat):Int)=0:=eq_of_beq q.1.1
  have q2:sIx items.size items.size hi - sIx items.size 0 lo=items.size:=eq_of_beq q.2
  exact hw ⟨by omega,by omega⟩
 show wpAny _ _ (if (((sIx items.size 0 lo:Nat):Int) == 0 && (1:Int) == 1 && (sIx items.size items.size hi - sIx items.size 0 lo) == items.size)=true then _ else _) _ _ s
 rw [if_neg hno,ziV]
 first
  | exact Xaa (m:=Builtin.Tuple.tupleExact _) (XaP (Xad ⟨_,rfl,Xad h⟩) htake)
  | exact Xaa (m:=Builtin.Tuple.tupleExact _) (XaP (Xaa (Xad (Xad ⟨_,rfl,Xad h⟩))) htake)
  | exact Xaa (Xaa (m:=Builtin.Tuple.tupleExact _) (XaP (Xad (Xad ⟨_,rfl,Xad h⟩)) htake))
  | exact Xaa (Xaa (m:=Builtin.Tuple.tupleExact _) (XaP (Xad ⟨_,rfl,Xad h⟩) htake))
end
end HT
namespace L2
open PySem PySem.Spec PyProof.Rows
abbrev TO:=St→Hp→(Option Int→Hp→Prop)→Prop
def PO (X:Cx)(e:Option Expr)(t:TO):Prop:=
 ∀ (pins:List (Addr×Obj)) (s:Shared) (σ:St) (H:Hp) (Q:Option Int→Hp→Prop),Inv X pins σ H s→t σ H Q →
  wpAny (model X.prog X.w) X.A (evalPart e X.env) (fun u s'=>∃ o H',Inv X pins σ H' s'∧IsPart u o∧Q o H') X.xe s
def zkf:TO:=fun _ H Q=>Q none H
inductive tPart_1 (Q:Option Int→Hp→Prop)(x:V)(H1:Hp):Prop
 | mk (i:_) (z0_:x = .int i) (z1_:Q (some i) H1)
def tPart (t:TE):TO:=fun σ H Q=>t σ H (tPart_1 Q)
theorem zcM {ns:List Int}:∀ {us:List Value},Vals (ns.map V.int) us→IntsAre us ns:=by
 induction ns with
 | nil=>intro us r;rw [List.map_nil] at r;cases r;exact .nil
 | cons n ns ih =>
  intro us r
  rw [XaS] at r
  cases r with
  | cons r1 r2 =>
   obtain ⟨t,e⟩:=r1
   subst e
   exact .cons n t (ih r2)
section
variable {X:Cx}{e:Expr}{te:TE}{lo hi:Option Expr}{tl th:TO}{pos p2:Pos}
theorem zcg:PO X none zkf:=by
 intro pins s σ H Q I h
 rw [evalPart_none]
 exact Xad ⟨none,H,I,.none,h⟩
theorem zaT (h:PE X e te):PO X (some e) (tPart te):=by
 intro pins s σ H Q I hw
 rw [evalPart_some]
 refine thn (h pins s σ H _ I hw) fun u s1 hh_=>?_
 obtain ⟨x,H1,I1,r1,q1⟩:=hh_
 obtain ⟨i,rfl,q⟩:=q1
 obtain ⟨t,rfl⟩:=r1
 exact ⟨some i,H1,I1,.int i t,q⟩
def SlR (X:Cx)(r:V→Option Int→Option Int→Hp→VK→Prop):Prop:=
 ∀ (pins:List (Addr×Obj)) (s:Shared) (σ:St) (H:Hp) (x:V) (v vl vu:Value) (lo hi:Option Int) (sl:Addr) (Q:VK),Inv X pins σ H s→RelV x v→s.heap.IsSliceOf sl vl vu .none→IsPart vl lo→IsPart vu hi→r x lo hi H Q →
  ∃ T id,typeLookup (.type T) "__getitem__" = pure (some (.builtin id))∧s.TypeIs v T∧wpAny (model X.prog X.w) X.A (getItem v (.ref sl)) (EP X pins σ Q) X.xe s
def tSl (r:V→Option Int→Option Int→Hp→VK→Prop)(te:TE)(tl th:TO):TE:=fun σ H Q=>te σ H fun x H1=>tl σ H1 fun l H2=>th σ H2 fun u H3=>r x l u H3 Q
theorem zaV {r:V→Option Int→Option Int→Hp→VK→Prop}(hr:SlR X r)(he:PE X e te)(hl:PO X lo tl)(hu:PO X hi th):PE X (.Subscript e (.Slice lo hi none p2) pos) (tSl r te tl th):=by
 intro pins s σ H Q I h
 refine Subscript_ (thn (he pins s σ H _ I h) fun v s1 hh_=>?_)
 obtain ⟨x,H1,I1,r1,q1⟩:=hh_
 refine wpAny_Slice (thn (hl pins s1 σ H1 _ I1 q1) fun vl s2 ⟨l,H2,I2,pl,q2⟩=>thn (hu pins s2 σ H2 _ I2 q2) fun vu s3 hh_=>?_)
 obtain ⟨u,H3,I3,pu,q3⟩:=hh_
 rw [evalPart_none]
 refine Xad ?_
 have I4:Inv X pins σ H3 { s3 with heap:=s3.heap.push { cls:=.type "slice",data:=.fields #[vl,vu,.none] } }:=I3.kept (t':=s3.toks) fun b ob q=>Xab _ q
 obtain ⟨T,id,hT,ht,hg⟩:=hr pins { s3 with heap:=s3.heap.push { cls:=.type "slice",data:=.fields #[vl,vu,.none] } } σ H3 x v vl vu l u s3.heap.objs.size Q I4 r1 (Heap.IsSliceOf.new ..) pl pu q3
 show wpAny (model X.prog X.w) X.A (subscriptTail e (.Slice lo hi none p2) v (.ref s3.heap.objs.size)) (EP X pins σ Q) X.xe { s3 with heap:=s3.heap.push { cls:=.type "slice",data:=.fields #[vl,vu,.none] } }
 exact tail_any (ops:=[.ref s3.heap.objs.size,v]) ht hT hg (by with_unfolding_all rfl)
def cutV (xs:List V)(lo hi:Option Int):List V:=(xs.drop (HT.sIx xs.length 0 lo)).take (HT.sIx xs.length xs.length hi - HT.sIx xs.length 0 lo)
theorem zck (xs:List V)(lo hi:Option Int):(cutV xs lo hi).length≤xs.length:=by
 unfold cutV
 rw [XaR,Xa3]
 omega
inductive rSlT (K:W.Frag)(x:V)(lo:Option Int)(hi:Option Int)(H:Hp)(Q:VK):Prop
 | mk (a:_) (xs:_) (z0_:x = .ref a) (z1_:SqT K H a xs) (z2_:¬ (HT.sIx xs.length 0 lo=0∧HT.sIx xs.length xs.length hi=xs.length)) (z3_:∀ p,H p=none→Q (.ref p) (upd H p (.tup (cutV xs lo hi))))
theorem sl_tup:SlR X (rSlT X.K):=by
 intro pins s σ H x v vl vu lo hi sl Q I rx hs pl pu h
 obtain ⟨a,xs,rfl,hx,hw,q⟩:=h
 cases rx
 obtain ⟨its,r,ht,hz⟩:=I.tuple hx
 have hlen:its.toArray.size=xs.length:=by rw [Xam];exact r.length.symm
 refine ⟨"tuple",_,PyProof.Rows.slot_tuple_getitem.lookup,ht.typeIs,?_⟩
 refine HT.getItem_tuple_cut ht hs pl pu (by rw [hlen];exact hw) ?_ (by rw [hlen];exact hz)
 rw [hlen]
 refine ⟨.ref s.heap.objs.size,_,I.laid (t':=s.toks) (o:=.tup (cutV xs lo hi)) (fun b ob q=>Xab _ q) (Xaf _) ?_,rfl,q _ (I.hok.fresh (Xaf _))⟩
 exact ⟨⟨Xav (zck xs lo hi) hz,_,Xah _ rfl,rfl⟩,_,(r.drop (HT.sIx xs.length 0 lo)).take (HT.sIx xs.length xs.length hi - HT.sIx xs.length 0 lo),IsTup.new _ _⟩
inductive rCatT (K:W.Frag)(x:V)(y:V)(H:Hp)(Q:VK):Prop
 | mk (a:_) (b:_) (xs:_) (ys:_) (z0_:x = .ref a) (z1_:y = .ref b) (z2_:SqT K H a xs) (z3_:SqT K H b ys) (z4_:xs≠[]) (z5_:xs.length+ys.length≤sizeLine) (z6_:(ys=[]→Q (.ref a) H)) (z7_:(ys≠[]→∀ p,H p=none→Q (.ref p) (upd H p (.tup (xs ++ ys)))))
theorem Vals.nil_iff {xs:List V}{us:List Value}(r:Vals xs us):us=[]↔xs=[]:=by
 cases r with
 | nil=>simp
 | cons _ _=>simp
theorem zkz:OpR X (binaryOp .Add) (rCatT X.K):=by
 intro pins s σ H x y v u Q I rx ry h
 obtain ⟨a,b,xs,ys,rfl,rfl,ha,hb,hx,hz,q1,q2⟩:=h
 cases rx
 cases ry
 obtain ⟨its,r1,p1,_⟩:=I.tuple ha
 obtain ⟨its2,r2,p2,_⟩:=I.tuple hb
 refine HT.cat_tup p1 p2 (fun z=>hx (r1.nil_iff.mp z)) (fun z=>⟨.ref a,H,I,rfl,q1 (r2.nil_iff.mp z)⟩) (fun z=>?_) (by rw [← r1.length,← r2.length];exact hz)
 refine ⟨.ref s.heap.objs.size,_,I.laid (t':=s.toks) (o:=.tup (xs ++ ys)) (fun b ob q=>Xab _ q) (Xaf _) ?_,rfl,q2 (fun w=>z (r2.nil_iff.mpr w)) _ (I.hok.fresh (Xaf _))⟩
 exact ⟨⟨by rw [Xao];exact hz,_,Xah _ rfl,rfl⟩,_,r1.append r2,IsTup.new _ _⟩
end
def ixN (n:Nat)(i:Int):Option Nat:=if 0≤i then (if i<n then some i.toNat else none) else if -(n:Int)≤i then some (i+n).toNat else none
def atI {α:Type}(xs:List α)(i:Int):Option α:=(ixN xs.length i).bind fun j=>xs[j]?
theorem zkH {n:Nat}{i:Int}{j:Nat}(h:ixN n i=some j):seqIndex? i n=some j∧j<n∧-(n:Int)≤i∧i<n:=by
 unfold ixN at h
 by_cases h0:0≤i
 ·rw [if_pos h0] at h
  by_cases h1:i<n
  ·rw [if_pos h1] at h
   have e:i.toNat=j:=Option.some.inj h
   exact ⟨by rw [seqIndex_of h0 h1,e],by omega,by omega,h1⟩
  ·rw [if_neg h1] at h;cases h
 ·rw [if_neg h0] at h
  by_cases h1:-(n:Int)≤i
  ·rw [if_pos h1] at h
   have e:(i+n).toNat=j:=Option.some.inj h
   exact ⟨by rw [seqIndex_neg (by omega) h1,e],by omega,h1,by omega⟩
  ·rw [if_neg h1] at h;cases h
theorem zgc {α:Type}{xs:List α}{i:Int}{v:α}(h:atI xs i=some v):∃ j,seqIndex? i xs.length=some j∧xs[j]? = some v∧j<xs.length∧-(xs.length:Int)≤i∧i<xs.length:=by
 unfold atI at h
 cases e:ixN xs.length i with
 | none=>rw [e] at h;cases h
 | some j =>
  rw [e] at h
  obtain ⟨h1,h2,h3,h4⟩:=zkH e
  exact ⟨j,h1,h,h2,h3,h4⟩
theorem zaJ {α:Type}{xs:List α}{j:Nat}{v:α}(h:xs[j]? = some v):atI xs (j:Int)=some v:=by
 have hj:j<xs.length:=(Xag.mp h).1
 have e:ixN xs.length (j:Int)=some j:=by
  unfold ixN
  rw [if_pos (by omega),if_pos (by omega)];simp
 unfold atI;rw [e];exact h
theorem zcu {α:Type}(xs:List α)(v:α):atI (xs ++ [v]) (-1)=some v:=by
 have hl:(xs ++ [v]).length=xs.length+1:=by simp
 have e:ixN (xs ++ [v]).length (-1)=some xs.length:=by
  unfold ixN
  rw [hl,if_neg (by decide),if_pos (by omega)]
  congr 1
  omega
 unfold atI
 rw [e]
 show (xs ++ [v])[xs.length]? = some v
 simp
def ziw (b:Expr):Prop:=∀ o i,subscripted b false o i=operate [o,i] (getItem o i)
def IxR (X:Cx)(r:R2):Prop:=
 ∀ (value slice:Expr) (pins:List (Addr×Obj)) (s:Shared) (σ:St) (H:Hp) (x y:V) (v u:Value) (Q:VK),Inv X pins σ H s→RelV x v→RelV y u→r x y H Q →
  subscripted slice false v u=operate [v,u] (getItem v u)→wpAny (model X.prog X.w) X.A (subscriptTail value slice v u) (EP X pins σ Q) X.xe s
def MtR (X:Cx)(id:String)(r:V→List V→Hp→VK→Prop):Prop:=
 ∀ (pins:List (Addr×Obj)) (s:Shared) (σ:St) (H:Hp) (x:V) (xs:List V) (v:Value) (us:List Value) (Q:VK),Inv X pins σ H s→RelV x v→Vals xs us→r x xs H Q →
  wpAny (model X.prog X.w) X.A (call (.builtin id) (v :: us)) (EP X pins σ Q) X.xe s
section
variable {X:Cx}{a b:Expr}{ta tb:TE}{pos:Pos}
theorem pe_ix {r:R2}(hr:IxR X r)(ha:PE X a ta)(hb:PE X b tb)(hs:ziw b):PE X (.Subscript a b pos) (tOp r ta tb):=by
 intro pins s σ H Q I h
 exact Subscript_ (binT ha hb I h fun v u s2 x y H2 I2 rx ry q=>hr a b pins s2 σ H2 x y v u Q I2 rx ry q (hs _ _))
inductive rIxL (K:W.Frag)(x:V)(y:V)(H:Hp)(Q:VK):Prop
 | mk (p:_) (xs:_) (i:_) (v:_) (z0_:x = .ref p) (z1_:y = .int i) (z2_:SqL K H p xs) (z3_:atI xs i=some v) (z4_:Q v H)
inductive rIxT (K:W.Frag)(x:V)(y:V)(H:Hp)(Q:VK):Prop
 | mk (p:_) (xs:_) (i:_) (v:_) (z0_:x = .ref p) (z1_:y = .int i) (z2_:SqT K H p xs) (z3_:atI xs i=some v) (z4_:Q v H)
inductive rIxS (x:V)(y:V)(H:Hp)(Q:VK):Prop
 | mk (z:_) (i:_) (c:_) (z0_:x = .str z) (z1_:y = .int i) (z2_:z.length≤sizeLine) (z3_:atI z.cps.toList i=some c) (z4_:Q (.str ⟨#[c]⟩) H)
theorem zam:IxR X (rIxL X.K):=by
 intro value slice pins s σ H x y v u Q I rx ry h hs
 obtain ⟨p,xs,i,z,rfl,rfl,hq,he,q⟩:=h
 cases rx
 obtain ⟨t,rfl⟩:=ry
 obtain ⟨its,r,pl,hz⟩:=I.list hq
 obtain ⟨j,h1,h2,h3,h4,h5⟩:=zgc he
 obtain ⟨w,ew,rw'⟩:=r.get h2
 have hl:=r.length
 have hn:=zfa
 have fin:EP X pins σ Q w s:=⟨z,H,I,rw',q⟩
 by_cases h0:0≤i
 ·have hj:i.toNat=j:=by
   rw [seqIndex_of h0 h5] at h1
   exact Option.some.inj h1
  exact item_listR pl.isList h0 (by omega) (by rw [hj];simpa using ew) fin hs
 ·have hj:(i+(its.toArray.size:Int)).toNat=j:=by
   rw [seqIndex_neg (by omega) h4] at h1
   rw [Xam,← hl]
   exact Option.some.inj h1
  exact subscriptTail_builtinR (x:=w) pl.isList.typeIs slot_list_getitem.lookup
   (wpAny_getItem_list_neg (Q:=fun r s'=>r=w∧EP X pins σ Q r s') pl.isList (by omega) (by rw [Xam] <;> omega) (by omega) (by rw [hj];simpa using ew) ⟨rfl,fin⟩) hs
theorem zar:IxR X (rIxT X.K):=by
 intro value slice pins s σ H x y v u Q I rx ry h hs
 obtain ⟨p,xs,i,z,rfl,rfl,hq,he,q⟩:=h
 cases rx
 obtain ⟨t,rfl⟩:=ry
 obtain ⟨its,r,pl,hz⟩:=I.tuple hq
 obtain ⟨j,h1,h2,h3,h4,h5⟩:=zgc he
 obtain ⟨w,ew,rw'⟩:=r.get h2
 have hl:=r.length
 have hn:=zfa
 have fin:EP X pins σ Q w s:=⟨z,H,I,rw',q⟩
 exact subscriptTail_builtinR (x:=w) pl.typeIs slot_tuple_getitem.lookup
  (getItem_tuple (j:=j) (Q:=fun r s'=>r=w∧EP X pins σ Q r s') pl (by omega) (by omega) (by rw [Xam,← hl];exact h1) (by simpa using ew) ⟨rfl,fin⟩) hs
theorem ix_str:IxR X rIxS:=by
 intro value slice pins s σ H x y v u Q I rx ry h hs
 obtain ⟨z,i,c,rfl,rfl,hz,he,q⟩:=h
 obtain ⟨t,rfl⟩:=rx
 obtain ⟨t',rfl⟩:=ry
 obtain ⟨j,h1,h2,h3,h4,h5⟩:=zgc he
 have hl:z.cps.toList.length=z.length:=by simp [Str.length]
 rw [hl] at h1 h4 h5
 have hn:=zfa
 exact tail_any (typeIs_str s z t) slot_str_getitem.lookup (getItem_str (c:=c) (by
  have e1:decide (i < -(2 ^ 63:Int))=false:=Xas (by omega)
  have e2:decide (i ≥ 2 ^ 63)=false:=Xas (by omega)
  rw [e1,e2,Bool.or_false]) (by rw [h1];simpa using h2) ⟨.str ⟨#[c]⟩,H,I.tok _,⟨_,rfl⟩,q⟩) hs
theorem zeQ (lo hi:Option Int)(n:Nat):(sliceBounds lo hi none n).1=((HT.sIx n 0 lo:Nat):Int)∧(sliceBounds lo hi none n).2.1=((HT.sIx n n hi:Nat):Int)∧(sliceBounds lo hi none n).2.2=1:=by
 refine ⟨?_,?_,rfl⟩
 ·cases lo with
  | none=>simp [sliceBounds,HT.sIx]
  | some i =>
   simp only [sliceBounds,HT.sIx,Option.getD_none,show (1:Int) > 0 by decide,if_true]
   by_cases h:i<0
   ·simp only [h,if_true] <;> omega
   ·simp only [h,if_false] <;> omega
 ·cases hi with
  | none=>simp [sliceBounds,HT.sIx]
  | some i =>
   simp only [sliceBounds,HT.sIx,Option.getD_none,show (1:Int) > 0 by decide,if_true]
   by_cases h:i<0
   ·simp only [h,if_true] <;> omega
   ·simp only [h,if_false] <;> omega
theorem zeh (its:List Value)(lo hi:Option Int):slicePick its.toArray lo hi none=((its.drop (HT.sIx its.length 0 lo)).take (HT.sIx its.length its.length hi - HT.sIx its.length 0 lo)).toArray:=by
 obtain ⟨h1,h2,h3⟩:=zeQ lo hi its.toArray.size
 unfold slicePick
 rw [h1,h2,h3]
 simp only [sliceRange_one,pick_run,Xam] <;> rfl
inductive rSlL (K:W.Frag)(x:V)(lo:Option Int)(hi:Option Int)(H:Hp)(Q:VK):Prop
 | mk (a:_) (xs:_) (z0_:x = .ref a) (z1_:SqL K H a xs) (z2_:∀ p,H p=none→Q (.ref p) (upd H p (.lst (cutV xs lo hi))))
theorem zb8:SlR X (rSlL X.K):=by
 intro pins s σ H x v vl vu lo hi sl Q I rx hs pl pu h
 obtain ⟨a,xs,rfl,hx,q⟩:=h
 cases rx
 obtain ⟨its,r,ht,hz⟩:=I.list hx
 have hlen:=r.length
 refine ⟨"list",_,slot_list_getitem.lookup,ht.isList.typeIs,?_⟩
 refine wpAny_getItem_list_slice ht.isList hs pl pu .none (by simp) ?_ (by rw [Xam] <;> omega)
 rw [zeh,← hlen]
 refine ⟨.ref s.heap.objs.size,_,I.laid (t':=s.toks) (o:=.lst (cutV xs lo hi)) (fun b ob q=>Xab _ q) (Xaf _) ?_,rfl,q _ (I.hok.fresh (Xaf _))⟩
 exact ⟨Xav (zck xs lo hi) hz,_,0,(r.drop (HT.sIx xs.length 0 lo)).take (HT.sIx xs.length xs.length hi - HT.sIx xs.length 0 lo),Xah _ rfl⟩
theorem zan:zbH X (.builtin "len") (fun xs H Q=>∃ p ys,xs=[.ref p]∧(SqL X.K H p ys∨SqT X.K H p ys)∧Q (.int ys.length) H):=by
 intro pins s σ H xs us Q I r h
 obtain ⟨p,ys,rfl,hq,q⟩:=h
 obtain ⟨u,rfl,rx⟩:=zcw r
 cases rx
 have hn:=zfa
 rcases hq with hq | hq
 ·obtain ⟨its,r',pl,hz⟩:=I.list hq
  have hlen:=r'.length
  exact Calls.call_len_list pl.isList (by simp only [Xam] <;> omega) ⟨.int ys.length,H,I.tok _,⟨s.toks+1,by rw [Xam,hlen]⟩,q⟩
 ·obtain ⟨its,r',pl,hz⟩:=I.tuple hq
  have hlen:=r'.length
  exact len_tuple pl (by simp only [Xam] <;> omega) ⟨.int ys.length,H,I.tok _,⟨s.toks+1,by rw [Xam,hlen]⟩,q⟩
theorem zcS:zbH X (.type "list") (fun xs H Q=>∃ p ys,xs=[.ref p]∧(SqL X.K H p ys∨SqT X.K H p ys)∧∀ l,H l=none→Q (.ref l) (upd H l (.lst ys))):=by
 intro pins s σ H xs us Q I r h
 obtain ⟨p,ys,rfl,hq,q⟩:=h
 obtain ⟨u,rfl,rx⟩:=zcw r
 cases rx
 have fin:∀ (its:List Value),Vals ys its→ys.length≤sizeLine→∀ (h':Heap) (c':Nat),(∀ b o',s.heap.get? b=some o'→h'.get? b=some o') →
   h'.get? s.heap.objs.size=some { cls:=.type "list",dict:=none,data:=.seq its.toArray c',slots:=#[] }→EP X pins σ Q (.ref s.heap.objs.size) { s with heap:=h' }:=fun its r' hz h' c' kp e =>
  ⟨.ref s.heap.objs.size,_,I.laid (t':=s.toks) kp (Xaf _) (show ObjOk X.prog X.w _ h' _ (.lst ys) from ⟨hz,its,c',r',e⟩),rfl,q _ (I.hok.fresh (Xaf _))⟩
 rcases hq with hq | hq
 ·obtain ⟨its,r',pl,hz⟩:=I.list hq
  have hlen:=r'.length
  obtain ⟨o,ho,hc,n,hd⟩:=pl.isList
  exact call_list_seq p (.inl rfl) ho hc hd (fun h' c' kp e=>fin its r' hz h' c' kp e) (by simp only [Xam] <;> omega)
 ·obtain ⟨its,r',pl,hz⟩:=I.tuple hq
  have hlen:=r'.length
  obtain ⟨o,ho,hc,n,hd⟩:=pl
  exact call_list_seq p (.inr rfl) ho hc hd (fun h' c' kp e=>fin its r' hz h' c' kp e) (by simp only [Xam] <;> omega)
theorem za8:zbH X (.type "tuple") (fun xs H Q=>∃ p ys,xs=[.ref p]∧((SqL X.K H p ys∧∀ l,H l=none→Q (.ref l) (upd H l (.tup ys)))∨(SqT X.K H p ys∧Q (.ref p) H))):=by
 intro pins s σ H xs us Q I r h
 obtain ⟨p,ys,rfl,h⟩:=h
 obtain ⟨u,rfl,rx⟩:=zcw r
 cases rx
 rcases h with ⟨hq,q⟩ | ⟨hq,q⟩
 ·obtain ⟨its,r',pl,hz⟩:=I.list hq
  have hlen:=r'.length
  refine call_tuple_list pl.isList (fun h' kp=>?_) (by simp only [Xam] <;> omega)
  have I1:Inv X pins σ H { s with heap:=h' }:=I.kept (t':=s.toks) kp
  have I2:Inv X pins σ (upd H h'.objs.size (.tup ys)) { s with heap:=h'.push { cls:=.type "tuple",data:=.seq its.toArray } }:=
   I1.laid (t':=s.toks) (fun b o e=>Xab _ e) (Xaf _) (show ObjOk X.prog X.w _ _ _ (.tup ys) from ⟨⟨hz,_,Xah _ rfl,rfl⟩,its,r',IsTup.new _ _⟩)
  exact ⟨.ref h'.objs.size,_,I2,rfl,q _ (I1.hok.fresh (Xaf _))⟩
 ·obtain ⟨its,r',pl,hz⟩:=I.tuple hq
  exact call_tuple_same pl ⟨.ref p,H,I,rfl,q⟩
def tyV (K:W.Frag)(T:String)(x:V)(H:Hp):Prop:=match x with
 | .str _=>T = "str"
 | .int _=>T = "int"
 | .ref p=>(T = "list" ∧ ∃ xs,SqL K H p xs)∨(T = "tuple" ∧ ∃ o,K.lookup p=some o∧o.cls = .type "tuple" ∧ o.dict=none) ∨
   (T = "dict" ∧ ((∃ kvs,H p=some (.dK kvs))∨∃ kvs,H p=some (.dT kvs)))∨(T = "set" ∧ ∃ S n,H p=some (.set S n))
 | _=>False
theorem zjB {pins:List (Addr×Obj)}{σ:St}{H:Hp}{s:Shared}{T:String}{x:V}{v:Value}(I:Inv X pins σ H s)(r:RelV x v)(ty:tyV X.K T x H) :
  s.TypeIs v T∧∀ a,v = .ref a→∃ ob,s.heap.get? a=some ob∧ob.dict=none:=by
 cases x with
 | str z =>
  obtain ⟨t,rfl⟩:=r
  cases (show T = "str" from ty)
  exact ⟨typeIs_str s z t,fun _ e=>nomatch e⟩
 | int i =>
  obtain ⟨t,rfl⟩:=r
  cases (show T = "int" from ty)
  exact ⟨typeIs_int s i t,fun _ e=>nomatch e⟩
 | ref p =>
  cases r
  rcases ty with ⟨rfl,xs,hq⟩ | ⟨rfl,o,hk,hc,hd⟩ | ⟨rfl,hk⟩ | ⟨rfl,S,n,hk⟩
  ·obtain ⟨its,_,pl,_⟩:=I.list hq
   refine ⟨pl.isList.typeIs,fun a e=>?_⟩
   cases e
   obtain ⟨o,n,e,c,hd,_⟩:=pl
   exact ⟨o,e,hd⟩
  ·refine ⟨⟨o,I.kIn p o hk,hc⟩,fun a e=>?_⟩
   cases e
   exact ⟨o,I.kIn _ o hk,hd⟩
  ·have z:∃ o,s.heap.get? p=some o∧o.ExactDict:=by
    rcases hk with ⟨kvs,hk⟩ | ⟨kvs,hk⟩
    ·obtain ⟨_,_,_,_,o,_,_,e,ex,_⟩:=I.hok p _ hk
     exact ⟨o,e,ex⟩
    ·obtain ⟨_,_,_,_,o,_,_,e,ex,_⟩:=I.hok p _ hk
     exact ⟨o,e,ex⟩
   obtain ⟨o,e,ex⟩:=z
   refine ⟨⟨o,e,ex.1⟩,fun a e2=>?_⟩
   cases e2
   exact ⟨o,e,ex.2.1⟩
  ·obtain ⟨o,_,_,_,e,ex,_⟩:=I.hok p _ hk
   refine ⟨⟨o,e,ex.1⟩,fun a e2=>?_⟩
   cases e2
   exact ⟨o,e,ex.2.1⟩
 | _=>exact False.elim ty
def tBM0 (K:W.Frag)(T:String)(r:V→List V→Hp→VK→Prop)(to:TE):TE:=fun σ H Q=>to σ H fun x H1=>tyV K T x H1∧r x [] H1 Q
def tBM (K:W.Frag)(T:String)(r:V→List V→Hp→VK→Prop)(to:TE)(t:TA):TE:=fun σ H Q=>to σ H fun x H1=>tyV K T x H1∧t σ H1 fun xs H2=>r x xs H2 Q
variable {o e:Expr}{es:List Expr}{to:TE}{t:TA}{name:Str}{apos cpos:Pos}{T id:String}{r:V→List V→Hp→VK→Prop}
theorem pe_bm0 (pa:PlainAttrs T)(slot:Slot T name id)(hty:typeOf (.builtin id)=pure (.type "method_descriptor"))(hm:MtR X id r)(ho:PE X o to)
  (hbase:attributeBase o name X.env (eval o X.env)=eval o X.env:=by rfl) (hline:(apos.endLine == cpos.line)=true:=by rfl):PE X (.Call (.Attribute o name apos) [] [] cpos) (tBM0 X.K T r to):=by
 intro pins s σ H Q I h
 refine wpAny_Call_method0_late hbase hline (thn (ho pins s σ H _ I h) fun v s1 hh_=>?_)
 obtain ⟨x,H1,I1,r1,ty,q1⟩:=hh_
 obtain ⟨h1,h2⟩:=zjB I1 r1 ty
 exact ⟨T,id,pa,slot,hty,h1,h2,Calls.callWith_builtin rfl (PySem.evalArgs_none (hm pins s1 σ H1 x [] v [] Q I1 r1 .nil q1))⟩
theorem zb0 (pa:PlainAttrs T)(slot:Slot T name id)(hty:typeOf (.builtin id)=pure (.type "method_descriptor"))(hm:MtR X id r)(ho:PE X o to)(ha:PA X (e :: es) t)
  (hbase:attributeBase o name X.env (eval o X.env)=eval o X.env:=by rfl)
  (hfew:((backTo cpos (starEach (e :: es) X.env)).all (fun x=>!x.1) && (backToKw cpos (keywordEach [] X.env)).all (fun x=>x.1.isSome)
   && decide ((e :: es).length+([]:List Keyword).length+(if ([]:List Keyword).isEmpty then 0 else 1)<30))=true:=by rfl)
  (hline:(apos.endLine == cpos.line)=true:=by rfl) (hs:starEach (e :: es) X.env=(false,eval e X.env) :: starEach es X.env:=by rfl) (hplain:(backTo cpos (starEach es X.env)).any (·.1)=false:=by rfl) :
  PE X (.Call (.Attribute o name apos) (e :: es) [] cpos) (tBM X.K T r to t):=by
 intro pins s σ H Q I h
 refine wpAny_Call_method_late hbase hfew hline rfl (thn (ho pins s σ H _ I h) fun v s1 hh_=>?_)
 obtain ⟨x,H1,I1,r1,ty,q1⟩:=hh_
 obtain ⟨h1,h2⟩:=zjB I1 r1 ty
 refine ⟨T,id,pa,slot,hty,h1,h2,?_⟩
 have hA:=ha cpos pins s1 σ H1 _ I1 q1
 rw [hs] at hA ⊢
 refine Calls.callWith_builtin (by show (false || (backTo cpos (starEach es X.env)).any (·.1))=false;rw [hplain] <;> rfl) (Calls.evalArgs_plain ?_)
 exact thn hA fun us s2 ⟨vs,H2,I2,r2,q2⟩=>hm pins s2 σ H2 x vs v us Q I2 r1 r2 q2
end
def MtM (X:Cx)(id:String)(r:V→List V→Hp→VK→Prop):Prop:=
 ∀ (pins:List (Addr×Obj)) (s:Shared) (σ:St) (H:Hp) (x:V) (xs:List V) (v:Value) (us:List Value) (Q:VK),Inv X pins σ H s→RelV x v→Vals xs us→r x xs H Q →
  wpAny (model X.prog X.w) X.A (call (.builtin id) (v :: us)) (EP X pins σ Q) X.xe s
theorem Vals.one:∀ {x:V} {us:List Value},Vals [x] us→∃ u,us=[u]∧RelV x u
 | _,_,.cons r .nil=>⟨_,rfl,r⟩
theorem Vals.zero:∀ {us:List Value},Vals [] us→us=[]
 | _,.nil=>rfl
theorem Vals.rep {xs:List V}{us:List Value}(h:Vals xs us):∀ k:Nat,Vals (List.replicate k xs).flatten (List.replicate k us).flatten
 | 0=>.nil
 | k+1=>by
  rw [Xa5,Xa5,List.flatten_cons,List.flatten_cons]
  exact Vals.append h (Vals.rep h k)
theorem zfh (its:List Value):∀ (k:Nat) (acc:List Value),
  List.foldl (fun x1 x2=>x1 ++ x2) acc.toArray (List.replicate k its.toArray)=(acc ++ (List.replicate k its).flatten).toArray
 | 0,acc=>by simp
 | k+1,acc=>by
  have e:acc.toArray ++ its.toArray=(acc ++ its).toArray:=by simp
  have e2:(acc ++ its) ++ (List.replicate k its).flatten=acc ++ (List.replicate (k+1) its).flatten:=by
   rw [Xa5,List.flatten_cons,List.append_assoc]
  rw [← e2,← zfh its k (acc ++ its),← e,Xa5,List.foldl_cons]
section
variable {X:Cx}{pins:List (Addr×Obj)}{σ:St}{H:Hp}{s:Shared}{l b:Addr}{xs ys zs:List V}
theorem Inv.lset {its its':List Value}{n:Nat}{f:Array Value→Array Value}{t':Nat}(I:Inv X pins σ H s)(hH:H l=some (.lst xs))
  (e:s.heap.get? l=some { cls:=.type "list",data:=.seq its.toArray n }) (hf:f its.toArray=its'.toArray) (hv:Vals ys its') (hz:ys.length≤sizeLine) :
  Inv X pins σ (upd H l (.lst ys)) { s with heap:=s.heap.update l (Obj.mapSeq f),toks:=t' }:=by
 have q:=PySem.IsL.update e f
 rw [hf] at q
 refine I.write (x:=l) (e:=l) (by rw [hH];exact trivial) (.inl rfl) (fun b' u hb hu=>(XaE s.heap (Obj.mapSeq f) (Ne.symm hb)).trans hu) ⟨_,q⟩ ?_
 exact ⟨hz,its',_,hv,q⟩
theorem Inv.lnew {its:List Value}{t':Nat}(I:Inv X pins σ H s)(hv:Vals ys its)(hz:ys.length≤sizeLine) :
  Inv X pins σ (upd H s.heap.objs.size (.lst ys)) { s with heap:=s.heap.push { cls:=.type "list",data:=.seq its.toArray },toks:=t' }:=
 I.laid (fun _ _ q=>Xab _ q) (Xaf _) ⟨hz,its,0,hv,Xah _ rfl⟩
theorem Inv.fresh (I:Inv X pins σ H s):H s.heap.objs.size=none:=I.hok.fresh (Xaf _)
theorem Inv.lstM (I:Inv X pins σ H s)(hH:H l=some (.lst xs)):xs.length≤sizeLine∧∃ (its:List Value) (n:Nat),Vals xs its∧xs.length=its.length∧s.heap.get? l=some { cls:=.type "list",data:=.seq its.toArray n }:=by
 obtain ⟨z,its,n,r,e⟩:=I.hok l _ hH
 exact ⟨z,its,n,r,r.length,e⟩
theorem zi6 {n:Nat}(h:n≤sizeLine):Builtin.List.listTooLong n=false:=by
 unfold Builtin.List.listTooLong
 exact Xas (by omega)
end
section
variable {X:Cx}
inductive rAppend (x:V)(vs:List V)(H:Hp)(Q:VK):Prop
 | mk (l:_) (xs:_) (y:_) (z0_:x = .ref l) (z1_:vs=[y]) (z2_:H l=some (.lst xs)) (z3_:xs.length<sizeLine) (z4_:Q .non (upd H l (.lst (xs ++ [y]))))
theorem zaC:MtM X "list.append" rAppend:=by
 intro pins s σ H x vs v us Q I rx rv h
 obtain ⟨l,xs,y,rfl,rfl,hH,hz,q⟩:=h
 cases rx
 obtain ⟨u,rfl,ru⟩:=rv.one
 obtain ⟨z,its,n,r,hl,e⟩:=I.lstM hH
 refine call_meets F.slot_list_append ⟨_,e,rfl⟩ F.entry_list_append (F.args_list_append_2 _ _) (PySem.list_append l its.toArray n u (by rw [Xam];omega)) ⟨e,?_⟩
 refine ⟨.non,_,I.lset (its':=its ++ [u]) hH e (by simp) (r.append (.cons ru .nil)) ?_,rfl,q⟩
 rw [Xao,List.length_singleton]
 omega
inductive rRep (x:V)(y:V)(H:Hp)(Q:VK):Prop
 | mk (l:_) (k:_) (xs:_) (z0_:x = .ref l) (z1_:y = .int k) (z2_:H l=some (.lst xs)) (z3_:-(2 ^ 63)≤k) (z4_:k<2 ^ 63) (z5_:xs.length * k.toNat≤sizeLine) (z6_:∀ p,H p=none→Q (.ref p) (upd H p (.lst (List.replicate k.toNat xs).flatten)))
theorem zkF {α:Type}(xs:List α)(k:Nat):(List.replicate k xs).flatten.length=k * xs.length:=by
 induction k with
 | zero=>simp
 | succ k ih=>rw [Xa5,List.flatten_cons,Xao,ih,Nat.succ_mul,Nat.add_comm]
theorem zjP:OpR X (binaryOp .Mult) rRep:=by
 intro pins s σ H x y v u Q I rx ry h
 obtain ⟨l,k,xs,rfl,rfl,hH,h1,h2,hz,q⟩:=h
 cases rx
 obtain ⟨t,rfl⟩:=ry
 obtain ⟨z,its,n,r,hl,e⟩:=I.lstM hH
 have hlen:its.toArray.size * k.toNat≤sizeLine:=by rw [Xam,← hl];exact hz
 have hcap:¬ its.toArray.size * k.toNat > (2 ^ 63 - 1) / 8:=by
  have:(sizeLine:Nat)≤(2 ^ 63 - 1) / 8:=by decide
  omega
 have hfit:¬ (!Builtin.List.listFitsIndex k)=true:=by
  rw [fitsIndex_both h1 h2]
  exact Xaq
 have hlong:¬ Builtin.List.listTooLong (its.toArray.size * k.toNat)=true:=by
  rw [zi6 hlen]
  exact Xaq
 have hnew:List.foldl (fun x1 x2=>x1 ++ x2) #[] (List.replicate (if its.toArray.isEmpty=true then 0 else k.toNat) its.toArray)=(List.replicate k.toNat its).flatten.toArray:=by
  have f0:∀ m:Nat,List.foldl (fun x1 x2=>x1 ++ x2) #[] (List.replicate m its.toArray)=(List.replicate m its).flatten.toArray:=fun m=>by
   have:=zfh its m []
   rw [List.nil_append] at this
   exact this
  rw [f0]
  cases its with
  | nil=>simp
  | cons a r'=>rw [if_neg (by simp)]
 refine wpAny_binaryOp_repeat_ref (T := "list") (U := "int") (by decide) ⟨_,e,rfl⟩ (fun s'=>typeIs_int s' k t) noFill_list_mul F.fills_int_mul F.slot_int_rmul repeat_list F.slot_int_index.lookup
  (call_meets F.slot_int_rmul (typeIs_int s k t) F.entry_int_rmul (F.args_int_rmul_2 _ _) (int___rmul___int_list k t l its.toArray n)
   ⟨e,rfl,⟨_,e,rfl⟩,call_meets F.slot_list_mul ⟨_,e,rfl⟩ F.entry_list_mul (F.args_list_mul_2 _ _) (AutoListH.list___mul___list_int_3 l its.toArray n k t hfit hcap hlong) ⟨e,?_⟩⟩)
 rw [hnew]
 exact ⟨.ref _,_,I.lnew (t':=s.toks) (r.rep k.toNat) (by rw [zkF,Nat.mul_comm];exact hz),rfl,q _ I.fresh⟩
end
section
variable {prog:Program}{w:World}{A:Around}{E:Value→Shared→Prop}{s:Shared}
end
section
variable {X:Cx}
end
section
variable {κ:Type}[DecidableEq κ]
def valV (kvs:List (κ×V))(k:κ):Option V:=(kvs.find? fun kv=>decide (kv.1=k)).map (·.2)
def putK (kvs:List (κ×V))(k:κ)(v:V):List (κ×V):=
 if (kvs.any fun kv=>decide (kv.1=k))=true then kvs.map (fun kv=>if kv.1=k then (kv.1,v) else kv) else kvs ++ [(k,v)]
theorem zaO {p:κ×V}{r:List (κ×V)}{k:κ}(e:p.1=k):valV (p :: r) k=some p.2:=by simp [valV,List.find?_cons,e]
theorem zaR {p:κ×V}{r:List (κ×V)}{k:κ}(e:¬ p.1=k):valV (p :: r) k=valV r k:=by simp [valV,List.find?_cons,e]
theorem zbU (k:κ):∀ kvs:List (κ×V),(kvs.any fun kv=>decide (kv.1=k))=(valV kvs k).isSome
 | []=>rfl
 | p :: r=>by
  rw [List.any_cons]
  by_cases e:p.1=k
  ·simp only [zaO e,Xap e,Bool.true_or,Option.isSome_some]
  ·rw [zaR e,Xas e,Bool.false_or];exact zbU k r
theorem zgf (k j:κ)(y:V):∀ kvs:List (κ×V),valV (kvs.map fun kv=>if kv.1=k then (kv.1,y) else kv) j=(valV kvs j).map fun x=>if j=k then y else x
 | []=>rfl
 | p :: r=>by
  have ih:=zgf k j y r
  rw [XaS]
  by_cases h:p.1=k
  ·rw [if_pos h]
   by_cases e:p.1=j
   ·rw [zaO (p:=(p.1,y)) e,zaO e,Option.map_some,if_pos (e.symm.trans h)]
   ·rw [zaR (p:=(p.1,y)) e,zaR e,ih]
  ·rw [if_neg h]
   by_cases e:p.1=j
   ·rw [zaO (p:=p) e,zaO e,Option.map_some,if_neg (fun z=>h (e.trans z))]
   ·rw [zaR (p:=p) e,zaR e,ih]
theorem zeN (k j:κ)(y:V):∀ kvs:List (κ×V),valV kvs k=none→valV (kvs ++ [(k,y)]) j=if j=k then some y else valV kvs j
 | [],_=>by
  by_cases e:k=j
  ·rw [if_pos e.symm];exact zaO (p:=(k,y)) e
  ·rw [if_neg (fun z=>e z.symm)];exact zaR (p:=(k,y)) e
 | p :: r,hn=>by
  rw [List.cons_append]
  have hk:¬ p.1=k:=fun z=>by rw [zaO z] at hn;cases hn
  rw [zaR hk] at hn
  have ih:=zeN k j y r hn
  by_cases e:p.1=j
  ·rw [zaO e,zaO e,if_neg (fun z=>hk (e.trans z))]
  ·rw [zaR e,zaR e,ih]
theorem ziD (kvs:List (κ×V))(k j:κ)(y:V):valV (putK kvs k y) j=if j=k then some y else valV kvs j:=by
 unfold putK
 by_cases a:(kvs.any fun kv=>decide (kv.1=k))=true
 ·rw [if_pos a,zgf]
  rw [zbU] at a
  by_cases e:j=k
  ·obtain ⟨x,hx⟩:=Option.isSome_iff_exists.mp a
   rw [if_pos e,e,hx,Option.map_some,if_pos rfl]
  ·rw [if_neg e]
   cases valV kvs j with
   | none=>rfl
   | some x=>rw [Option.map_some,if_neg e]
 ·rw [if_neg a]
  refine zeN k j y kvs ?_
  rw [zbU] at a
  cases q:valV kvs k with
  | none=>rfl
  | some x=>rw [q] at a;exact (a rfl).elim
theorem zdE (kvs:List (κ×V))(k:κ)(v:V):(putK kvs k v).length≤kvs.length+1:=by
 unfold putK
 split
 ·rw [Xae];omega
 ·rw [Xao,Xay,XaZ];omega
theorem RelO.isSome_eq {o:Option V}{u:Option Value}(r:RelO o u):o.isSome=u.isSome:=by
 cases o with
 | none=>cases u with
  | none=>rfl
  | some _=>exact (show False from r).elim
 | some _=>cases u with
  | none=>exact (show False from r).elim
  | some _=>rfl
theorem RelO.getD {o:Option V}{u:Option Value}{d:V}{d':Value}(r:RelO o u)(rd:RelV d d'):RelV (o.getD d) (u.getD d'):=by
 cases o with
 | none=>cases u with
  | none=>exact rd
  | some _=>exact (show False from r).elim
 | some _=>cases u with
  | none=>exact (show False from r).elim
  | some _=>exact r
theorem KV.val {kvs:List (κ×V)}{vs:List (κ×Value)}(r:KV kvs vs)(k:κ):RelO (valV kvs k) (valueAt vs k):=by
 unfold KV at r
 induction r with
 | nil=>exact True.intro
 | @cons p q ps qs h t ih =>
  obtain ⟨h1,h2⟩:=h
  by_cases e:p.1=k
  ·have e':q.1=k:=h1.symm.trans e
   have b:valueAt (q :: qs) k=some q.2:=by simp [valueAt,List.find?_cons,e']
   rw [zaO e,b];exact h2
  ·have e':¬ q.1=k:=fun z=>e (h1.trans z)
   have b:valueAt (q :: qs) k=valueAt qs k:=by simp [valueAt,List.find?_cons,e']
   rw [zaR e,b];exact ih
theorem KV.any {kvs:List (κ×V)}{vs:List (κ×Value)}(r:KV kvs vs)(k:κ):(kvs.any fun kv=>decide (kv.1=k))=vs.any fun kv=>decide (kv.1=k):=by
 unfold KV at r
 induction r with
 | nil=>rfl
 | cons h t ih=>rw [List.any_cons,List.any_cons,ih,h.1]
theorem KV.repl {kvs:List (κ×V)}{vs:List (κ×Value)}(r:KV kvs vs)(k:κ){y:V}{u:Value}(ry:RelV y u) :
  KV (kvs.map fun kv=>if kv.1=k then (kv.1,y) else kv) (vs.map fun kv=>if kv.1=k then (kv.1,u) else kv):=by
 unfold KV at r ⊢
 induction r with
 | nil=>exact .nil
 | @cons p q ps qs h t ih =>
  rw [XaS,XaS]
  refine .cons ?_ ih
  obtain ⟨h1,h2⟩:=h
  by_cases e:p.1=k
  ·rw [if_pos e,if_pos (h1.symm.trans e)];exact ⟨h1,ry⟩
  ·rw [if_neg e,if_neg (fun z=>e (h1.trans z))];exact ⟨h1,h2⟩
theorem KV.put {kvs:List (κ×V)}{vs:List (κ×Value)}(r:KV kvs vs)(k:κ){y:V}{u:Value}(ry:RelV y u):KV (putK kvs k y) (stored vs k u):=by
 unfold putK stored
 rw [r.any k]
 by_cases e:(vs.any fun kv=>decide (kv.1=k))=true
 ·rw [if_pos e,if_pos e];exact r.repl k ry
 ·rw [if_neg e,if_neg e];exact Paired.snoc r ⟨rfl,ry⟩
theorem KV.length {kvs:List (κ×V)}{vs:List (κ×Value)}(r:KV kvs vs):kvs.length=vs.length:=Paired.length r
end
theorem zh0 {P:Program}{w:World}{k:Key}{u:Value}(r:RelV (kV k) u):(zaI P w).is k u=true:=by
 cases k with
 | inl i=>obtain ⟨t,e⟩:=(show ∃ t,u=Value.int i t from r);subst e;exact zf3 P w i t
 | inr x=>obtain ⟨t,e⟩:=(show ∃ t,u=Value.str x t from r);subst e;exact zf2 P w x t
theorem zfd {P:Program}{w:World}:∀ {ks:List Key} {us:List Value},Vals (ks.map kV) us→ItemsAre (zaI P w) ks us
 | [],_,r=>by rw [List.map_nil] at r;cases r;exact .nil
 | k :: ks,_,r=>by
  rw [XaS] at r
  cases r with
  | cons h t=>exact .cons (zh0 h) (zfd t)
abbrev KT (H:Hp):List (List Key×V)→List (List Key×Addr×Value)→Prop:=Paired fun p q=>p.1=q.1∧H q.2.1=some (.tup (p.1.map kV))∧RelV p.2 q.2.2
theorem KT.val {H:Hp}{kvs:List (List Key×V)}{xs:List (List Key×Addr×Value)}(r:KT H kvs xs)(k:List Key):RelO (valV kvs k) ((atKey xs k).map (·.2)):=by
 induction r with
 | nil=>exact True.intro
 | @cons p q ps qs h t ih =>
  obtain ⟨h1,_,h2⟩:=h
  by_cases e:p.1=k
  ·have e':q.1=k:=h1.symm.trans e
   have b:atKey (q :: qs) k=some q.2:=by simp [atKey,List.find?_cons,e']
   rw [zaO e,b];exact h2
  ·have e':¬ q.1=k:=fun z=>e (h1.trans z)
   have b:atKey (q :: qs) k=atKey qs k:=by simp [atKey,List.find?_cons,e']
   rw [zaR e,b];exact ih
theorem KT.repl {H:Hp}{kvs:List (List Key×V)}{xs:List (List Key×Addr×Value)}(r:KT H kvs xs)(k:List Key){y:V}{u:Value}(ry:RelV y u) :
  KT H (kvs.map fun kv=>if kv.1=k then (kv.1,y) else kv) (xs.map (putAt k u)):=by
 induction r with
 | nil=>exact .nil
 | @cons p q ps qs h t ih =>
  rw [XaS,XaS]
  refine .cons ?_ ih
  obtain ⟨h1,h2,h3⟩:=h
  unfold putAt
  by_cases e:p.1=k
  ·rw [if_pos e,if_pos (h1.symm.trans e)];exact ⟨h1,h2,ry⟩
  ·rw [if_neg e,if_neg (fun z=>e (h1.trans z))];exact ⟨h1,h2,h3⟩
theorem KT.put {H:Hp}{kvs:List (List Key×V)}{xs:List (List Key×Addr×Value)}(r:KT H kvs xs)(k:List Key){b:Addr}{y:V}{u:Value}(hb:H b=some (.tup (k.map kV)))(ry:RelV y u) :
  KT H (putK kvs k y) (storedH xs k b u):=by
 have e:(kvs.any fun kv=>decide (kv.1=k))=(atKey xs k).isSome:=by
  rw [zbU,(r.val k).isSome_eq,Option.isSome_map]
 unfold putK storedH
 rw [e]
 by_cases q:(atKey xs k).isSome=true
 ·rw [if_pos q,if_pos q];exact r.repl k ry
 ·rw [if_neg q,if_neg q];exact Paired.snoc r ⟨rfl,hb,ry⟩
theorem KT.keeps {H H':Hp}{kvs:List (List Key×V)}{xs:List (List Key×Addr×Value)}(r:KT H kvs xs)(ht:∀ b ys,H b=some (.tup ys)→H' b=some (.tup ys)):KT H' kvs xs:=
 Paired.mapP r fun _ _ z=>⟨z.1,ht _ _ z.2.1,z.2.2⟩
section
variable {P:Program}{w:World}{H:Hp}{h:Heap}{a:Addr}
theorem rd_of {u:HO}(ok:HOk P w H h)(e:Rd H a u):ObjOk P w H h a u:=e.ok ok
theorem zh9 {kvs:List (Key×V)}(ok:HOk P w H h)(e:Rd H a (.dK kvs)):kvs.length≤sizeLine∧(a == sysModules)=false∧∃ vs,KV kvs vs∧h.DictOf (zaI P w) a vs:=
 show ObjOk P w H h a (.dK kvs) from rd_of ok e
theorem zia {kvs:List (Key×V)}(ok:HOk P w H h)(e:H a=some (.dK kvs)):kvs.length≤sizeLine∧(a == sysModules)=false∧∃ vs,KV kvs vs∧h.DictOf (zaI P w) a vs:=zh9 ok (.inl e)
theorem zgt {ks:List Key}(ok:HOk P w H h)(e:H a=some (.tup (ks.map kV))):(tupleKind (zaI P w)).is h ks a:=by
 obtain ⟨_,its,r,o,h1,h2,n,h3⟩:=(show ObjOk P w H h a (.tup (ks.map kV)) from ok a _ e)
 exact ⟨o,its.toArray,n,h1,h2,h3,by simpa using zfd r⟩
theorem zh8 {kvs:List (List Key×V)}(ok:HOk P w H h)(e:Rd H a (.dT kvs)):kvs.length≤sizeLine∧(a == sysModules)=false ∧
  ∃ xs,KT H kvs xs∧h.DictOfH (tupleKind (zaI P w)) a xs:=by
 obtain ⟨z,y,xs,r,o,es,ep,h1,h2,h3,h4,h5⟩:=(show ObjOk P w H h a (.dT kvs) from rd_of ok e)
 refine ⟨z,y,xs,r,o,es,ep,h1,h2,h3,h4,fun x hx=>?_,h5⟩
 have all:∀ {l:List (List Key×V)} {m:List (List Key×Addr×Value)},KT H l m→∀ x∈m,(tupleKind (zaI P w)).is h x.1 x.2.1:=by
  intro l m q
  induction q with
  | nil=>intro x hx;exact nomatch hx
  | @cons p q ps qs hq t ih =>
   intro x hx
   rcases Xal.mp hx with e | hx
   ·subst e
    exact zgt ok (by rw [← hq.1];exact hq.2.1)
   ·exact ih x hx
 exact all r x hx
theorem dt_of {kvs:List (List Key×V)}(ok:HOk P w H h)(e:H a=some (.dT kvs)):kvs.length≤sizeLine∧(a == sysModules)=false ∧
  ∃ xs,KT H kvs xs∧h.DictOfH (tupleKind (zaI P w)) a xs:=zh8 ok (.inl e)
end
def DGet (H:Hp)(a:Addr)(y:V)(r:Option V):Prop:=
 (∃ kvs k,Rd H a (.dK kvs)∧y=kV k∧r=valV kvs k)∨∃ kvs k b,Rd H a (.dT kvs)∧y = .ref b∧H b=some (.tup (k.map kV))∧r=valV kvs k
def DPut (H:Hp)(a:Addr)(y v:V)(H':Hp):Prop:=
 (∃ kvs k,H a=some (.dK kvs)∧y=kV k∧kvs.length<sizeLine∧H'=upd H a (.dK (putK kvs k v))) ∨
 ∃ kvs k b,H a=some (.dT kvs)∧y = .ref b∧H b=some (.tup (k.map kV))∧kvs.length<sizeLine∧H'=upd H a (.dT (putK kvs k v))
theorem DGet.k {H:Hp}{a:Addr}{kvs:List (Key×V)}{k:Key}(e:H a=some (.dK kvs)):DGet H a (kV k) (valV kvs k):=.inl ⟨kvs,k,.inl e,rfl,rfl⟩
theorem DPut.k {H:Hp}{a:Addr}{kvs:List (Key×V)}{k:Key}{v:V}(e:H a=some (.dK kvs))(hl:kvs.length<sizeLine):DPut H a (kV k) v (upd H a (.dK (putK kvs k v))):=.inl ⟨kvs,k,e,rfl,hl,rfl⟩
section
variable {X:Cx}{pins:List (Addr×Obj)}{σ:St}{H:Hp}{s:Shared}{a:Addr}{y v:V}{u r:Value}{o:Option V}{A:Around}{E:Value→Shared→Prop}
theorem Inv.big (I:Inv X pins σ H s):sysModules<s.heap.objs.size:=by
 have h:mainGlobals<s.heap.objs.size:=(I.mod.glob.keeps I.bk).lt
 exact Xbx (by decide) h
theorem zif {Q:Value→Shared→Prop}(hu:A.units+1<cLine)(I:Inv X pins σ H s)(g:DGet H a y (some v))(ry:RelV y u)(h:∀ w' s',Inv X pins σ H s'→RelV v w'→Q w' s') :
  wpAny (model X.prog X.w) A (getItem (.ref a) u) Q E s:=by
 rcases g with ⟨kvs,k,e,ey,l⟩ | ⟨kvs,k,b,e,ey,eb,l⟩
 ·subst ey
  obtain ⟨z,hd,vs,rel,dd⟩:=zh9 I.hok e
  obtain ⟨w',hw,rw'⟩:=RelO.some_of (v:=v) (o:=valueAt vs k) (by rw [l];exact rel.val k)
  exact wpAny_getItem_of (zh0 ry) dd.mapOf hw (h w' _ (I.tok _) rw')
 ·subst ey
  cases (show u=Value.ref b from ry)
  obtain ⟨z,hd,xs,rel,dd⟩:=zh8 I.hok e
  obtain ⟨w',hw,rw'⟩:=RelO.some_of (v:=v) (o:=(atKey xs k).map (·.2)) (by rw [l];exact rel.val k)
  obtain ⟨p,hp,hp2⟩:=Xaw.mp hw
  refine wpAny_getItem_heap (tupleKind_room_in1 hu) (zgt I.hok eb) dd hp ?_
  rw [hp2]
  exact h w' _ (I.tok _) rw'
theorem zf9 {h':Heap}{t':Nat}{ob:HO}(I:Inv X pins σ H s)(mu:Mut (H a))(hs:Heap.SameBut a s.heap h')(he:∃ q,h'.get? a=some q)(new:ObjOk X.prog X.w (upd H a ob) h' a ob) :
  Inv X pins σ (upd H a ob) { s with heap:=h',toks:=t' }:=
 I.write (x:=a) (e:=a) mu (.inl rfl) (fun b q hb z=>(hs.2 b hb).trans z) he new
theorem zj0 {P:Program}{w:World}{H':Hp}{h':Heap}{kvs:List (Key×V)}{vs:List (Key×Value)}(z:kvs.length≤sizeLine)(hd:(a == sysModules)=false)(rel:KV kvs vs)(dd:h'.DictOf (zaI P w) a vs) :
  ObjOk P w H' h' a (.dK kvs):=⟨z,hd,vs,rel,dd⟩
theorem zie {H':Hp}{Q:Unit→Shared→Prop}(hu:A.units+1<cLine)(I:Inv X pins σ H s)(g:DPut H a y v H')(ry:RelV y u)(rv:RelV v r)(h:∀ s',Inv X pins σ H' s'→Q () s') :
  wpAny (model X.prog X.w) A (setItem (.ref a) u r) Q E s:=by
 rcases g with ⟨kvs,k,e,ey,l,eH⟩ | ⟨kvs,k,b,e,ey,eb,l,eH⟩
 ·subst ey eH
  obtain ⟨z,hd,vs,rel,dd⟩:=zia I.hok e
  have hz:vs.length≤sizeLine:=by rw [← rel.length];exact z
  have hl:(putK kvs k v).length≤sizeLine:=by have:=zdE kvs k v;omega
  refine wpAny_setItem_pairs (hsz:=hz) (zh0 ry) dd fun h' dd' hs=>h _ ?_
  have he:∃ q,h'.get? a=some q:=let ⟨q,_,_,hq,_⟩:=dd';⟨q,hq⟩
  exact zf9 I (by rw [e];exact True.intro) hs he (zj0 hl hd (rel.put k rv) dd')
 ·subst ey eH
  cases (show u=Value.ref b from ry)
  obtain ⟨z,hd,xs,rel,dd⟩:=dt_of I.hok e
  have hz:xs.length≤sizeLine:=by rw [← Paired.length rel];exact z
  have hl:(putK kvs k v).length≤sizeLine:=by have:=zdE kvs k v;omega
  refine wpAny_setItem_heap (hsz:=hz) (tupleKind_room_in1 hu) (zgt I.hok eb) dd fun h' dd' hs=>h _ ?_
  obtain ⟨q,es,ep,hq,h2,h3,h4,_,h5⟩:=dd'
  refine zf9 I (by rw [e];exact True.intro) hs ⟨q,hq⟩ ⟨hl,hd,_,(rel.put k eb rv).keeps fun c ys ec=>?_,q,es,ep,hq,h2,h3,h4,h5⟩
  rw [zag (ne_of ec e (fun z=>nomatch z))]
  exact ec
end
section
variable {X:Cx}{pins:List (Addr×Obj)}{σ:St}{H:Hp}{s:Shared}{a:Addr}{kvs:List (Key×V)}{k:Key}{u:Value}{A:Around}{E:Value→Shared→Prop}
end
def NoSl (i:Expr):Prop:=∀ ov iv,subscripted i false ov iv=operate [ov,iv] (getItem ov iv)
theorem zkg {prog:Program}{w:World}{A:Around}{E:Value→Shared→Prop}{s:Shared}{env:Env}{value slice:Expr}{pos:Pos}{T id:String}{Q:Value→Shared→Prop}
  (hl:typeLookup (.type T) "__getitem__" = pure (some (.builtin id))) (hs:NoSl slice)
  (h:wpAny (model prog w) A (eval value env) (fun o s₁=>wpAny (model prog w) A (eval slice env) (fun i s₂=>s₂.TypeIs o T∧wpAny (model prog w) A (getItem o i) Q E s₂) E s₁) E s) :
  wpAny (model prog w) A (eval (.Subscript value slice pos) env) Q E s:=by
 refine Subscript_ (Xaz h (fun o s₁ h₁=>Xaz h₁ (fun i s₂ h₂=>?_) fun _ _ x=>x) fun _ _ x=>x)
 obtain ⟨hT,h₂⟩:=h₂
 unfold subscriptTail
 refine Xaa ?_
 rw [getitemInPython_of_ne hT.not_modules]
 refine Xaa (wpAny_specialOf hT hl ?_)
 have fin:wpAny (model prog w) A (subscripted slice false o i) (fun r s₃=>wpAny (model prog w) A (letTemporaryGo value o r >>= fun _=>pure r) Q E s₃) E s₂:=by
  rw [hs o i]
  exact wpAny_operating (Xaz h₂ (fun r s₃ h₃=>Xaa (wpAny_letTemporaryGo (Xad h₃))) fun _ _ x=>x)
 first
  | exact Xad (Xaa fin)
  | exact Xaa (Xad (Xaa fin))
  | exact Xaa fin
theorem zf8 {X:Cx}{pins:List (Addr×Obj)}{σ:St}{H:Hp}{s:Shared}{a:Addr}{y:V}{o:Option V}(I:Inv X pins σ H s)(g:DGet H a y o):s.TypeIs (.ref a) "dict" := by
 rcases g with ⟨kvs,k,e,_,_⟩ | ⟨kvs,k,b,e,_,_,_⟩
 ·obtain ⟨_,_,vs,_,dd⟩:=zh9 I.hok e
  exact dd.typeIs
 ·obtain ⟨_,_,xs,_,dd⟩:=zh8 I.hok e
  exact dd.typeIs
inductive tDGet_1 (Q:VK)(x:V)(y:V)(H2:Hp):Prop
 | mk (a:_) (v:_) (z0_:x = .ref a) (z1_:DGet H2 a y (some v)) (z2_:Q v H2)
def tDGet (td ty:TE):TE:=fun σ H Q=>td σ H fun x H1=>ty σ H1 (tDGet_1 Q x)
inductive sDPut_1 (D:Ends)(σ:St)(v:V)(x:V)(y:V)(H3:Hp):Prop
 | mk (a:_) (H4:_) (z0_:x = .ref a) (z1_:DPut H3 a y v H4) (z2_:D.nx σ H4)
def sDPut (td ty tv:TE):TS:=fun D σ H=>tv σ H fun v H1=>td σ H1 fun x H2=>ty σ H2 (sDPut_1 D σ v x)
section
variable {X:Cx}{o i e value:Expr}{pos pos' tpos:Pos}{td ty tv:TE}
theorem zfN (hu:X.A.units+1<cLine)(ho:PE X o td)(hi:PE X i ty)(hs:NoSl i):PE X (.Subscript o i pos) (tDGet td ty):=by
 intro pins s σ H Q I h
 refine zkg PySem.F.slot_dict_getitem.lookup hs (thn (ho pins s σ H _ I h) fun u s1 ⟨x,H1,I1,rx,q1⟩=>thn (hi pins s1 σ H1 _ I1 q1) fun iv s2 hh_=>?_)
 obtain ⟨y,H2,I2,ry,a,v,ex,g,q2⟩:=hh_
 subst ex
 obtain rfl:u=Value.ref a:=rx
 exact ⟨zf8 I2 g,zif hu I2 g ry fun w' s3 I3 rw'=>⟨v,H2,I3,rw',q2⟩⟩
theorem zko (hu:X.A.units+1<cLine)(ho:PE X o td)(hi:PE X i ty)(hv:PE X value tv)(hs:swapsWith value (some (.Subscript o i pos')) pos.line X.env=pure false) :
  PS X (.Assign [.Subscript o i pos'] value pos) (sDPut td ty tv):=by
 intro pins s σ H D I h
 refine wpAny_Assign_Subscript (thn (hv pins s σ H _ I h) fun r s1 ⟨v,H1,I1,rv,q1⟩=>thn (ho pins s1 σ H1 _ I1 q1) fun u s2 ⟨x,H2,I2,rx,q2⟩=>thn (hi pins s2 σ H2 _ I2 q2) fun iv s3 hh_=>?_) hs
 obtain ⟨y,H3,I3,ry,a,H4,ex,g,q3⟩:=hh_
 subst ex
 obtain rfl:u=Value.ref a:=rx
 exact zie hu I3 g ry rv fun s4 I4=>⟨σ,H4,I4,q3⟩
end
theorem zjo {P:Program}{w:World}{H:Hp}(h:Heap)(hb:sysModules<h.objs.size):ObjOk P w H (h.push { cls:=.type "dict",data:=.dict #[] }) h.objs.size (.dK []):=
 ⟨Nat.zero_le _,beq_eq_false_iff_ne.mpr (Ne.symm (Xar hb)),[],.nil,Heap.DictOf.new h⟩
def tDNewK:TE:=fun _ H Q=>∀ p,H p=none→Q (.ref p) (upd H p (.dK []))
section
variable {X:Cx}{pos:Pos}
theorem zer:PE X (.Dict [] [] pos) tDNewK:=fun pins s σ H Q I h =>
 wpAny_Dict_empty ⟨.ref s.heap.objs.size,_,I.laid (a:=s.heap.objs.size) (o:=.dK []) (t':=s.toks) (fun _ _ q=>Xab _ q) (Xaf _) (zjo s.heap I.big),rfl,h _ (I.hok.fresh (Xaf _))⟩
end
structure M2 (X:Cx)(o:Expr)(m:Str)(apos:Pos)(e f:Expr)(cpos:Pos):Prop where
 base:attributeBase o m X.env (eval o X.env)=eval o X.env
 few:((backTo cpos (starEach [e,f] X.env)).all (fun x=>!x.1) && (backToKw cpos (keywordEach [] X.env)).all (fun x=>x.1.isSome)
  && decide (([e,f]:List Expr).length+([]:List Keyword).length+(if ([]:List Keyword).isEmpty then 0 else 1)<30))=true
 line:(apos.endLine == cpos.line)=true
 trees:backTo cpos (starEach [e,f] X.env)=[(false,eval e X.env),(false,eval f X.env)]
def IsD (H:Hp)(a:Addr):Prop:=(∃ kvs,Rd H a (.dK kvs))∨∃ kvs,Rd H a (.dT kvs)
theorem isD_at {X:Cx}{pins:List (Addr×Obj)}{σ:St}{H:Hp}{s:Shared}{a:Addr}(I:Inv X pins σ H s)(d:IsD H a) :
  s.TypeIs (.ref a) "dict" ∧ (∀ b,Value.ref a = .ref b→∃ ob,s.heap.get? b=some ob∧ob.dict=none)∧(a == sysModules)=false:=by
 rcases d with ⟨kvs,e⟩ | ⟨kvs,e⟩
 ·obtain ⟨_,hd,vs,_,dd⟩:=zh9 I.hok e
  refine ⟨dd.typeIs,fun b q=>?_,hd⟩
  cases q
  obtain ⟨ob,_,_,h1,h2,_⟩:=dd
  exact ⟨ob,h1,h2.2.1⟩
 ·obtain ⟨_,hd,xs,_,dd⟩:=zh8 I.hok e
  refine ⟨dd.typeIs,fun b q=>?_,hd⟩
  cases q
  obtain ⟨ob,_,_,h1,h2,_⟩:=dd
  exact ⟨ob,h1,h2.2.1⟩
section
variable {X:Cx}{pins:List (Addr×Obj)}{σ:St}{H:Hp}{s:Shared}{a:Addr}{y d:V}{u r:Value}{o:Option V}{A:Around}{E:Value→Shared→Prop}
theorem d_get2 {Q:Value→Shared→Prop}(hu:A.units+1<cLine)(I:Inv X pins σ H s)(g:DGet H a y o)(ry:RelV y u)(rd:RelV d r)(h:∀ w' s',Inv X pins σ H s'→RelV (o.getD d) w'→Q w' s') :
  wpAny (model X.prog X.w) A (call (.builtin "dict.get") [.ref a,u,r]) Q E s:=by
 rcases g with ⟨kvs,k,e,ey,l⟩ | ⟨kvs,k,b,e,ey,eb,l⟩
 ·subst ey
  obtain ⟨z,hd,vs,rel,dd⟩:=zh9 I.hok e
  refine call_meetsIn PySem.F.slot_dict_get dd.typeIs PySem.F.entry_dict_get (PySem.F.args_dict_get_3 _ _ _) (meets_dict_get_default (zaI X.prog X.w) a (zh0 ry) hd r) ⟨_,dd.mapOf,h _ _ (I.tok _) ?_⟩
  rw [l]
  exact (rel.val k).getD rd
 ·subst ey
  cases (show u=Value.ref b from ry)
  obtain ⟨z,hd,xs,rel,dd⟩:=zh8 I.hok e
  refine call_meetsIn PySem.F.slot_dict_get dd.typeIs PySem.F.entry_dict_get (PySem.F.args_dict_get_3 _ _ _) (meetsH_dict_get_default (tupleKind (zaI X.prog X.w)) a b hd r) ⟨tupleKind_room_in1 hu,k,xs,zgt I.hok eb,dd,h _ _ (I.tok _) ?_⟩
  rw [l]
  exact (rel.val k).getD rd
end
def tDGet2 (td ty tx:TE):TE:=fun σ H Q=>td σ H fun x H1=>∃ a,x = .ref a∧IsD H1 a∧ty σ H1 fun y H2=>tx σ H2 fun z H3=>∃ o,DGet H3 a y o∧Q (o.getD z) H3
section
variable {X:Cx}{o e f:Expr}{apos cpos:Pos}{td ty tx:TE}
theorem ziZ (hu:X.A.units+1<cLine)(ho:PE X o td)(he:PE X e ty)(hf:PE X f tx)(m:M2 X o "get" apos e f cpos):PE X (.Call (.Attribute o "get" apos) [e,f] [] cpos) (tDGet2 td ty tx):=by
 intro pins s σ H Q I h
 refine wpAny_Call_method m.base m.few m.line PySem.F.plainAttrs_dict PySem.F.slot_dict_get PySem.F.type_dict_get (thn (ho pins s σ H _ I h) fun u s1 hh_=>?_)
 obtain ⟨x,H1,I1,rx,a,ex,d,q1⟩:=hh_
 subst ex
 obtain rfl:u=Value.ref a:=rx
 obtain ⟨t1,t2,_⟩:=isD_at I1 d
 refine ⟨t1,t2,?_⟩
 rw [m.trees]
 refine Calls.callWith_builtin rfl (Calls.evalArgs_plain (Calls.spliced_cons (thn (he pins s1 σ H1 _ I1 q1) fun iv s2 ⟨y,H2,I2,ry,q2⟩ =>
  Calls.spliced_cons (thn (hf pins s2 σ H2 _ I2 q2) fun fv s3 ⟨z,H3,I3,rz,ov,g,q3⟩=>Calls.spliced_nil ?_))))
 exact d_get2 hu I3 g ry rz fun w' s4 I4 rw'=>⟨_,H3,I4,rw',q3⟩
end
section
variable {X:Cx}{pins:List (Addr×Obj)}{σ:St}{H:Hp}{s:Shared}{a:Addr}{kvs:List (Key×V)}{A:Around}{E:Value→Shared→Prop}
end
section
variable {X:Cx}{pins:List (Addr×Obj)}{σ:St}{H:Hp}{s:Shared}{a:Addr}{y:V}{u:Value}{A:Around}{E:Value→Shared→Prop}
end
end L2
namespace Att
open PySem PySem.W PySem.Calls PyProof.Rows
theorem zdH {P:Params}{h:Heap}:∀ (ns:List Int) (vs:List Value),WellAll P h vs (ns.map WData.int)→IntsAre vs ns:=by
 intro ns
 induction ns with
 | nil =>
  intro vs w
  rw [List.map_nil] at w
  cases w
  exact .nil
 | cons n ns ih =>
  intro vs w
  rw [XaS] at w
  cases w with
  | cons a b =>
   cases a
   exact .cons _ _ (ih _ b)
theorem zhq {l:OpenLaw}{n:Nat}(hn:l.most=some n){P:Params}{h:Heap}{args:List WData}{vals:List Value}
  (hpre:l.row.toRowW.claim.pre args=true) (hwl:WellAll P h vals args) :
  ∃ a vs ns,vals=[Value.ref a]∧args=[WData.list (ns.map WData.int)]∧h.get? a=some { cls:=.type "list",data:=.seq vs.toArray }∧IntsAre vs ns∧ns.length≤n:=by
 have hsh:WShape.hasAll [] args [.list .int]=true:=(pre_splitW hpre).1
 have hc:l.pre.holds [] { args:=args }=true:=(pre_splitW hpre).2
 obtain ⟨d,r,rfl,h1,h2⟩:=hasAllW_cons hsh
 obtain rfl:=hasAllW_nil h2
 obtain ⟨xs,rfl,h3⟩:=hasW_list h1
 obtain ⟨ns,rfl⟩:=items_int h3
 have hlen:ns.length≤n:=by
  unfold OpenLaw.pre at hc
  have h4:(WTm.not (.lt (.lit (.int (n:Int))) (.len (.arg 0)))).holds [] { args:=[.list (ns.map .int)] }=true:=by
   have h4:=(holds_andW hc).1
   rw [hn] at h4
   exact h4
  have h5:=condW_of h4 (w_not (w_lt w_lit (w_len_list (w_arg rfl))))
  rw [Xae] at h5
  refine Nat.le_of_not_lt fun q=>?_
  have q':(n:Int)<((ns.length:Nat):Int):=by omega
  first
   | (rw [Xap q'] at h5;exact absurd h5 (by decide))
   | (simp at h5;omega)
 cases hwl with
 | cons w1 w2 =>
  cases w2
  cases w1 with
  | list ho hall=>exact ⟨_,_,ns,rfl,rfl,ho,zdH ns _ hall,hlen⟩
theorem zhB (l:OpenLaw)(args:List WData):l.row.toRowW.claim.post args (.bool true) args=true:=
 postW_of (r:=l.row.toRowW) (X:=(true == true))
  (show WShape.has [] (.bool true) .bool=true by first | rfl | decide | simp [WShape.has,WShape.arms,WShape.armsAll])
  (show (WTm.eq .res (.lit (.bool true))).value [] { args:=args,res:=some (.bool true),after:=args }=some (.bool (true == true)) from w_eq_bool (w_res rfl) w_lit) rfl
section
variable {prog:Program}{w:World}{A:Around}{E:Value→Shared→Prop}{s:Shared}{K:Frag}
end
end Att
namespace L2
open PySem PySem.Spec PyProof.Rows
theorem zcl:∀ {vs:List Value} {ns:List Int},IntsAre vs ns→Vals (ns.map V.int) vs
 | _,_,.nil=>.nil
 | _,_,.cons n t h=>.cons ⟨t,rfl⟩ (zcl h)
def Only (H:Hp):Prop:=∀ b,H b=none∨∃ o xs,H b=some (.frz o (.lst xs))
theorem zjd {P:Program}{w:World}{K:W.Frag}{mg mb:Str→Option Value}{CX:CXT}{k:Nat}{fa a:Addr}{fd:FuncData}{x:Str}{sp:Sp}{s₁:Shared}{vs:List Value}{ns:List Int}
  (KX:K.In s₁.heap) (hns:s₁.heap.Ns mainGlobals mg) (hb:s₁.heap.Ns builtinsNs mb) (hbb:∀ x:Str,x ≠ "__name__" → mb x=bootBuiltins x) (hlim:s₁.heap.NoLimit) (hg:s₁.gens = #[])
  (ha:s₁.heap.get? a=some { cls:=.type "list",data:=.seq vs.toArray }) (hi:IntsAre vs ns) (hl:ns.length≤sizeLine) (hr:Room k callerA)
  (F:∀ base:Heap,K.In base→base.Ns mainGlobals mg→FnOk P w K mg base CX k fa fd [x] sp) (hbind:∀ (s:Shared) (u:Value),BindsTo s fd ⟨[u],[]⟩ [(x,u)])
  (hsp:∀ H:Hp,Only H→SqL K H a (ns.map V.int)→sp [.ref a] H (fun v _=>v = .bl true) fun _ _ _=>False)
  (hCX:∀ H e s',CX [] H s₁ (fun _ _ _=>False) e s'→False) :
  codeAny (model P w) callerA (.call (.ref fa) ⟨[.ref a],[]⟩) (fun r s'=>r = .ok (.ret (.bool true))∧OldK s₁.heap s'.heap∧s'.os=s₁.os∧AllBare s'.gens) s₁:=by
 have rv:=zcl hi
 have lenV:=hi.length
 
 have core:∀ H:Hp,Only H→SqL K H a (ns.map V.int)→HOk P w H s₁.heap→(∀ b,H b≠none→b=a)→(H a≠none→K.lookup a=none) →
   codeAny (model P w) callerA (.call (.ref fa) ⟨[.ref a],[]⟩) (fun r s'=>r = .ok (.ret (.bool true))∧OldK s₁.heap s'.heap∧s'.os=s₁.os∧AllBare s'.gens) s₁:=by
  intro H hO hS hok hA hK
  have base_of:∀ {b:Addr} {o:Obj},s₁.heap.get? b=some o→H b=none→(hidT s₁.heap H).get? b=some o:=fun e n=>zjh e n
  have noA:∀ {b:Addr} {o:Obj} {es:Array DictEntry} {ep:Nat},s₁.heap.get? b=some o→o.data = .dict es ep→H b=none:=fun {b o es ep} e d=>by
   cases q:H b with
   | none=>rfl
   | some u =>
    have e':b=a:=hA b (by rw [q];simp)
    subst e'
    rw [ha] at e;cases e
    have d':Data.seq vs.toArray _=Data.dict es ep:=d
    cases d'
  have nsK:∀ {b:Addr} {m:Str→Option Value},s₁.heap.Ns b m→(hidT s₁.heap H).Ns b m:=fun {b m} ⟨o,es,ep,e,d,r⟩=>⟨o,es,ep,base_of e (noA e d),d,r⟩
  have hKb:K.In (hidT s₁.heap H):=fun b o e=>base_of (KX b o e) (by
   cases q:H b with
   | none=>rfl
   | some u =>
    have e':b=a:=hA b (by rw [q];simp)
    subst e'
    rw [hK (by rw [q];simp)] at e;cases e)
  have hM:Mod K mg (hidT s₁.heap H):=⟨hKb,nsK hns,⟨mb,nsK hb,hbb⟩,let ⟨mc,h1,h2⟩:=hlim;⟨mc,nsK h1,h2⟩⟩
  have e0:Env0 P w K mg (hidT s₁.heap H) callerA [] s₁ H:=⟨rfl,hM,fun b o e=>zkB e,Nat.le_of_eq (zh4 _ _),trivial,fun b hb=>absurd (show b∈([]:List Addr) from hb) (by simp),hok,.of_eq hg⟩
  refine Xbw ((F _ hKb (nsK hns)).run callerA [] s₁ H ⟨[.ref a],[]⟩ [.ref a] [.ref a] _ _ hr e0 (hbind s₁ (.ref a)) (.cons rfl .nil) (hsp H hO hS)) fun r s' h=>?_
  cases r with
  | error e=>exact (hCX H e s' h).elim
  | ok fl =>
   cases fl with
   | next=>exact False.elim h
   | brk=>exact False.elim h
   | cont=>exact False.elim h
   | ret u =>
    obtain ⟨v,H',os,bare,un,hok',r',q⟩:=h
    have q':v = .bl true:=q
    subst q'
    obtain rfl:u=Value.bool true:=r'
    refine ⟨rfl,OldK.of_keep fun b o e=>?_,os,bare⟩
    cases q:H b with
    | none=>exact un.keep b o e q (by intro z;exact absurd (show b∈([]:List Addr) from z) (by simp)) (by simp)
    | some u =>
     rcases hO b with z | ⟨ob,xs,z⟩
     ·rw [q] at z;cases z
     ·have z2:=un.frzs b ob _ z
      obtain ⟨e1,_⟩:=hok b _ z
      obtain ⟨e2,_⟩:=hok' b _ z2
      rw [e] at e1;cases e1
      exact e2
 cases hk:K.lookup a with
 | some o =>
  
  have e:=KX a o hk
  rw [ha] at e
  cases e
  refine core (fun _=>none) (fun _=>.inl rfl) (.inr ⟨_,vs.toArray,_,hk,rfl,rfl,rfl,by rw [Xam,lenV];exact hl,by simpa using rv⟩) (fun b u z=>by have z':(none:Option HO)=some u:=z;cases z') (fun b z=>absurd rfl z) fun z=>absurd rfl z
 | none =>
  refine core (fun b=>if b=a then some (.frz { cls:=.type "list",data:=.seq vs.toArray } (.lst (ns.map V.int))) else none) (fun b=>?_) (.inl (.inr ⟨{ cls:=.type "list",data:=.seq vs.toArray },if_pos rfl⟩)) (fun b u z=>?_) (fun b z=>?_) fun _=>hk
  ·by_cases hb:b=a
   ·exact .inr ⟨_,_,if_pos hb⟩
   ·exact .inl (if_neg hb)
  ·by_cases hb:b=a
   ·have z':=(if_pos hb).symm.trans z
    cases z'
    subst hb
    exact ⟨ha,by rw [Xae];exact hl,vs,_,rv,ha⟩
   ·have z':=(if_neg hb).symm.trans z
    cases z'
  ·by_cases hb:b=a
   ·exact hb
   ·exact absurd (if_neg hb) z
def zbi (s:Stmt)(j:Nat):Stmt:=match s with
 | .ClassDef _ _ _ body _ _ _ _ _ _ _=>body.getD j (.Pass ⟨0,0,0,0⟩)
 | _=>.Pass ⟨0,0,0,0⟩
def zbj (s:Stmt):Arguments:=match s with
 | .FunctionDef _ a _ _ _ _ _ _ _ _=>a
 | _=>{ posonlyargs:=[],args:=[],vararg:=none,kwonlyargs:=[],kw_defaults:=[],kwarg:=none,defaults:=[] }
def zaU (s:Stmt):List Stmt:=match s with
 | .FunctionDef _ _ b _ _ _ _ _ _ _=>b
 | _=>[]
def zai (s:Stmt):Scope:=match s with
 | .FunctionDef _ _ _ _ _ _ sc _ _ _=>sc
 | _=>{ kind:=.function,names:=[],isGenerator:=false,isCoroutine:=false }
abbrev CX0:CXT:=fun _ _ _ _ _ _=>False
abbrev E0:XK:=fun _ _ _=>False
theorem zi1 {X:Cx}:Passes CX0 X E0:=fun _ _ _ _ _ _ _ h=>h.elim
structure Fun (K:W.Frag)(x qual:Str)(st:Stmt)(f:Addr)(fd:FuncData):Prop where
 ex:∃ (oc:Value) (od:Option Addr) (kV doc pm:Value) (an:Option Addr) (cdv ct:Value) (osl:Array (Option Value)),
  fd=W.fnOf x qual (zbj st) (zaU st) (zai st) .none kV doc pm an cdv ct∧K.lookup f=some ⟨oc,od,.func fd,osl⟩∧W.codeIn K cdv qual=true
 kp:W.keepIn K (.ref f)=true
section
variable {P:Program}{w:World}{K:W.Frag}{mg:Str→Option Value}{base:Heap}
theorem Fun.ok {x qual:Str}{st:Stmt}{f:Addr}{fd:FuncData}{N ps:List Str}{k:Nat}{sp:Sp}(F:Fun K x qual st f fd)(S:FnScope N ps (zai st))(len:∀ vs H Q E,sp vs H Q E→vs.length=ps.length)
  (hbody:∀ (cdv:Value) (A:Around) (outer:List Env) (s:Shared) (H:Hp) (vs:List V) (Q:VK) (E:XK),Room k (A.deeper (envOfC qual (zai st) s.heap.objs.size f cdv))→sp vs H Q E →
   ∃ t,PSs (cxOf CX0 P w K mg base N qual (zai st) f cdv A outer s H E).nox (zaU st) t∧t { nx:=fun _ H'=>Q .non H',rt:=Q } (start N vs) H):FnOk P w K mg base CX0 (k+1) f fd ps sp:=by
 obtain ⟨oc,od,kV,doc,pm,an,cdv,ct,osl,rfl,lk,hcd⟩:=F.ex
 refine zjm lk hcd S len fun A outer s H vs Q E hr hsp=>?_
 obtain ⟨t,h,q⟩:=hbody cdv A outer s H vs Q E hr hsp
 exact ⟨t,h.nox,q⟩
theorem Fun.binds {x qual:Str}{st:Stmt}{f:Addr}{fd:FuncData}{ps:List Str}(F:Fun K x qual st f fd)
  (h:∀ (kV doc pm:Value) (an:Option Addr) (cdv ct:Value) (us:List Value),us.length=ps.length→bindArgs (W.fnOf x qual (zbj st) (zaU st) (zai st) .none kV doc pm an cdv ct) ⟨us,[]⟩=pure (ps.zip us)):Binds K fd ps []:=by
 obtain ⟨oc,od,kV,doc,pm,an,cdv,ct,osl,rfl,lk,hcd⟩:=F.ex
 exact .all (h kV doc pm an cdv ct)
theorem zjY {x qual:Str}{st:Stmt}{f:Addr}{oc:Value}{od an:Option Addr}{osl:Array (Option Value)}{kV doc pm cdv ct:Value}(l:K.lookup f=some ⟨oc,od,.func (W.fnOf x qual (zbj st) (zaU st) (zai st) .none kV doc pm an cdv ct),osl⟩)
  (c:W.codeIn K cdv qual=true) (k:W.keepIn K (.ref f)=true):Fun K x qual st f (W.fnOf x qual (zbj st) (zaU st) (zai st) .none kV doc pm an cdv ct):=⟨⟨oc,od,kV,doc,pm,an,cdv,ct,osl,rfl,l,c⟩,k⟩
end
theorem zcN {A:Around}{k:Nat}(hr:Room k A):A.units+1<cLine:=XaL (Nat.add_le_add_left (by decide:1≤64) _) hr.units
theorem zdj {n:Nat}(h:n≤1000):n<sizeLine:=XaL h (by decide)
section
variable {X:Cx}
theorem pv (i:Nat){x:Str}{pos:Pos}(hN:X.N[i]? = some x:=by rfl)(hv:Vis X.env.scope x:=by first | exact Or.inl rfl | exact Or.inr (Or.inl rfl) | exact Or.inr (Or.inr rfl))(hd:(x == ("__debug__" : Str))=false:=by decide)
  (hcd:(x == ("__classdict__" : Str))=false:=by decide):PE X (.Name x pos) (tVar i):=pe_var hN hv hd hcd
end
theorem iteF {A B:Prop}(h:B):if false=true then A else B:=by
 rw [if_neg Xaq]
 exact h
theorem iteT {A B:Prop}(h:A):if true=true then A else B:=by
 rw [if_pos rfl]
 exact h
theorem ite2 {c A B:Prop}[Decidable c](h1:c→A)(h2:¬ c→B):if c then A else B:=by
 by_cases h:c
 ·rw [if_pos h]
  exact h1 h
 ·rw [if_neg h]
  exact h2 h
theorem zh1 {c A B:Prop}[Decidable c](hc:c)(h:B):if (!decide c)=true then A else B:=by
 rw [Xap hc]
 exact iteF h
def Same (H H':Hp):Prop:=∀ b o,H b=some o→H' b=some o
theorem Same.refl (H:Hp):Same H H:=fun _ _ h=>h
theorem Same.trans {H H1 H2:Hp}(a:Same H H1)(b:Same H1 H2):Same H H2:=fun c o h=>b c o (a c o h)
theorem Same.free {H H':Hp}(e:Same H H'){l:Addr}(h:H' l=Option.none):H l=Option.none:=by
 cases q:H l with
 | none=>rfl
 | some o =>
  rw [e l o q] at h
  cases h
theorem Same.seq {K:W.Frag}{H H':Hp}{a:Addr}{xs:List V}(e:Same H H')(h:SqL K H a xs):SqL K H' a xs:=by
 rcases h with (h | ⟨o,h⟩) | h
 ·exact .inl (.inl (e _ _ h))
 ·exact .inl (.inr ⟨o,e _ _ h⟩)
 ·exact .inr h
section
variable {X:Cx}
end
section
variable {κ:Type}[DecidableEq κ]
theorem zkb {kvs:List (κ×V)}{k:κ}{v:V}(h:valV kvs k=some v):k∈kvs.map (·.1):=by
 have q:(kvs.any fun kv=>decide (kv.1=k))=true:=by
  rw [zbU,h]
  all_goals rfl
 obtain ⟨p,hp,e⟩:=List.any_eq_true.mp q
 exact XaJ.mpr ⟨p,hp,XaQ e⟩
end
theorem zkE {prog:Program}{w:World}{A:Around}{R:Result→Shared→Prop}{s:Shared}{elt target iter:Expr}{ifs:List Expr}{scope:Scope}{pos:Pos}{it acc:Value}{env:Env}(I:Nat→Shared→Prop)
  (turn:∀ n s,I n s→wpAny (model prog w) A (pyNext it) (fun r s1=>match r with
   | none=>R (.ok .next) s1
   | some v=>wpAny (model prog w) A (letOwnedTupleGo target it v) (fun _ s2=>wpAny (model prog w) A (assign target env v) (fun _ s3 =>
     wpAny (model prog w) A (forIn ifs true fun c r=>if r=true then do let ok ← isTrue c env (eval c env);pure (ForInStep.yield ok) else pure (ForInStep.yield r)) (fun ok s4 =>
      if ok=true then wpAny (model prog w) A (eval elt env) (fun x s5 =>
       wpAny (model prog w) A (call (.builtin "list.append") [acc,x]) (fun _ s6=>∃ m,m<n∧I m s6) (fun _ _=>False) s5) (fun _ _=>False) s4
      else ∃ m,m<n∧I m s4) (fun _ _=>False) s3) (fun _ _=>False) s2) (fun _ _=>False) s1) (fun _ _=>False) s)
  (n:Nat) (h:I n s) :
  codeAny (model prog w) A (.compLoop (.ListComp elt [⟨target,iter,ifs,0⟩] scope pos) 0 it acc env) R s:=by
 refine codeAny_loop rfl I (fun n s hI=>?_) n h
 show wpAny _ A ((compTurn (.ListComp elt [⟨target,iter,ifs,0⟩] scope pos) 0 it acc env).onRaise (fun x=>do noteFrame x env;theTreesLotGoes x)) _ _ s
 refine wpAny_noted ?_
 rw [compTurn_list]
 refine Xaa (Xbo (Xaa (Xaz (turn n s hI) (fun r s1 h1=>?_) fun _ _ h'=>h'.elim)))
 cases r with
 | none=>exact Xad h1
 | some v =>
  refine Xaa (Xaz h1 (fun _ s2 h2=>?_) fun _ _ h'=>h'.elim)
  refine Xaa (Xaz h2 (fun _ s3 h3=>Xaa (Xaz h3 (fun ok s4 h4=>?_) fun _ _ h'=>h'.elim)) fun _ _ h'=>h'.elim)
  cases ok with
  | false=>exact Xad ⟨rfl,h4⟩
  | true =>
   exact Xaa (Xaa (Xaz h4 (fun x s5 h5=>Xaa (Xaz h5 (fun _ s6 h6=>Xad (Xad ⟨rfl,h6⟩)) fun _ _ h'=>h'.elim)) fun _ _ h'=>h'.elim))
def PF (X:Cx)(ifs:List Expr)(t:TT):Prop:=
 ∀ (pins:List (Addr×Obj)) (s:Shared) (σ:St) (H:Hp) (Q:Bool→Hp→Prop),Inv X pins σ H s→t σ H Q →
  wpAny (model X.prog X.w) X.A (forIn ifs true fun c r=>if r=true then do let ok ← isTrue c X.env (eval c X.env);pure (ForInStep.yield ok) else pure (ForInStep.yield r)) (TP X pins σ Q) X.xe s
def tYes:TT:=fun _ H Q=>Q true H
theorem zd1 {X:Cx}:PF X [] tYes:=fun pins s σ H Q I h=>wpAny_tests_nil ⟨H,I,h⟩
theorem zgo {X:Cx}{c:Expr}{t:TT}(hc:PT X c t):PF X [c] t:=fun pins s σ H Q I h=>wpAny_tests_one (hc pins s σ H Q I h)
def cxC (X:Cx)(Nc:List Str)(scope:Scope)(cl:List (Str×Addr))(C:Addr)(fp:List Addr)(s2:Shared)(H2:Hp):Cx where
 prog:=X.prog
 w:=X.w
 K:=X.K
 mg:=X.mg
 base:=X.base
 A:=X.A
 N:=Nc
 s₀:=s2
 H₀:=H2
 env:=compEnvC scope cl C X.env
 outer:=X.stack
 stack:=X.stack
 ex:=fp
 fn:=fun _=>false
 calm:=X.calm
 pn:=[]
 xe:=fun _ _=>False
def za5 (src:List (Option Nat))(σ:St):St:=src.map fun o=>match o with
 | none=>none
 | some i=>(σ[i]?).getD none
structure CompOk (N:List Str)(osc:Scope)(Nc:List Str)(src:List (Option Nat))(scope:Scope):Prop where
 kind:scope.kind = .function
 nocell:∀ x∈scope.names,x.2≠.cell
 nodup:scope.names.Pairwise fun x y=>x.1≠y.1
 free:∀ x∈scope.names,x.2 = .free→osc.names.lookup x.1=some .cell∨osc.names.lookup x.1=some .free
 len:src.length=Nc.length
 src:∀ (j i:Nat),src[j]? = some (some i)→∃ x,Nc[j]? = some x∧N[i]? = some x∧scope.names.lookup x=some .free
set_option tactic.hygienic true in
theorem zbY {α:Type}{l:List (Str×α)}{x:Str}{k:α}(h:l.lookup x=some k):(x,k)∈l:=by
 induction l with
 | nil=>cases h
 | cons p r ih =>
  obtain ⟨y,j⟩:=p
  rw [List.lookup_cons] at h
  split at h
  ·rename_i hb
   have e:=eq_of_beq hb
   cases h;subst e;exact XaA
  ·exact XaB _ (ih h)
theorem zbC {α:Type}{l:List (Str×α)}(nd:l.Pairwise fun x y=>x.1≠y.1){x:Str}{k:α}(h:(x,k)∈l):l.lookup x=some k:=by
 induction l with
 | nil=>cases h
 | cons p r ih =>
  obtain ⟨y,j⟩:=p
  rw [List.pairwise_cons] at nd
  rw [List.lookup_cons]
  rcases Xal.mp h with e | h
  ·cases e;simp
  ·have ne:=nd.1 _ h
   have:(x == y)=false:=beq_eq_false_iff_ne.mpr (Ne.symm ne)
   rw [this];exact ih nd.2 h
theorem zha {X:Cx}(ok:X.Ok){scope:Scope}:∀ (names:List (Str×NameKind)) (acc:List (Str×Addr)),(∀ x∈names,x.2 = .free→∃ c,X.env.cells.lookup x.1=some c) →
  (∀ x c,(x,c)∈acc→X.env.cells.lookup x=some c) →
  ∃ cl,(forIn names acc (fun (p:Str×NameKind) (cs:List (Str×Addr))=>(do
   if p.2 == NameKind.free then
    let c ← cellOf X.env p.1
    pure (ForInStep.yield ((p.1,c) :: cs))
   else pure (ForInStep.yield cs):Sem (ForInStep (List (Str×Addr))))))=pure cl∧(∀ x c,(x,c)∈cl→X.env.cells.lookup x=some c)∧(∀ x∈names,x.2 = .free→∃ c,(x.1,c)∈cl)∧(∀ p∈acc,p∈cl):=by
 intro names
 induction names with
 | nil=>intro acc _ ha;exact ⟨acc,(by rw [List.forIn_nil]),ha,(fun _ h=>nomatch h),fun _ h=>h⟩
 | cons p r ih =>
  intro acc hf ha
  obtain ⟨x,k⟩:=p
  rw [List.forIn_cons]
  by_cases hk:k = .free
  ·subst hk
   obtain ⟨c,hc⟩:=hf _ XaA rfl
   obtain ⟨cl,e,h1,h2,h3⟩:=ih ((x,c) :: acc) (fun y hy=>hf y (XaB _ hy)) (fun y d hy=>by
    rcases Xal.mp hy with e | hy
    ·cases e;exact hc
    ·exact ha y d hy)
   have hcell:cellOf X.env x=pure c:=by unfold cellOf;rw [show X.env.cells.lookup x=some c from hc]
   refine ⟨cl,?_,h1,fun y hy hk=>?_,fun q hq=>h3 q (XaB _ hq)⟩
   ·simp only [beq_self_eq_true,if_true,hcell,pure_bind];exact e
   ·rcases Xal.mp hy with e | hy
    ·cases e;exact ⟨c,h3 _ XaA⟩
    ·exact h2 y hy hk
  ·obtain ⟨cl,e,h1,h2,h3⟩:=ih acc (fun y hy=>hf y (XaB _ hy)) ha
   have hb:(k == NameKind.free)=false:=by simpa using hk
   refine ⟨cl,?_,h1,fun y hy hk'=>?_,h3⟩
   ·simp only [hb,XbP,if_false,pure_bind];exact e
   ·rcases Xal.mp hy with e | hy
    ·cases e;exact absurd hk' hk
    ·exact h2 y hy hk'
theorem zbD {X:Cx}(ok:X.Ok){scope:Scope}(hf:∀ x∈scope.names,x.2 = .free→X.env.scope.names.lookup x.1=some .cell∨X.env.scope.names.lookup x.1=some .free) :
  ∃ cl:List (Str×Addr),closureFor scope X.env=pure cl∧(∀ (x:Str) (c:Addr),cl.lookup x=some c→X.env.cells.lookup x=some c)∧(∀ x∈scope.names,x.2 = .free→∃ c,cl.lookup x.1=some c):=by
 obtain ⟨cl,e,h1,h2,_⟩:=zha ok (scope:=scope) scope.names [] (fun x hx hk=>ok.has x.1 (hf x hx hk)) (fun _ _ h=>nomatch h)
 refine ⟨cl,?_,fun x c h=>h1 x c (zbY h),fun x hx hk=>?_⟩
 ·unfold closureFor
  exact (bind_pure _).trans e
 ·obtain ⟨c,hc⟩:=h2 x hx hk
  have:∀ l:List (Str×Addr),(x.1,c)∈l→∃ d,l.lookup x.1=some d:=by
   intro l
   induction l with
   | nil=>intro h;cases h
   | cons p r ih =>
    intro h
    obtain ⟨y,d⟩:=p
    rw [List.lookup_cons]
    cases hb:x.1 == y with
    | true=>exact ⟨d,rfl⟩
    | false =>
     rcases Xal.mp h with e | h
     ·cases e;simp at hb
     ·exact ih h
  exact this cl hc
theorem zbs {scope:Scope}{env:Env}(x:Str):(relabel scope env).names.lookup x=(scope.names.lookup x).map fun k=>if (k == .free && env.scope.kind == .function && env.kindOf x == some .cell) then .cell else k:=by
 unfold relabel
 show List.lookup x (scope.names.map _)=_
 induction scope.names with
 | nil=>rfl
 | cons p r ih =>
  obtain ⟨n,k⟩:=p
  rw [XaS]
  cases hb:x == n with
  | true =>
   have e:=eq_of_beq hb
   subst e
   show List.lookup x ((if (k == NameKind.free && env.scope.kind == .function && env.kindOf x == some .cell)=true then (x,NameKind.cell) else (x,k)) :: _)=_
   by_cases hc:(k == NameKind.free && env.scope.kind == .function && env.kindOf x == some .cell)=true
   ·rw [if_pos hc,List.lookup_cons,List.lookup_cons]
    simp only [beq_self_eq_true,Option.map_some]
    rw [if_pos hc]
   ·rw [if_neg hc,List.lookup_cons,List.lookup_cons]
    simp only [beq_self_eq_true,Option.map_some]
    rw [if_neg hc]
  | false =>
   show List.lookup x ((if (k == NameKind.free && env.scope.kind == .function && env.kindOf n == some .cell)=true then (n,NameKind.cell) else (n,k)) :: _)=_
   by_cases hc:(k == NameKind.free && env.scope.kind == .function && env.kindOf n == some .cell)=true
   ·rw [if_pos hc,List.lookup_cons,List.lookup_cons,hb];exact ih
   ·rw [if_neg hc,List.lookup_cons,List.lookup_cons,hb];exact ih
theorem HOk.track {P:Program}{w:World}{H:Hp}{h:Heap}{a:Addr}{o:HO}(x:HOk P w H h)(hn:H a=none)(new:ObjOk P w (upd H a o) h a o):HOk P w (upd H a o) h:=fun b u e=>by
 by_cases hb:b=a
 ·subst hb;rw [zab] at e;cases e;exact new
 ·rw [zag hb] at e
  exact (x b u e).stay (fun c v _ q=>q) (fun c q=>by rw [zag (zaj q hn)];exact q) fun c xs q=>by rw [zag (zaj q hn)];exact q
theorem Un.track {fs ex:List Addr}{H H':Hp}{h h':Heap}{a:Addr}{o:HO}(u:Un fs ex H H' h h')(hp:h.objs.size≤a)(hl:∀ b v,H b=some v→b<h.objs.size):Un fs ex H (upd H' a o) h h' where
 keep:=u.keep
 slot:=u.slot
 free:=fun b v q n x=>by rw [zag (Xar (Xai (Xaj q) hp))];exact u.free b v q n x
 there:=u.there
 tups:=fun b xs q=>by rw [zag (Xar (Xai (hl b _ q) hp))];exact u.tups b xs q
 frzs:=fun b v xs q=>by rw [zag (Xar (Xai (hl b _ q) hp))];exact u.frzs b v xs q
 tbls:=fun b ps q=>by rw [zag (Xar (Xai (hl b _ q) hp))];exact u.tbls b ps q
theorem zj3 {X:Cx}{pins:List (Addr×Obj)}{σ:St}{H2:Hp}{s2:Shared}{Nc:List Str}{src:List (Option Nat)}{scope:Scope}{cl:List (Str×Addr)}{C:Addr}{fp:List Addr}(I2:Inv X pins σ H2 s2)(S:CompOk X.N X.env.scope Nc src scope)
  (hcl1:∀ (x:Str) (c:Addr),cl.lookup x=some c→X.env.cells.lookup x=some c) (hcl2:∀ x∈scope.names,x.2 = .free→∃ c,cl.lookup x.1=some c) (hC:s2.heap.objs.size≤C)
  (hfp:∀ b∈fp,b<s2.heap.objs.size) (f2:∀ b∈fp,FpOk X pins H2 b):(cxC X Nc scope cl C fp s2 H2).Ok where
 mod:=I2.ok.mod
 kind:=S.kind
 glob:=I2.ok.glob
 blt:=I2.ok.blt
 above:=hC
 inj:=fun x y c h1 h2=>I2.ok.inj x y c (hcl1 _ _ h1) (hcl1 _ _ h2)
 has:=fun x h=>by
  have h':(relabel scope X.env).names.lookup x=some .cell∨(relabel scope X.env).names.lookup x=some .free:=h
  rw [zbs] at h'
  cases hk:scope.names.lookup x with
  | none=>rw [hk] at h';rcases h' with h' | h' <;> cases h'
  | some k =>
   have hm:=zbY hk
   have hkf:k = .free:=by
    rw [hk] at h'
    simp only [Option.map_some] at h'
    cases k with
    | free=>rfl
    | cell=>exact absurd rfl (S.nocell _ hm)
    | _=>exfalso;revert h';simp
   subst hkf
   exact hcl2 _ hm rfl
 cab:=fun x c h=>nomatch h
 hd:=I2.ok.hd
 frames:=I2.ok.frames
 stk:=.inl rfl
 exf:=fun b hb=>⟨Xar (Xai (hfp b hb) hC),fun x c e=>(f2 b hb).2.2.2.2.1 x c (hcl1 _ _ e)⟩
 bs:=I2.bs
 bsz:=Xav I2.ok.bsz I2.sz
 noex:=fun b o e hb=>by
  rcases (f2 b hb).2.2.2.1 with z | z
  ·exact I2.ok.noex b o e z
  ·exact absurd (Xai (Xaj e) (Xav I2.ok.bsz z)) (XaT _)
 exfs:=fun b hb hs=>by
  obtain ⟨_,f1,f3,_⟩:=f2 b hb
  rcases Xal.mp (I2.stkSub b hs) with z | z
  ·exact f1 z
  ·exact f3 z
 funs:=I2.stack
 frf:=I2.stkFree
def zgd (J:It)(g:TG)(tf:TT)(te:TE)(Q:List V→Hp→Prop)(σ0:St)(H1:Hp):Prop:=
 ∃ W:Nat→Nat→List V→St→Hp→Prop,(∃ m,W 0 m [] σ0 H1)∧∀ i m ys σc Hc,W i m ys σc Hc →
  (J.stop i Hc∧ys.length≤sizeLine∧Q ys Hc) ∨
  (J.go i Hc∧ys.length<sizeLine∧∃ N:List V→St→Hp→Prop,(∀ ys' σ' H',N ys' σ' H'→∃ m',m'<m∧W (i+1) m' ys' σ' H') ∧
   ∀ x H',J.yld i Hc x H'→g x σc H' fun σ2 H2=>tf σ2 H2 fun b H3=>if b=true then te σ2 H3 fun y H4=>N (ys ++ [y]) σ2 H4 else N ys σ2 H3)
def tComp (src:List (Option Nat))(wi:TI)(g:TG)(tf:TT)(te:TE):TE:=fun σ H Q=>wi σ H fun J H1 =>
 zgd J g tf te (fun ys H2=>∀ D,H2 D=none→Q (.ref D) (upd H2 D (.lst ys))) (za5 src σ) H1
theorem zfm {X:Cx}{pins:List (Addr×Obj)}{σ:St}{H2:Hp}{s2:Shared}{Nc:List Str}{src:List (Option Nat)}{scope:Scope}{cl:List (Str×Addr)}{fp:List Addr}{elt tg iter:Expr}{ifs:List Expr}{pos:Pos}
  {it:Addr} {tn:Nat→Heap→Prop} {J:It} {g:TG} {tf:TT} {te:TE} {Qf:List V→Hp→Prop} {E:Value→Shared→Prop} {RR:Value→Addr→Result→Shared→Prop}
  (hc:X.calm=true) (I2:Inv X pins σ H2 s2) (S:CompOk X.N X.env.scope Nc src scope)
  (hcl1:∀ (x:Str) (c:Addr),cl.lookup x=some c→X.env.cells.lookup x=some c) (hcl2:∀ x∈scope.names,x.2 = .free→∃ c,cl.lookup x.1=some c)
  (T:Turn X.prog X.w X.K tg J fp it tn) (st2:tn 0 s2.heap) (f2:∀ b∈fp,FpOk X pins H2 b)
  (hg:∀ cl C fp s2 H2,PG (cxC X Nc scope cl C fp s2 H2) tg g) (hf:∀ cl C fp s2 H2,PF (cxC X Nc scope cl C fp s2 H2) ifs tf) (he:∀ cl C fp s2 H2,PE (cxC X Nc scope cl C fp s2 H2) elt te)
  (hw:zgd J g tf te Qf (za5 src σ) H2)
  (fin:∀ (H4:Hp) (s4:Shared) (ys:List V) (m:Str→Option Value) (C:Addr),s2.heap.objs.size≤C→H4 s2.heap.objs.size=none→Inv X pins σ (upd H4 s2.heap.objs.size (.lst ys)) s4→s4.heap.Ns C m→upd H4 s2.heap.objs.size (.lst ys) C=none→Qf ys H4→RR (.ref s2.heap.objs.size) C (.ok .next) s4) :
  wpAny (model X.prog X.w) X.A (newList []) (fun acc s3=>wpAny (model X.prog X.w) X.A (newFunctionEnv scope X.env.globals cl [] X.env.qual none .none (some X.env)) (fun cenv s4 =>
   codeAny (model X.prog X.w) X.A (.compStart (.ListComp elt [⟨tg,iter,ifs,0⟩] scope pos) 0 (.ref it) acc { cenv with scope:=relabel scope X.env }) (RR acc cenv.locals) s4) E s3) E s2:=by
 refine XaP (wpAny_newFunctionEnv S.nocell (by intro y hy;simp at hy) (fun h1 hns1 hsb1=>?_) S.kind)
 dsimp only at hns1 hsb1 ⊢
 generalize hH2:s2.heap.push { cls:=.type "list",dict:=none,data:=.seq ([]:List Value).toArray }=G2 at hns1 hsb1 ⊢
 have hCz:G2.objs.size=s2.heap.objs.size+1:=by rw [← hH2,XaG]
 generalize hCe:G2.objs.size=C at hns1 hsb1 hCz ⊢
 generalize hDe:s2.heap.objs.size=D at fin hCz ⊢
 have hDC:D≠C:=by omega
 have hCle:s2.heap.objs.size≤C:=by omega
 have hDle:s2.heap.objs.size≤D:=by omega
 have old:∀ b o,s2.heap.get? b=some o→h1.get? b=some o:=fun b o e=>hsb1.extBut b o (Xar (Xai (Xaj e) hCle)) (Xab _ (hH2 ▸ Xab _ e))
 have hacc:h1.get? D=some { cls:=.type "list",data:=.seq ([]:List Value).toArray 0 }:=by
  refine hsb1.extBut _ _ hDC (Xab _ ?_)
  rw [← hH2,← hDe]
  exact Xah _ rfl
 have hfp:∀ b∈fp,b<s2.heap.objs.size:=fun b hb=>by
  obtain ⟨o,e,_⟩:=T.obj 0 _ st2 b hb
  exact Xaj e
 have ok:=zj3 (Nc:=Nc) (src:=src) (scope:=scope) (cl:=cl) (C:=C) (fp:=fp) I2 S hcl1 hcl2 hCle hfp f2
 generalize hXC:cxC X Nc scope cl C fp s2 H2=Y at ok
 have hYN:Y.N=Nc:=by rw [← hXC];rfl
 
 have I0:Inv (cxC X Nc scope cl C fp s2 H2) [] (za5 src σ) H2 { s2 with heap:=h1,toks:=s2.toks+([]:List (Str×Value)).length }:=by
  rw [← hXC] at ok
  refine ⟨ok,rfl,I2.bare,Un.kept old,⟨_,hns1,fun j x v e1 e2 _=>?_⟩,fun x c e=>?_,I2.hok.fresh hCle,fun x c e=>I2.freeC x c (hcl1 _ _ e),(fun p hp=>nomatch hp),I2.hok.kept old,?_⟩
  ·
   have e2':(za5 src σ)[j]? = some (some v):=e2
   have e1':Nc[j]? = some x:=e1
   unfold za5 at e2'
   rw [Xan] at e2'
   cases hs:src[j]? with
   | none=>rw [hs] at e2';cases e2'
   | some o =>
    rw [hs] at e2'
    cases o with
    | none=>cases e2'
    | some i =>
     simp only [Option.map_some,Option.some.injEq] at e2'
     obtain ⟨y,hy1,hy2,hy3⟩:=S.src j i hs
     rw [e1'] at hy1;cases hy1
     have hσ:σ[i]? = some (some v):=by
      cases hq:σ[i]? with
      | none=>rw [hq] at e2';cases e2'
      | some z=>rw [hq] at e2';simp only [Option.getD_some] at e2';rw [e2']
     have hm:=zbY hy3
     have hfr:=S.free _ hm rfl
     obtain ⟨m0,hn0,hl0⟩:=I2.loc
     obtain ⟨u,r,l⟩:=hl0 i x v hy2 hσ (Or.inr hfr)
     refine ⟨u,r,.inr ⟨?_,?_⟩⟩
     ·show (relabel scope X.env).names.lookup x=some .cell∨(relabel scope X.env).names.lookup x=some .free
      rw [zbs,hy3]
      simp only [Option.map_some]
      split
      ·exact .inl rfl
      ·exact .inr rfl
     ·rcases l with ⟨k,_⟩ | ⟨_,c,hc1,hc2⟩
      ·have k':X.env.scope.names.lookup x=some .local:=k
       rw [k'] at hfr;rcases hfr with z | z <;> cases z
      ·obtain ⟨c',hc'⟩:=hcl2 _ hm rfl
       have:=hcl1 _ _ hc'
       rw [hc1] at this;cases this
       exact ⟨c,hc',hc2.keeps old⟩
  ·obtain ⟨v,z⟩:=I2.cell x c (hcl1 _ _ e)
   exact ⟨v,z.keeps old⟩
  ·show (za5 src σ).length=Nc.length
   unfold za5;rw [Xae];exact S.len
 obtain ⟨W,⟨m0,w0⟩,turn⟩:=hw
 have loop:codeAny (model X.prog X.w) X.A (.compLoop (.ListComp elt [⟨tg,iter,ifs,0⟩] scope pos) 0 (.ref it) (.ref D) (compEnvC scope cl C X.env)) (RR (.ref D) C) { s2 with heap:=h1,toks:=s2.toks+([]:List (Str×Value)).length }:=by
  have fpk:∀ {H':Hp} {ob:Obj},(∀ b∈fp,H' b=none)→∀ b∈fp,FpOk (cxC X Nc scope cl C fp s2 H2) [(D,ob)] H' b:=fun {H' ob} hn b hb =>
   ⟨hn b hb,(I0.ok.exf b hb).1,I0.ok.exfs b hb,.inl hb,(I0.ok.exf b hb).2,fun p hp=>by
    have e:p=(D,ob):=Xac.mp hp
    subst e
    exact Xbk (Xai (hfp b hb) hDle)⟩
  have hDfs:D ∉ frs X.stack:=fun hs=>by
   rcases Xal.mp (I2.stkSub D hs) with z | z
   ·exact absurd (Xai I2.lt hDle) (by rw [z];exact XaT _)
   ·exact I2.nofs hDle z
  refine zkE (fun n s'=>∃ i ys σ' H' its k,Inv (cxC X Nc scope cl C fp s2 H2) [] σ' H' s'∧tn i s'.heap∧(∀ b∈fp,H' b=none)∧H' D=none∧s'.heap.get? D=some { cls:=.type "list",data:=.seq (its:List Value).toArray k }∧Vals ys its∧W i n ys σ' H') ?_ m0
   ⟨0,[],za5 src σ,H2,[],0,I0,T.keep _ _ _ st2 fun b hb o e=>old b o e,fun b hb=>(f2 b hb).1,I2.hok.fresh hDle,hacc,.nil,w0⟩
  rintro n s3 ⟨i,ys,σ3,H3,its,k,I3,st3,fr3,hD3,hO3,vs3,w3⟩
  have I3':Inv (cxC X Nc scope cl C fp s2 H2) [(D,({ cls:=.type "list",data:=.seq its.toArray k }:Obj))] σ3 H3 s3:=I3.pins_of fun p hp=>by
   have e:=Xac.mp hp
   subst e
   exact ⟨hO3,hD3,hDC,hDfs,fun v z=>by
    have z':Data.seq _ _=Data.cell v:=z
    cases z'⟩
  rcases turn i n ys σ3 H3 w3 with ⟨stop,hlen,qn⟩ | ⟨go,hlen,N,hN,step⟩
  ·refine thn (T.done (cxC X Nc scope cl C fp s2 H2) rfl rfl rfl hc i _ s3 σ3 H3 _ I3' (fpk fr3) st3 stop) fun r s4 ⟨hr,I4⟩=>?_
   subst hr
   have hO4:=(I4.pin (D,_) (Xax _ (Xac.mpr rfl))).1
   obtain ⟨m4,hn4,_⟩:=I4.loc
   have fC:H3 C=none:=I4.free
   have uD:upd H3 D (.lst ys) C=none:=by rw [zag hDC.symm];exact fC
   have hl2:∀ b v,H2 b=some v→b<s2.heap.objs.size:=fun b v e=>I2.hok.lt e
   have Iout:Inv X pins σ (upd H3 D (.lst ys)) s4:=by
    refine I2.call' (ch:=fp) I4.os (Un.track I4.base hDle hl2) (HOk.track I4.hok hD3 ⟨hlen,its,k,vs3,hO4⟩) I4.bare fun b hb=>?_
    obtain ⟨_,a1,_,a3,a4,a5⟩:=f2 b hb
    exact ⟨a3,a1,a4,a5⟩
   exact fin H3 s4 ys m4 C (by omega) hD3 Iout hn4 uD qn
  ·refine thn (T.item (cxC X Nc scope cl C fp s2 H2) rfl rfl rfl hc i _ s3 σ3 H3 _ I3' (fpk fr3) st3 go) fun r s4 ⟨u,hr,h4⟩=>?_
   subst hr
   refine thn h4 fun _ s5 hh_=>?_
   obtain ⟨x,H5,I5,r5,y5,st5,fr5⟩:=hh_
   have I5':=I5.pinned (fpk fr5) (T.obj _ _ st5)
   refine thn (hg cl C fp s2 H2 _ s5 σ3 H5 x u _ I5' r5 (step x H5 y5)) fun _ s6 ⟨σ6,H6,I6,q6⟩=>?_
   refine thn (hf cl C fp s2 H2 _ s6 σ6 H6 _ I6 q6) fun ok s7 ⟨H7,I7,q7⟩=>?_
   have back:∀ {s8:Shared} {σ8:St} {H8:Hp},Inv (cxC X Nc scope cl C fp s2 H2) ([(D,({ cls:=.type "list",data:=.seq its.toArray k }:Obj))] ++ zd0 fp s5.heap) σ8 H8 s8 →
     tn (i+1) s8.heap∧(∀ b∈fp,H8 b=none)∧H8 D=none∧s8.heap.get? D=some { cls:=.type "list",data:=.seq its.toArray k }:=fun {s8 σ8 H8} I8=>by
    refine ⟨T.keep _ _ _ st5 fun b hb o e=>(I8.pin (b,o) (Xax _ (Xax _ (za9 hb e)))).1,fun b hb=>?_,?_,?_⟩
    ·obtain ⟨o,e,d⟩:=T.obj _ _ st5 b hb
     exact (I8.pin (b,o) (Xax _ (Xax _ (za9 hb e)))).2.1
    ·exact (I8.pin (D,_) (Xax _ (XaV _ (Xac.mpr rfl)))).2.1
    ·exact (I8.pin (D,_) (Xax _ (XaV _ (Xac.mpr rfl)))).1
   cases ok with
   | false =>
    obtain ⟨m',hm',w7⟩:=hN _ _ _ q7
    obtain ⟨b1,b2,b3,b4⟩:=back I7
    exact ⟨m',hm',i+1,ys,σ6,H7,its,k,I7.pins_of (fun p hp=>nomatch hp),b1,b2,b3,b4,vs3,w7⟩
   | true =>
    refine thn (he cl C fp s2 H2 _ s7 σ6 H7 _ I7 q7) fun v s8 hh_=>?_
    obtain ⟨y,H8,I8,r8,q8⟩:=hh_
    obtain ⟨m',hm',w8⟩:=hN _ _ _ q8
    obtain ⟨b1,b2,b3,b4⟩:=back I8
    have hl8:=vs3.length
    refine call_meets F.slot_list_append ⟨_,b4,rfl⟩ F.entry_list_append (F.args_list_append_2 _ _) (PySem.list_append D its.toArray k v (by rw [Xam];omega)) ⟨b4,?_⟩
    have I8n:Inv (cxC X Nc scope cl C fp s2 H2) [] σ6 H8 s8:=I8.pins_of fun p hp=>nomatch hp
    have kq:∀ b o,b≠D→s8.heap.get? b=some o→(s8.heap.update D (Obj.mapSeq (·.push v))).get? b=some o:=fun b o hb e=>(XaE s8.heap _ (Ne.symm hb)).trans e
    have qn:=PySem.IsL.update b4 (·.push v)
    have e2:its.toArray.push v=(its ++ [v]).toArray:=by simp
    rw [e2] at qn
    have I9:Inv (cxC X Nc scope cl C fp s2 H2) [] σ6 H8 { s8 with heap:=s8.heap.update D (Obj.mapSeq (·.push v)),toks:=s8.toks }:=
     I8n.turned (it:=D) kq b3 hDC (.inr hDle) (fun x c e z=>by
      obtain ⟨w',z'⟩:=I2.cell x c (hcl1 _ _ e)
      exact absurd (Xai z'.lt hDle) (by rw [z];exact XaT _)) (fun p hp=>nomatch hp)
    refine ⟨m',hm',i+1,ys ++ [y],σ6,H8,its ++ [v],_,I9,T.keep _ _ _ b1 fun b hb o e=>kq b o (Xar (Xai (hfp b hb) hDle)) e,b2,b3,qn,vs3.append (.cons r8 .nil),w8⟩
 exact codeAny_compStart_list loop (T.self X.A 0 _ _ _ (T.keep _ _ _ st2 fun b hb o e=>old b o e) loop)
section
variable {X:Cx}{Nc:List Str}{src:List (Option Nat)}{scope:Scope}{elt tg iter:Expr}{ifs:List Expr}{pos:Pos}{wi:TI}{g:TG}{tf:TT}{te:TE}
theorem zch (src:List (Option Nat))(hc:X.calm=true)(S:CompOk X.N X.env.scope Nc src scope)(hi:PI X tg iter wi)
  (hg:∀ cl C fp s2 H2,PG (cxC X Nc scope cl C fp s2 H2) tg g) (hf:∀ cl C fp s2 H2,PF (cxC X Nc scope cl C fp s2 H2) ifs tf) (he:∀ cl C fp s2 H2,PE (cxC X Nc scope cl C fp s2 H2) elt te)
  (hs:∀ x,foldedSetIterable iter X.env x=pure x:=by intro _;rfl):PE X (.ListComp elt [⟨tg,iter,ifs,0⟩] scope pos) (tComp src wi g tf te):=by
 intro pins s σ H Q I h
 obtain ⟨cl,hclos,hcl1,hcl2⟩:=zbD I.ok (scope:=scope) S.free
 rw [eval_ListComp]
 refine wpAny_comprehension_free (use:=none) rfl hs hclos S.kind (fun x hx hl=>by obtain ⟨n,k⟩:=x;cases hl;exact zbC S.nodup hx) (thn (hi pins s σ H _ I h) fun xv s1 h1=>thn h1 fun itv s2 h2=>?_)
 obtain ⟨it,fp,tn,J,H2,e,I2,T,st2,f2,hw⟩:=h2
 subst e
 refine zfm (RR:=fun acc C=>compPost (model X.prog X.w) X.A X.xe none (EP X pins σ Q) acc C) hc I2 S hcl1 hcl2 T st2 f2 hg hf he hw ?_
 intro H4 s4 ys m C hC hD Iout hn hCn q
 refine ⟨m,hn,fun h' sb=>⟨.ref s2.heap.objs.size,_,?_,rfl,q _ hD⟩⟩
 obtain ⟨f0,f1,f3,f4,f5,f6⟩:=I2.fpOk (H':=upd H4 s2.heap.objs.size (.lst ys)) hC hCn
 exact Iout.turned (t':=s4.toks) (it:=C) (fun b o hb e=>(sb.2 b hb).trans e) f0 f1 f4 f5 f6
theorem zdZ {i:Nat}{y:Str}{pos' spos:Pos}(src:List (Option Nat))(hN:X.N.Nodup)(hi':X.N[i]? = some y)(hy:X.env.scope.names.lookup y=some .local)
  (hc:X.calm=true) (S:CompOk X.N X.env.scope Nc src scope) (hi:PI X tg iter wi)
  (hg:∀ cl C fp s2 H2,PG (cxC X Nc scope cl C fp s2 H2) tg g) (hf:∀ cl C fp s2 H2,PF (cxC X Nc scope cl C fp s2 H2) ifs tf) (he:∀ cl C fp s2 H2,PE (cxC X Nc scope cl C fp s2 H2) elt te)
  (hsw:swapsWith (.ListComp elt [⟨tg,iter,ifs,0⟩] scope pos) (some (.Name y pos')) spos.line X.env=pure true:=by rfl)
  (hs:∀ x,foldedSetIterable iter X.env x=pure x:=by intro _;rfl):PS X (.Assign [.Name y pos'] (.ListComp elt [⟨tg,iter,ifs,0⟩] scope pos) spos) (tAsg (tComp src wi g tf te) (za7 i)):=by
 intro pins s σ H D I h
 obtain ⟨cl,hclos,hcl1,hcl2⟩:=zbD I.ok (scope:=scope) S.free
 rw [exec_Assign_Name_used _ _ _ _ hsw]
 refine Xaa (Xbo (Xaa ?_))
 show wpAny _ X.A (do let _ ← comprehension (.ListComp elt [⟨tg,iter,ifs,0⟩] scope pos) scope X.env _ (newList []) false (eval iter X.env) (some (assign (.Name y pos') X.env))) _ _ s
 refine Xaa (Xaz (wpAny_comprehension_free (use:=some (assign (.Name y pos') X.env)) (Q:=fun _ s'=>SP X pins D .next s') rfl hs hclos S.kind (fun x hx hl=>by obtain ⟨n,k⟩:=x;cases hl;exact zbC S.nodup hx)
  (thn (hi pins s σ H _ I h) fun xv s1 h1=>thn h1 fun itv s2 h2=>?_)) (fun _ s' hq=>Xad (Xad hq)) fun _ _ e=>e)
 obtain ⟨it,fp,tn,J,H2,e,I2,T,st2,f2,hw⟩:=h2
 subst e
 refine zfm (RR:=fun acc C=>compPost (model X.prog X.w) X.A X.xe (some (assign (.Name y pos') X.env)) (fun _ s'=>SP X pins D .next s') acc C) hc I2 S hcl1 hcl2 T st2 f2 hg hf he hw ?_
 intro H4 s4 ys m C hC hD Iout hn hCn q
 show wpAny _ X.A (assign (.Name y pos') X.env (.ref s2.heap.objs.size)) _ _ _
 refine wpAny_assign_Name (zeP (i:=i) Iout hN hi' (.inl hy) (v:=.ref s2.heap.objs.size) rfl (fun s5 I5 ch=>?_) (.inr hy))
 obtain ⟨f0,f1,f3,f4,f5,f6⟩:=I2.fpOk (H':=upd H4 s2.heap.objs.size (.lst ys)) hC hCn
 obtain ⟨a,sb,ha⟩:=ch
 have hCa:C≠a:=by
  rcases ha with ha | ha
  ·rw [ha];exact f1
  ·exact fun z=>f5 _ _ ha z.symm
 refine ⟨m,hn.sameBut sb hCa,fun h' sb'=>⟨_,_,I5.turned (t':=s5.toks) (it:=C) (fun b o hb e=>(sb'.2 b hb).trans e) f0 f1 f4 f5 f6,q _ hD⟩⟩
end
section
variable {X:Cx}{pins:List (Addr×Obj)}{σ:St}{H:Hp}{s:Shared}
theorem Inv.turnedL {h':Heap}{t':Nat}{ch:List Addr}(I:Inv X pins σ H s)(k:∀ b o,b ∉ ch→s.heap.get? b=some o→h'.get? b=some o)(hf:∀ b∈ch,FpOk X pins H b):Inv X pins σ H { s with heap:=h',toks:=t' }:=by
 have nit:∀ b u,H b=some u→b ∉ ch:=fun b u e z=>by rw [(hf b z).1] at e;cases e
 refine I.step (g':=s.gens) (d':=s.drawn) (ch:=ch) (fun b hb=>?_) (fun b o _ _ hc e _=>k b o hc e) (fun b o _ _ hc e _=>⟨o.slots,k b o hc e⟩) (fun _ _ _ _ n=>n)
  (fun b o hc e=>⟨o,k b o hc e⟩) (fun _ _ e=>e) (fun _ _ _ e=>e) (fun b ps e=>⟨#[],by rw [e];simp⟩) (fun m hm=>?_) (fun b u e=>?_) I.bare
 ·obtain ⟨_,a1,_,a3,a4,a5⟩:=hf b hb
  exact ⟨a3,a1,a4,a5⟩
 ·obtain ⟨o,es,ep,ho,r⟩:=hm
  exact ⟨o,es,ep,k _ o (fun z=>(hf _ z).2.1 rfl) ho,r⟩
 ·refine (I.hok b u e).stay (fun c v hc q=>k c v ?_ q) (fun _ q=>q) fun _ _ q=>q
  rcases hc with z | z
  ·rw [z];exact nit b u e
  ·exact nit c _ z
theorem Un.track' {fs ex:List Addr}{H H':Hp}{h h':Heap}{a:Addr}{o:HO}(u:Un fs ex H H' h h')(hp:h.objs.size≤a)(hn:H' a=none):Un fs ex H (upd H' a o) h h' where
 keep:=u.keep
 slot:=u.slot
 free:=fun b v q n x=>by rw [zag (Xar (Xai (Xaj q) hp))];exact u.free b v q n x
 there:=u.there
 tups:=fun b xs q=>by rw [zag (zaj (u.tups b xs q) hn)];exact u.tups b xs q
 frzs:=fun b v xs q=>by rw [zag (zaj (u.frzs b v xs q) hn)];exact u.frzs b v xs q
 tbls:=fun b ps q=>by
  obtain ⟨m,e⟩:=u.tbls b ps q
  exact ⟨m,by rw [zag (zaj e hn)];exact e⟩
theorem Inv.track {a:Addr}{o:HO}(I:Inv X pins σ H s)(f:FpOk X pins H a)(hs:X.s₀.heap.objs.size≤a)(new:ObjOk X.prog X.w (upd H a o) s.heap a o):Inv X pins σ (upd H a o) s:=by
 obtain ⟨hn,h1,_,_,h4,h5⟩:=f
 refine ⟨I.ok,I.os,I.bare,Un.track' I.base hs hn,I.loc,I.cell,by rw [zag (Ne.symm h1)];exact I.free,fun x c e=>by rw [zag (h4 x c e)];exact I.freeC x c e,fun p hp=>?_,HOk.track I.hok hn new,I.len⟩
 obtain ⟨a1,a2,a3⟩:=I.pin p hp
 exact ⟨a1,by rw [zag (h5 p hp)];exact a2,a3⟩
end
theorem zde {P:Program}{w:World}{H:Hp}{h:Heap}{T:Addr}{x y:V}{u v:Value}(r:RelV x u)(q:RelV y v)(e:h.get? T=some { cls:=.type "tuple",data:=.seq #[u,v] }):ObjOk P w H h T (.tup [x,y]):=
 ⟨⟨by show 2≤sizeLine;decide,_,e,rfl⟩,[u,v],.cons r (.cons q .nil),⟨_,e,rfl,_,rfl⟩⟩
theorem zjv:bootBuiltins "zip" = some (.type "zip"):=by decide +kernel
section
variable {X:Cx}{CX:CXT}{k:Nat}{f:Addr}{fd:FuncData}{ps ks:List Str}{sp:Sp}{E:XK}{x:Str}{p pos:Pos}{kws:List Keyword}{tk:TA}{g:List Value→List Value→List Value}{gV:List V→List V→List V}
theorem Fun.kbinds {K:W.Frag}{x qual:Str}{st:Stmt}{f:Addr}{fd:FuncData}{ps ks:List Str}{g:List Value→List Value→List Value}{gV:List V→List V→List V}(F:Fun K x qual st f fd)
  (h:∀ (kV doc pm:Value) (an:Option Addr) (cdv ct:Value) (us ws:List Value),(g us ws).length=ps.length→bindArgs (W.fnOf x qual (zbj st) (zaU st) (zai st) .none kV doc pm an cdv ct) ⟨us,ks.zip ws⟩=pure (ps.zip (g us ws)))
  (rel:∀ {vs:List V} {us:List Value} {zs:List V} {ws:List Value},Vals vs us→Vals zs ws→Vals (gV vs zs) (g us ws)):KBinds K fd ps ks g gV:=by
 obtain ⟨oc,od,kV,doc,pm,an,cdv,ct,osl,rfl,lk,hcd⟩:=F.ex
 exact ⟨fun s us ws _ hl=>.of_eq (h kV doc pm an cdv ct us ws hl),rel⟩
end
section
variable {X:Cx}
theorem zfM (val:Nat→Int)(ns:List Int)(h:∀ i n,ns[i]? = some n→val i=n):∀ j,j≤ns.length→preSum val j=(ns.take j).sum:=by
 intro j
 induction j with
 | zero=>intro _;rfl
 | succ j ih =>
  intro hj
  have hlt:j<ns.length:=hj
  show preSum val j+val j=_
  rw [ih (Xbv hlt),h j ns[j] (by simp [hlt]),List.take_succ,List.sum_append]
  simp [hlt]
theorem zim (hc:X.calm=true):zbH X (.builtin "sum") (fun xs H Q=>∃ (a:Addr) (ns:List Int),xs=[.ref a]∧SqL X.K H a (ns.map V.int)∧Q (.int ns.sum) H):=by
 intro pins s σ H xs us Q I r h
 obtain ⟨a,ns,rfl,hq,q⟩:=h
 obtain ⟨u,rfl,ru⟩:=zcw r
 cases ru
 obtain ⟨its,rv,p,hz⟩:=I.list hq
 have hi:=zcM rv
 have hl:=hi.length
 refine call_sum_walkG (wpAny_pyIter_list p.isList ?_)
 have hne:a≠s.heap.objs.size:=by
  obtain ⟨o,ho,_⟩:=p.isList
  exact Xar (Xaj ho)
 refine ⟨s.heap.objs.size,_,_,_,_,_,fun i=>(ns[i]?).getD 0,rfl,Walks.list (A:=X.A.in1) (I.ok.hd hc) s.heap.objs.size a hne its.toArray,⟨⟨_,Xah _ rfl,rfl,rfl⟩,p.isList.push _⟩,?_,?_,fun h' tk t' kk=>?_⟩
 ·intro b hb
  simp only [Xal,Xbd,or_false] at hb
  rw [show ({ s with heap:=s.heap.push _ }:Shared).heap.objs.size=s.heap.objs.size+1 from XaG ..]
  rcases hb with rfl | rfl
  ·exact Xa2 _
  ·obtain ⟨o,ho,_⟩:=p.isList
   exact Xbn (Xaj ho)
 ·intro i v hv
  have hv':its[i]? = some v:=by simpa using hv
  cases hn:ns[i]? with
  | none =>
   exfalso
   rw [List.getElem?_eq_none_iff,← hl] at hn
   rw [XaM hn] at hv'
   cases hv'
  | some n =>
   obtain ⟨t,ht⟩:=hi.get i n hn
   rw [ht] at hv';cases hv'
   exact ⟨t,by show Value.int n t=Value.int ((ns[i]?).getD 0) t;rw [hn];rfl⟩
 ·have e:preSum (fun i=>(ns[i]?).getD 0) its.toArray.size=ns.sum:=by
   rw [zfM _ ns (fun i n h=>by rw [h];rfl) _ (by simp;omega),XaY (by simp;omega)]
  rw [e]
  refine ⟨.int ns.sum,H,I.kept (t':=tk) fun b o e1=>kk b o (fun hb=>?_) (Xab _ e1),⟨t',rfl⟩,q⟩
  have hb:=Xac.mp hb
  exact absurd (Xaj e1) (by rw [hb];exact XaT _)
theorem ziv (bs:List Bool)(tr:Nat→Bool)(h:∀ i b,bs[i]? = some b→tr i=b):(List.range bs.length).all tr=bs.all id:=by
 induction bs generalizing tr with
 | nil=>rfl
 | cons b r ih =>
  rw [Xay,List.range_succ_eq_map,List.all_cons,List.all_map,List.all_cons,h 0 b rfl]
  have:=ih (tr ∘ Nat.succ) (fun i c hi=>h (i+1) c (by simpa using hi))
  rw [this];rfl
theorem zdL (hc:X.calm=true):zbH X (.builtin "all") (fun xs H Q=>∃ (a:Addr) (bs:List Bool),xs=[.ref a]∧SqL X.K H a (bs.map V.bl)∧Q (.bl (bs.all id)) H):=by
 intro pins s σ H xs us Q I r h
 obtain ⟨a,bs,rfl,hq,q⟩:=h
 obtain ⟨u,rfl,ru⟩:=zcw r
 cases ru
 obtain ⟨its,rv,p,hz⟩:=I.list hq
 have hl:=rv.length
 rw [Xae] at hl
 refine call_all_walk (wpAny_pyIter_list p.isList ?_)
 have hne:a≠s.heap.objs.size:=by
  obtain ⟨o,ho,_⟩:=p.isList
  exact Xar (Xaj ho)
 refine ⟨s.heap.objs.size,_,_,_,_,_,fun i=>(bs[i]?).getD true,rfl,Walks.list (A:=X.A.in1) (I.ok.hd hc) s.heap.objs.size a hne its.toArray,⟨⟨_,Xah _ rfl,rfl,rfl⟩,p.isList.push _⟩,?_,fun h' tk kk=>?_⟩
 ·intro i v s' Q' E' hv hq'
  have hv':its[i]? = some v:=by simpa using hv
  cases hn:bs[i]? with
  | none =>
   exfalso
   rw [List.getElem?_eq_none_iff,hl] at hn
   rw [XaM hn] at hv'
   cases hv'
  | some b =>
   obtain ⟨u',hu',ru'⟩:=rv.get (i:=i) (x:=V.bl b) (by simp [hn])
   obtain rfl:u'=Value.bool b:=ru'
   rw [hu'] at hv';cases hv'
   have hq2:Q' ((bs[i]?).getD true) s':=hq'
   rw [hn] at hq2
   exact XaU hq2
 ·have e:(List.range its.toArray.size).all (fun i=>(bs[i]?).getD true)=bs.all id:=by
   rw [show its.toArray.size=bs.length by simp;omega]
   exact ziv bs _ fun i b h=>by rw [h];rfl
  rw [e]
  refine ⟨.bl _,H,I.kept (t':=tk) fun b o e1=>kk b o (fun hb=>?_) (Xab _ e1),rfl,q⟩
  have hb:=Xac.mp hb
  exact absurd (Xaj e1) (by rw [hb];exact XaT _)
theorem zjI:RelV (.ty "int") (.type "int"):=rfl
theorem zel:RelV (.ty "bool") (.type "bool"):=rfl
theorem zgF:bootBuiltins "int" = some (.type "int"):=by decide +kernel
theorem zeE:bootBuiltins "bool" = some (.type "bool"):=by decide +kernel
theorem zaN:bootBuiltins "isinstance" = some (.builtin "isinstance"):=by decide +kernel
theorem ziq:bootBuiltins "all" = some (.builtin "all"):=by decide +kernel
inductive rCatS (K:W.Frag)(x:V)(y:V)(H:Hp)(Q:VK):Prop
 | mk (a:_) (b:_) (xs:_) (ys:_) (z0_:x = .ref a) (z1_:y = .ref b) (z2_:SqL K H a xs) (z3_:SqL K H b ys) (z4_:xs.length+ys.length≤sizeLine) (z5_:∀ p,H p=none→Q (.ref p) (upd H p (.lst (xs ++ ys))))
theorem zhP:OpR X (binaryOp .Add) (rCatS X.K):=by
 intro pins s σ H x y v u Q I rx ry h
 obtain ⟨a,b,xs,ys,rfl,rfl,hq,hq2,hz,q⟩:=h
 cases rx
 cases ry
 obtain ⟨its,rv,p,_⟩:=I.list hq
 obtain ⟨its2,rv2,p2,_⟩:=I.list hq2
 have e1:=rv.length
 have e2:=rv2.length
 obtain ⟨⟨cls,dd,data,sl⟩,ho,hc,n,hd⟩:=id p.isList
 obtain ⟨⟨cls2,dd2,data2,sl2⟩,ho2,hc2,n2,hd2⟩:=id p2.isList
 simp only at hc hd hc2 hd2
 subst hc hd hc2 hd2
 have ea:its.toArray ++ its2.toArray=(its ++ its2).toArray:=by simp
 refine concat_meets ⟨_,ho,rfl⟩ ⟨_,ho2,rfl⟩ noFill_list_add seq_list_add PySem.F.slot_list_add PySem.F.entry_list_add (PySem.F.args_list_add_2 _ _) (list_addW a b its.toArray its2.toArray n n2 dd dd2 sl sl2 (by rw [Xam,Xam];omega)) ⟨ho,ho2,?_⟩
 rw [ea]
 exact ⟨.ref _,_,I.lnew (t':=s.toks) (rv.append rv2) (by rw [Xao];omega),rfl,q _ I.fresh⟩
theorem zbN:OpR X (binaryOp .Mult) (rI IntMulOk fun i j=>.int (i * j)):=opI fun _ _ _ _ _ _ _ hc q=>mul_int q hc
theorem zaB:OpR X (binaryOp .FloorDiv) (rI (fun _ j=>0<j∧j.natAbs.log2<9000) fun i j=>.int (i / j)):=opI fun i j _ _ _ _ _ hc q=>by
 have e:i.fdiv j=i / j:=Int.fdiv_eq_ediv_of_nonneg _ (Int.le_of_lt hc.1)
 exact floordiv_int (by have:=hc.1;omega) (by rw [e];exact q) (.inl (PyProof.noPylong_of_log2 hc.2))
end
theorem bits_script {ns:List Int}(h:W.WData.layableAll [W.WData.list (ns.map W.WData.int)]=true):∀ n∈ns,Builtin.Int.intBits n≤2 ^ 20:=by
 intro n hn
 have h1:(W.WData.list (ns.map W.WData.int)).layable=true:=by
  have:=Xbe.mp h _ XaA
  exact this
 have hw:=(W.layableW_iff.mp h1).2.2
 have key:∀ l:List Int,n∈l→Builtin.Int.intBits n≤W.WData.weightAll (l.map W.WData.int):=by
  intro l
  induction l with
  | nil=>intro h;cases h
  | cons m r ih =>
   intro hm
   rw [XaS,W.WData.weightAll]
   rcases Xal.mp hm with e | hm
   ·subst e
    have:Builtin.Int.intBits n≤(W.WData.int n).weight:=by
     simp only [W.WData.weight,Builtin.Int.intBits]
     omega
    omega
   ·have:=ih hm
    omega
 have h2:=key ns hn
 rw [W.WData.weight] at hw
 omega
end L2
namespace Att
open PySem PySem.W PyProof.Rows PySem.Calls
theorem attach_callB {l:OpenLaw}{n:Nat}{q:Program}{loose:List Str}{XP:(Str→Option Value)→Heap→Prop}{YP:World→Heap→Prop}{d:DefRec}
  (hn:l.most=some n) (hdf:d.params.defaults=[])
  (call:∀ (w:World) (s₀ s₁:Shared) (mg mb:Str→Option Value) (fa:Addr) (o:Obj) (pm cd doc:Value) (a:Addr) (vs:List Value) (ns:List Int),
   Ground q loose [] XP w s₀ mg mb s₁.heap→YP w s₁.heap →
   s₁.heap.get? fa=some o→o.data = .func (docDef d.name d.params d.body d.scope pm cd doc)→s₁.heap.CodeRec cd d.name→mg d.name=some (.ref fa) →
   s₁.heap.get? a=some { cls:=.type "list",data:=.seq vs.toArray }→IntsAre vs ns→ns.length≤n→(∀ m∈ns,Builtin.Int.intBits m≤2 ^ 20)→s₁.gens = #[] →
   codeAny (model l.prog w) callerA (.call (.ref fa) ⟨[.ref a],[]⟩) (fun r s'=>r = .ok (.ret (.bool true))∧OldK s₁.heap s'.heap∧s'.os=s₁.os∧AllBare s'.gens) s₁) :
  WalkO q loose XP YP l.row.toRowW d [] (fun f vs=>PySem.call f vs):=by
 intro w s₀ s₁ mg mb G Y fa o pm cd doc dV kV ho hd hcd hD hmg hg args vals as hpre hlay hrd hwl hlo
 obtain rfl:dV = .none:=Dflts.none hD hdf
 obtain rfl:kV = .none:=Dflts.noKw hD
 obtain ⟨a,vs,ns,rfl,rfl,hobj,hints,hlen⟩:=zhq hn hpre hwl
 refine enter_call (Xbw (call w s₀ s₁ mg mb fa o pm cd doc a vs ns G Y ho (fd_plain hd) hcd hmg hobj hints hlen (L2.bits_script hlay) hg) fun r s' hq=>?_)
 obtain ⟨rfl,h2,h3,h4⟩:=hq
 exact ⟨.inl ⟨.bool true,.bool true,[],rfl,fun _=>rfl,.bool true,zhB l _,fun _=>⟨List.Pairwise.nil,fun _ hm=>(nomatch hm)⟩⟩,h2,h3,h4⟩
end Att
namespace L2
open PySem PySem.Spec PyProof.Rows
theorem walk_ofB {l:W.OpenLaw}{n k:Nat}{q:Program}{loose:List Str}{XP:(Str→Option Value)→Heap→Prop}{YP:World→Heap→Prop}{d:DefRec}{K:Params→W.Frag}{CX:World→CXT}{sp:World→Sp}{x:Str}
  (hn:l.most=some n) (hn2:n≤sizeLine) (hdf:d.params.defaults=[]) (hr:Room k callerA)
  (hY:∀ (w:World) (h:Heap),YP w h→(K w.params).In h)
  (F:∀ (w:World) (mg:Str→Option Value) (fa:Addr) (h:Heap),(K w.params).In h→h.Ns mainGlobals mg→mg d.name=some (.ref fa) →
   ∃ fd:FuncData,(∀ (s:Shared) (u:Value),BindsTo s fd ⟨[u],[]⟩ [(x,u)]) ∧
    ∀ base:Heap,(K w.params).In base→base.Ns mainGlobals mg→FnOk l.prog w (K w.params) mg base (CX w) k fa fd [x] (sp w))
  (hsp:∀ (w:World) (H:Hp) (a:Addr) (ns:List Int),ns.length≤n→(∀ m∈ns,Builtin.Int.intBits m≤2 ^ 20)→Only H→SqL (K w.params) H a (ns.map V.int)→sp w [.ref a] H (fun v _=>v = .bl true) fun _ _ _=>False)
  (hCX:∀ (w:World) (H:Hp) (s:Shared) (e:Value) (s':Shared),CX w [] H s (fun _ _ _=>False) e s'→False) :
  W.WalkO q loose XP YP l.row.toRowW d [] (fun f vs=>PySem.call f vs):=by
 refine Att.attach_callB hn hdf fun w s₀ s₁ mg mb fa o pm cd doc a vs ns G Y ho hd hcd hmg hobj hints hlen hbits hg=>?_
 have KX:=hY w _ Y
 obtain ⟨fd,hb,hF⟩:=F w mg fa _ KX G.T.g hmg
 exact zjd KX G.T.g G.T.b G.T.builtins G.T.nolimit hg hobj hints (Xav hlen hn2) hr hF hb (fun H hO hS=>hsp w H a ns hlen hbits hO hS) fun H e s'=>hCX w H s₁ e s'
section
variable {K:W.Frag}{g:TG}{tf:TT}{te:TE}{Q:List V→Hp→Prop}{σ:St}{H:Hp}
theorem zd8 {lo:Int}{n:Nat}(Pv:Nat→List V→St→Hp→Prop)(hn:n≤sizeLine)(h0:Pv 0 [] σ H)(hz:∀ i ys σ H,Pv i ys σ H→ys.length≤i)
  (hs:∀ i ys σ H,i<n→Pv i ys σ H→g (.int (lo+i)) σ H fun σ2 H2=>tf σ2 H2 fun b H3=>if b=true then te σ2 H3 fun y H4=>Pv (i+1) (ys ++ [y]) σ2 H4 else Pv (i+1) ys σ2 H3)
  (hd:∀ ys σ H,Pv n ys σ H→Q ys H):zgd (Itr lo n) g tf te Q σ H:=by
 refine ⟨fun i m ys σ H=>m=n - i∧i≤n∧Pv i ys σ H,⟨n,by simp,Nat.zero_le _,h0⟩,?_⟩
 rintro i m ys σ H ⟨rfl,hi,p⟩
 have hl:=hz i ys σ H p
 by_cases hlt:i<n
 ·refine .inr ⟨hlt,by omega,Pv (i+1),fun ys' σ' H' p'=>⟨n - (i+1),by omega,rfl,hlt,p'⟩,fun x H' y=>?_⟩
  obtain ⟨e,y⟩:=y
  subst e y
  exact hs i ys σ _ hlt p
 ·have e:i=n:=by omega
  subst e
  exact .inl ⟨Xaf _,by omega,hd ys σ H p⟩
theorem zbR {a:Addr}{xs:List V}(Pv:Nat→List V→St→Hp→Prop)(hn:xs.length≤sizeLine)(h0:Pv 0 [] σ H)(hl:∀ i ys σ H,i≤xs.length→Pv i ys σ H→SqL K H a xs∧ys.length≤i)
  (hs:∀ i x ys σ H,xs[i]? = some x→Pv i ys σ H→g x σ H fun σ2 H2=>tf σ2 H2 fun b H3=>if b=true then te σ2 H3 fun y H4=>Pv (i+1) (ys ++ [y]) σ2 H4 else Pv (i+1) ys σ2 H3)
  (hd:∀ ys σ H,Pv xs.length ys σ H→Q ys H):zgd (Itl K a) g tf te Q σ H:=by
 refine ⟨fun i m ys σ H=>m=xs.length - i∧i≤xs.length∧Pv i ys σ H,⟨xs.length,by simp,Nat.zero_le _,h0⟩,?_⟩
 rintro i m ys σ H ⟨rfl,hi,p⟩
 obtain ⟨q,hz⟩:=hl i ys σ H hi p
 by_cases hlt:i<xs.length
 ·refine .inr ⟨⟨xs,xs[i],q,by simp [hlt]⟩,by omega,Pv (i+1),fun ys' σ' H' p'=>⟨xs.length - (i+1),by omega,rfl,hlt,p'⟩,fun x H' y=>?_⟩
  obtain ⟨e,y⟩:=y
  subst e
  exact hs i x ys σ _ (y xs q) p
 ·have e:i=xs.length:=by omega
  subst e
  exact .inl ⟨⟨xs,q,Xaf _⟩,by omega,hd ys σ H p⟩
end
theorem zgx {K:W.Frag}{i j:Nat}{T:Addr}{x y:V}{σ:St}{H:Hp}{Q:St→Hp→Prop}(h:Q ((σ.set i (some x)).set j (some y)) (upd H T (.tup [x,y]))) :
  gTup K 2 (gCons (za7 i) (gCons (za7 j) gNil)) (.ref T) σ (upd H T (.tup [x,y])) Q:=
 ⟨T,[x,y],rfl,SqT.of zab,rfl,x,[y],rfl,y,[],rfl,rfl,h⟩
end L2
end
section
namespace Cb
open PySem
def zb2:Nat→Nat→List Nat
 | _,0=>[]
 | n,m+1=>(n % 2) :: zb2 (n / 2) m
def num:List Nat→Nat
 | []=>0
 | b :: r=>b+2 * num r
def Bit (l:List Nat):Prop:=∀ b∈l,b≤1
theorem zcT:∀ m n,(zb2 n m).length=m
 | 0,_=>rfl
 | m+1,n=>by simp [zb2,zcT m]
theorem zft:∀ m n,Bit (zb2 n m)
 | 0,_=>fun b h=>by simp [zb2] at h
 | m+1,n=>fun b h=>by
  rcases Xal.mp (show b∈(n % 2) :: zb2 (n / 2) m from h) with e | h
  ·omega
  ·exact zft m (n / 2) b h
theorem zea:∀ k n,zb2 n (k+1)=zb2 n k ++ [n / 2 ^ k % 2]
 | 0,n=>by simp [zb2]
 | k+1,n=>by
  show (n % 2) :: zb2 (n / 2) (k+1)=((n % 2) :: zb2 (n / 2) k) ++ _
  rw [zea k (n / 2),Nat.div_div_eq_div_mul,Xbl,Nat.mul_comm (2 ^ k) 2]
  rfl
theorem zdD:∀ m n,num (zb2 n m)=n % 2 ^ m
 | 0,n=>by simp [zb2,num,Nat.mod_one]
 | m+1,n=>by
  simp only [zb2,num,zdD m,Xbl]
  rw [Nat.mul_comm (2 ^ m) 2,Nat.mod_mul]
def ones:Nat→Nat
 | 0=>0
 | n+1=>(n+1) % 2+ones ((n+1) / 2)
decreasing_by omega
theorem zdy (n:Nat):ones n=n % 2+ones (n / 2):=by
 cases n with
 | zero=>simp [ones]
 | succ n=>rw [ones]
def sgl:Nat→List Nat
 | 0=>[]
 | n+1=>if (n+1) % 2=1 then 1 :: (sgl ((n+1) / 2)).map (2 * ·) else (sgl ((n+1) / 2)).map (2 * ·)
decreasing_by all_goals omega
theorem zc6:sgl 0=[]:=by simp [sgl]
theorem zdl (n:Nat):sgl (2 * n+1)=1 :: (sgl n).map (2 * ·):=by
 rw [sgl,if_pos (by omega),show (2 * n+1) / 2=n by omega]
theorem zbW (n:Nat):sgl (2 * n)=(sgl n).map (2 * ·):=by
 cases n with
 | zero=>simp [sgl]
 | succ n =>
  rw [show 2 * (n+1)=(2 * n+1)+1 by omega,sgl,if_neg (by omega),show (2 * n+1+1) / 2=n+1 by omega]
theorem zbV:∀ n,(sgl n).length=ones n:=by
 intro n
 induction n using Nat.strongRecOn with
 | _ n ih =>
  rcases Nat.mod_two_eq_zero_or_one n with h | h
  ·by_cases h0:n=0
   ·subst h0;simp [sgl,ones]
   ·have e:n=2 * (n / 2):=by omega
    rw [zdy,h]
    conv=>lhs;rw [e]
    rw [zbW,Xae,ih _ (by omega)];omega
  ·have e:n=2 * (n / 2)+1:=by omega
   rw [zdy,h]
   conv=>lhs;rw [e]
   rw [zdl,Xay,Xae,ih _ (by omega)];omega
theorem zhV (a b:Nat):(2 * a) &&& (2 * b)=2 * (a &&& b):=by
 apply Nat.eq_of_testBit_eq;intro i
 cases i with
 | zero=>simp [XaD]
 | succ i =>
  rw [XaD,Xa9,Xa9,Xa9,show (2 * a) / 2=a by omega,show (2 * b) / 2=b by omega,show (2 * (a &&& b)) / 2=(a &&& b) by omega,XaD]
theorem zjf (a b:Nat):(2 * a+1) &&& (2 * b+1)=2 * (a &&& b)+1:=by
 apply Nat.eq_of_testBit_eq;intro i
 cases i with
 | zero=>simp [XaD]
 | succ i =>
  rw [XaD,Xa9,Xa9,Xa9,show (2 * a+1) / 2=a by omega,show (2 * b+1) / 2=b by omega,show (2 * (a &&& b)+1) / 2=(a &&& b) by omega,XaD]
theorem zf6 (a b:Nat):(2 * a+1) &&& (2 * b)=2 * (a &&& b):=by
 apply Nat.eq_of_testBit_eq;intro i
 cases i with
 | zero=>simp [XaD]
 | succ i =>
  rw [XaD,Xa9,Xa9,Xa9,show (2 * a+1) / 2=a by omega,show (2 * b) / 2=b by omega,show (2 * (a &&& b)) / 2=(a &&& b) by omega,XaD]
theorem zhW (a b:Nat):(2 * a) &&& (2 * b+1)=2 * (a &&& b):=by rw [Nat.and_comm,zf6,Nat.and_comm]
theorem ziJ:∀ n,0<n→(n &&& (n - 1))<n∧sgl n=(n - (n &&& (n - 1))) :: sgl (n &&& (n - 1)):=by
 intro n
 induction n using Nat.strongRecOn with
 | _ n ih =>
  intro hn
  rcases Nat.mod_two_eq_zero_or_one n with h | h
  ·have e:n=2 * (n / 2):=by omega
   obtain ⟨h1,h2⟩:=ih (n / 2) (by omega) (by omega)
   generalize n / 2=m at *
   subst e
   have e2:2 * m - 1=2 * (m - 1)+1:=by omega
   rw [e2,zhW]
   refine ⟨by omega,?_⟩
   rw [zbW,zbW,h2,XaS]
   congr 1
   omega
  ·have e:n=2 * (n / 2)+1:=by omega
   generalize n / 2=m at *
   subst e
   have e2:2 * m+1 - 1=2 * m:=by omega
   rw [e2,zf6,Nat.and_self]
   exact ⟨by omega,by rw [zdl,zbW];congr 1;omega⟩
theorem zfR:∀ m n,n<2 ^ m→ones n≤m
 | 0,n,h=>by simp at h;subst h;simp [ones]
 | m+1,n,h=>by
  have:=zfR m (n / 2) (by rw [Xbl] at h;omega)
  rw [zdy];omega
theorem band (a b:Nat):Builtin.bitAnd (a:Int) (b:Int)=((a &&& b:Nat):Int):=by
 unfold Builtin.bitAnd
 simp
end Cb
end
section
namespace L2
open PySem PySem.Spec PyProof.Rows
def zcm (N:List Str)(names:List (Str×NameKind)):List (Option Nat)→List Str→Bool
 | [],[]=>true
 | none :: r,_ :: s=>zcm N names r s
 | some i :: r,x :: s=>(N[i]? == some x) && (names.lookup x == some .free) && zcm N names r s
 | _,_=>false
def ndOk:List (Str×NameKind)→Bool
 | []=>true
 | x :: r=>(r.all fun y=>x.1 != y.1) && ndOk r
def zfn (N:List Str)(osc:Scope)(Nc:List Str)(src:List (Option Nat))(scope:Scope):Bool:=
 scope.kind == .function && (scope.names.all fun x=>x.2 != .cell) && ndOk scope.names &&
 (scope.names.all fun x=>x.2 != .free || osc.names.lookup x.1 == some .cell || osc.names.lookup x.1 == some .free) && zcm N scope.names src Nc
theorem zdh {N:List Str}{names:List (Str×NameKind)}:∀ {src:List (Option Nat)} {Nc:List Str},zcm N names src Nc=true→src.length=Nc.length
 | [],[],_=>rfl
 | none :: r,_ :: s,h=>by simp only [Xay];rw [zdh (src:=r) (Nc:=s) h]
 | some i :: r,x :: s,h=>by
  simp only [zcm,Xa8] at h
  simp only [Xay];rw [zdh h.2]
 | [],_ :: _,h=>by simp [zcm] at h
 | none :: _,[],h=>by simp [zcm] at h
 | some _ :: _,[],h=>by simp [zcm] at h
theorem zdg {N:List Str}{names:List (Str×NameKind)}:∀ {src:List (Option Nat)} {Nc:List Str},zcm N names src Nc=true→∀ (j i:Nat),src[j]? = some (some i)→∃ x,Nc[j]? = some x∧N[i]? = some x∧names.lookup x=some .free
 | [],[],_,j,i,e=>by simp at e
 | none :: r,y :: s,h,0,i,e=>by simp at e
 | none :: r,y :: s,h,j+1,i,e=>by
  have:=zdg (src:=r) (Nc:=s) h j i (by simpa using e)
  simpa using this
 | some k :: r,x :: s,h,0,i,e=>by
  simp only [zcm,Xa8,beq_iff_eq] at h
  simp only [List.getElem?_cons_zero,Option.some.injEq] at e
  subst e
  exact ⟨x,rfl,h.1.1,h.1.2⟩
 | some k :: r,x :: s,h,j+1,i,e=>by
  simp only [zcm,Xa8] at h
  have:=zdg (src:=r) (Nc:=s) h.2 j i (by simpa using e)
  simpa using this
 | [],_ :: _,h,_,_,_=>by simp [zcm] at h
 | none :: _,[],h,_,_,_=>by simp [zcm] at h
 | some _ :: _,[],h,_,_,_=>by simp [zcm] at h
theorem zhU:∀ {l:List (Str×NameKind)},ndOk l=true→l.Pairwise fun x y=>x.1≠y.1
 | [],_=>.nil
 | x :: r,h=>by
  simp only [ndOk,Xa8,Xbe,bne_iff_ne] at h
  exact .cons h.1 (zhU h.2)
theorem zaQ {N:List Str}{osc:Scope}{Nc:List Str}{src:List (Option Nat)}{scope:Scope}(h:zfn N osc Nc src scope=true):CompOk N osc Nc src scope:=by
 simp only [zfn,Xa8,beq_iff_eq,Xbe,bne_iff_ne] at h
 obtain ⟨⟨⟨⟨h1,h2⟩,h3⟩,h4⟩,h5⟩:=h
 refine ⟨h1,h2,zhU h3,fun x hx hf=>?_,zdh h5,zdg h5⟩
 have:=h4 x hx
 simp only [Bool.or_eq_true,bne_iff_ne,beq_iff_eq] at this
 rcases this with (z | z) | z
 ·exact absurd hf z
 ·exact .inl z
 ·exact .inr z
structure Cal (P:Program)(w:World)(K:W.Frag)(mg:Str→Option Value)(base:Heap)(k:Nat)(x:Str)(ps:List Str)(sp:Sp):Prop where
 ex:∃ f fd,FnOk P w K mg base CX0 k f fd ps sp∧mg x=some (.ref f)∧W.keepIn K (.ref f)=true∧Binds K fd ps []
section
variable {X:Cx}{k:Nat}{ps ks:List Str}{sp:Sp}{x:Str}{p pos:Pos}{e:Expr}{es:List Expr}{t tk:TA}{kws:List Keyword}{gV:List V→List V→List V}
theorem pe_cal (C:Cal X.prog X.w X.K X.mg X.base k x ps sp)(hr:Room k X.A)(hg:Gl X x)(ha:PA X (e :: es) t)(hdb:(x == ("__debug__" : Str))=false:=by decide)
  (he:starEach (e :: es) X.env=(false,eval e X.env) :: starEach es X.env:=by rfl) (hpl:(backTo pos (starEach es X.env)).any (·.1)=false:=by rfl):PE X (.Call (.Name x p) (e :: es) [] pos) (ziF sp [] E0 t):=by
 obtain ⟨f,fd,F,hm,hk,hb⟩:=C.ex
 exact zkv F hr hg hm hk hb .nil zi1 ha hdb he hpl
end
end L2
namespace Cb
open PySem L2
def zkS (p:Addr)(H H':Hp):Prop:=∀ b o,b≠p→H b=some o→H' b=some o
theorem zac {H:Hp}{p:Addr}{o:HO}(h:H p=none):Same H (upd H p o):=fun b u e=>by rw [zag (zaj e h)];exact e
def vN (l:List Nat):List V:=l.map fun (b:Nat)=>V.int (b:Int)
theorem zaz (l:List Nat):(vN l).length=l.length:=Xae ..
theorem zdd (l:List Nat)(b:Nat):vN (l ++ [b])=vN l ++ [V.int (b:Int)]:=by simp [vN]
theorem vN_get {l:List Nat}{i:Nat}{x:V}(h:(vN l)[i]? = some x):∃ b,l[i]? = some b∧x=V.int (b:Int):=by
 unfold vN at h
 rw [Xan] at h
 cases e:l[i]? with
 | none=>rw [e] at h;cases h
 | some b=>rw [e] at h;exact ⟨b,rfl,(Option.some.inj h).symm⟩
inductive spLaw (K:W.Frag)(vs:List V)(H:Hp)(Q:VK)(u3_:XK):Prop
 | mk (a:Addr) (ns:List Int) (z0_:vs=[.ref a]) (z1_:SqL K H a (ns.map V.int)) (z2_:ns.length≤63) (z3_:(∀ m∈ns,Builtin.Int.intBits m≤2 ^ 20)) (z4_:∀ H',Q (.bl true) H')
inductive spSingles (vs:List V)(H:Hp)(Q:VK)(u3_:XK):Prop
 | mk (n:Nat) (z0_:vs=[.int (n:Int)]) (z1_:n<2 ^ 64) (z2_:∀ (p:Addr) (H':Hp),H p=none→H' p=some (.lst (vN (sgl n)))→Same H H'→Q (.ref p) H')
inductive spOnes (vs:List V)(H:Hp)(Q:VK)(u3_:XK):Prop
 | mk (n:Nat) (z0_:vs=[.int (n:Int)]) (z1_:n<2 ^ 64) (z2_:∀ H',Same H H'→Q (.int (ones n:Int)) H')
end Cb
end
section
namespace L2
open PySem PySem.Spec PyProof.Rows
section
variable {X:Cx}{K:W.Frag}
theorem zkq (n:Nat)(hK:X.K=K){es:List Expr}{k:Nat}{t:TGs}{pos:Pos}(hc:X.calm=true)(h:PGs X es t)
  (hn:(assignEach es X.env).length=n:=by rfl) (hst:(assignEach es X.env).findIdx? (·.1)=none:=by rfl):PG X (.Tuple es k pos) (gTup K n t):=by
 subst hK;exact zbv hc h hn hst
theorem zgu (hK:X.K=K):IxR X (rIxL K):=by subst hK;exact zam
theorem zey (hK:X.K=K):IxR X (rIxT K):=by subst hK;exact zar
end
section
variable {prog:Program}{w:World}{A:Around}{E:Value→Shared→Prop}{s:Shared}
end
end L2
end
section
namespace L2
open PySem PySem.Spec PyProof.Rows Builtin
structure FunD (K:W.Frag)(x qual:Str)(st:Stmt)(dV:Value)(f:Addr)(fd:FuncData):Prop where
 ex:∃ (oc:Value) (od:Option Addr) (kV doc pm:Value) (an:Option Addr) (cdv ct:Value) (osl:Array (Option Value)),
  fd=W.fnOf x qual (zbj st) (zaU st) (zai st) dV kV doc pm an cdv ct∧K.lookup f=some ⟨oc,od,.func fd,osl⟩∧W.codeIn K cdv qual=true
 kp:W.keepIn K (.ref f)=true
section
variable {P:Program}{w:World}{K:W.Frag}{mg:Str→Option Value}{base:Heap}
theorem FunD.ok {x qual:Str}{st:Stmt}{dV:Value}{f:Addr}{fd:FuncData}{N ps:List Str}{k:Nat}{sp:Sp}(F:FunD K x qual st dV f fd)(S:FnScope N ps (zai st))(len:∀ vs H Q E,sp vs H Q E→vs.length=ps.length)
  (hbody:∀ (cdv:Value) (A:Around) (outer:List Env) (s:Shared) (H:Hp) (vs:List V) (Q:VK) (E:XK),Room k (A.deeper (envOfC qual (zai st) s.heap.objs.size f cdv))→sp vs H Q E →
   ∃ t,PSs (cxOf CX0 P w K mg base N qual (zai st) f cdv A outer s H E).nox (zaU st) t∧t { nx:=fun _ H'=>Q .non H',rt:=Q } (start N vs) H):FnOk P w K mg base CX0 (k+1) f fd ps sp:=by
 obtain ⟨oc,od,kV,doc,pm,an,cdv,ct,osl,rfl,lk,hcd⟩:=F.ex
 refine zjm lk hcd S len fun A outer s H vs Q E hr hsp=>?_
 obtain ⟨t,h,q⟩:=hbody cdv A outer s H vs Q E hr hsp
 exact ⟨t,h.nox,q⟩
theorem zkL {x qual:Str}{st:Stmt}{dV:Value}{f:Addr}{oc:Value}{od an:Option Addr}{osl:Array (Option Value)}{kV doc pm cdv ct:Value}(l:K.lookup f=some ⟨oc,od,.func (W.fnOf x qual (zbj st) (zaU st) (zai st) dV kV doc pm an cdv ct),osl⟩)
  (c:W.codeIn K cdv qual=true) (k:W.keepIn K (.ref f)=true):FunD K x qual st dV f (W.fnOf x qual (zbj st) (zaU st) (zai st) dV kV doc pm an cdv ct):=⟨⟨oc,od,kV,doc,pm,an,cdv,ct,osl,rfl,l,c⟩,k⟩
theorem FunD.kbinds {x qual:Str}{st:Stmt}{T:Addr}{o:Obj}{items:Array Value}{n:Nat}{f:Addr}{fd:FuncData}{ps ks:List Str}{g:List Value→List Value→List Value}{gV:List V→List V→List V}(F:FunD K x qual st (.ref T) f fd)
  (ho:K.lookup T=some o) (hs:o.data = .seq items n)
  (h:∀ (kV doc pm:Value) (an:Option Addr) (cdv ct:Value) (us ws:List Value),(g us ws).length=ps.length→∃ q,bindArgs (W.fnOf x qual (zbj st) (zaU st) (zai st) (.ref T) kV doc pm an cdv ct) ⟨us,ks.zip ws⟩=seqItems? (.ref T) >>= q∧q (some items)=pure (ps.zip (g us ws)))
  (rel:∀ {vs:List V} {us:List Value} {zs:List V} {ws:List Value},Vals vs us→Vals zs ws→Vals (gV vs zs) (g us ws)):KBinds K fd ps ks g gV:=by
 obtain ⟨oc,od,kV,doc,pm,an,cdv,ct,osl,rfl,lk,hcd⟩:=F.ex
 refine ⟨fun s us ws X hl=>?_,rel⟩
 obtain ⟨q,h1,h2⟩:=h kV doc pm an cdv ct us ws hl
 exact W.binds_K X rfl ho hs h1 h2
theorem KBinds.pos {fd:FuncData}{ps:List Str}(b:Binds K fd ps []):KBinds K fd ps [] (fun us _=>us) (fun vs _=>vs):=
 ⟨fun s us ws X hl=>by have:=b s us X (by rw [Xa7];exact hl);rw [Xa7] at this;exact this,fun r _=>r⟩
end
def swS {α:Type}(us zs:List α):List α:=match zs with
 | [a,b]=>us ++ [b,a]
 | _=>[]
structure Mth (P:Program)(w:World)(K:W.Frag)(mg:Str→Option Value)(base:Heap)(k:Nat)(C:Addr)(m:Str)(ks:List Str)(gV:List V→List V→List V)(sp:Sp):Prop where
 cls:Cls K C
 ex:∃ f fd ps g,Meth K C m f∧FnOk P w K mg base CX0 k f fd ps sp∧KBinds K fd ps ks g gV
section
variable {X:Cx}{k:Nat}{C:Addr}{ks:List Str}{x m:Str}{p pos apos:Pos}{e o:Expr}{es:List Expr}{kws:List Keyword}{ta:TE}{t tk:TA}
end
def tLenO (P:Program)(w:World)(K:W.Frag)(mg:Str→Option Value)(base:Heap)(k:Nat)(ta:TE):TE:=fun σ H Q=>ta σ H fun x H1=>∃ a C dx fs gV sp,x = .ref a∧H1 a=some (.ins C dx fs)∧Mth P w K mg base k C "__len__" [] gV sp ∧
 sp (gV [x] []) H1 (fun v H2=>∃ n:Int,v = .int n∧0≤n∧n<2 ^ 63∧Q (.int n) H2) E0
section
variable {X:Cx}{e:Expr}{p pos:Pos}{ta:TE}
def lenQ (X:Cx)(k:Nat)(Q:VK)(vs:List V)(H1:Hp):Prop:=match vs with
 | [x]=>∃ a C dx fs gV sp,x = .ref a∧H1 a=some (.ins C dx fs)∧Mth X.prog X.w X.K X.mg X.base k C "__len__" [] gV sp∧sp (gV [x] []) H1 (fun v H2=>∃ n:Int,v = .int n∧0≤n∧n<2 ^ 63∧Q (.int n) H2) E0
 | _=>False
def LenIs (Q:Value→Shared→Prop):Value→Shared→Prop
 | .int n _,s'=>0≤n∧n<2 ^ 63∧Q (.int n s'.toks) { s' with toks:=s'.toks+1 }
 | _,_=>False
theorem lenOwn {prog:Program}{w:World}{A:Around}{E:Value→Shared→Prop}{s:Shared}{K:W.Frag}{a C f:Addr}{ob:Obj}{od:Option Obj}{Q:Value→Shared→Prop}(X:K.In s.heap)(I:W.InstAt s.heap a ob C od)
  (hs:W.findIn K (.ref C) "__len__" = some (some (.ref f))) (ht:W.typeIn K (.ref f)=some (.type "function"))
  (h:wpAny (model prog w) A.in1 (call (.ref f) [.ref a]) (LenIs Q) E s):wpAny (model prog w) A (call (.builtin "len") [.ref a]) Q E s:=by
 refine Calls.call_function_entry kind_len plain_len entry_len (args_len1 _) ?_
 delta Builtin.«len»
 refine Xaa (m:=oneArg "len" _) (Xad (Xaa (m:=callSpecial? (.ref a) (Str.ofString "__len__")) (W.special_fn X I hs ht (Xaz h (fun r s' hr=>?_) (fun _ _ z=>z)))))
 cases r with
 | int n t =>
  obtain ⟨h0,h1,hq⟩:=hr
  refine Xaa (XaO (Xad (Xaa (wpAny_letGo ?_))))
  have e1:¬ n<0:=by omega
  have e2:¬ n ≥ 2 ^ 63:=by omega
  dsimp only
  rw [if_neg e1,if_neg e2]
  exact Xaa (wpAny_mkInt (Xad ⟨_,rfl,hq⟩))
 | _=>exact hr.elim
theorem mtyp {K:W.Frag}{C f:Addr}{m:Str}(h:Meth K C m f):W.typeIn K (.ref f)=some (.type "function"):=beq_iff_eq.mp h.fn
theorem zkt {P:Program}{w:World}{K:PySem.W.Frag}{mg:Str→Option Value}{base:Heap}(k:Nat)(hX:X.prog=P∧X.w=w∧X.K=K∧X.mg=mg∧X.base=base)(hr:Room (k+1) X.A)(hg:Gl X "len")(hm:X.mg "len" = none)(he:PE X e ta)
  (hst:starEach [e] X.env=(false,eval e X.env) :: starEach [] X.env:=by rfl):PE X (.Call (.Name "len" p) [e] [] pos) (tLenO P w K mg base k ta):=by
 obtain ⟨rfl,rfl,rfl,rfl,rfl⟩:=hX
 intro pins s σ H Q I h
 refine Xbg (zcr I hg hm PySem.boot_len ?_ (by decide) (by decide))
 refine PyProof.Rows.callWith_builtin1 (thn (zaa (t:=tNil) he zae hst pos pins s σ H (lenQ X k Q) I h) fun us s1 hh_=>?_) hst rfl
 obtain ⟨vs,H1,I1,r1,q1⟩:=hh_
 cases r1 with
 | nil=>exact q1.elim
 | cons ra rr=>cases rr with
  | cons _ _=>exact q1.elim
  | nil =>
   obtain ⟨a,C,dx,fs,gV,sp,ex,ea,M,q⟩:=q1
   obtain ⟨c,f,fd,ps,g,hm,F,hb⟩:=M
   subst ex
   cases ra
   obtain ⟨mA,O,_⟩:=zez I1.hok ea
   obtain ⟨od,J,_⟩:=O.look
   refine lenOwn I1.kIn J hm.at_ (mtyp hm) ?_
   have rv:Vals (gV [V.ref a] []) (g [Value.ref a] []):=hb.rel (vs:=[V.ref a]) (us:=[Value.ref a]) (zs:=[]) (ws:=[]) (.cons rfl .nil) .nil
   have hl:(g [Value.ref a] []).length=ps.length:=by rw [← rv.length];exact F.len _ _ _ _ q
   have W:wpAny (model X.prog X.w) X.A.in1 (call (.ref f) [.ref a]) (EP X pins σ (fun v H2=>∃ n:Int,v = .int n∧0≤n∧n<2 ^ 63∧Q (.int n) H2)) X.xe s1:=by
    refine Xbu (Xbw (F.run X.A.in1 X.stack s1 H1 ⟨[.ref a],[]⟩ (g [.ref a] []) (gV [.ref a] []) _ E0 hr.in1 I1.env0.in1 (hb.to s1 [.ref a] [] I1.kIn hl) rv q) fun r s' hq=>?_)
    cases r with
    | error e=>exact zi1 pins σ H1 s1 e s' I1 hq
    | ok fl =>
     cases fl with
     | ret u=>exact I1.after hq
     | next=>exact False.elim hq
     | brk=>exact False.elim hq
     | cont=>exact False.elim hq
   refine Xaz W (fun u s' hu=>?_) fun _ _ z=>z
   ·obtain ⟨v,H2,I2,rv,n,rfl,h0,h1,qn⟩:=hu
    obtain ⟨t,rfl⟩:=(show ∃ t,u=Value.int n t from rv)
    exact ⟨h0,h1,⟨.int n,H2,I2.tok _,⟨_,rfl⟩,qn⟩⟩
end
structure Mak (P:Program)(w:World)(K:W.Frag)(mg:Str→Option Value)(base:Heap)(k:Nat)(x:Str)(C:Addr)(ks:List Str)(gV:List V→List V→List V)(sp:Sp):Prop where
 at_:mg x=some (.ref C)
 ex:∃ f fd ps g,Mk K C f∧FnOk P w K mg base CX0 k f fd ps sp∧KBinds K fd ps ks g gV
def tMak (C:Addr)(gV:List V→List V→List V)(sp:Sp)(t tk:TA):TE:=fun σ H Q=>t σ H fun vs H1=>tk σ H1 fun zs H2=>∀ x dx,H2 x=none→H2 dx=none→dx≠x →
 sp (gV (.ref x :: vs) zs) (upd (upd H2 dx (.own x)) x (.ins C dx [])) (fun v H3=>v = .non∧Q (.ref x) H3) E0
section
variable {X:Cx}{k:Nat}{C:Addr}{ks:List Str}{gV:List V→List V→List V}{sp:Sp}{x:Str}{p pos:Pos}{e:Expr}{es:List Expr}{kws:List Keyword}{t tk:TA}
theorem ziO {pins:List (Addr×Obj)}{σ:St}{H:Hp}{s:Shared}{Q:VK}{us ws:List Value}{vs zs:List V}(M:Mak X.prog X.w X.K X.mg X.base k x C ks gV sp)(hr:Room (k+1) X.A)(I:Inv X pins σ H s)(r:Vals vs us)(rz:Vals zs ws)
  (h:∀ y dy,H y=none→H dy=none→dy≠y→sp (gV (.ref y :: vs) zs) (upd (upd H dy (.own y)) y (.ins C dy [])) (fun v H2=>v = .non∧Q (.ref y) H2) E0) :
  wpAny (model X.prog X.w) X.A (call (.ref C) us (ks.zip ws)) (EP X pins σ Q) X.xe s:=by
 obtain ⟨hm,f,fd,ps,g,M,F,hb⟩:=M
 have hq:=h (s.heap.objs.size+1) s.heap.objs.size (I.hok.fresh (XbL _)) (I.hok.fresh (Xaf _)) (Xar (Xa2 _))
 have I2:=Inv.made (C:=C) I
 have r2:Vals (gV (V.ref (s.heap.objs.size+1) :: vs) zs) (g (Value.ref (s.heap.objs.size+1) :: us) ws):=hb.rel (.cons rfl r) rz
 have hl:(g (Value.ref (s.heap.objs.size+1) :: us) ws).length=ps.length:=by rw [← r2.length];exact F.len _ _ _ _ hq
 refine Xbu (zgs (f:=f) I.kIn M.makes M.init (beq_iff_eq.mp M.fn) (Xbw (F.run _ X.stack _ _ ⟨Value.ref (s.heap.objs.size+1) :: us,ks.zip ws⟩ _ _ _ E0 (hr.make C us (ks.zip ws))
  (I2.env0.make C us (ks.zip ws)) (hb.to _ (Value.ref (s.heap.objs.size+1) :: us) ws I2.kIn hl) r2 hq) fun r s' hq'=>?_))
 cases r with
 | error e=>exact zi1 pins σ _ _ e s' I2 hq'
 | ok fl =>
  cases fl with
  | ret u =>
   obtain ⟨v,H',I3,rv,ev,q3⟩:=I2.after hq'
   subst ev
   exact ⟨rv,⟨V.ref (s.heap.objs.size+1),H',I3,rfl,q3⟩⟩
  | next=>exact False.elim hq'
  | brk=>exact False.elim hq'
  | cont=>exact False.elim hq'
theorem Mak.kp {P:Program}{w:World}{K:W.Frag}{mg:Str→Option Value}{base:Heap}(M:Mak P w K mg base k x C ks gV sp):W.keepIn K (.ref C)=true:=by
 obtain ⟨_,_,_,_,_,M,_⟩:=M
 exact M.kp
theorem zeY (M:Mak X.prog X.w X.K X.mg X.base k x C [] gV sp)(hr:Room (k+1) X.A)(hg:Gl X x)(ha:PA X (e :: es) t)(hdb:(x == ("__debug__" : Str))=false:=by decide)
  (he:starEach (e :: es) X.env=(false,eval e X.env) :: starEach es X.env:=by rfl) (hpl:(backTo pos (starEach es X.env)).any (·.1)=false:=by rfl):PE X (.Call (.Name x p) (e :: es) [] pos) (tMak C gV sp t tNil):=by
 intro pins s σ H Q I h
 refine Xbg (zbt I hg M.at_ ?_ hdb)
 refine W.callWith_K (h₀:=X.base) I.ok.mod.kin M.kp (thn (ha pos pins s σ H _ I h) fun us s1 ⟨vs,H1,I1,r,q⟩=>⟨I1.kIn,?_⟩) he hpl
 exact ziO (ws:=[]) (zs:=[]) M hr I1 r .nil q
end
structure Clm (P:Program)(w:World)(K:W.Frag)(mg:Str→Option Value)(base:Heap)(k:Nat)(x m:Str)(sp:Sp):Prop where
 ex:∃ C f fd ps mc,mg x=some (.ref C)∧W.specialIn K (.ref C) "__getattribute__" = some (some (.builtin "type.__getattribute__"))∧W.readsIn K C mc=true∧W.findCls K (.ref C) mc m=some (.val (.ref f)) ∧
  W.keepIn K (.ref f)=true∧FnOk P w K mg base CX0 k f fd ps sp∧Binds K fd ps []
section
variable {X:Cx}{k:Nat}{sp:Sp}{x m:Str}{p pos apos:Pos}{e:Expr}{es:List Expr}{t:TA}
theorem zeZ (M:Clm X.prog X.w X.K X.mg X.base k x m sp)(hr:Room k X.A)(hg:Gl X x){pl:Sem Bool}(ha:PA X (e :: es) t)(hdb:(x == ("__debug__" : Str))=false:=by decide)
  (hst:starEach (e :: es) X.env=(false,eval e X.env) :: starEach es X.env:=by rfl) (hpl:(backTo pos (starEach es X.env)).any (·.1)=false:=by rfl)
  (ht:eval (.Call (.Attribute (.Name x p) m apos) (e :: es) [] pos) X.env=(do
   let ov ← eval (.Name x p) X.env
   standAt apos.atName
   let (f,first) ← holding [ov] (getMethod ov m pl)
   callWith pos f first (backTo pos (starEach (e :: es) X.env)) (backToKw pos (keywordEach [] X.env))):=by rfl) :
  PE X (.Call (.Attribute (.Name x p) m apos) (e :: es) [] pos) (ziF sp [] E0 t):=by
 obtain ⟨C,f,fd,ps,mc,hm,hs,hrd,hf,hk,F,hb⟩:=M
 intro pins s σ H Q I h
 refine W.methodCall_KW (pl:=pl) ?_ ht
 refine zbt I hg hm ?_ hdb
 refine W.method_cls I.kIn hs (W.cls_value I.kIn hrd hf rfl ?_)
 have I0:=I.tok (s.toks+1)
 refine W.callWith_K (first:=[]) (h₀:=X.base) I.ok.mod.kin hk (thn (ha pos pins _ σ H _ I0 h) fun us s2 ⟨vs,H2,I2,r,q2⟩=>⟨I2.kIn,?_⟩) hst hpl
 exact zjG F hr hb .nil zi1 I2 r q2
end
def itC (t:Bool):String:=if t then "tuple_iterator" else "list_iterator"
def sqC (t:Bool):String:=if t then "tuple" else "list"
def IsIt (t:Bool)(h:Heap)(a l:Addr)(i:Nat):Prop:=∃ o,h.get? a=some o∧o.cls = .type (itC t)∧o.data = .fields #[.ref l,.int i 0]
def IsSq (t:Bool)(h:Heap)(a:Addr)(xs:Array Value):Prop:=∃ o,h.get? a=some o∧o.cls = .type (sqC t)∧∃ n,o.data = .seq xs n
theorem IsIt.at {t:Bool}{h h':Heap}{a l:Addr}{i:Nat}(x:IsIt t h a l i)(e:∀ o,h.get? a=some o→h'.get? a=some o):IsIt t h' a l i:=let ⟨o,ho,r⟩:=x;⟨o,e _ ho,r⟩
theorem IsSq.at {t:Bool}{h h':Heap}{a:Addr}{xs:Array Value}(x:IsSq t h a xs)(e:∀ o,h.get? a=some o→h'.get? a=some o):IsSq t h' a xs:=let ⟨o,ho,r⟩:=x;⟨o,e _ ho,r⟩
section
variable {prog:Program}{w:World}{A:Around}{E:Value→Shared→Prop}{s:Shared}
theorem zf1 {t:Bool}{it l:Addr}{i:Nat}{xs:Array Value}{x:Value}{Q:Value→Shared→Prop}(hi:IsIt t s.heap it l i)(hl:IsSq t s.heap l xs)(hx:xs[i]? = some x)
  (q:∀ h',IsIt t h' it l (i+1)→Heap.SameBut it s.heap h'→Q x { s with heap:=h' }):wpAny (model prog w) A (Builtin.SmallTypes.nextOf (.ref it)) Q E s:=by
 cases t with
 | false=>exact wpAny_nextOf_list_item hi hl hx q
 | true =>
  have ht:s.TypeIs (.ref it) "tuple_iterator" := let ⟨o,ho,hc,_⟩:=hi;⟨o,ho,hc⟩
  obtain ⟨o,ho,hc,hd⟩:=id hi;obtain ⟨ol,hol,_,nl,hdl⟩:=hl
  delta Builtin.SmallTypes.nextOf
  refine Xaa (wpAny_callSpecial?_slot (name:=Str.ofString "__next__") ht F.slot_tuple_iterator_next (Xa0 F.slot_tuple_iterator_next ht F.entry_tuple_iterator_next ?_ (F.args_tuple_iterator_next_1 _)))
  show wpAny _ _ (field (.ref it) 0 >>= _) _ _ s;refine Xaa (XaX ho hd (x:=.ref l) rfl ?_)
  show wpAny _ _ (if (Value.ref l == Value.none)=true then _ else _) _ _ s;rw [if_neg (show ¬ ((Value.ref l == Value.none)=true) from Xaq)]
  show wpAny _ _ (field (.ref it) 1 >>= _) _ _ s;refine Xaa (XaX ho hd (x:=.int i 0) rfl ?_)
  show wpAny _ _ (seqItems? (.ref l) >>= _) _ _ s;refine Xaa (Xa6 hol hdl ?_);simp only [Xat,hx]
  refine Xaa (Xa1 ho hd (by simp) (Xad ⟨x,rfl,Xad (q _ ⟨_,XaI _ ho (Obj.isFreed_of_fields (Obj.data_mapFields hd _)),(Obj.cls_mapFields ..).trans hc,by rw [Obj.data_mapFields hd];simp [rawInt]⟩ (Heap.SameBut.update ..))⟩))
theorem zjQ {t:Bool}{it l:Addr}{i:Nat}{xs:Array Value}{Q:Value→Shared→Prop}(hh:A.handled=none)(hi:IsIt t s.heap it l i)(hl:IsSq t s.heap l xs)(hx:xs[i]? = none)
  (q:∀ h' e,Heap.ExtBut it s.heap h'→(∃ o,h'.get? e=some o∧o.cls = .type "StopIteration")→E (.ref e) { s with heap:=h' }):wpAny (model prog w) A (Builtin.SmallTypes.nextOf (.ref it)) Q E s:=by
 cases t with
 | false=>exact wpAny_nextOf_list_end hh hi hl hx q
 | true =>
  have ht:s.TypeIs (.ref it) "tuple_iterator" := let ⟨o,ho,hc,_⟩:=hi;⟨o,ho,hc⟩
  obtain ⟨o,ho,hc,hd⟩:=id hi;obtain ⟨ol,hol,_,nl,hdl⟩:=hl
  delta Builtin.SmallTypes.nextOf
  refine Xaa (wpAny_callSpecial?_slot (name:=Str.ofString "__next__") ht F.slot_tuple_iterator_next (Xa0 F.slot_tuple_iterator_next ht F.entry_tuple_iterator_next ?_ (F.args_tuple_iterator_next_1 _)))
  show wpAny _ _ (field (.ref it) 0 >>= _) _ _ s;refine Xaa (XaX ho hd (x:=.ref l) rfl ?_)
  show wpAny _ _ (if (Value.ref l == Value.none)=true then _ else _) _ _ s;rw [if_neg (show ¬ ((Value.ref l == Value.none)=true) from Xaq)]
  show wpAny _ _ (field (.ref it) 1 >>= _) _ _ s;refine Xaa (XaX ho hd (x:=.int i 0) rfl ?_)
  show wpAny _ _ (seqItems? (.ref l) >>= _) _ _ s;refine Xaa (Xa6 hol hdl ?_);simp only [Xat,hx]
  refine Xaa (wpAny_rule (Xaa (Xa1 ho hd (by simp) ?_)));show wpAny _ _ (newExc (.type "StopIteration") [] >>= _) _ _ _
  refine Xaa ?_;simp only [newExc,newTuple];refine Xaa (XaP ?_ (by size_fits))
  refine Xaa (m:=firstArgMember _ _) (wpAny_of_eq (a:=Value.none) (by first | rfl | (simp only [firstArgMember];rfl)) ?_);refine XaP ?_ (by size_fits)
  simp only [raiseNew];refine Xaa (wpAny_handled ?_);rw [show A.in1.handled=none from hh];refine Xaa (Xad (wpAny_throw ?_))
  exact q _ _ (((Heap.SameBut.update ..).extBut.push _).push _) ⟨_,Xah _ rfl,rfl⟩
theorem zjU {t:Bool}{l:Addr}{xs:Array Value}{Q:Value→Shared→Prop}(hl:IsSq t s.heap l xs)(q:Q (.ref s.heap.objs.size) { s with heap:=s.heap.push { cls:=.type (itC t),data:=.fields #[.ref l,.int 0 0] } }):wpAny (model prog w) A (pyIter (.ref l)) Q E s:=by
 cases t with
 | false=>exact wpAny_pyIter_list hl q
 | true=>exact XbO hl q
structure Far2 (z TO i1 i2:Addr):Prop where
 oz:TO≠z
 az:i1≠z
 bz:i2≠z
 oa:TO≠i1
 ob:TO≠i2
 ab:i1≠i2
structure FarM (z TO i1 i2 l:Addr):Prop where
 z:l≠z
 o:l≠TO
 a:l≠i1
 b:l≠i2
theorem zgg {T:Addr}{a b x:Value}{k:Nat}{Q:Unit→Shared→Prop}(hT:IsPair s.heap T a b)
  (q:∀ h',h'.get? T=some { cls:=.type "tuple",data:=.seq ((#[a,b]:Array Value).setIfInBounds k x) }→Heap.SameBut T s.heap h'→Q () { s with heap:=h' }):wpAny (model prog w) A (updateSeq T (·.setIfInBounds k x)) Q E s:=
 XbQ hT rfl (q _ ((XaI _ hT rfl).trans (by simp [Obj.mapSeq])) (Heap.SameBut.update ..))
theorem zhg {t:Bool}{z TI TO i1 i2 l1 l2:Addr}{k:Nat}{xs ys:Array Value}{x y a b:Value}{Q:Value→Shared→Prop}(D:Far2 z TO i1 i2)(L1:FarM z TO i1 i2 l1)(L2':FarM z TO i1 i2 l2)
  (hz:IsZip s.heap z TI TO .none) (hI:IsPair s.heap TI (.ref i1) (.ref i2)) (hO:IsPair s.heap TO a b)
  (h1:IsIt t s.heap i1 l1 k) (h2:IsIt t s.heap i2 l2 k) (g1:IsSq t s.heap l1 xs) (g2:IsSq t s.heap l2 ys) (ex:xs[k]? = some x) (ey:ys[k]? = some y)
  (q:∀ h',IsZip h' z TI TO (rawInt s.heap.objs.size)→IsPair h' TO x y→IsIt t h' i1 l1 (k+1)→IsIt t h' i2 l2 (k+1)→IsPair h' s.heap.objs.size x y→h'.objs.size=s.heap.objs.size+1 →
   (∀ d o,d≠z→d≠TO→d≠i1→d≠i2→s.heap.get? d=some o→h'.get? d=some o)→Q (.ref s.heap.objs.size) { s with heap:=h' }) :
  wpAny (model prog w) A (Builtin.«zip.__next__» ⟨[.ref z],[]⟩) (fun fin s'=>∃ v,fin = .done (.ret v)∧Q v s') E s:=by
 show wpAny _ _ (field (.ref z) 2 >>= _) _ _ _
 refine Xaa (XaX hz rfl (x:=.bool false) rfl ?_);show wpAny _ _ (field (.ref z) 3 >>= _) _ _ _
 refine Xaa (XaX hz rfl (x:=.ref TI) rfl (Xaa (Xa6 hI rfl ?_)));show wpAny _ _ (Builtin.SmallTypes.ownedTupleIsFree (.ref z) >>= _) _ _ _
 refine Xaa ?_;unfold Builtin.SmallTypes.ownedTupleIsFree
 refine Xaa (XaX hz rfl (x:=.none) rfl (Xad ?_));simp only [if_true]
 refine Xaa (wpAny_rule (Xaa (XaX hz rfl (x:=.ref TO) rfl ?_)))
 refine Xaa (XbR hz (by simp) fun e1 z1 b1=>?_)
 replace z1:IsZip e1 z TI TO .ellipsis:=z1
 refine Xaa ?_;simp only [List.zipIdx_cons,List.zipIdx_nil,List.forIn_cons,List.forIn_nil]
 refine Xaa (Xaa (wpAny_onRaise ?_));show wpAny _ _ (Builtin.SmallTypes.nextOf (.ref i1) >>= _) _ _ _
 refine Xaa (zf1 (h1.at fun o e=>b1.extBut _ _ D.az e) (g1.at fun o e=>b1.extBut _ _ L1.z e) ex fun e2 n1 b2=>Xad ?_)
 have O2:IsPair e2 TO a b:=b2.extBut _ _ D.oa (b1.extBut _ _ D.oz hO)
 refine Xaa (Xa6 O2 rfl (Xaa (zgg O2 fun e3 O3 b3=>Xaa (wpAny_letGo (Xad ?_)))))
 replace O3:IsPair e3 TO x b:=O3
 have up3:∀ d o,d≠z→d≠TO→d≠i1→s.heap.get? d=some o→e3.get? d=some o:=fun d o q1 q2 q3 e=>b3.extBut _ _ q2 (b2.extBut _ _ q3 (b1.extBut _ _ q1 e))
 refine Xaa (Xaa (wpAny_onRaise ?_));show wpAny _ _ (Builtin.SmallTypes.nextOf (.ref i2) >>= _) _ _ _
 refine Xaa (zf1 (h2.at fun o e=>up3 _ o D.bz D.ob.symm D.ab.symm e) (g2.at fun o e=>up3 _ o L2'.z L2'.o L2'.a e) ey fun e4 n2 b4=>Xad ?_)
 have O4:IsPair e4 TO x b:=b4.extBut _ _ D.ob O3
 refine Xaa (Xa6 O4 rfl (Xaa (zgg O4 fun e5 O5 b5=>Xaa (wpAny_letGo (Xad (Xad ?_))))))
 replace O5:IsPair e5 TO x y:=O5
 have up5:∀ d o,d≠z→d≠TO→d≠i1→d≠i2→s.heap.get? d=some o→e5.get? d=some o:=fun d o q1 q2 q3 q4 e=>b5.extBut _ _ q2 (b4.extBut _ _ q4 (up3 d o q1 q2 q3 e))
 have sz:e5.objs.size=s.heap.objs.size:=by rw [b5.1,b4.1,b3.1,b2.1,b1.1]
 have z7:IsZip e5 z TI TO .ellipsis:=b5.extBut _ _ D.oz.symm (b4.extBut _ _ D.bz.symm (b3.extBut _ _ D.oz.symm (b2.extBut _ _ D.az.symm z1)))
 have m1:IsIt t e5 i1 l1 (k+1):=n1.at fun o e=>b5.extBut _ _ D.oa.symm (b4.extBut _ _ D.ab (b3.extBut _ _ D.oa.symm e))
 have m2:IsIt t e5 i2 l2 (k+1):=n2.at fun o e=>b5.extBut _ _ D.ob.symm e
 have zl:z<e5.objs.size:=Xaj z7
 refine Xaa (Xa6 O5 rfl (Xaa (wpAny_newTuple ?_)));show wpAny _ _ (Builtin.SmallTypes.ownedTupleHandOut (.ref z) (.ref e5.objs.size) >>= _) _ _ _
 refine Xaa ?_;unfold Builtin.SmallTypes.ownedTupleHandOut
 have z8:IsZip (e5.push { cls:=.type "tuple",data:=.seq #[x,y] }) z TI TO .ellipsis:=Xab _ z7
 refine Xaa (XbR z8 (by simp) fun e9 z9 b9=>?_)
 replace z9:IsZip e9 z TI TO (rawInt e5.objs.size):=z9
 refine XbR z9 (by simp) fun e0 z0 b0=>?_
 replace z0:IsZip e0 z TI TO (rawInt e5.objs.size):=z0
 have up:∀ d o,d≠z→e5.get? d=some o→e0.get? d=some o:=fun d o q1 e=>b0.extBut _ _ q1 (b9.extBut _ _ q1 (Xab _ e))
 have T0:IsPair e0 e5.objs.size x y:=b0.extBut _ _ (Xbk zl) (b9.extBut _ _ (Xbk zl) (Xah _ rfl))
 have s0:e0.objs.size=e5.objs.size+1:=by rw [b0.1,b9.1,XaG]
 rw [sz] at z0 T0 s0
 refine Xad ⟨_,rfl,?_⟩;show Q (.ref e5.objs.size) _;rw [sz]
 exact q e0 z0 (up _ _ D.oz O5) (m1.at fun o e=>up _ o D.az e) (m2.at fun o e=>up _ o D.bz e) T0 s0 fun d o q1 q2 q3 q4 e=>up d o q1 (up5 d o q1 q2 q3 q4 e)
theorem ziB {t:Bool}{z TI TO i1 i2 l1:Addr}{k:Nat}{xs:Array Value}{Q:Fin→Shared→Prop}(hh:A.handled=none)(D:Far2 z TO i1 i2)(L1:FarM z TO i1 i2 l1)
  (hz:IsZip s.heap z TI TO .none) (hI:IsPair s.heap TI (.ref i1) (.ref i2)) (h1:IsIt t s.heap i1 l1 k) (g1:IsSq t s.heap l1 xs) (ex:xs[k]? = none)
  (q:∀ h' e,(∀ d o,d≠z→d≠i1→s.heap.get? d=some o→h'.get? d=some o)→(∃ o,h'.get? e=some o∧o.cls = .type "StopIteration")→E (.ref e) { s with heap:=h' }) :
  wpAny (model prog w) A (Builtin.«zip.__next__» ⟨[.ref z],[]⟩) Q E s:=by
 show wpAny _ _ (field (.ref z) 2 >>= _) _ _ _
 refine Xaa (XaX hz rfl (x:=.bool false) rfl ?_);show wpAny _ _ (field (.ref z) 3 >>= _) _ _ _
 refine Xaa (XaX hz rfl (x:=.ref TI) rfl (Xaa (Xa6 hI rfl ?_)));show wpAny _ _ (Builtin.SmallTypes.ownedTupleIsFree (.ref z) >>= _) _ _ _
 refine Xaa ?_;unfold Builtin.SmallTypes.ownedTupleIsFree
 refine Xaa (XaX hz rfl (x:=.none) rfl (Xad ?_));simp only [if_true]
 refine Xaa (wpAny_rule (Xaa (XaX hz rfl (x:=.ref TO) rfl ?_)))
 refine Xaa (XbR hz (by simp) fun e1 z1 b1=>?_)
 replace z1:IsZip e1 z TI TO .ellipsis:=z1
 refine Xaa ?_;simp only [List.zipIdx_cons,List.zipIdx_nil,List.forIn_cons,List.forIn_nil]
 refine Xaa (Xaa (wpAny_onRaise ?_));show wpAny _ _ (Builtin.SmallTypes.nextOf (.ref i1) >>= _) _ _ _
 refine Xaa (zjQ hh (h1.at fun o e=>b1.extBut _ _ D.az e) (g1.at fun o e=>b1.extBut _ _ L1.z e) ex fun e2 e b2 he=>?_)
 obtain ⟨oe,hoe,hce⟩:=he
 have z2:IsZip e2 z TI TO .ellipsis:=b2 _ _ D.az.symm z1
 have ne:e≠z:=fun y=>by subst y;rw [z2] at hoe;cases hoe;simp at hce
 exact XbR z2 (by simp) fun e3 _ b3=>q e3 e (fun d o q1 q2 y=>b3.extBut _ _ q1 (b2 _ _ q2 (b1.extBut _ _ q1 y))) ⟨oe,b3.extBut _ _ ne hoe,hce⟩
end
abbrev yA (t:Bool)(h:Heap)(l:Addr):Heap:=h.push { cls:=.type (itC t),data:=.fields #[.ref l,.int 0 0] }
abbrev yB (t:Bool)(h:Heap)(l1 l2:Addr):Heap:=(yA t (yA t h l1) l2).push { cls:=.type "tuple",data:=.seq #[.ref h.objs.size,.ref (yA t h l1).objs.size] }
abbrev yC (t:Bool)(h:Heap)(l1 l2:Addr):Heap:=(yB t h l1 l2).push { cls:=.type "tuple",data:=.seq #[.none,.none] }
abbrev yD (t:Bool)(h:Heap)(l1 l2:Addr):Heap:=(yC t h l1 l2).push { cls:=.type "zip",data:=.fields #[.none,.bool false,.bool false,.ref (yA t (yA t h l1) l2).objs.size,.ref (yB t h l1 l2).objs.size] }
theorem ziA (t:Bool)(l1 l2:Addr)(xs ys:Array Value) :
  Meets (Builtin.«zip.__new__» ⟨[.type "zip",.ref l1,.ref l2],[]⟩) (fun _ R s=>IsSq t s.heap l1 xs∧IsSq t s.heap l2 ys∧R (.ok (.ret (.ref (yC t s.heap l1 l2).objs.size))) { s with heap:=yD t s.heap l1 l2 }):=
 .of_wp fun prog w A R s h=>by
  obtain ⟨hp,g,d,tk,os⟩:=s;obtain ⟨hl1,hl2,h⟩:=h
  have hsub:=sub_zip
  have hA:IsSq t (Shared.heap ⟨hp,g,d,tk,os⟩) l1 xs:=hl1
  have hB:IsSq t (Shared.heap ⟨yA t hp l1,g,d,tk,os⟩) l2 ys:=hl2.at fun o e=>Xab _ e
  wp_walk using zjU hA,zjU hB
  exact ⟨_,rfl,h⟩
def hoX (t:Bool)(xs:List V):HO:=if t then .tup xs else .lst xs
def SqX (t:Bool)(H:Hp)(a:Addr)(xs:List V):Prop:=H a=some (hoX t xs)
theorem Inv.sqx {X:Cx}{pins:List (Addr×Obj)}{σ:St}{H:Hp}{s:Shared}(I:Inv X pins σ H s){t:Bool}{a:Addr}{xs:List V}(h:SqX t H a xs):∃ its:List Value,Vals xs its∧IsSq t s.heap a its.toArray:=by
 cases t with
 | false =>
  obtain ⟨its,r,p,_⟩:=I.list (SqL.of (xs:=xs) h)
  exact ⟨its,r,p.isList⟩
 | true =>
  obtain ⟨its,r,p,_⟩:=I.tuple (SqT.of (xs:=xs) h)
  exact ⟨its,r,p⟩
theorem zil {prog:Program}{w:World}{A:Around}{E:Value→Shared→Prop}{s:Shared}{t:Bool}{l1 l2:Addr}{xs ys:Array Value}{Q:Value→Shared→Prop}(g1:IsSq t s.heap l1 xs)(g2:IsSq t s.heap l2 ys)
  (q:∀ h' n,n=s.heap.objs.size→IsZip h' (n+4) (n+2) (n+3) .none→IsPair h' (n+2) (.ref n) (.ref (n+1))→IsPair h' (n+3) .none .none→IsIt t h' n l1 0→IsIt t h' (n+1) l2 0 →
   (∀ d o,s.heap.get? d=some o→h'.get? d=some o)→Q (.ref (n+4)) { s with heap:=h' }) :
  wpAny (model prog w) A (call (.type "zip") [.ref l1,.ref l2]) Q E s:=by
 refine callType_new F.called_zip (by decide) (F.typeCall_zip_2 _ _) (F.newCall_zip_2 _ _) (fun obj=>F.args_object_init_3 obj _ _) F.entry_zip_new (ziA t l1 l2 xs ys) ⟨g1,g2,?_⟩
 have n1:(yA t s.heap l1).objs.size=s.heap.objs.size+1:=XaG ..
 have n2:(yA t (yA t s.heap l1) l2).objs.size=s.heap.objs.size+2:=by rw [XaG,n1]
 have n3:(yB t s.heap l1 l2).objs.size=s.heap.objs.size+3:=by rw [XaG,n2]
 have n4:(yC t s.heap l1 l2).objs.size=s.heap.objs.size+4:=by rw [XaG,n3]
 have a4:(yD t s.heap l1 l2).get? (yC t s.heap l1 l2).objs.size=some _:=Xah _ rfl
 have a3:(yD t s.heap l1 l2).get? (yB t s.heap l1 l2).objs.size=some _:=Xab _ (Xah _ rfl)
 have a2:(yD t s.heap l1 l2).get? (yA t (yA t s.heap l1) l2).objs.size=some _:=Xab _ (Xab _ (Xah _ rfl))
 have a1:(yD t s.heap l1 l2).get? (yA t s.heap l1).objs.size=some _:=Xab _ (Xab _ (Xab _ (Xah _ rfl)))
 have a0:(yD t s.heap l1 l2).get? s.heap.objs.size=some _:=Xab _ (Xab _ (Xab _ (Xab _ (Xah _ rfl))))
 show _∧_
 rw [n2,n3,n4] at a4
 rw [n3] at a3
 rw [n1,n2] at a2
 rw [n1] at a1
 rw [n4]
 exact ⟨⟨_,a4,rfl⟩,q _ _ rfl a4 a2 a3 ⟨_,a0,rfl,rfl⟩ ⟨_,a1,rfl,rfl⟩ fun d o e =>
  Xab _ (Xab _ (Xab _ (Xab _ (Xab _ e))))⟩
def Ity (t:Bool)(a b:Addr):It:=
 ⟨fun i H=>∃ xs x ys y,SqX t H a xs∧SqX t H b ys∧xs[i]? = some x∧ys[i]? = some y,
  fun i H v H'=>∃ T x y,H T=none∧v = .ref T∧H'=upd H T (.tup [x,y])∧(∀ xs,SqX t H a xs→xs[i]? = some x)∧∀ ys,SqX t H b ys→ys[i]? = some y,
  fun i H=>∃ xs,SqX t H a xs∧xs.length≤i⟩
theorem zf7 {t:Bool}{h:Heap}{z TI TO i1 i2 l k1 k2:Addr}{it:Array Value}{f0:Value}{n1 n2:Nat}(g:IsSq t h l it)(hz:IsZip h z TI TO f0)(lo:l≠TO)(h1:IsIt t h i1 k1 n1)(h2:IsIt t h i2 k2 n2):FarM z TO i1 i2 l:=by
 have ap:∀ {d:Addr} {o:Obj},h.get? d=some o→o.cls≠.type (sqC t)→l≠d:=fun {d o} e nc y=>by
  obtain ⟨o',e',c',_⟩:=g
  rw [y,e] at e';cases e';exact nc c'
 obtain ⟨_,e1,c1,_⟩:=h1
 obtain ⟨_,e2,c2,_⟩:=h2
 have ne:(Value.type (itC t))≠.type (sqC t):=by cases t <;> simp [itC,sqC]
 exact ⟨ap hz (by cases t <;> simp [sqC]),lo,ap e1 (by rw [c1];exact ne),ap e2 (by rw [c2];exact ne)⟩
theorem zho {H:Hp}{t:Bool}{a:Addr}{xs ys:List V}(h:SqX t H a xs)(h2:SqX t H a ys):xs=ys:=by
 have e:=Option.some.inj (h.symm.trans h2)
 cases t with
 | false=>exact HO.lst.inj e
 | true=>exact HO.tup.inj e
theorem zhk {P:Program}{w:World}{K:W.Frag}{elts:List Expr}{kt:Nat}{tp:Pos}(t:Bool)(l1 l2 z TI TO i1 i2:Addr)(D:Far2 z TO i1 i2)(TIz:TI≠z)(TITO:TI≠TO)(TI1:TI≠i1)(TI2:TI≠i2) :
  Turn P w K (.Tuple elts kt tp) (Ity t l1 l2) [z,TI,TO,i1,i2] z (fun i h=>IsZip h z TI TO .none∧IsPair h TI (.ref i1) (.ref i2)∧(∃ a b,IsPair h TO a b)∧IsIt t h i1 l1 i∧IsIt t h i2 l2 i) where
 mem:=by simp
 obj:=fun i h st b hb=>by
  obtain ⟨hz,hI,⟨_,_,hO⟩,⟨o1,e1,_,d1⟩,⟨o2,e2,_,d2⟩⟩:=st
  simp only [Xal,Xbd,or_false] at hb
  rcases hb with rfl | rfl | rfl | rfl | rfl
  ·exact ⟨_,hz,fun v y=>by have y':Data.fields _=Data.cell v:=y;cases y'⟩
  ·exact ⟨_,hI,fun v y=>by have y':Data.seq _ _=Data.cell v:=y;cases y'⟩
  ·exact ⟨_,hO,fun v y=>by have y':Data.seq _ _=Data.cell v:=y;cases y'⟩
  ·exact ⟨_,e1,fun v y=>by rw [d1] at y;cases y⟩
  ·exact ⟨_,e2,fun v y=>by rw [d2] at y;cases y⟩
 keep:=fun i h h' st k=>by
  obtain ⟨hz,hI,⟨a,b,hO⟩,h1,h2⟩:=st
  exact ⟨k z (by simp) _ hz,k TI (by simp) _ hI,⟨a,b,k TO (by simp) _ hO⟩,h1.at fun o e=>k i1 (by simp) o e,h2.at fun o e=>k i2 (by simp) o e⟩
 item:=by
  intro X hP hw hK hc i pins s σ H E I hf st hg
  subst hP hw hK
  obtain ⟨xs,x,ys,y,p1,p2,e1,e2⟩:=hg
  obtain ⟨t1,r1,f1⟩:=I.sqx p1
  obtain ⟨t2,r2,f2⟩:=I.sqx p2
  obtain ⟨v1,w1,rx⟩:=r1.get e1
  obtain ⟨v2,w2,ry⟩:=r2.get e2
  obtain ⟨hz,hI,⟨a,b,hO⟩,h1,h2⟩:=st
  have nO:H TO=none:=(hf TO (by simp)).1
  have far:∀ {l:Addr} {zs:List V},SqX t H l zs→l≠TO:=fun {l zs} p e=>by rw [SqX,e,nO] at p;cases p
  have hT:s.TypeIs (.ref z) "zip" := ⟨_,hz,rfl⟩
  unfold pyNext
  refine Xaa (XbM (wpAny_callSpecial?_slot (name:=Str.ofString "__next__") hT F.slot_zip_next (Xa0 F.slot_zip_next hT F.entry_zip_next
   (zhg D (zf7 f1 hz (far p1) h1 h2) (zf7 f2 hz (far p2) h1 h2) hz hI hO h1 h2 f1 f2 (x:=v1) (y:=v2) (by simpa using w1) (by simpa using w2)
    fun h' z1 O1 m1 m2 T1 s1 kk=>Xad ⟨_,rfl,?_⟩) (F.args_zip_next_1 _))))
  refine wpAny_letOwnedTupleGo_zip z1 fun h4 z4 sb=>?_
  have fT:FpOk X pins H s.heap.objs.size:=I.fpOk (Xaf _) (I.hok.fresh (Xaf _))
  have k2:∀ d o,d ∉ [z,TI,TO,i1,i2]→s.heap.get? d=some o→h4.get? d=some o:=fun d o hb e=>by
   simp only [Xal,Xbd,or_false,not_or] at hb
   obtain ⟨q1,q2,q3,q4,q5⟩:=hb
   exact (sb.2 d q1).trans (kk d o q1 q3 q4 q5 e)
  have I1:Inv X pins σ H { s with heap:=h4,toks:=s.toks }:=I.turnedL (ch:=[z,TI,TO,i1,i2]) k2 hf
  have eT:h4.get? s.heap.objs.size=some { cls:=.type "tuple",data:=.seq #[v1,v2] }:=(sb.2 _ (Xbk (Xaj hz))).trans T1
  have I2:=I1.track (o:=.tup [x,y]) fT (Xav I.sz (Xaf _)) (zde rx ry eT)
  refine ⟨.ref s.heap.objs.size,_,I2,rfl,⟨_,x,y,fT.1,rfl,rfl,fun ys hy=>by rw [zho hy p1];exact e1,fun ys hy=>by rw [zho hy p2];exact e2⟩,
   ⟨z4,(sb.2 _ TIz).trans (kk _ _ TIz TITO TI1 TI2 hI),⟨_,_,sb.extBut _ _ D.oz O1⟩,m1.at fun o e=>sb.extBut _ _ D.az e,m2.at fun o e=>sb.extBut _ _ D.bz e⟩,fun d hb=>?_⟩
  have hlt:d<s.heap.objs.size:=by
   obtain ⟨_,g1,_⟩:=h1
   obtain ⟨_,g2,_⟩:=h2
   simp only [Xal,Xbd,or_false] at hb
   rcases hb with rfl | rfl | rfl | rfl | rfl
   ·exact Xaj hz
   ·exact Xaj hI
   ·exact Xaj hO
   ·exact Xaj g1
   ·exact Xaj g2
  rw [zag (Xar hlt)]
  exact (hf d hb).1
 done:=by
  intro X hP hw hK hc i pins s σ H E I hf st hg
  subst hP hw hK
  obtain ⟨xs,p1,hx⟩:=hg
  obtain ⟨t1,r1,f1⟩:=I.sqx p1
  obtain ⟨hz,hI,⟨a,b,hO⟩,h1,h2⟩:=st
  have nO:H TO=none:=(hf TO (by simp)).1
  have far:l1≠TO:=fun e=>by rw [SqX,e,nO] at p1;cases p1
  have hT:s.TypeIs (.ref z) "zip" := ⟨_,hz,rfl⟩
  have e1:=r1.length
  unfold pyNext
  refine Xaa (XbM (wpAny_callSpecial?_slot (name:=Str.ofString "__next__") hT F.slot_zip_next (Xa0 F.slot_zip_next hT F.entry_zip_next
   (ziB (I.ok.hd hc) D (zf7 f1 hz far h1 h2) hz hI h1 f1 (by simp;omega) fun h' e kk he=>?_) (F.args_zip_next_1 _))))
  obtain ⟨o,ho,hcl⟩:=he
  refine Xaa (wpAny_isInstance (T := "StopIteration") (b:=true) ⟨o,ho,hcl⟩ isSubtype_stop ?_)
  refine Xad ⟨rfl,I.turnedL (t':=s.toks) (ch:=[z,TI,TO,i1,i2]) (fun d o hb e=>?_) hf⟩
  simp only [Xal,Xbd,or_false,not_or] at hb
  exact kk d o hb.1 hb.2.2.2.1 e
 self:=fun _ _ _ _ _ st h=>wpAny_pyIter_zip st.1 h
inductive iZipX_1 (R:It→Hp→Prop)(vs:List V)(H1:Hp):Prop
 | mk (t:_) (a:_) (b:_) (xs:_) (ys:_) (z0_:vs=[.ref a,.ref b]) (z1_:SqX t H1 a xs) (z2_:SqX t H1 b ys) (z3_:R (Ity t a b) H1)
def iZipX (ta:TA):TI:=fun σ H R=>ta σ H (iZipX_1 R)
theorem zkp {X:Cx}{a b:Expr}{ta:TA}{p pos:Pos}{elts:List Expr}{kt:Nat}{tp:Pos}(hg:Gl X "zip")(hm:X.mg "zip" = none)(ha:PA X [a,b] ta)(hs:starEach [a,b] X.env=(false,eval a X.env) :: starEach [b] X.env:=by rfl)(hs2:(backTo pos (starEach [b] X.env)).any (·.1)=false:=by rfl) :
  PI X (.Tuple elts kt tp) (.Call (.Name "zip" p) [a,b] [] pos) (iZipX ta):=by
 intro pins s σ H R I h
 refine Call_ (zcr I hg hm zjv (PyProof.Rows.callWith_type1 (thn (ha pos pins s σ H _ I h) fun us s1 hh_=>?_) hs hs2))
 obtain ⟨vs,H1,I1,r1,q1⟩:=hh_
 obtain ⟨t,l1,l2,xs,ys,e,p1,p2,q⟩:=q1
 subst e
 cases r1 with
 | cons ra rr=>cases rr with
  | cons rb rr =>
   cases rr
   cases ra;cases rb
   obtain ⟨t1,v1,f1⟩:=I1.sqx p1
   obtain ⟨t2,v2,f2⟩:=I1.sqx p2
   refine zil f1 f2 fun h' n hn hz hI hO h1 h2 kk=>?_
   refine wpAny_pyIter_zip hz ?_
   have I2:Inv X pins σ H1 { s1 with heap:=h',toks:=s1.toks }:=I1.kept kk
   have ge:∀ b,n≤b→FpOk X pins H1 b:=fun b hb=>I1.fpOk (by rw [← hn];exact hb) (I1.hok.fresh (by rw [← hn];exact hb))
   have ne:∀ i j:Nat,i≠j→(n+i:Nat)≠n+j:=fun i j h=>by omega
   refine ⟨n+4,[n+4,n+2,n+3,n,n+1],_,_,H1,rfl,I2,zhk t l1 l2 (n+4) (n+2) (n+3) n (n+1) ⟨ne 3 4 (by decide),ne 0 4 (by decide),ne 1 4 (by decide),ne 3 0 (by decide),ne 3 1 (by decide),ne 0 1 (by decide)⟩
    (ne 2 4 (by decide)) (ne 2 3 (by decide)) (ne 2 0 (by decide)) (ne 2 1 (by decide)),⟨hz,hI,⟨_,_,hO⟩,h1,h2⟩,fun b hb=>ge b ?_,q⟩
   simp only [Xal,Xbd,or_false] at hb
   rcases hb with rfl | rfl | rfl | rfl | rfl
   ·exact Nat.le_add_right _ _
   ·exact Nat.le_add_right _ _
   ·exact Nat.le_add_right _ _
   ·exact Xaf _
   ·exact Nat.le_add_right _ _
theorem zig {t:Bool}{g:TG}{tf:TT}{te:TE}{Q:List V→Hp→Prop}{σ:St}{H:Hp}{a b:Addr}{xs ys:List V}(Pv:Nat→List V→St→Hp→Prop)(he:xs.length=ys.length)(hn:xs.length≤sizeLine)(h0:Pv 0 [] σ H)(hl:∀ i rs σ H,i≤xs.length→Pv i rs σ H→SqX t H a xs∧SqX t H b ys∧rs.length≤i)
  (hs:∀ i x y T rs σ H,xs[i]? = some x→ys[i]? = some y→H T=none→Pv i rs σ H→g (.ref T) σ (upd H T (.tup [x,y])) fun σ2 H2=>tf σ2 H2 fun b H3=>if b=true then te σ2 H3 fun y H4=>Pv (i+1) (rs ++ [y]) σ2 H4 else Pv (i+1) rs σ2 H3)
  (hd:∀ rs σ H,Pv xs.length rs σ H→Q rs H):zgd (Ity t a b) g tf te Q σ H:=by
 refine ⟨fun i m rs σ H=>m=xs.length - i∧i≤xs.length∧Pv i rs σ H,⟨xs.length,by simp,Nat.zero_le _,h0⟩,?_⟩
 rintro i m rs σ H ⟨rfl,hi,p⟩
 obtain ⟨q,q2,hz⟩:=hl i rs σ H hi p
 by_cases hlt:i<xs.length
 ·refine .inr ⟨⟨xs,xs[i],ys,ys[i]'(by omega),q,q2,by simp [hlt],by simp [he ▸ hlt]⟩,by omega,Pv (i+1),fun ys' σ' H' p'=>⟨xs.length - (i+1),by omega,rfl,hlt,p'⟩,fun v H' y=>?_⟩
  obtain ⟨T,x,y',hT,rfl,rfl,y1,y2⟩:=y
  exact hs i x y' T rs σ _ (y1 xs q) (y2 ys q2) hT p
 ·have e:i=xs.length:=by omega
  exact .inl ⟨⟨xs,q,by omega⟩,by omega,hd rs σ H (e ▸ p)⟩
theorem zaH (T:String){X:Cx}{K:W.Frag}(hK:X.K=K):zbH X (.builtin "isinstance") (fun xs H Q=>∃ x t b,xs=[x,.ty T]∧TyOf K H x t∧W.kitOne K t (.type T)=some b∧Q (.bl b) H):=by
 subst hK
 intro pins s σ H xs us Q I r h
 obtain ⟨x,t,b,rfl,ty,e,q⟩:=h
 obtain ⟨u,u2,rfl,rx,r2⟩:=zfA r
 obtain rfl:u2=Value.type T:=r2
 exact zfe I rx ty e fun tk=>⟨.bl b,H,I.tok _,rfl,q⟩
section
variable {X:Cx}{K:W.Frag}
theorem zbm {x:Str}{n:Int}{pos:Pos}(hg:Gl X x)(h:∃ t,X.mg x=some (.int n t))(hd:(x == ("__debug__" : Str))=false:=by decide):PE X (.Name x pos) (tC (.int n)):=by
 obtain ⟨t,h⟩:=h
 exact zeq hg h ⟨_,rfl⟩ hd
end
def dP {α:Type}(ds us zs:List α):List α:=us ++ ds
theorem Vals.dP {ds:List V}{es:List Value}(d:Vals ds es){vs zs:List V}{us ws:List Value}(g:Vals vs us)(h:Vals zs ws):Vals (dP ds vs zs) (dP es us ws):=g.append d
theorem zjH:RelV (.ty "str") (.type "str"):=rfl
theorem zbX:RelV (.ty "tuple") (.type "tuple"):=rfl
theorem zfL:RelV (.ty "list") (.type "list"):=rfl
theorem zj5:bootBuiltins "str" = some (.type "str"):=by decide +kernel
theorem za0:bootBuiltins "tuple" = some (.type "tuple"):=by decide +kernel
theorem zdO:bootBuiltins "list" = some (.type "list"):=by decide +kernel
end L2
namespace Cb
open PySem L2
structure Blt (mg:Str→Option Value):Prop where
 len:mg "len" = none
 sum:mg "sum" = none
 all:mg "all" = none
 max:mg "max" = none
 min:mg "min" = none
 int:mg "int" = none
 bool:mg "bool" = none
 isinstance:mg "isinstance" = none
 range:mg "range" = none
 enumerate:mg "enumerate" = none
 zip:mg "zip" = none
 str:mg "str" = none
 tuple:mg "tuple" = none
 list:mg "list" = none
inductive Lk (H:Hp):Nat→V→V→Prop where
 | int {n:Nat} (i:Int):Lk H n (.int i) (.int i)
 | seq {n:Nat} {t:Bool} {a b:Addr} {xs ys:List V} (ha:SqX t H a xs) (hb:SqX t H b ys) (hl:xs.length=ys.length) (hz:xs.length≤sizeLine) (h:∀ (i:Nat) (x y:V),xs[i]? = some x→ys[i]? = some y→Lk H n x y):Lk H (n+1) (.ref a) (.ref b)
theorem Lk.same {H H':Hp}{n:Nat}{v w:V}(h:Lk H n v w)(s:Same H H'):Lk H' n v w:=by
 induction h with
 | int i=>exact .int i
 | seq ha hb hl hz _ ih=>exact .seq (s _ _ ha) (s _ _ hb) hl hz ih
def NN (ext:List (Str×V)):Prop:=ext=[]∨∃ r:Int,ext=[(("room" : Str),V.int r)]
structure Ob (C:Addr)(H:Hp)(a p:Addr)(ws:List V)(ext:List (Str×V)):Prop where
 ex:∃ dx hd,H a=some (.ins C dx (("head",.str hd) :: ("held",.ref p) :: ext))
 ls:H p=some (.lst ws)
 nn:NN ext
structure ClsOk (K:W.Frag)(C:Addr):Prop where
 cl:Cls K C
 head:NoAttr K C "head"
 held:NoAttr K C "held"
 room:NoAttr K C "room"
inductive spIsNum (vs:List V)(H:Hp)(Q:VK)(u3_:XK):Prop
 | mk (a b:Int) (z0_:vs=[.int a,.int b]) (z1_:Q (.bl (decide (0≤a∧a≤b))) H)
inductive spIsWord (vs:List V)(H:Hp)(Q:VK)(u3_:XK):Prop
 | mk (a:Int) (z0_:vs=[.int a]) (z1_:Q (.bl (decide (0≤a∧a≤255))) H)
inductive spLen (C:Addr)(L:List V→Nat)(vs:List V)(H:Hp)(Q:VK)(u3_:XK):Prop
 | mk (a:_) (p:_) (ws:_) (ext:_) (z0_:vs=[.ref a]) (z1_:Ob C H a p ws ext) (z2_:Q (.int (L ws:Int)) H)
inductive spInit (K:W.Frag)(vs:List V)(H:Hp)(Q:VK)(u3_:XK):Prop
 | mk (a:_) (C:_) (dx:_) (p:_) (hd:_) (z0_:vs=[.ref a,.str hd,.ref p]) (z1_:H a=some (.ins C dx [])) (z2_:ClsOk K C) (z3_:∀ H',H' a=some (.ins C dx [("head",.str hd),("held",.ref p)])→(∀ b,b≠a→H' b=H b)→Q .non H')
end Cb
end
section
namespace L2
open PySem PySem.Spec PyProof.Rows PySem.SeqAt
section
variable {X:Cx}{K:W.Frag}
inductive tFs2_1 (Q:VK)(a:Str)(y:V)(H2:Hp):Prop
 | mk (b:Str) (z0_:y = .str b) (z1_:b.length≤1000) (z2_:Q (.str (Str.empty ++ a ++ b)) H2)
inductive tFs2_2 (tb:TE)(σ:St)(Q:VK)(x:V)(H1:Hp):Prop
 | mk (a:Str) (z0_:x = .str a) (z1_:a.length≤1000) (z2_:tb σ H1 (tFs2_1 Q a))
def tFs2 (ta tb:TE):TE:=fun σ H Q=>ta σ H (tFs2_2 tb σ Q)
theorem pe_fs2 {e v:Expr}{pos p2:Pos}{ta tb:TE}(he:PE X e ta)(hv:PE X v tb)(hE:evalEach [] X.env=[]:=by rfl):PE X (.JoinedStr [e,.FormattedValue v (-1) none p2] pos) (tFs2 ta tb):=by
 intro pins s σ H Q I h
 refine JoinedStr_many ?_
 rw [hE]
 have l0:Str.empty.length=0:=rfl
 have hz:(3000:Nat)≤sizeLine:=by decide
 refine joinParts_cons (thn (he pins s σ H _ I h) fun u s1 hh_=>?_)
 obtain ⟨x,H1,I1,rx,a,ex,la,q⟩:=hh_
 subst ex
 obtain ⟨t,rfl⟩:=(show ∃ t,u=Value.str a t from rx)
 refine ⟨by rw [strLen_append];omega,?_⟩
 refine joinParts_cons (FormattedValue_plain (thn (hv pins s1 σ H1 _ I1 q) fun u2 s2 hh_=>?_))
 obtain ⟨y,H2,I2,ry,b,ey,lb,q2⟩:=hh_
 subst ey
 obtain ⟨t2,rfl⟩:=(show ∃ t,u2=Value.str b t from ry)
 refine formatField_str (fun t' tk=>⟨by rw [strLen_append,strLen_append];omega,?_⟩) (by omega)
 exact joinParts_nil ⟨.str (Str.empty ++ a ++ b),H2,(I2.tok _).tok _,⟨_,rfl⟩,q2⟩ (by rw [strLen_append,strLen_append];omega)
theorem zcv:∀ {ns:List Int} {us:List Value},Vals (ns.map V.int) us→∀ (j:Nat) (h:j<us.length) (h2:j<ns.length),∃ t,us[j]=Value.int ns[j] t
 | [],_,r,j,h,h2=>absurd h2 (XbS _)
 | n :: ns,us,r,j,h,h2=>by
  cases r with
  | cons r1 r2 =>
   cases j with
   | zero=>exact r1
   | succ j=>exact zcv r2 j (by simpa using h) (by simpa using h2)
theorem all_eq {ns ms:List Int}(hl:ns.length=ms.length):(List.range ns.length).all (fun j=>ns[j]? == ms[j]?)=decide (ns=ms):=by
 rw [Bool.eq_iff_iff,Xbe,decide_eq_true_iff]
 constructor
 ·intro h
  apply List.ext_getElem? 
  intro i
  by_cases hi:i<ns.length
  ·exact beq_iff_eq.mp (h i (List.mem_range.mpr hi))
  ·rw [XaM (by omega),XaM (by omega)]
 ·intro h i _
  rw [h];exact beq_iff_eq.mpr rfl
end
end L2
end
section
namespace L2
open PySem PySem.Spec PyProof.Rows Builtin
section
variable {prog:Program}{w:World}{A:Around}{E:Value→Shared→Prop}{s:Shared}{K:W.Frag}{x y C f:Addr}{ox oy:Obj}{od oe:Option Obj}
end
section
variable {X:Cx}
end
section
variable {prog:Program}{w:World}{A:Around}{E:Value→Shared→Prop}{s:Shared}
end
section
variable {X:Cx}{o:Expr}{td:TE}{pos p1 p2 p3:Pos}{k0:Nat}
end
section
variable {X:Cx}{K:W.Frag}
theorem ziX {x:Str}{z:Str}{pos:Pos}(hg:Gl X x)(h:∃ t,X.mg x=some (.str z t))(hd:(x == ("__debug__" : Str))=false:=by decide):PE X (.Name x pos) (tC (.str z)):=by
 obtain ⟨t,h⟩:=h
 exact zeq hg h ⟨_,rfl⟩ hd
theorem ziY {x:Str}{a:Addr}{pos:Pos}(hg:Gl X x)(h:X.mg x=some (.ref a))(hd:(x == ("__debug__" : Str))=false:=by decide):PE X (.Name x pos) (tC (.ref a)):=zeq hg h rfl hd
theorem zju (hK:X.K=K):zbH X (.builtin "isinstance") (fun xs H Q=>∃ x t D b,xs=[x,.ref D]∧TyOf K H x t∧W.kitOne K t (.ref D)=some b∧Q (.bl b) H):=by
 subst hK
 intro pins s σ H xs us Q I r h
 obtain ⟨x,t,D,b,rfl,ty,e,q⟩:=h
 obtain ⟨u,u2,rfl,rx,r2⟩:=zfA r
 obtain rfl:u2=Value.ref D:=r2
 exact zfe I rx ty e fun tk=>⟨.bl b,H,I.tok _,rfl,q⟩
end
theorem zjg {K:W.Frag}{t:Value}{D:Addr}(h:W.isIn K t D=true):W.kitOne K t (.ref D)=some true:=by
 unfold W.isIn at h
 unfold W.kitOne W.kitCls
 by_cases e:(t == Value.ref D)=true
 ·rw [if_pos e]
 ·rw [if_neg e]
  simp only [Bool.or_eq_true,Xa8,beq_iff_eq] at h
  rcases h with h | h
  ·exact absurd (beq_iff_eq.mpr h) e
  ·dsimp only
   rw [if_pos (by simp only [Xa8,beq_iff_eq];exact h.1.1)]
   exact h.2
section
variable {X:Cx}{e:Expr}{p pos:Pos}{ta:TE}
end
section
variable {prog:Program}{w:World}{A:Around}{E:Value→Shared→Prop}{s:Shared}
end
section
variable {X:Cx}{o:Expr}{td tv:TE}{pos p1 p2 p3:Pos}{k0:Nat}
end
end L2
end
section
namespace L2
open PySem PySem.Spec PyProof.Rows HT PySem.SeqAt
section
section
variable {prog:Program}{w:World}{A:Around}{E:Value→Shared→Prop}{s:Shared}
theorem zjt {t b:Addr}{ws:List Value}{Q:Value→Shared→Prop}(ht:IsTup s.heap t #[])(hb:IsTup s.heap b ws.toArray)(h:Q (.ref b) s):wpAny (model prog w) A (binaryOp .Add (.ref t) (.ref b)) Q E s:=by
 obtain ⟨⟨cls,dd,data,sl⟩,ho,hc,n,hd⟩:=id ht
 obtain ⟨⟨cls2,dd2,data2,sl2⟩,ho2,hc2,n2,hd2⟩:=id hb
 simp only at hc hd hc2 hd2
 subst hc hd hc2 hd2
 exact concat_meets ⟨_,ho,rfl⟩ ⟨_,ho2,rfl⟩ noFill_tuple_add seq_tuple_add PySem.F.slot_tuple_add PySem.F.entry_tuple_add (PySem.F.args_tuple_add_2 _ _)
   (tuple_addW0 t b #[] ws.toArray n n2 dd dd2 sl sl2 rfl) ⟨ho,ho2,h⟩
theorem zcO {t sl:Addr}{items:Array Value}{vl vu:Value}{lo hi:Option Int}{Q:Value→Shared→Prop}(ht:IsTup s.heap t items)(hs:s.heap.IsSliceOf sl vl vu .none)(pl:IsPart vl lo)(pu:IsPart vu hi)
  (hw:sIx items.size 0 lo=0∧sIx items.size items.size hi=items.size) (h:Q (.ref t) s):wpAny (model prog w) A (getItem (.ref t) (.ref sl)) Q E s:=by
 obtain ⟨os,hos,hcs,hds⟩:=id hs
 have hTs:s.TypeIs (.ref sl) "slice" := ⟨os,hos,hcs⟩
 unfold getItem
 try with_reducible refine XaO ?_
 first | refine Xaa (Xad ?_) | skip
 refine Xaa (wpAny_sequenceKey ht.typeIs (by decide) ?_)
 refine Xaa (wpAny_callSpecial?_slot (name:=Str.ofString "__getitem__") ht.typeIs PyProof.Rows.slot_tuple_getitem
  (Xa0 PyProof.Rows.slot_tuple_getitem ht.typeIs entry_tuple_getitem ?_ (args_tuple_getitem _ _)))
 show wpAny _ _ (Builtin.Tuple.tupleItemsOf (.ref t) >>= _) _ _ s
 refine Xaa (tupleItemsOf_ ht ?_)
 refine Xaa (wpAny_typeOf hTs ?_)
 rw [if_pos (by decide)]
 refine Xaa (zbE hs pl pu ?_)
 rw [hw.1,hw.2,Nat.sub_zero]
 have hyes:((((0:Nat):Int) == 0 && (1:Int) == 1 && items.size == items.size)=true):=by simp
 show wpAny _ _ (if (((0:Nat):Int) == 0 && (1:Int) == 1 && items.size == items.size)=true then _ else _) _ _ s
 rw [if_pos hyes]
 refine Xaa (m:=Builtin.Tuple.tupleIsExact _) ?_
 unfold Builtin.Tuple.tupleIsExact
 refine Xaa (wpAny_typeOf ht.typeIs (Xad ?_))
 rw [if_pos (by decide)]
 refine Xaa (wpAny_rule ?_)
 exact Xad ⟨_,rfl,Xad h⟩
end
end
section
variable {X:Cx}{K:W.Frag}
inductive rSlT2 (K:W.Frag)(x:V)(lo:Option Int)(hi:Option Int)(H:Hp)(Q:VK):Prop
 | mk (a:_) (xs:_) (z0_:x = .ref a) (z1_:SqT K H a xs) (z2_:(cutV xs lo hi=xs→Q (.ref a) H)) (z3_:∀ p,H p=none→Q (.ref p) (upd H p (.tup (cutV xs lo hi))))
theorem zei (hK:X.K=K):SlR X (rSlT2 K):=by
 subst hK
 intro pins s σ H x v vl vu lo hi sl Q I rx hs pl pu h
 obtain ⟨a,xs,rfl,hx,q0,q⟩:=h
 by_cases hw:sIx xs.length 0 lo=0∧sIx xs.length xs.length hi=xs.length
 ·cases rx
  obtain ⟨its,r,ht,hz⟩:=I.tuple hx
  have hlen:its.toArray.size=xs.length:=by rw [Xam];exact r.length.symm
  refine ⟨"tuple",_,PyProof.Rows.slot_tuple_getitem.lookup,ht.typeIs,?_⟩
  refine zcO ht hs pl pu (by rw [hlen];exact hw) ?_
  exact ⟨.ref a,H,I,rfl,q0 (by unfold cutV;rw [hw.1,hw.2];simp)⟩
 ·exact sl_tup pins s σ H _ v vl vu lo hi sl Q I rx hs pl pu ⟨a,xs,rfl,hx,hw,q⟩
inductive rCatT2 (K:W.Frag)(x:V)(y:V)(H:Hp)(Q:VK):Prop
 | mk (a:_) (b:_) (xs:_) (ys:_) (z0_:x = .ref a) (z1_:y = .ref b) (z2_:SqT K H a xs) (z3_:SqT K H b ys) (z4_:xs.length+ys.length≤sizeLine) (z5_:(xs=[]→Q (.ref b) H)) (z6_:(ys=[]→Q (.ref a) H)) (z7_:(∀ p,H p=none→Q (.ref p) (upd H p (.tup (xs ++ ys)))))
theorem zi2 (hK:X.K=K):OpR X (binaryOp .Add) (rCatT2 K):=by
 subst hK
 intro pins s σ H x y v u Q I rx ry h
 obtain ⟨a,b,xs,ys,rfl,rfl,ha,hb,hz,q0,q1,q2⟩:=h
 by_cases hx:xs=[]
 ·cases rx
  cases ry
  obtain ⟨its,r1,p1,_⟩:=I.tuple ha
  obtain ⟨its2,r2,p2,_⟩:=I.tuple hb
  rw [r1.nil_iff.mpr hx] at p1
  exact zjt p1 p2 ⟨.ref b,H,I,rfl,q0 hx⟩
 ·exact zkz pins s σ H _ _ v u Q I rx ry ⟨a,b,xs,ys,rfl,rfl,ha,hb,hx,hz,q1,fun _=>q2⟩
inductive rNeL0 (K:W.Frag)(x:V)(y:V)(H:Hp)(Q:VK):Prop
 | mk (a:_) (b:_) (xs:_) (z0_:x = .ref a) (z1_:y = .ref b) (z2_:SqL K H a xs) (z3_:SqL K H b []) (z4_:Q (.bl (!xs.isEmpty)) H)
theorem zkw (hu:X.A.units<cLine)(hK:X.K=K):OpR X (compareOp .NotEq) (rNeL0 K):=by
 subst hK
 rintro pins s σ H x y v u Q I rx ry ⟨a,b,xs,rfl,rfl,ha,hb,q⟩
 cases rx;cases ry
 obtain ⟨its,r1,p1,_⟩:=I.list ha
 obtain ⟨its2,r2,p2,_⟩:=I.list hb
 obtain rfl:=r2.nil_iff.mpr rfl
 have e:its.toArray.size=xs.length:=by rw [Xam];exact r1.length.symm
 cases xs with
 | nil =>
  refine RcNeAt.lists (e:=fun _=>true) p1.isList p2.isList (by rw [e];rfl) hu (fun j h1 h2=>absurd h2 (by simp)) _ _ _ _ ⟨.bl false,H,I,?_,q⟩
  rw [e];rfl
 | cons z zs=>exact RcNeAt.lists_lengths p1.isList p2.isList (by rw [e];exact bne_iff_ne.mpr (by simp)) hu _ _ _ _ ⟨.bl true,H,I,rfl,q⟩
theorem zjs {g:TG}{tf:TT}{te:TE}{Q:List V→Hp→Prop}{σ:St}{H:Hp}{a:Addr}{xs:List V}(Pv:Nat→List V→St→Hp→Prop)(hn:xs.length≤sizeLine)(h0:Pv 0 [] σ H)(hl:∀ i ys σ H,i≤xs.length→Pv i ys σ H→SqT K H a xs∧ys.length≤i)
  (hs:∀ i x ys σ H,xs[i]? = some x→Pv i ys σ H→g x σ H fun σ2 H2=>tf σ2 H2 fun b H3=>if b=true then te σ2 H3 fun y H4=>Pv (i+1) (ys ++ [y]) σ2 H4 else Pv (i+1) ys σ2 H3)
  (hd:∀ ys σ H,Pv xs.length ys σ H→Q ys H):zgd (Itt K a) g tf te Q σ H:=by
 refine ⟨fun i m ys σ H=>m=xs.length - i∧i≤xs.length∧Pv i ys σ H,⟨xs.length,by simp,Nat.zero_le _,h0⟩,?_⟩
 rintro i m ys σ H ⟨rfl,hi,p⟩
 obtain ⟨q,hz⟩:=hl i ys σ H hi p
 by_cases hlt:i<xs.length
 ·refine .inr ⟨⟨xs,xs[i],q,by simp [hlt]⟩,by omega,Pv (i+1),fun ys' σ' H' p'=>⟨xs.length - (i+1),by omega,rfl,hlt,p'⟩,fun x H' y=>?_⟩
  obtain ⟨e,y⟩:=y
  subst e
  exact hs i x ys σ _ (y xs q) p
 ·have e:i=xs.length:=by omega
  subst e
  exact .inl ⟨⟨xs,q,Xaf _⟩,by omega,hd ys σ H p⟩
end
end L2
end
section
namespace L2
open PySem PySem.Spec PyProof.Rows HT
def Slid (fs ch:List Addr)(h h':Heap):Prop:=∀ b o,h.get? b=some o→b ∉ ch→(b ∉ fs→h'.get? b=some o)∧∃ sl,h'.get? b=some { o with slots:=sl }
theorem Slid.of {fs ch:List Addr}{h h':Heap}(k:∀ b o,h.get? b=some o→b ∉ ch→h'.get? b=some o):Slid fs ch h h':=fun b o e hc=>⟨fun _=>k b o e hc,o.slots,k b o e hc⟩
theorem Slid.trans {fs ch:List Addr}{h1 h2 h3:Heap}(x:Slid fs ch h1 h2)(y:Slid fs ch h2 h3):Slid fs ch h1 h3:=fun b o e hc=>by
 obtain ⟨x1,sl,x2⟩:=x b o e hc
 refine ⟨fun hf=>(y b o (x1 hf) hc).1 hf,?_⟩
 obtain ⟨_,sl2,y2⟩:=y b _ x2 hc
 exact ⟨sl2,y2⟩
theorem Slid.mono {fs fs' ch ch':List Addr}{h h':Heap}(x:Slid fs ch h h')(hf:∀ b∈fs,b∈fs')(hc:∀ b∈ch,b∈ch'):Slid fs' ch' h h':=fun b o e n=>⟨fun z=>(x b o e fun q=>n (hc b q)).1 fun q=>z (hf b q),(x b o e fun q=>n (hc b q)).2⟩
def XAt (h:Heap)(e T:Addr)(cls fl:Value)(od:Option Addr):Prop:=∃ oe vs oT ts,h.get? e=some oe∧(oe.cls=cls∧oe.dict=od)∧oe.data = .fields vs∧vs[1]? = some (.ref T)∧T≠e∧h.get? T=some oT∧oT.data = .fields ts∧ts[3]? = some fl
section
variable {M:Model}{A:Around}{E:Value→Shared→Prop}{s:Shared}
theorem zdV (f:Array Value→Array Value)(o:Obj):(Obj.mapFields f o).dict=o.dict:=by
 obtain ⟨c,d,dt,sl⟩:=o
 cases dt <;> rfl
theorem zhi {base:Heap}{env:Env}{outer:List Env}{L e:Addr}{oe:Obj}{vs:Array Value}{head:Value}{hadNext:Bool}{Q:Unit→Shared→Prop}
  (hfr:A.frames=some (env :: outer)) (hl:s.heap.FunFrames base (env :: outer)) (hf:env.frame=some L)
  (he:s.heap.get? e=some oe) (hd:oe.data = .fields vs) (hsz:1<vs.size)
  (h:∀ h' T,s.heap.get? T=none→Slid ((env :: outer).filterMap (·.frame)) [e] s.heap h'→XAt h' e T oe.cls (rawInt L) oe.dict→Q () { s with heap:=h' }) :
  wpAny M A (do let a ← frameOf env;let pl ← entryPlaceOf L hadNext;let b ← EntryCells.newEntry head a .none (rawInt L) .none pl;setField (.ref e) 1 b) Q E s:=by
 have hene:e ∉ (env :: outer).filterMap (·.frame):=fun hm=>by
  obtain ⟨_,o,ho,hnf⟩:=hl.mem hm
  rw [he] at ho;injection ho with ho;subst ho;exact hnf vs hd
 refine Xaa (wpAny_frameOf_fun hfr hl hf fun h₁ hs₁=>?_)
 refine Xaa (wpAny_entryPlaceOf fun pl hpl=>?_)
 unfold EntryCells.newEntry newFields
 refine Xaa (XaP ?_ (hpl.sizeOk5 _ _ _ _ _))
 have he₁:h₁.get? e=some oe:=(hs₁.2.1 e hene).trans he
 have he₂:=Xab (h:=h₁) { cls:=.type "traceback",dict:=none,data:=.fields ([head,.ref L,.none,rawInt L,.none] ++ (if pl.isEmpty then List.replicate 6 Value.none else pl)).toArray } he₁
 refine Xa1 he₂ hd hsz (h _ h₁.objs.size ?_ ?_ ?_)
 ·rw [hs₁.1];exact XbI (Xaf _)
 ·intro b o hb hc
  have hbe:b≠e:=fun z=>hc (by rw [z];exact List.mem_singleton_self _)
  have keep:∀ o',h₁.get? b=some o' →
    ((h₁.push { cls:=.type "traceback",dict:=none,data:=.fields ([head,.ref L,.none,rawInt L,.none] ++ (if pl.isEmpty then List.replicate 6 Value.none else pl)).toArray }).update e (Obj.mapFields (·.setIfInBounds 1 (Value.ref h₁.objs.size)))).get? b=some o':=fun o' hb=>by
   rw [XaE _ _ (Ne.symm hbe)]
   exact Xab _ hb
  refine ⟨fun hn=>keep o ((hs₁.2.1 b hn).trans hb),?_⟩
  obtain ⟨sl,hs⟩:=hs₁.2.2 b o hb
  exact ⟨sl,keep _ hs⟩
 ·have hTe:h₁.objs.size≠e:=Xbk (Xaj he₁)
  have hd₃:=Obj.data_mapFields hd (·.setIfInBounds 1 (Value.ref h₁.objs.size))
  have he₃:=XaI (Obj.mapFields (·.setIfInBounds 1 (Value.ref h₁.objs.size))) he₂ (Obj.isFreed_of_fields hd₃)
  have hT₃:=(XaE (h₁.push { cls:=.type "traceback",dict:=none,data:=.fields ([head,.ref L,.none,rawInt L,.none] ++ (if pl.isEmpty then List.replicate 6 Value.none else pl)).toArray })
   (Obj.mapFields (·.setIfInBounds 1 (Value.ref h₁.objs.size))) (Ne.symm hTe)).trans (Xah h₁ rfl)
  exact ⟨_,_,_,_,he₃,⟨Obj.cls_mapFields _ _,zdV _ _⟩,hd₃,by simp [hsz],hTe,hT₃,rfl,by first | (simp;done) | (rcases hpl with rfl | ⟨_,_,_,_,_,_,_,rfl⟩ <;> simp)⟩
theorem zeL {base:Heap}{env:Env}{outer:List Env}{L e:Addr}{oe:Obj}{vs:Array Value}{Q:Unit→Shared→Prop}(hfr:A.frames=some (env :: outer))(hl:s.heap.FunFrames base (env :: outer))(hf:env.frame=some L)
  (he:s.heap.get? e=some oe) (hd:oe.data = .fields vs) (h1:vs[1]? = some .none)
  (h:∀ h' T,s.heap.get? T=none→Slid ((env :: outer).filterMap (·.frame)) [e] s.heap h'→XAt h' e T oe.cls (rawInt L) oe.dict→Q () { s with heap:=h' }):wpAny M A (noteFrame (.ref e) env) Q E s:=by
 unfold noteFrame
 simp only [hf]
 refine Xaa (XaX he hd h1 ?_)
 rw [if_neg (by decide)]
 exact zhi hfr hl hf he hd (XbG.mp h1).1 h
theorem zb6 {base:Heap}{env:Env}{outer:List Env}{L e T:Addr}{cls:Value}{od:Option Addr}{Q:Unit→Shared→Prop}(hfr:A.frames=some (env :: outer))(hl:s.heap.FunFrames base (env :: outer))(hf:env.frame=some L)
  (x:XAt s.heap e T cls .none od)
  (h:∀ h' T',s.heap.get? T'=none→Slid ((env :: outer).filterMap (·.frame)) [e,T] s.heap h'→XAt h' e T' cls (rawInt L) od→Q () { s with heap:=h' }):wpAny M A (noteFrame (.ref e) env) Q E s:=by
 obtain ⟨oe,vs,oT,ts,he,⟨hcls,hdn⟩,hd,h1,hTe,hT,hdT,h3⟩:=x
 subst hcls hdn
 unfold noteFrame
 simp only [hf]
 refine Xaa (XaX he hd h1 ?_)
 rw [if_pos (show (Value.ref T != Value.none)=true from by simp)]
 refine Xaa (XaX hT hdT h3 ?_)
 rw [if_neg (show ¬ ((Value.none == rawInt L)=true) from by simp [rawInt])]
 refine Xaa (Xa1 hT hdT (XbG.mp h3).1 ?_)
 have other:∀ b,b≠T→(s.heap.update T (Obj.mapFields (·.setIfInBounds 3 Value.none))).get? b=s.heap.get? b:=fun b hb=>XaE _ _ (Ne.symm hb)
 have noRecord:∀ b o,s.heap.get? b=some o→(∀ vs,o.data≠.fields vs)→b≠T:=fun b o hb hnf q=>by
  rw [q,hT] at hb;injection hb with hb;subst hb;exact hnf ts hdT
 refine zhi hfr (hl.of_keeps fun b o hb hnf=>⟨o,(other b (noRecord b o hb hnf)).trans hb,rfl⟩) hf ((other e (Ne.symm hTe)).trans he) hd (XbG.mp h1).1 fun h' T' fT sl x'=>h h' T' ?_ ?_ x'
 ·by_cases z:T'=T
  ·have hd':=Obj.data_mapFields hdT (·.setIfInBounds 3 Value.none)
   have q:=XaI (Obj.mapFields (·.setIfInBounds 3 Value.none)) hT (Obj.isFreed_of_fields hd')
   rw [z,q] at fT;cases fT
  ·exact (other T' z).symm.trans fT
 ·refine Slid.trans (Slid.of fun b o e hc=>(other b fun z=>hc (by rw [z];simp)).trans e) (sl.mono (fun _ z=>z) fun b z=>by rw [Xac.mp z];simp)
theorem zbT {e T:Addr}{cls fl:Value}{od:Option Addr}{Q:Unit→Shared→Prop}(x:XAt s.heap e T cls fl od)(h:∀ h',Slid [] [T] s.heap h'→XAt h' e T cls .none od→Q () { s with heap:=h' }):wpAny M A (setFlight (.ref e) none) Q E s:=by
 obtain ⟨oe,vs,oT,ts,he,hcls,hd,h1,hTe,hT,hdT,h3⟩:=x
 have hsz:=(XbG.mp h3).1
 refine wpAny_setFlight_none he hd h1 hT hdT hsz (h _ ?_ ?_)
 ·exact Slid.of fun b o e hc=>(XaE _ _ fun z=>hc (by rw [z];exact List.mem_singleton_self _)).trans e
 ·have hd':=Obj.data_mapFields hdT (·.setIfInBounds 3 Value.none)
  have q:=XaI (Obj.mapFields (·.setIfInBounds 3 Value.none)) hT (Obj.isFreed_of_fields hd')
  exact ⟨oe,vs,_,_,(XaE _ _ hTe).trans he,hcls,hd,h1,hTe,q,hd',by simp [hsz]⟩
theorem zeb {base:Heap}{env:Env}{outer:List Env}{L e:Addr}{oe:Obj}{vs:Array Value}{Q:Unit→Shared→Prop}(hfr:A.frames=some (env :: outer))(hl:s.heap.FunFrames base (env :: outer))(hf:env.frame=some L)
  (he:s.heap.get? e=some oe) (hd:oe.data = .fields vs) (h1:vs[1]? = some .none)
  (h:∀ h' T,s.heap.get? T=none→Slid ((env :: outer).filterMap (·.frame)) [e] s.heap h'→XAt h' e T oe.cls .none oe.dict→Q () { s with heap:=h' }):wpAny M A (leaving env (.ref e)) Q E s:=by
 unfold leaving
 refine Xaa (zeL hfr hl hf he hd h1 fun h' T fT sl x=>zbT x fun h'' sl2 x2=>h h'' T fT ?_ x2)
 intro b o e hc
 obtain ⟨s1,t1,s2⟩:=sl b o e hc
 have nT:b ∉ [T]:=fun z=>by rw [Xac.mp z,fT] at e;cases e
 refine ⟨fun hn=>(sl2 b o (s1 hn) nT).1 (by simp),?_⟩
 exact (sl2 b _ s2 nT).2
end
end L2
end
section
namespace L2
open PySem PySem.Spec PyProof.Rows HT
section
variable {P:Program}{w:World}{H H':Hp}{h h':Heap}{fs ch:List Addr}
theorem ObjOk.there {a:Addr}{o:HO}(x:ObjOk P w H h a o):∃ u,h.get? a=some u:=by
 cases o with
 | lst xs=>obtain ⟨_,_,_,_,e⟩:=x;exact ⟨_,e⟩
 | tup xs=>obtain ⟨_,_,_,p⟩:=x;obtain ⟨o,e,_⟩:=p;exact ⟨_,e⟩
 | dK kvs=>obtain ⟨_,_,_,_,o,_,_,e,_⟩:=x;exact ⟨_,e⟩
 | dT kvs=>obtain ⟨_,_,_,_,o,_,_,e,_⟩:=x;exact ⟨_,e⟩
 | set S n=>obtain ⟨o,_,_,_,e,_⟩:=x;exact ⟨_,e⟩
 | ins C dx fs=>obtain ⟨_,_,_,e,_⟩:=x;exact ⟨_,e⟩
 | own y=>obtain ⟨_,e⟩:=x;exact ⟨_,e⟩
 | xd fs=>obtain ⟨_,⟨_,_,_,e,_⟩,_⟩:=x;exact ⟨_,e⟩
 | rng lo hi=>obtain ⟨_,_,_,e⟩:=x;exact ⟨_,e⟩
 | frz ob u=>obtain ⟨e,_⟩:=x;exact ⟨_,e⟩
 | tbl ps=>exact ⟨_,x⟩
 | met f y=>exact ⟨_,x⟩
 | ext φ=>obtain ⟨_,⟨_,e⟩,_⟩:=x;exact ⟨_,e⟩
theorem HOk.none_of {a:Addr}(x:HOk P w H h)(e:h.get? a=none):H a=none:=by
 cases q:H a with
 | none=>rfl
 | some o=>obtain ⟨u,z⟩:=(x a o q).there;rw [e] at z;cases z
theorem HOk.slid (x:HOk P w H h)(sl:Slid fs ch h h')(hf:∀ b∈fs,H b=none)(hc:∀ b∈ch,H b=none):HOk P w H h':=fun a o e=>by
 refine (x a o e).stay (fun b u hb q=>?_) (fun _ z=>z) (fun _ _ z=>z)
 have hs:∃ o',H b=some o':=by
  rcases hb with rfl | z
  ·exact ⟨_,e⟩
  ·exact ⟨_,z⟩
 obtain ⟨o',hs⟩:=hs
 exact (sl b u q fun z=>by rw [hc b z] at hs;cases hs).1 fun z=>by rw [hf b z] at hs;cases hs
end
section
variable {X:Cx}{pins:List (Addr×Obj)}{σ:St}{H:Hp}{s:Shared}{h':Heap}{ch:List Addr}
theorem Inv.slid (I:Inv X pins σ H s)(sl:Slid (frs X.stack) ch s.heap h')
  (hc:∀ b∈ch,H b=none∧X.s₀.heap.get? b=none∧b≠X.env.locals∧(∀ x c,X.env.cells.lookup x=some c→c≠b)∧∀ p∈X.pn ++ pins,p.1≠b):Inv X pins σ H { s with heap:=h' }:=by
 have nch:∀ b o,X.s₀.heap.get? b=some o→b ∉ ch:=fun b o e z=>by rw [(hc b z).2.1] at e;cases e
 have nst:∀ b o,X.s₀.heap.get? b=some o→b ∉ X.fs→b ∉ frs X.stack:=fun b o e hb z=>by
  rcases Xal.mp (I.stkSub b z) with q | q
  ·exact absurd q (Xar (Xai (Xaj e) I.ok.above))
  ·exact hb q
 have slot:∀ b o,s.heap.get? b=some o→b ∉ ch→∃ sl,h'.get? b=some { o with slots:=sl }:=fun b o e n=>(sl b o e n).2
 refine ⟨I.ok,I.os,I.bare,⟨fun b o e n hb hx=>?_,fun b o e n hb hx=>?_,I.base.free,fun b o e hx=>?_,I.base.tups,I.base.frzs,I.base.tbls⟩,?_,fun y c e=>?_,I.free,I.freeC,fun p hp=>?_,I.hok.slid sl (fun b hb=>I.stkFree b hb) (fun b hb=>(hc b hb).1),I.len⟩
 ·exact (sl b o (I.base.keep b o e n hb hx) (nch b o e)).1 (nst b o e hb)
 ·obtain ⟨t,e1⟩:=I.base.slot b o e n hb hx
  obtain ⟨t2,e2⟩:=slot b _ e1 (nch b o e)
  exact ⟨t2,e2⟩
 ·obtain ⟨o',e1⟩:=I.base.there b o e hx
  obtain ⟨t2,e2⟩:=slot b _ e1 (nch b o e)
  exact ⟨_,e2⟩
 ·obtain ⟨m,⟨o,es,ep,ho,hd,r⟩,hl⟩:=I.loc
  obtain ⟨t,e1⟩:=slot _ _ ho fun z=>(hc _ z).2.2.1 rfl
  refine ⟨m,⟨_,es,ep,e1,hd,r⟩,fun i x v e2 e3 e4=>?_⟩
  obtain ⟨u,ru,q⟩:=hl i x v e2 e3 e4
  refine ⟨u,ru,?_⟩
  rcases q with q | ⟨k,c,e,oc,hoc,hod⟩
  ·exact .inl q
  ·obtain ⟨t2,e5⟩:=slot _ _ hoc fun z=>(hc _ z).2.2.2.1 x c e rfl
   exact .inr ⟨k,c,e,_,e5,hod⟩
 ·obtain ⟨v,oc,hoc,hod⟩:=I.cell y c e
  obtain ⟨t2,e5⟩:=slot _ _ hoc fun z=>(hc _ z).2.2.2.1 y c e rfl
  exact ⟨v,_,e5,hod⟩
 ·obtain ⟨e,n,ne,nf,d⟩:=I.pin p hp
  refine ⟨(sl p.1 p.2 e fun z=>(hc _ z).2.2.2.2 p hp rfl).1 fun z=>?_,n,ne,nf,d⟩
  rcases Xal.mp (I.stkSub _ z) with q | q
  ·exact ne q
  ·exact nf q
theorem Inv.none_ours (I:Inv X pins σ H s){b:Addr}(hb:s.heap.get? b=none)(hx:b ∉ X.ex):X.s₀.heap.get? b=none∧b≠X.env.locals∧(∀ x c,X.env.cells.lookup x=some c→c≠b)∧∀ p∈X.pn ++ pins,p.1≠b:=by
 refine ⟨?_,fun z=>?_,fun x c e z=>?_,fun p hp z=>?_⟩
 ·cases q:X.s₀.heap.get? b with
  | none=>rfl
  | some o=>obtain ⟨o',e⟩:=I.base.there b o q hx;rw [e] at hb;cases hb
 ·obtain ⟨m,⟨o,es,ep,ho,_⟩,_⟩:=I.loc
  rw [← z,hb] at ho;cases ho
 ·obtain ⟨v,oc,hoc,_⟩:=I.cell x c e
  rw [z,hb] at hoc;cases hoc
 ·obtain ⟨e,_⟩:=I.pin p hp
  rw [z,hb] at e;cases e
end
inductive CX1 (P:Program)(w:World)(outer:List Env)(H:Hp)(s:Shared)(E:XK)(e:Value)(s':Shared):Prop
 | mk (ea:_) (T:_) (H':_) (C:_) (od:_) (z0_:e = .ref ea) (z1_:s'.os=s.os) (z2_:AllBare s'.gens) (z3_:Un (frs outer) [] H H' s.heap s'.heap) (z4_:HOk P w H' s'.heap) (z5_:XAt s'.heap ea T (.ref C) .none od) (z6_:s.heap.get? ea=none) (z7_:s.heap.get? T=none) (z8_:H' ea=none) (z9_:H' T=none) (z10_:E (.ref C) od H')
end L2
end
section
namespace L2
open PySem PySem.Spec PyProof.Rows HT
def NsK (K:W.Frag)(N:Addr):Prop:=∃ c d es ep sl,K.lookup N=some ⟨c,d,.dict es ep,sl⟩∧StrKeys es∧nsFind es "__init__" = none
def bmV:List Value:=[.type "ValueError",.type "Exception",.type "BaseException",.type "object"]
inductive TailK (K:W.Frag):List Value→Prop
 | base:TailK K bmV
 | own {A:Addr} {c0:Value} {dd:Option Addr} {cd:ClassData} {sl:Array (Option Value)} {tl:List Value}:K.lookup A=some ⟨c0,dd,.cls cd,sl⟩→NsK K cd.ns→TailK K tl→TailK K (.ref A :: tl)
theorem NsK.ns {K:W.Frag}{N:Addr}{h:Heap}(x:NsK K N)(k:K.In h):∃ m,h.Ns N m∧m "__init__" = none:=by
 obtain ⟨c,d,es,ep,sl,e,hs,hi⟩:=x
 exact ⟨nsFind es,⟨_,es,ep,k _ _ e,rfl,hs,fun _=>rfl⟩,hi⟩
theorem TailK.tail {K:W.Frag}{bm:List Value}{h:Heap}(x:TailK K bm)(k:K.In h):OwnTail h bmV bm:=by
 induction x with
 | base=>exact .base
 | own e n _ ih =>
  obtain ⟨m,hn,hi⟩:=n.ns k
  exact .own (k _ _ e) hn hi ih
section
variable {X:Cx}{x:Str}{C:Addr}{e:Expr}{te:TE}{np cpos pos:Pos}{R:Hp→Prop}
end
end L2
end
section
namespace L2
open PySem PySem.Spec PyProof.Rows HT
theorem PS.nox {X:Cx}{st:Stmt}{t:TS}(h:PS X.nox st t):PS X st t:=fun pins s σ H D I hw =>
 Xaz (h pins s σ H D (I.wish _) hw) (fun _ _ q=>q.unwish) fun _ _ z=>False.elim z
theorem Fun.okX {P:Program}{w:World}{K:W.Frag}{mg:Str→Option Value}{base:Heap}{x qual:Str}{st:Stmt}{f:Addr}{fd:FuncData}{N ps:List Str}{k:Nat}{sp:Sp}(F:Fun K x qual st f fd)(S:FnScope N ps (zai st))(len:∀ vs H Q E,sp vs H Q E→vs.length=ps.length)
  (hbody:∀ (cdv:Value) (A:Around) (outer:List Env) (s:Shared) (H:Hp) (vs:List V) (Q:VK) (E:XK),Room k (A.deeper (envOfC qual (zai st) s.heap.objs.size f cdv))→sp vs H Q E →
   ∃ t,PSs (cxOf (CX1 P w) P w K mg base N qual (zai st) f cdv A outer s H E) (zaU st) t∧t { nx:=fun _ H'=>Q .non H',rt:=Q } (start N vs) H):FnOk P w K mg base (CX1 P w) (k+1) f fd ps sp:=by
 obtain ⟨oc,od,kV,doc,pm,an,cdv,ct,osl,rfl,lk,hcd⟩:=F.ex
 exact zjm lk hcd S len fun A outer s H vs Q E hr hsp=>hbody cdv A outer s H vs Q E hr hsp
structure CalX (P:Program)(w:World)(K:W.Frag)(mg:Str→Option Value)(base:Heap)(k:Nat)(x:Str)(ps:List Str)(sp:Sp):Prop where
 ex:∃ f fd,FnOk P w K mg base (CX1 P w) k f fd ps sp∧mg x=some (.ref f)∧W.keepIn K (.ref f)=true∧Binds K fd ps []
abbrev Cx.marked (X:Cx)(e:Value):Cx:={ X with A:=X.A.mark (some e),calm:=false }
theorem Inv.marked {X:Cx}{pins:List (Addr×Obj)}{σ:St}{H:Hp}{s:Shared}(I:Inv X pins σ H s)(e:Value):Inv (X.marked e) pins σ H s:=
 ⟨⟨I.ok.mod,I.ok.kind,I.ok.glob,I.ok.blt,I.ok.above,I.ok.inj,I.ok.has,I.ok.cab,(fun z=>nomatch z),I.ok.frames,I.ok.stk,I.ok.exf,I.ok.bs,I.ok.bsz,I.ok.noex,I.ok.exfs,I.ok.funs,I.ok.frf⟩,I.os,I.bare,I.base,I.loc,I.cell,I.free,I.freeC,I.pin,I.hok,I.len⟩
theorem Inv.unmarked {X:Cx}{pins:List (Addr×Obj)}{σ:St}{H:Hp}{s:Shared}{e:Value}(hd:X.calm=true→X.A.handled=none)(I:Inv (X.marked e) pins σ H s):Inv X pins σ H s:=
 ⟨⟨I.ok.mod,I.ok.kind,I.ok.glob,I.ok.blt,I.ok.above,I.ok.inj,I.ok.has,I.ok.cab,hd,I.ok.frames,I.ok.stk,I.ok.exf,I.ok.bs,I.ok.bsz,I.ok.noex,I.ok.exfs,I.ok.funs,I.ok.frf⟩,I.os,I.bare,I.base,I.loc,I.cell,I.free,I.freeC,I.pin,I.hok,I.len⟩
def xIs (ea:Addr)(cls:Value)(od:Option Addr):Heap→Prop:=fun h=>∃ o vs,h.get? ea=some o∧(o.cls=cls∧o.dict=od)∧o.data = .fields vs
section
variable {X:Cx}{pins:List (Addr×Obj)}{σ:St}{H:Hp}{s:Shared}
theorem Inv.trackX {ea:Addr}{cls:Value}{od:Option Addr}(I:Inv X pins σ H s)(hn:H ea=none)(ho:xIs ea cls od s.heap)(h:X.s₀.heap.get? ea=none∧ea≠X.env.locals∧(∀ x c,X.env.cells.lookup x=some c→c≠ea)∧∀ p∈X.pn ++ pins,p.1≠ea):Inv X pins σ (upd H ea (.ext (xIs ea cls od))) s:=by
 have up:∀ b o,H b=some o→upd H ea (.ext (xIs ea cls od)) b=some o:=fun b o e=>by rw [zag (fun z=>by rw [z,hn] at e;cases e)];exact e
 refine ⟨I.ok,I.os,I.bare,⟨I.base.keep,I.base.slot,fun b o e n hx=>?_,I.base.there,fun b xs e=>up _ _ (I.base.tups b xs e),fun b o u e=>up _ _ (I.base.frzs b o u e),fun b ps e=>?_⟩,I.loc,I.cell,?_,fun x c e=>?_,fun p hp=>?_,fun a o e=>?_,I.len⟩
 ·rw [zag (fun z=>by rw [z,h.1] at e;cases e)];exact I.base.free b o e n hx
 ·obtain ⟨more,q⟩:=I.base.tbls b ps e
  exact ⟨more,up _ _ q⟩
 ·rw [zag (Ne.symm h.2.1)];exact I.free
 ·rw [zag (h.2.2.1 x c e)];exact I.freeC x c e
 ·obtain ⟨e,n,r⟩:=I.pin p hp
  exact ⟨e,by rw [zag (h.2.2.2 p hp)];exact n,r⟩
 ·by_cases z:a=ea
  ·subst z
   rw [zab] at e
   cases e
   obtain ⟨oo,vs,e1,e2,e3⟩:=id ho
   refine ⟨ho,⟨oo,e1⟩,fun h1 h2 ⟨o1,v1,q1,q2,q3⟩ k=>⟨o1,v1,k _ q1,q2,q3⟩⟩
  ·rw [zag z] at e
   exact (I.hok a o e).stay (fun _ _ _ q=>q) (fun b q=>up _ _ q) fun b xs q=>up _ _ q
theorem Inv.unname {h':Heap}{m:Str→Option Value}{j:Nat}{n:Str}{u:Option Value}{t':Nat}(I:Inv X pins σ H s)(hN:X.N.Nodup)(hj:X.N[j]? = some n)(hk:X.env.scope.names.lookup n=some .local)
  (hm:s.heap.Ns X.env.locals m) (hn':h'.Ns X.env.locals (fun x=>if x=n then u else m x)) (hs:Heap.SameBut X.env.locals s.heap h'):Inv X pins (σ.set j none) H { s with heap:=h',toks:=t' }:=by
 have hjσ:j<σ.length:=by rw [I.len];exact (Xag.mp hj).1
 have nl:∀ b o,X.s₀.heap.get? b=some o→b≠X.env.locals:=fun b o e=>Xar (Xai (Xaj e) I.ok.above)
 have cne:=I.cne
 refine ⟨I.ok,I.os,I.bare,⟨fun b o e n hb hx=>(hs.2 b (nl b o e)).trans (I.base.keep b o e n hb hx),fun b o e n hb hx=>?_,I.base.free,fun b o e hx=>?_,I.base.tups,I.base.frzs,I.base.tbls⟩,⟨_,hn',fun i y v' e1 e2 e3=>?_⟩,fun y c e=>?_,I.free,I.freeC,fun p hp=>?_,fun b ob e=>?_,by simpa using I.len⟩
 ·obtain ⟨sl,e1⟩:=I.base.slot b o e n hb hx
  exact ⟨sl,(hs.2 b (nl b o e)).trans e1⟩
 ·obtain ⟨o',e1⟩:=I.base.there b o e hx
  exact ⟨o',(hs.2 b (nl b o e)).trans e1⟩
 ·have hi:i≠j:=fun z=>by rw [z,Xbt hjσ] at e2;cases e2
  rw [List.getElem?_set_ne (Ne.symm hi)] at e2
  obtain ⟨m0,hn0,hl⟩:=I.loc
  obtain ⟨u',r',q⟩:=hl i y v' e1 e2 e3
  refine ⟨u',r',?_⟩
  rcases q with ⟨k,e⟩ | ⟨k,c,e,z⟩
  ·refine .inl ⟨k,?_⟩
   have ny:y≠n:=fun e=>hi (zew hN e1 (e ▸ hj))
   have em:m0=m:=by
    obtain ⟨o1,es1,ep1,g1,d1,_,f1⟩:=hn0
    obtain ⟨o2,es2,ep2,g2,d2,_,f2⟩:=hm
    rw [g1] at g2;cases g2
    rw [d1] at d2;cases d2
    funext x;rw [← f1,← f2]
   show (if y=n then u else m y)=_
   rw [if_neg ny,← em];exact e
  ·exact .inr ⟨k,c,e,z.sameBut hs (cne y c e)⟩
 ·obtain ⟨w',z⟩:=I.cell y c e
  exact ⟨w',z.sameBut hs (cne y c e)⟩
 ·obtain ⟨e,n,ne,nf,d⟩:=I.pin p hp
  exact ⟨(hs.2 p.1 ne).trans e,n,ne,nf,d⟩
 ·refine (I.hok b ob e).stay (fun c w' hc q=>(hs.2 c ?_).trans q) (fun _ q=>q) fun _ _ q=>q
  rintro rfl
  have hf:=I.free
  rcases hc with z | hc
  ·rw [z] at hf;rw [hf] at e;cases e
  ·rw [hf] at hc;cases hc
end
end L2
end
section
namespace L2
open PySem PySem.Spec PyProof.Rows HT
section
variable {X:Cx}{k:Nat}{ps:List Str}{sp:Sp}{x fn cn n y:Str}{i j l:Nat}{Cb:Addr}{e:Expr}{t:TA}{px p1 p2 p3 p4 p5 p6 p7 p8 p9:Pos}
end
end L2
end
section
namespace L2
open PySem PySem.Spec PyProof.Rows HT PySem.W PySem.Calls
section
variable {prog:Program}{w:World}{A:Around}{E:Value→Shared→Prop}{s:Shared}{K:Frag}{x C:Addr}{ox:Obj}{oD:Option Obj}
theorem zj9 {Q:Option Value→Shared→Prop}(X:K.In s.heap)(I:InstAt s.heap x ox C oD)(hga:findIn K (.ref C) "__getattribute__" = some (some (.builtin "BaseException.__getattribute__")))(hgr:findIn K (.ref C) "__getattr__" = some none)
  (hf:findObj K C oD "__class__" = some (.bind (.builtin "getset_descriptor.__get__") (.builtin "object.__class__"))) (hsub:subIn K (.ref C) (.type "BaseException")=some true) (hm:mroIn K C (.type "object")=some true)
  (h:Q (some (.ref C)) { s with toks:=s.toks+1 }):wpAny (model prog w) A (getAttr? (.ref x) "__class__") Q E s:=by
 obtain ⟨hh,g,d,t,os⟩:=s
 have L0:=I.type (M:=model prog w)
 have L1:=looks_findIn (M:=model prog w) X hga
 have L2:=looks_findIn (M:=model prog w) X hgr
 unfold getAttr? getAttrBy? getAttrBy
 refine Xaa (wpAny_mkText (Xaa (XbM (XaO (Xaa (L0.at (Xaa (L1.at ?_))))))))
 have hx2:(Value.builtin "BaseException.__getattribute__" == Value.builtin "object.__getattribute__")=false:=by decide +kernel
 have hx:(onTheHeap (Value.ref C) && Value.builtin "BaseException.__getattribute__" == Value.builtin "object.__getattribute__")=false:=by rw [hx2];rfl
 show wpAny _ _ (if (onTheHeap (Value.ref C) && Value.builtin "BaseException.__getattribute__" == Value.builtin "object.__getattribute__")=true then _ else _) _ _ _
 rw [hx,if_neg Xaq]
 unfold getAttrByItsOwn
 have hb:hookBefore (Value.ref C)=typeLookup (Value.ref C) "__getattr__" := rfl
 rw [hb]
 refine Xaa (L2.at ?_)
 refine Xaa (XbM (XaO ?_))
 have hc:callGetattribute (Value.ref x) (Value.str "__class__" t) (Value.builtin "BaseException.__getattribute__") false=boundAndCalled (Value.builtin "BaseException.__getattribute__") (Value.ref x) (Value.str "__class__" t):=rfl
 rw [hc]
 unfold boundAndCalled
 rw [PySem.F.excAttr_ValueError.ga.bind (.ref x)]
 refine Xaa (Xad ?_)
 show wpAny _ _ (call (.builtin "BaseException.__getattribute__") [.ref x,.str "__class__" t]) _ _ _
 refine Xbu ?_
 have hk:builtinKind "BaseException.__getattribute__" = some .slot:=by decide +kernel
 have hs:splitId "BaseException.__getattribute__" = some ("BaseException","__getattribute__"):=by decide +kernel
 refine codeAny_call_builtin PySem.F.excAttr_ValueError.ga.plain PySem.F.entry_bexc_ga ?_
 have hi:Looks (model prog w) hh (isInstance (.ref x) (.type "BaseException")) true:=L0.andThen (looks_subIn X hsub)
 have ha:=PySem.F.args_bexc_ga (.ref x) (.str "__class__" t)
 have LF:=looks_find (M:=model prog w) X I hf
 refine @check_slot _ _ _ _ _ _ _ _ _ _ _ hk hs hi ha ?_
 unfold Builtin.«object.__getattribute__»
 refine Xaa (wpAny_of_eq (a:=(Value.ref x,[Value.str (Str.ofString "__class__") t])) rfl ?_)
 dsimp only
 refine Xaa (Xad (Xaa (L0.at (Xaa (LF.at ?_)))))
 show wpAny _ _ (holding [Value.builtin "object.__class__"] (call (.builtin "getset_descriptor.__get__") [.builtin "object.__class__",.ref x,.ref C]) >>= ret) _ _ _
 refine Xaa (XaO (Xbu (class_get (s:={ heap:=hh,gens:=g,drawn:=d,toks:=t+1,os:=os }) X I hm ?_)))
 exact Xad (handed_on rfl (Xad h))
structure XCls (K:Frag)(C:Addr):Prop where
 look:∃ c d cd sl,K.lookup C=some ⟨c,d,.cls cd,sl⟩
 ga:findIn K (.ref C) "__getattribute__" = some (some (.builtin "BaseException.__getattribute__"))
 gr:findIn K (.ref C) "__getattr__" = some none
 cf:∀ oD:Option Obj,findObj K C oD "__class__" = some (.bind (.builtin "getset_descriptor.__get__") (.builtin "object.__class__"))
 sub:subIn K (.ref C) (.type "BaseException")=some true
 mro:mroIn K C (.type "object")=some true
end
section
variable {X:Cx}{K:Frag}
theorem zhv:∀ {Ds:List Addr} {its:List Value},Vals (Ds.map V.ref) its→its=Ds.map Value.ref
 | [],_,r=>by cases r;rfl
 | D :: Ds,_,r=>by
  cases r with
  | cons a b=>rw [zhv b];rw [show _=Value.ref D from a];rfl
end
end L2
end
section
namespace L2
open PySem PySem.Spec PyProof.Rows HT
theorem FnOk.calm {P:Program}{w:World}{K:W.Frag}{mg:Str→Option Value}{base:Heap}{k:Nat}{f:Addr}{fd:FuncData}{ps:List Str}{sp:Sp}(F:FnOk P w K mg base (CX1 P w) k f fd ps sp) :
  FnOk P w K mg base CX0 k f fd ps (fun vs H Q _=>sp vs H Q fun _ _ _=>False):=
 ⟨fun vs H Q E h=>F.len vs H Q _ h,fun A outer s H args us vs Q E hr he hb hv hs=>Xbw (F.run A outer s H args us vs Q _ hr he hb hv hs) fun r s' h=>by
  cases r with
  | ok fl=>cases fl <;> exact h
  | error e=>obtain ⟨_,_,_,_,_,_,_,_,_,_,_,_,_,_,_,z⟩:=h;exact z.elim⟩
section
variable {X:Cx}{K:W.Frag}
theorem zaS {x:Str}{a:Addr}{pos:Pos}(hg:Gl X x)(h:X.mg x=some (.ref a))(hd:(x == ("__debug__" : Str))=false:=by decide):PE X (.Name x pos) (tC (.ref a)):=zeq hg h rfl hd
theorem zem:RelV (.ty "ValueError") (.type "ValueError"):=rfl
theorem zeF:bootBuiltins "ValueError" = some (.type "ValueError"):=by decide +kernel
end
end L2
end
section
namespace L2
open PySem PySem.Spec PyProof.Rows HT
theorem zge {P:Program}{w:World}{K:W.Frag}{mg:Str→Option Value}{base:Heap}{N:List Str}{qual:Str}{scope:Scope}{f:Addr}{cd:Value}{A:Around}{outer:List Env}{s:Shared}{H:Hp}{E:XK} :
  Passes (CX1 P w) (cxOf (CX1 P w) P w K mg base N qual scope f cd A outer s H E) E:=by
 intro pins σ H1 s1 ev s' I hq
 obtain ⟨ea,T,H',C,od,rfl,os,bare,un,hok,xa,f1,f2,n1,n2,hE⟩:=hq
 have J:Inv (cxOf (CX1 P w) P w K mg base N qual scope f cd A outer s H E) pins σ H' s':=I.call' (ch:=[]) os un hok bare (fun b z=>absurd z (by simp))
 have b1:=J.base
 have o1:=I.none_ours f1 (show ea ∉ ([]:List Addr) by simp)
 have o2:=I.none_ours f2 (show T ∉ ([]:List Addr) by simp)
 show wpAny _ _ (leaving _ (.ref ea)) _ _ s'
 unfold leaving
 refine Xaa (zb6 J.ok.frames J.stack (L:=s.heap.objs.size) rfl xa fun h1 T2 fT2 sl x2=>zbT x2 fun h2 sl2 x3=>?_)
 have oT:s.heap.get? T2=none:=(J.none_ours fT2 (show T2 ∉ ([]:List Addr) by simp)).1
 have o1':s.heap.get? ea=none:=o1.1
 have o2':s.heap.get? T=none:=o2.1
 have nT2:∀ b o,s.heap.get? b=some o→b ∉ [T2]:=fun b o q z=>by rw [Xac.mp z,oT] at q;cases q
 have ne:∀ b o,s.heap.get? b=some o→b ∉ [ea,T]:=fun b o q z=>by
  rcases Xal.mp z with r | r
  ·rw [r,o1'] at q;cases q
  ·rw [Xac.mp r,o2'] at q;cases q
 have nL:∀ b o,s.heap.get? b=some o→b ∉ frs outer→b ∉ ((envOfC qual scope s.heap.objs.size f cd) :: outer).filterMap (·.frame):=fun b o q hb z=>by
  rcases Xal.mp (show b∈s.heap.objs.size :: outer.filterMap (·.frame) from z) with r | r
  ·exact absurd r (Xar (Xaj q))
  ·exact hb r
 have J1:HOk P w H' h1:=J.hok.slid sl (fun b hb=>J.stkFree b hb) fun b hb=>by
  rcases Xal.mp hb with rfl | hb
  ·exact n1
  ·rw [Xac.mp hb];exact n2
 have n3:H' T2=none:=J.hok.none_of fT2
 refine ⟨ea,T2,H',C,od,rfl,J.os,J.bare,⟨fun b o q n hb _=>?_,fun b o q n hb _=>?_,fun b o q n _=>b1.free b o q n (by show b ∉ ([]:List Addr);simp),fun b o q _=>?_,b1.tups,b1.frzs,b1.tbls⟩,?_,x3,o1',oT,n1,n3,hE⟩
 ·have q1:=(sl b o (b1.keep b o q n hb (by show b ∉ ([]:List Addr);simp)) (ne b o q)).1 (nL b o q hb)
  exact (sl2 b o q1 (nT2 b o q)).1 (by simp)
 ·obtain ⟨t1,e1⟩:=b1.slot b o q n hb (by show b ∉ ([]:List Addr);simp)
  obtain ⟨t2,e2⟩:=(sl b _ e1 (ne b o q)).2
  exact (sl2 b _ e2 (nT2 b o q)).2.elim fun t3 e3=>⟨t3,e3⟩
 ·obtain ⟨o',e1⟩:=b1.there b o q (by show b ∉ ([]:List Addr);simp)
  obtain ⟨t2,e2⟩:=(sl b _ e1 (ne b o q)).2
  obtain ⟨t3,e3⟩:=(sl2 b _ e2 (nT2 b o q)).2
  exact ⟨_,e3⟩
 ·exact J1.slid sl2 (fun b hb=>nomatch hb) fun b hb=>by rw [Xac.mp hb];exact n3
section
variable {P:Program}{w:World}{K:W.Frag}{mg:Str→Option Value}{base:Heap}{N:List Str}{qual:Str}{scope:Scope}{f:Addr}{cd:Value}{A:Around}{outer:List Env}{s:Shared}{H:Hp}{E:XK}
variable {k:Nat}{ps:List Str}{sp:Sp}{x:Str}{p pos:Pos}{e:Expr}{es:List Expr}{t:TA}
end
end L2
end
section
namespace L2
open PySem PySem.Spec PyProof.Rows HT
section
variable {X:Cx}{k:Nat}{ps:List Str}{sp:Sp}{x fn cn n y:Str}{i j l:Nat}{Cb:Addr}{e:Expr}{es:List Expr}{t:TA}{px p1 p2 p3 p4 p5 p6 p7 p8 p9:Pos}
end
end L2
end
section
namespace L2
open PySem PySem.Spec PyProof.Rows HT
theorem zfl {prog:Program}{w:World}{A:Around}(hh:A.handled=none)(it l:Addr)(hne:l≠it)(items:Array Value) :
  Draws prog w A it [it,l] items.size (fun i v=>items[i]? = some v) (fun i h=>IsIt true h it l i∧IsSq true h l items) where
 live:=fun _ _ st=>let ⟨o,ho,_⟩:=st.1;⟨o,ho⟩
 frame:=fun _ _ _ st hk=>⟨st.1.at fun o e=>hk it (by simp) o e,st.2.at fun o e=>hk l (by simp) o e⟩
 item:=fun i s Q E hi st hQ=>by
  refine zf1 st.1 st.2 (x:=items[i]) (by simp [hi]) fun h' hit' hs'=>?_
  exact hQ _ h' s.toks (by simp [hi]) ⟨hit',st.2.at fun o e=>hs'.extBut l o hne e⟩ hs'
 done:=fun s Q E st hE=>zjQ hh st.1 st.2 (by simp) hE
set_option tactic.hygienic true in
theorem zb1 (l:Addr)(items:Array Value)(n:Nat)(dct:Option Addr)(sl:Array (Option Value)) :
  Meets (Builtin.«enumerate.__new__» ⟨[.type "enumerate",.ref l],[]⟩) (fun _ R s=>s.heap.get? l=some { cls:=.type "tuple",dict:=dct,data:=.seq items n,slots:=sl } ∧
   R (.ok (.ret (.ref (s.heap.push { cls:=.type "tuple_iterator",data:=.fields #[.ref l,.int 0 0] }).objs.size)))
    { s with heap:=(s.heap.push { cls:=.type "tuple_iterator",data:=.fields #[.ref l,.int 0 0] }).push { cls:=.type "enumerate",data:=.fields #[.none,.bool false,.ref s.heap.objs.size,rawInt 0,.none,.none] } }):=
 .of_wp fun prog w A R s h=>by
  obtain ⟨hp,g,d,tk,os⟩:=s;obtain ⟨hl,h⟩:=h
  have hsub:=sub_enumerate
  have hL:Heap.IsTuple (Shared.heap ⟨hp,g,d,tk,os⟩) l items:=⟨_,hl,rfl,n,rfl⟩
  wp_walk using wpAny_loadPart' hl
  refine wpAny_stack_any fun st=>Xad ?_
  split
  ·rename_i c _ _ _ _ _
   cases (c == Value.type "enumerate")
   ·wp_walk using wpAny_loadPart' hl,XbO hL
    exact ⟨_,rfl,h⟩
   ·wp_walk using wpAny_loadPart' hl,XbO hL
    exact ⟨_,rfl,h⟩
  ·wp_walk using wpAny_loadPart' hl,XbO hL
   exact ⟨_,rfl,h⟩
theorem zct {prog:Program}{w:World}{A:Around}{E:Value→Shared→Prop}{s:Shared}{l:Addr}{items:Array Value}{Q:Value→Shared→Prop}(hL:IsSq true s.heap l items)
  (h:∀ h',IsEnum h' (s.heap.objs.size+1) s.heap.objs.size 0 .none→IsIt true h' s.heap.objs.size l 0→h'.objs.size=s.heap.objs.size+2 →
   (∀ b o,s.heap.get? b=some o→h'.get? b=some o)→Q (.ref (s.heap.objs.size+1)) { s with heap:=h' }) :
  wpAny (model prog w) A (call (.type "enumerate") [.ref l]) Q E s:=by
 obtain ⟨⟨c,dct,dt,sl⟩,hl,hc,n,hd⟩:=hL
 replace hc:c = .type "tuple" := hc
 replace hd:dt = .seq items n:=hd
 subst hc hd
 refine callType_new F.called_enumerate (by decide) (F.typeCall_enumerate_1 _) (F.newCall_enumerate_1 _) (fun obj=>F.args_object_init_2 obj _) F.entry_enumerate_new
  (zb1 l items n dct sl) ⟨hl,?_⟩
 have hz:(s.heap.push { cls:=.type "tuple_iterator",data:=.fields #[.ref l,.int 0 0] }).objs.size=s.heap.objs.size+1:=XaG ..
 show _∧_
 rw [hz]
 have he:IsEnum ((s.heap.push { cls:=.type "tuple_iterator",data:=.fields #[.ref l,.int 0 0] }).push
   { cls:=.type "enumerate",data:=.fields #[.none,.bool false,.ref s.heap.objs.size,rawInt 0,.none,.none] }) (s.heap.objs.size+1) s.heap.objs.size 0 .none:=by
  have:=Xah (s.heap.push { cls:=.type "tuple_iterator",data:=.fields #[.ref l,.int 0 0] })
   (o:={ cls:=.type "enumerate",data:=.fields #[.none,.bool false,.ref s.heap.objs.size,rawInt 0,.none,.none] }) rfl
  rw [hz] at this;exact this
 refine ⟨⟨_,he,rfl⟩,h _ he ⟨_,Xab _ (Xah _ rfl),rfl,rfl⟩ (by rw [XaG,hz]) fun b o x=>Xab _ (Xab _ x)⟩
def IteT (K:W.Frag)(a:Addr):It:=
 ⟨fun i H=>∃ xs x,SqT K H a xs∧xs[i]? = some x,
  fun i H v H'=>∃ T x,H T=none∧v = .ref T∧H'=upd H T (.tup [.int i,x])∧∀ xs,SqT K H a xs→xs[i]? = some x,
  fun i H=>∃ xs,SqT K H a xs∧xs.length=i⟩
theorem zgM {P:Program}{w:World}{K:W.Frag}{elts:List Expr}{kt:Nat}{tp:Pos}(a e it:Addr)(hne:e≠it) :
  Turn P w K (.Tuple elts kt tp) (IteT K a) [e,it] e (fun i h=>(∃ old,IsEnum h e it i old)∧IsIt true h it a i) where
 mem:=by simp
 obj:=fun i h st b hb=>by
  obtain ⟨⟨old,he⟩,hi⟩:=st
  rcases Xal.mp hb with z | z
  ·subst z
   exact ⟨_,he,fun v z=>by
    have z':Data.fields _=Data.cell v:=z
    cases z'⟩
  ·have z:=Xac.mp z
   subst z
   obtain ⟨o,e1,c,d⟩:=hi
   exact ⟨o,e1,fun v z=>by rw [d] at z;cases z⟩
 keep:=fun i h h' st k=>by
  obtain ⟨⟨old,he⟩,hi⟩:=st
  exact ⟨⟨old,k e (by simp) _ he⟩,hi.at fun o e1=>k it (by simp) o e1⟩
 item:=by
  intro X hP hw hK hc i pins s σ H E I hf st hg
  subst hP hw hK
  obtain ⟨xs,x,hq,hx⟩:=hg
  obtain ⟨its,rv,p,hz⟩:=I.tuple hq
  obtain ⟨u,hu,ru⟩:=rv.get hx
  obtain ⟨⟨old,he⟩,hi⟩:=st
  have hsq:IsSq true s.heap a its.toArray:=p
  have cls:∀ b o,s.heap.get? b=some o→o.cls≠.type "tuple" → a≠b:=fun b o e nc z=>by
   obtain ⟨oa,ea,ca,_⟩:=hsq
   rw [z,e] at ea;cases ea;exact nc ca
  have hai:a≠it:=by
   obtain ⟨o,e1,c,_⟩:=id hi
   exact cls it o e1 (by rw [c];decide)
  have hae:a≠e:=cls e _ he (by show Value.type "enumerate" ≠ Value.type "tuple"; decide)
  have hlt:i<its.toArray.size:=by
   have:=(Xag.mp hu).1
   simpa using this
  refine wpAny_pyNext_enum_itemD (zfl (prog:=X.prog) (w:=X.w) (A:=X.A.in1) (show X.A.in1.handled=none from I.ok.hd hc) it a hai its.toArray) he ⟨hi,hsq⟩ hlt hne (by simp [hne,Ne.symm hae]) fun x' h' tk hx' ho st' ht hsz kk=>⟨_,rfl,?_⟩
  have ex:x'=u:=by
   have e1:its[i]? = some x':=by simpa using hx'
   rw [hu] at e1;cases e1;rfl
  subst ex
  refine wpAny_letOwnedTupleGo_enum ho fun h2 he2 sb=>?_
  have fT:FpOk X pins H s.heap.objs.size:=I.fpOk (Xaf _) (I.hok.fresh (Xaf _))
  have k2:∀ b o,b ∉ [e,it]→s.heap.get? b=some o→h2.get? b=some o:=fun b o hb e1=>by
   simp only [Xal,Xbd,or_false,not_or] at hb
   exact (sb.2 b hb.1).trans (kk b o hb.1 hb.2 e1)
  have I1:Inv X pins σ H { s with heap:=h2,toks:=tk+1 }:=I.turnedL (ch:=[e,it]) k2 hf
  have eT:h2.get? s.heap.objs.size=some { cls:=.type "tuple",data:=.seq #[.int i tk,x'] }:=(sb.2 _ (Xbk (Xaj he))).trans ht
  have I2:=I1.track (o:=.tup [.int i,x]) fT (Xav I.sz (Xaf _)) (zde ⟨_,rfl⟩ ru eT)
  refine ⟨.ref s.heap.objs.size,_,I2,rfl,⟨_,x,fT.1,rfl,rfl,fun ys hy=>by rw [I.tuple_inj hy hq];exact hx⟩,⟨⟨x',by exact_mod_cast he2⟩,st'.1.at fun o e1=>sb.extBut it o (Ne.symm hne) e1⟩,fun b hb=>?_⟩
  obtain ⟨o,eb⟩:∃ o,s.heap.get? b=some o:=by
   rcases Xal.mp hb with z | z
   ·subst z;exact ⟨_,he⟩
   ·have z:=Xac.mp z
    subst z
    obtain ⟨o,e1,_⟩:=hi
    exact ⟨o,e1⟩
  rw [zag (Xar (Xaj eb))]
  exact (hf b hb).1
 done:=by
  intro X hP hw hK hc i pins s σ H E I hf st hg
  subst hP hw hK
  obtain ⟨xs,hq,hx⟩:=hg
  obtain ⟨its,rv,p,hz⟩:=I.tuple hq
  obtain ⟨⟨old,he⟩,hi⟩:=st
  have hl:=rv.length
  have hsq:IsSq true s.heap a its.toArray:=p
  have hai:a≠it:=fun z=>by
   obtain ⟨oa,ea,ca,_⟩:=id hsq
   obtain ⟨o,e1,c,_⟩:=id hi
   rw [z,e1] at ea;cases ea
   rw [c] at ca;exact absurd ca (by decide)
  have en:its.toArray.size=i:=by rw [Xam];omega
  refine wpAny_pyNext_enum_endD (zfl (prog:=X.prog) (w:=X.w) (A:=X.A.in1) (show X.A.in1.handled=none from I.ok.hd hc) it a hai its.toArray) he (by rw [en];exact ⟨hi,hsq⟩) fun h' eb=>⟨rfl,I.turnedL (t':=s.toks) (ch:=[e,it]) (fun b o hb e1=>eb b o (fun z=>hb (by simp [z])) e1) hf⟩
 self:=fun _ _ _ _ _ st h=>by
  obtain ⟨⟨old,he⟩,hi⟩:=st
  exact wpAny_pyIter_enum he h
inductive iEnumT_1 (K:W.Frag)(R:It→Hp→Prop)(vs:List V)(H1:Hp):Prop
 | mk (a:_) (z0_:vs=[.ref a]) (z1_:(∃ xs,SqT K H1 a xs)) (z2_:R (IteT K a) H1)
def iEnumT (K:W.Frag)(ta:TA):TI:=fun σ H R=>ta σ H (iEnumT_1 K R)
theorem zep {X:Cx}{a:Expr}{ta:TA}{p pos:Pos}{elts:List Expr}{kt:Nat}{tp:Pos}(hg:Gl X "enumerate")(hm:X.mg "enumerate" = none)(ha:PA X [a] ta)(hs:starEach [a] X.env=[(false,eval a X.env)]:=by rfl) :
  PI X (.Tuple elts kt tp) (.Call (.Name "enumerate" p) [a] [] pos) (iEnumT X.K ta):=by
 intro pins s σ H R I h
 refine Call_ (zcr I hg hm boot_enumerate (PyProof.Rows.callWith_type1 (thn (ha pos pins s σ H _ I h) fun us s1 hh_=>?_) hs rfl))
 obtain ⟨vs,H1,I1,r1,q1⟩:=hh_
 obtain ⟨l,e,⟨xs,hq⟩,q⟩:=q1
 subst e
 obtain ⟨u,rfl,ru⟩:=zcw r1
 cases ru
 obtain ⟨its,rv,pl,hz⟩:=I1.tuple hq
 refine zct (items:=its.toArray) pl fun h' he hi hsz kk=>?_
 refine wpAny_pyIter_enum he ?_
 have I2:Inv X pins σ H1 { s1 with heap:=h',toks:=s1.toks }:=I1.kept kk
 refine ⟨s1.heap.objs.size+1,[s1.heap.objs.size+1,s1.heap.objs.size],_,_,H1,rfl,I2,zgM l _ _ (Nat.succ_ne_self _),⟨⟨_,he⟩,hi⟩,fun b hb=>?_,q⟩
 rcases Xal.mp hb with z | z
 ·subst z;exact I1.fpOk (XbL _) (I1.hok.fresh (XbL _))
 ·have z:=Xac.mp z
  subst z;exact I1.fpOk (Xaf _) (I1.hok.fresh (Xaf _))
theorem zdI {K:PySem.W.Frag}{a:Addr}{xs:List V}{g:TG}{tb:TS}{D:Ends}{σ:St}{H:Hp}(Pv:Nat→St→Hp→Prop)(h0:Pv 0 σ H)(hl:∀ i σ H,i≤xs.length→Pv i σ H→SqT K H a xs)
  (hs:∀ i x T σ H,xs[i]? = some x→H T=none→Pv i σ H→g (.ref T) σ (upd H T (.tup [.int i,x])) fun σ2 H2=>tb { D with nx:=Pv (i+1),ct:=Pv (i+1),bk:=D.nx } σ2 H2) (hd:∀ σ H,Pv xs.length σ H→D.nx σ H) :
  ∃ W:Nat→Nat→St→Hp→Prop,(∃ m,W 0 m σ H)∧∀ i m σ H,W i m σ H →
   ((IteT K a).stop i H∧D.nx σ H)∨((IteT K a).go i H∧∃ N:St→Hp→Prop,(∀ σ' H',N σ' H'→∃ m',m'<m∧W (i+1) m' σ' H')∧∀ x H',(IteT K a).yld i H x H'→g x σ H' fun σ2 H2=>tb { D with nx:=N,ct:=N,bk:=D.nx } σ2 H2):=by
 refine ⟨fun i m σ H=>m=xs.length - i∧i≤xs.length∧Pv i σ H,⟨xs.length,by simp,Nat.zero_le _,h0⟩,?_⟩
 rintro i m σ H ⟨rfl,hi,p⟩
 have q:=hl i σ H hi p
 by_cases hlt:i<xs.length
 ·refine .inr ⟨⟨xs,xs[i],q,by simp [hlt]⟩,Pv (i+1),fun σ' H' p'=>⟨xs.length - (i+1),by omega,rfl,hlt,p'⟩,fun v H' y=>?_⟩
  obtain ⟨T,x,hT,rfl,rfl,y⟩:=y
  exact hs i x T σ _ (y xs q) hT p
 ·have e:i=xs.length:=by omega
  subst e
  exact .inl ⟨⟨xs,q,rfl⟩,hd σ H p⟩
end L2
end
section
namespace L2
open PySem PySem.Spec PyProof.Rows HT
section
variable {prog:Program}{w:World}{A:Around}{E:Value→Shared→Prop}{s:Shared}
theorem zdi {r:Addr}{Q:Value→Shared→Prop}(h:wpAny (model prog w) A.in1 (collect (.ref r)) (fun vs s1=>vs.length≤sizeLine∧wpAny (model prog w) A.in1.in1 (Builtin.«list.sort» ⟨[.ref s1.heap.objs.size],[]⟩)
   (fun fin s2=>fin = .done (.ret .none)∧Q (.ref s1.heap.objs.size) s2) E { s1 with heap:=s1.heap.push (seqObj "list" vs.toArray 0) }) E s) :
  wpAny (model prog w) A (call (.builtin "sorted") [.ref r]) Q E s:=by
 refine Calls.call_function_entry kind_sorted plain_sorted entry_sorted (args_sorted1 _) ?_
 unfold Builtin.«sorted»
 refine Xaa (m:=checkCount "sorted" 1 1 _) (Xad ?_)
 refine Xaa (Xaz h (fun vs s1 ⟨hz,h⟩=>?_) fun _ _ e=>e)
 refine Xaa (wpAny_newList ?_ hz)
 refine Xaa (XaO (Xa0 slot_list_sort ⟨_,Xah _ rfl,rfl⟩ entry_list_sort (Xaz h (fun fin s2 ⟨e,q⟩=>?_) fun _ _ e=>e) (args_list_sort _)))
 subst e
 exact ⟨_,rfl,Xad ⟨_,rfl,q⟩⟩
end
theorem zgv:∀ {vs:List Value} {ns:List Int},vs.length=ns.length→(∀ (j:Nat) (v:Value),vs[j]? = some v→∃ n t,ns[j]? = some n∧v = .int n t)→IntsAre vs ns
 | [],[],_,_=>.nil
 | v :: vs,n :: ns,hl,h=>by
  obtain ⟨m,t,e,rfl⟩:=h 0 v rfl
  cases e
  exact .cons _ _ (zgv (by simpa using hl) fun j v hv=>h (j+1) v hv)
 | [],_ :: _,hl,_=>by simp at hl
 | _ :: _,[],hl,_=>by simp at hl
theorem zdG {κ:Type}:∀ {kvs:List (κ×V)} {vs:List (κ×Value)},KV kvs vs→vs.length=kvs.length
 | _,_,.nil=>rfl
 | _,_,.cons _ r=>by rw [Xay,Xay,zdG r]
theorem zhX {κ:Type}:∀ {kvs:List (κ×V)} {vs:List (κ×Value)},KV kvs vs→∀ (j:Nat) (k:κ) (x:Value),vs[j]? = some (k,x)→∃ y,kvs[j]? = some (k,y)∧RelV y x
 | _,_,.nil,j,k,x,h=>by simp at h
 | _,_,.cons (a:=a) hp r,0,k,x,h=>by
  obtain ⟨a1,a2⟩:=a
  cases h
  obtain ⟨e,rr⟩:=hp
  exact ⟨a2,by rw [show a1=k from e];rfl,rr⟩
 | _,_,.cons _ r,j+1,k,x,h=>zhX r j k x h
section
variable {X:Cx}
theorem zfq (hc:X.calm=true):zbH X (.builtin "sorted") (fun xs H Q=>∃ (a:Addr) (kvs:List (Key×V)) (ks:List Int),xs=[.ref a]∧H a=some (.dK kvs)∧kvs.map (·.1)=ks.map Sum.inl∧ks.length<64 ∧
  ∀ (l:Addr) (ns:List Int),H l=none→ns.Perm ks→ns.Pairwise (·≤·)→Q (.ref l) (upd H l (.lst (ns.map V.int)))):=by
 intro pins s σ H xs us Q I r h
 obtain ⟨a,kvs,ks,rfl,e,hk,h64,q⟩:=h
 obtain ⟨u,rfl,r1⟩:=zcw r
 obtain rfl:u=Value.ref a:=r1
 obtain ⟨hz,lo,vs,rel,dd⟩:=zia I.hok e
 obtain ⟨ep,hat⟩:=dd.dictAt
 have hl:vs.length=kvs.length:=zdG rel
 have hl2:kvs.length=ks.length:=by have:=congrArg List.length hk;simpa using this
 refine zdi (W.kdu_collect (W.kdl_dict (knd:=zaI X.prog X.w) (kvs:=vs) (ep:=ep) lo) (I.ok.hd hc) hat (by omega) fun h' tk acc kp it=>⟨by rw [Array.length_toList,it.1,hl];exact hz,?_⟩)
 have hI:IntsAre acc.toList ks:=zgv (by rw [Array.length_toList,it.1];omega) fun j v hv=>by
  obtain ⟨k,x,hx,hkey⟩:=it.2 j v (by rw [← Xbh];exact hv)
  obtain ⟨y,hy,_⟩:=zhX rel j k x hx
  have e1:(kvs.map (·.1))[j]? = some k:=by rw [Xan,hy];rfl
  rw [hk,Xan] at e1
  obtain ⟨n,hn,rfl⟩:=Xaw.mp e1
  rcases zaD (show zfc (Sum.inl n) v=true from hkey) with ⟨i,t,e2,e3⟩ | ⟨_,_,e2,_⟩
  ·cases e2;exact ⟨_,t,hn,e3⟩
  ·cases e2
 refine list_sort_tree (s:={ s with heap:=h'.push (seqObj "list" acc.toList.toArray 0),toks:=tk }) (Xah _ rfl) hI (by rw [Array.length_toList,it.1];omega) fun out ns a1 a2 a3=>⟨rfl,?_⟩
 have hsz:h'.objs.size<(h'.push (seqObj "list" acc.toList.toArray 0)).objs.size:=by rw [XaG];exact Xa2 _
 have I2:Inv X pins σ H { s with heap:=h',toks:=tk }:=I.kept kp
 obtain ⟨c,hc'⟩:=sortedHeap_at (a:=h'.objs.size) (vs:=acc.toList) (out:=out) (Xah (h:=h') (o:=seqObj "list" acc.toList.toArray 0) rfl)
 refine ⟨.ref _,_,I2.laid (t':=tk) (o:=.lst (ns.map V.int)) (fun b o eb=>?_) (Xaf _) ?_,rfl,q _ ns (I2.hok.fresh (Xaf _)) a2 a3⟩
 ·have hb:=Xaj eb
  rw [sortedHeap_old (Xar hb) (Xbx hb hsz)]
  exact Xab _ eb
 ·refine ⟨?_,out.toList,_,zcl a1,by simpa [seqObj] using hc'⟩
  rw [Xae,a2.length_eq]
  exact Xav (Xbv h64) (by decide)
def vwD (p a:Addr):Heap→Prop:=fun h=>h.IsItemsView p a
theorem zi7:MtR X "dict.items" (fun x vs H Q=>∃ (a:Addr) (kvs:List (Key×V)),x = .ref a∧vs=[]∧H a=some (.dK kvs)∧∀ p,H p=none→Q (.ref p) (upd H p (.ext (vwD p a)))):=by
 rintro pins s σ H x vs v us Q I rx rv ⟨a,kvs,rfl,rfl,e,q⟩
 obtain rfl:v=Value.ref a:=rx
 have hus:=rv.zero
 subst hus
 obtain ⟨hz,lo,vs,rel,dd⟩:=zia I.hok e
 refine call_meetsIn PySem.F.slot_dict_items dd.typeIs PySem.F.entry_dict_items (PySem.F.args_dict_items_1 _) (meets_dict_items (zaI X.prog X.w) a lo) ⟨⟨vs,dd⟩,?_⟩
 refine ⟨.ref s.heap.objs.size,_,I.laid (t':=s.toks) (o:=.ext (vwD s.heap.objs.size a)) (fun b o eb=>Xab _ eb) (Xaf _) ?_,rfl,q _ (I.hok.fresh (Xaf _))⟩
 have g:(s.heap.push { cls:=.type "dict_items",data:=.fields #[.ref a] }).get? s.heap.objs.size=some { cls:=.type "dict_items",data:=.fields #[.ref a] }:=Xah _ rfl
 exact ⟨⟨_,g,rfl,rfl⟩,⟨_,g⟩,fun h1 h2 ⟨o1,q1,q2,q3⟩ k=>⟨o1,k _ q1,q2,q3⟩⟩
end
end L2
end
section
namespace L2
open PySem PySem.Spec PyProof.Rows HT
section
variable {prog:Program}{w:World}{A:Around}{E:Value→Shared→Prop}{s:Shared}
def tupI (k v:Int)(t u:Tok):Obj:={ cls:=.type "tuple",data:=.seq #[.int k t,.int v u] }
theorem zkG (C:Nat→Nat→(Bool→Shared→Prop)→Shared→Prop)(G:Array Nat→Shared→Prop)(b:Bool)(s1:Shared)(hc:∀ K:Bool→Shared→Prop,K b s1→C 1 0 K s1)(hG:G (if b=true then #[1,0] else #[0,1]) s1):(W.kas_sort 2).kasWp C G s1:=by
 refine hc _ ?_
 cases b with
 | true=>exact hG
 | false=>exact hG
theorem ziH {a x y:Addr}{n:Nat}{P:PySem.Fin→Shared→Prop}{k1 v1 k2 v2:Int}{t1 u1 t2 u2:Tok}(ho:s.heap.get? a=some (seqObj "list" [Value.ref x,Value.ref y].toArray n))(hx:s.heap.get? x=some (tupI k1 v1 t1 u1))(hy:s.heap.get? y=some (tupI k2 v2 t2 u2))(hxa:x≠a)(hya:y≠a)(hne:k2≠k1)
  (h:P (.done (.ret .none)) { s with heap:=sortedHeap s.heap a [Value.ref x,Value.ref y] (if k2<k1 then #[Value.ref y,Value.ref x] else #[Value.ref x,Value.ref y]) }) :
  wpAny (model prog w) A (Builtin.«list.sort» ⟨[.ref a],[]⟩) P E s:=by
 rw [list_sort_plain]
 have ha:a<s.heap.objs.size:=Xaj ho
 refine Xaa (listItems_at ho rfl ?_)
 refine Xaa (listUpdate_at ho rfl ?_ (by show 2≤sizeLine;decide) (Nat.zero_le _))
 obtain ⟨e1,ho1⟩:∃ e1,(s.heap.update a (Obj.mapSeq fun _=>#[])).get? a=some (seqObj "list" #[] e1):=⟨_,get?_update_seq ho (fun _=>#[])⟩
 refine Xaa (seqEpoch_at ho1 rfl ?_)
 refine Xaa (wpAny_newTuple ?_ (by show 2≤sizeLine;decide))
 refine Xaa (wpAny_newList ?_ (Nat.zero_le _))
 refine XaO ?_
 have ho6:(((s.heap.update a (Obj.mapSeq fun _=>#[])).push (seqObj "tuple" [Value.ref x,Value.ref y].toArray 0)).push (seqObj "list" #[] 0)).get? a=some (seqObj "list" #[] e1):=by
  rw [Heap.get?_push_ne _ _ _ (by rw [size_push',Heap.size_update];exact Xar (Xbn ha)),Heap.get?_push_ne _ _ _ (by rw [Heap.size_update];exact Xar ha)]
  exact ho1
 have oth:∀ b o,b≠a→s.heap.get? b=some o→(((s.heap.update a (Obj.mapSeq fun _=>(#[]:Array Value))).push (seqObj "tuple" [Value.ref x,Value.ref y].toArray 0)).push (seqObj "list" #[] 0)).get? b=some o:=fun b o hb e =>
  Xab _ (Xab _ ((XaE _ _ (Ne.symm hb)).trans e))
 have hx6:=oth x _ hxa hx
 have hy6:=oth y _ hya hy
 show wpAny (model prog w) A _ P E { s with heap:=((s.heap.update a (Obj.mapSeq fun _=>#[])).push (seqObj "tuple" [Value.ref x,Value.ref y].toArray 0)).push (seqObj "list" #[] 0) }
 dsimp only
 have hn2:¬ [Value.ref x,Value.ref y].toArray.size<2:=by simp
 rw [if_neg hn2,if_neg hn2]
 refine Xaa (W.kat_kind (vs:=[.ref x,.ref y]) (fs:=[.int k1 t1,.int k2 t2]) (T:=.type "int") (.cons hx6 rfl rfl rfl (.cons hy6 rfl rfl rfl .nil)) (by show 0<2;decide) (fun v hv=>?_) rfl ?_)
 ·rcases Xal.mp hv with rfl | hv
  ·exact W.Looks.of_pure rfl
  ·rw [Xac.mp hv];exact W.Looks.of_pure rfl
 refine Xaa (Xaz (W.kat_run (ks:=[Value.ref x,Value.ref y]) (vs:=[Value.ref x,Value.ref y]) (G:=fun p s'=>p=(if decide (k2<k1)=true then #[1,0] else #[0,1])∧s'={ s with heap:=((s.heap.update a (Obj.mapSeq fun _=>(#[]:Array Value))).push (seqObj "tuple" [Value.ref x,Value.ref y].toArray 0)).push (seqObj "list" #[] 0) })
  (Q:=fun st' s'=>(∃ p:Array Nat,p=(if decide (k2<k1)=true then #[1,0] else #[0,1])∧arrOf st'=p.map (W.kas_item ([Value.ref x,Value.ref y].toArray.zip [Value.ref x,Value.ref y].toArray))∧failedOf st'=none)∧s'={ s with heap:=((s.heap.update a (Obj.mapSeq fun _=>(#[]:Array Value))).push (seqObj "tuple" [Value.ref x,Value.ref y].toArray 0)).push (seqObj "list" #[] 0) })
  rfl (by show 2≤2;decide) (by show 2<64;decide) (fun p st' s' _ a2 a3 a4=>⟨⟨p,a4.1,a2,a3⟩,a4.2⟩) (zkG _ _ (decide (k2<k1)) _ (fun K hK=>?_) ⟨rfl,rfl⟩)) ?_ fun _ _ e=>e)
 ·show wpAny (model prog w) A (keyLt' (tuples' true) (.ref y) (.ref x)) K (fun _ _=>False) _
  refine W.kat_lt hy6 rfl hx6 rfl ?_
  show wpAny (model prog w) A (eqBool (.int k2 t2) (.int k1 t1)) _ _ _
  refine wpAny_eqBool_int ?_
  have e:(k2 == k1)=false:=by simpa using hne
  rw [e]
  show wpAny (model prog w) A (oneLt' (true && 0 == 0) (.int k2 t2) (.int k1 t1)) K _ _
  exact oneLt_int hK
 ·rintro ⟨⟨⟩,st'⟩ s' ⟨⟨p,hp,har,hf⟩,rfl⟩
  dsimp only
  have hout:=W.kat_snds (ks:=[Value.ref x,Value.ref y]) (vs:=[Value.ref x,Value.ref y]) rfl har
  rw [hout]
  have eo:List.toArray (p.toList.map fun i=>[Value.ref x,Value.ref y].getD i Value.none)=(if k2<k1 then #[Value.ref y,Value.ref x] else #[Value.ref x,Value.ref y]):=by
   rw [hp]
   by_cases z:k2<k1 <;> simp [z]
  rw [eo]
  refine Xaa (seqEpoch_at ho6 rfl ?_)
  refine Xaa (listUpdate_at ho6 rfl ?_ (Nat.zero_le _) (by split <;> (show 2≤sizeLine+1;decide)))
  rw [hf]
  simp only [bne_self_eq_false,XbP,if_false]
  exact Xad h
end
end L2
end
section
set_option autoImplicit false
namespace L2
open PySem PySem.Spec PyProof.Rows HT Cb
section
variable {prog:Program}{w:World}{A:Around}{E:Value→Shared→Prop}{s:Shared}
theorem zgj {a:Addr}{vs:List Value}{n:Nat}{P:PySem.Fin→Shared→Prop}(ho:s.heap.get? a=some (seqObj "list" vs.toArray n))(hf:vs.length<2)
  (h:P (.done (.ret .none)) { s with heap:=sortedHeap s.heap a vs vs.toArray }):wpAny (model prog w) A (Builtin.«list.sort» ⟨[.ref a],[]⟩) P E s:=by
 rw [list_sort_plain]
 have ha:a<s.heap.objs.size:=Xaj ho
 have hz:vs.length≤sizeLine:=Xav (Xbv hf) (by decide)
 refine Xaa (listItems_at ho rfl ?_)
 refine Xaa (listUpdate_at ho rfl ?_ (by rw [Xam];exact hz) (Nat.zero_le _))
 obtain ⟨e1,ho1⟩:∃ e1,(s.heap.update a (Obj.mapSeq fun _=>#[])).get? a=some (seqObj "list" #[] e1):=⟨_,get?_update_seq ho (fun _=>#[])⟩
 refine Xaa (seqEpoch_at ho1 rfl ?_)
 refine Xaa (wpAny_newTuple ?_ hz)
 refine Xaa (wpAny_newList ?_ (Nat.zero_le _))
 refine XaO ?_
 have ho6:(((s.heap.update a (Obj.mapSeq fun _=>#[])).push (seqObj "tuple" vs.toArray 0)).push (seqObj "list" #[] 0)).get? a=some (seqObj "list" #[] e1):=by
  rw [Heap.get?_push_ne _ _ _ (by rw [size_push',Heap.size_update];exact Xar (Xbn ha)),Heap.get?_push_ne _ _ _ (by rw [Heap.size_update];exact Xar ha)]
  exact ho1
 show wpAny (model prog w) A _ P E { s with heap:=((s.heap.update a (Obj.mapSeq fun _=>#[])).push (seqObj "tuple" vs.toArray 0)).push (seqObj "list" #[] 0) }
 dsimp only
 have h2:vs.toArray.size<2:=by rw [Xam];exact hf
 rw [if_pos h2,if_pos h2]
 refine Xaa (Xad ?_)
 rw [StateT.run_pure]
 refine Xaa (Xad ?_)
 dsimp only
 have eo:(arrOf (SortSt.mk' general' (vs.toArray.zip vs.toArray) #[] 7 none)).map (·.2)=vs.toArray:=by
  show (vs.toArray.zip vs.toArray).map (·.2)=vs.toArray
  apply Array.ext
  ·simp
  ·intro i h1 h2;simp
 rw [eo]
 refine Xaa (seqEpoch_at ho6 rfl ?_)
 refine Xaa (listUpdate_at ho6 rfl ?_ (Nat.zero_le _) (by show vs.toArray.size≤sizeLine+1;rw [Xam];omega))
 show wpAny (model prog w) A _ P E _
 simp only [bne_self_eq_false,XbP,if_false]
 exact Xad h
end
def srt2:List (Int×Int)→List (Int×Int)
 | [x,y]=>if y.1<x.1 then [y,x] else [x,y]
 | l=>l
def knV (kn:List (Int×Int)):List (Key×V):=kn.map fun q=>(Sum.inl q.1,V.int q.2)
theorem zfO {P:Program}{w:World}{kn:List (Int×Int)}{vs:List (Key×Value)}{lo:Addr}{h:Heap}{as:List Addr}(rel:KV (knV kn) vs)(g:W.KdxG (zaI P w) vs lo h as){j:Nat}{b:Addr}{q:Int×Int}(hb:as[j]? = some b)(hq:kn[j]? = some q) :
  ∃ t u,h.get? b=some (tupI q.1 q.2 t u):=by
 obtain ⟨key,k,x,hx,hkey,hg⟩:=g.pairs j b hb
 obtain ⟨y,hy,ry⟩:=zhX rel j k x hx
 have e1:(knV kn)[j]? = some (Sum.inl q.1,V.int q.2):=by unfold knV;rw [Xan,hq];rfl
 rw [e1] at hy
 cases hy
 obtain ⟨u,rfl⟩:=(show ∃ u,x=Value.int q.2 u from ry)
 rcases zaD (show zfc (Sum.inl q.1) key=true from hkey) with ⟨i,t,e2,e3⟩ | ⟨_,_,e2,_⟩
 ·cases e2;subst e3;exact ⟨t,u,hg⟩
 ·cases e2
section
variable {X:Cx}
theorem zfp (hc:X.calm=true):zbH X (.builtin "sorted") (fun xs H Q=>∃ (p a:Addr) (kn:List (Int×Int)),xs=[.ref p]∧H p=some (.ext (vwD p a))∧H a=some (.dK (knV kn))∧kn.length≤2∧(kn.map (·.1)).Nodup ∧
  ∀ (l:Addr) (ts:List Addr) (H':Hp),ts.length=kn.length→H l=none→Same H H'→H' l=some (.lst (ts.map V.ref))→(∀ (j:Nat) (t:Addr) (q:Int×Int),ts[j]? = some t→(srt2 kn)[j]? = some q→H t=none∧H' t=some (.tup [.int q.1,.int q.2]))→Q (.ref l) H'):=by
 intro pins s σ H xs us Q I r h
 obtain ⟨p,a,kn,rfl,ep,e,h2,nd,q⟩:=h
 obtain ⟨u,rfl,r1⟩:=zcw r
 obtain rfl:u=Value.ref p:=r1
 obtain ⟨hv,_,_⟩:=(show ObjOk X.prog X.w H s.heap p (.ext (vwD p a)) from I.hok p _ ep)
 obtain ⟨hz,lo,vs,rel,dd⟩:=zia I.hok e
 obtain ⟨epc,hat⟩:=dd.dictAt
 have hl:vs.length=kn.length:=by rw [zdG rel];unfold knV;rw [Xae]
 have hlz:vs.length≤sizeLine:=by rw [hl];exact Xav h2 (by decide)
 refine zdi (W.kdx_collect (knd:=zaI X.prog X.w) (kvs:=vs) (ep:=epc) (I.ok.hd hc) hv hat hlz fun h' tk as kp hla hG=>⟨by rw [Xae,hla];exact hlz,?_⟩)
 have I2:Inv X pins σ H { s with heap:=h',toks:=tk }:=I.kept kp
 have hsz:h'.objs.size<(h'.push (seqObj "list" (as.map Value.ref).toArray 0)).objs.size:=by rw [XaG];exact Xa2 _
 have hoL:(h'.push (seqObj "list" (as.map Value.ref).toArray 0)).get? h'.objs.size=some (seqObj "list" (as.map Value.ref).toArray 0):=Xah _ rfl
 have kpF:∀ (out:Array Value) b o,h'.get? b=some o→(sortedHeap (h'.push (seqObj "list" (as.map Value.ref).toArray 0)) h'.objs.size (as.map Value.ref) out).get? b=some o:=fun out b o eb=>by
  have hb:=Xaj eb
  rw [sortedHeap_old (Xar hb) (Xbx hb hsz)]
  exact Xab _ eb
 have frs:∀ b∈as,s.heap.objs.size≤b:=fun b hb=>Xbv (hG.above b hb)
 have hlk:as.length=kn.length:=by rw [hla,hl]
 have lst:∀ (out:List Addr) (H2:Hp) (I3:Inv X pins σ H2 { s with heap:=h',toks:=tk }),out.length≤2→Inv X pins σ (upd H2 h'.objs.size (.lst (out.map V.ref))) { s with heap:=sortedHeap (h'.push (seqObj "list" (as.map Value.ref).toArray 0)) h'.objs.size (as.map Value.ref) (out.map Value.ref).toArray,toks:=tk }:=fun out H2 I3 ho=>by
  obtain ⟨c,hc'⟩:=sortedHeap_at (a:=h'.objs.size) (vs:=as.map Value.ref) (out:=(out.map Value.ref).toArray) hoL
  refine I3.laid (t':=tk) (o:=.lst (out.map V.ref)) (kpF _) (Xaf _) ⟨?_,out.map Value.ref,_,?_,by simpa [seqObj] using hc'⟩
  ·rw [Xae];exact Xav ho (by decide)
  ·clear hc' ho
   induction out with
   | nil=>exact .nil
   | cons b r ih=>exact .cons rfl ih
 match kn,as,hlk,h2,nd,rel,hG,lst,q,frs with
 | [],[],_,_,_,_,_,lst,q,_ =>
  refine zgj (s:={ s with heap:=h'.push (seqObj "list" _ 0),toks:=tk }) hoL (by show 0<2;decide) ⟨rfl,?_⟩
  exact ⟨.ref _,_,lst [] H I2 (by decide),rfl,q _ [] _ rfl (I2.hok.fresh (Xaf _)) (zac (I2.hok.fresh (Xaf _))) zab fun j t qq e1 _=>by simp at e1⟩
 | [q1],[b],_,_,_,rel,hG,lst,q,frs =>
  obtain ⟨t1,u1,g1⟩:=zfO rel hG (j:=0) (b:=b) (q:=q1) rfl rfl
  have fb:H b=none:=I.hok.fresh (frs b (by simp))
  have I3:=I2.track (o:=.tup [.int q1.1,.int q1.2]) (I.fpOk (frs b (by simp)) fb) (Xav I.sz (frs b (by simp))) (zde ⟨_,rfl⟩ ⟨_,rfl⟩ g1)
  refine zgj (s:={ s with heap:=h'.push (seqObj "list" _ 0),toks:=tk }) hoL (by show 1<2;decide) ⟨rfl,?_⟩
  have fl:(upd H b (.tup [.int q1.1,.int q1.2])) h'.objs.size=none:=I3.hok.fresh (Xaf _)
  refine ⟨.ref _,_,lst [b] _ I3 (by show 1≤2;decide),rfl,q _ [b] _ rfl (I2.hok.fresh (Xaf _)) ((zac fb).trans (zac fl)) zab fun j t qq e1 e2=>?_⟩
  match j,e1,e2 with
  | 0,e1,e2 =>
   cases e1;cases e2
   exact ⟨fb,zac fl _ _ zab⟩
  | j+1,e1,_=>simp at e1
 | [q1,q2],[b,d],_,_,nd,rel,hG,lst,q,frs =>
  obtain ⟨t1,u1,g1⟩:=zfO rel hG (j:=0) (b:=b) (q:=q1) rfl rfl
  obtain ⟨t2,u2,g2⟩:=zfO rel hG (j:=1) (b:=d) (q:=q2) rfl rfl
  have hbd:b≠d:=by
   have:=hG.rise
   have h3:b<d:=by simpa using this
   exact Xar h3
  have fb:H b=none:=I.hok.fresh (frs b (by simp))
  have fd:H d=none:=I.hok.fresh (frs d (by simp))
  have fd':(upd H b (.tup [.int q1.1,.int q1.2])) d=none:=by rw [zag (Ne.symm hbd)];exact fd
  have I3:=I2.track (o:=.tup [.int q1.1,.int q1.2]) (I.fpOk (frs b (by simp)) fb) (Xav I.sz (frs b (by simp))) (zde ⟨_,rfl⟩ ⟨_,rfl⟩ g1)
  have I4:=I3.track (o:=.tup [.int q2.1,.int q2.2]) (I.fpOk (frs d (by simp)) fd') (Xav I.sz (frs d (by simp))) (zde ⟨_,rfl⟩ ⟨_,rfl⟩ g2)
  have fl:(upd (upd H b (.tup [.int q1.1,.int q1.2])) d (.tup [.int q2.1,.int q2.2])) h'.objs.size=none:=I4.hok.fresh (Xaf _)
  have sm:=(zac fb).trans ((zac (o:=.tup [.int q2.1,.int q2.2]) fd').trans (zac (o:=.lst ([b,d].map V.ref)) fl))
  have hlb:=Xaj g1
  have hld:=Xaj g2
  have hne:q2.1≠q1.1:=by
   have:¬ q1.1=q2.1:=by simpa using nd
   exact fun z=>this z.symm
  refine ziH (s:={ s with heap:=h'.push (seqObj "list" _ 0),toks:=tk }) (x:=b) (y:=d) hoL (Xab _ g1) (Xab _ g2) (Xar hlb) (Xar hld) hne ⟨rfl,?_⟩
  have hb9:∀ o,upd (upd (upd H b (.tup [.int q1.1,.int q1.2])) d (.tup [.int q2.1,.int q2.2])) h'.objs.size o b=some (.tup [.int q1.1,.int q1.2]):=fun o=>zac fl _ _ (by rw [zag hbd];exact zab)
  have hd9:∀ o,upd (upd (upd H b (.tup [.int q1.1,.int q1.2])) d (.tup [.int q2.1,.int q2.2])) h'.objs.size o d=some (.tup [.int q2.1,.int q2.2]):=fun o=>zac fl _ _ zab
  by_cases z:q2.1<q1.1
  ·rw [if_pos z]
   refine ⟨.ref _,_,lst [d,b] _ I4 (by show 2≤2;decide),rfl,q _ [d,b] _ rfl (I2.hok.fresh (Xaf _)) ((zac fb).trans ((zac fd').trans (zac fl))) zab fun j t qq e1 e2=>?_⟩
   rw [show srt2 [q1,q2]=[q2,q1] from if_pos z] at e2
   match j,e1,e2 with
   | 0,e1,e2=>cases e1;cases e2;exact ⟨fd,hd9 _⟩
   | 1,e1,e2=>cases e1;cases e2;exact ⟨fb,hb9 _⟩
   | j+2,e1,_=>simp at e1
  ·rw [if_neg z]
   refine ⟨.ref _,_,lst [b,d] _ I4 (by show 2≤2;decide),rfl,q _ [b,d] _ rfl (I2.hok.fresh (Xaf _)) ((zac fb).trans ((zac fd').trans (zac fl))) zab fun j t qq e1 e2=>?_⟩
   rw [show srt2 [q1,q2]=[q1,q2] from if_neg z] at e2
   match j,e1,e2 with
   | 0,e1,e2=>cases e1;cases e2;exact ⟨fb,hb9 _⟩
   | 1,e1,e2=>cases e1;cases e2;exact ⟨fd,hd9 _⟩
   | j+2,e1,_=>simp at e1
end
end L2
end
section
set_option autoImplicit false
namespace L2
open PySem PySem.Spec PyProof.Rows HT Cb
def TupsI (h:Heap)(items:Array Value)(nss:Nat→List Int):Prop:=∀ (i:Nat) (v:Value),items[i]? = some v→∃ (t:Addr) (its:Array Value),v = .ref t∧IsTup h t its∧IntsAre its.toList (nss i)
theorem TupsI.kept {h h':Heap}{items:Array Value}{nss:Nat→List Int}(x:TupsI h items nss){bad:List Addr}(hb:∀ b∈bad,∀ o,h.get? b=some o→o.cls≠.type "tuple")(k:∀ b o,b ∉ bad→h.get? b=some o→h'.get? b=some o):TupsI h' items nss:=fun i v e=>by
 obtain ⟨t,its,rfl,⟨o,ho,hc,r⟩,hI⟩:=x i v e
 exact ⟨t,its,rfl,⟨o,k t o (fun z=>hb t z o ho hc) ho,hc,r⟩,hI⟩
section
variable {prog:Program}{w:World}{A:Around}{E:Value→Shared→Prop}
theorem zi8 {l I S:Addr}{items:Array Value}{nss:Nat→List Int}(hh:A.handled=none)(hu:A.in1.units<cLine)(hlI:l≠I)(hSl:S≠l)(hSI:S≠I){R:Result→Shared→Prop} :
  ∀ (k j:Nat) (s:Shared) (vb:Value) (c:Nat),items.size - (j+1)=k→j+1≤items.size→s.heap.IsListIter I l (j+1)→s.heap.IsList l items→TupsI s.heap items nss →
  items[argBest (fun i j=>lexLt (nss i) (nss j)) j]? = some vb→s.heap.get? S=some { cls:=.type "list",dict:=none,data:=.seq #[vb,vb] c,slots:=#[] } →
  (∀ v h' tk,items[argBest (fun i j=>lexLt (nss i) (nss j)) (items.size - 1)]? = some v→(∀ b o,b≠I→b≠S→s.heap.get? b=some o→h'.get? b=some o)→R (.ok (.ret v)) { s with heap:=h',toks:=tk }) →
  codeAny (model prog w) A (.builtin "min.loop" ⟨[.ref I,.none,.ref S],[]⟩) R s:=by
 have hname:(toString "min" ++ toString ".loop" : String) = "min.loop" := by decide
 have W:=Walks.list (prog:=prog) (w:=w) (A:=A.in1) hh I l hlI items
 intro k
 induction k with
 | zero =>
  intro j s vb c hk hj hi hl ht hb hS hR
  have hin:j+1=items.size:=by omega
  refine codeAny_builtin F.entry_min_loop ?_
  rw [Around.under_plainId F.plain_min_loop _]
  show wpAny _ A.in1 (seqItems? (.ref S) >>= _) _ _ s
  refine Xaa (Xa6 hS rfl ?_)
  show wpAny _ A.in1 (tryCatch (pyNext (.ref I)) _ >>= _) _ _ s
  refine Xaa (wpAny_tryCatch (W.done s _ _ (by rw [← hin];exact ⟨hi,hl⟩) fun h' tk hk'=>?_))
  have hS':=hk' S _ (by simp [hSI]) hS
  show wpAny _ A.in1 (updateSeq S (fun _=>#[]) >>= _) _ _ _
  refine Xaa (XbQ hS' rfl (Xaa (wpAny_letGo (Xad ?_))))
  refine hR vb _ tk (by rw [← hin];exact hb) fun b o hbI hbS e=>(XaE _ _ (Ne.symm hbS)).trans (hk' b o (by simp [hbI]) e)
 | succ k ih =>
  intro j s vb c hk hj hi hl ht hb hS hR
  have hlt:j+1<items.size:=by omega
  refine codeAny_builtin F.entry_min_loop ?_
  rw [Around.under_plainId F.plain_min_loop _]
  show wpAny _ A.in1 (seqItems? (.ref S) >>= _) _ _ s
  refine Xaa (Xa6 hS rfl ?_)
  show wpAny _ A.in1 (tryCatch (pyNext (.ref I)) _ >>= _) _ _ s
  refine Xaa (wpAny_tryCatch (W.item (j+1) s _ _ hlt ⟨hi,hl⟩ fun v h' tk hP hst' hk'=>?_))
  have hS':=hk' S _ (by simp [hSI]) hS
  have ht':TupsI h' items nss:=ht.kept (bad:=[I]) (fun b hb o e=>by
   rw [Xac.mp hb] at e
   obtain ⟨oi,ei,ci,_⟩:=hi
   rw [ei] at e;cases e;rw [ci];decide) fun b o hb e=>hk' b o hb e
  show wpAny _ A.in1 (tryCatch (holding [v,v] (richCompare .Lt v vb >>= _)) _ >>= _) _ _ _
  obtain ⟨t1,i1,rfl,p1,n1⟩:=ht' _ _ hP
  obtain ⟨t2,i2,rfl,p2,n2⟩:=ht' _ _ hb
  refine Xaa (wpAny_tryCatch (XaO (Xaa (HT.lt_tupInts (s:={ s with heap:=h',toks:=tk }) p1 p2 n1 n2 hu ?_))))
  refine Xaa (XaO (XaU ?_))
  refine Xaa (wpAny_letGo (Xad ?_))
  have nbS:∀ b∈[S],∀ o,h'.get? b=some o→o.cls≠.type "tuple" := fun b hb o e=>by
   rw [Xac.mp hb,hS'] at e;cases e;show Value.type "list" ≠ Value.type "tuple"; decide
  cases hbt:lexLt (nss (j+1)) (nss (argBest (fun i j=>lexLt (nss i) (nss j)) j)) with
  | true =>
   simp only [if_true]
   refine Xaa (XbQ hS' rfl (Xaa (wpAny_letGo ?_)))
   rw [hname]
   have oth:∀ b o,b≠S→h'.get? b=some o→(h'.update S (Obj.mapSeq fun _=>#[Value.ref t1,Value.ref t1])).get? b=some o:=fun b o hb e=>(XaE _ _ (Ne.symm hb)).trans e
   refine Xad ⟨plainId_quiet F.plain_min_loop _,ih (j+1) _ (.ref t1) _ (by omega) hlt (hst'.1.at fun o e=>oth _ o (Ne.symm hSI) e) (hst'.2.at fun o e=>oth _ o (Ne.symm hSl) e) (ht'.kept nbS fun b o hb e=>oth b o (by simpa using hb) e)
    (by simp only [argBest,hbt,if_true];exact hP) (XaI _ hS' rfl) fun v' h'' tk'' hP' hk''=>?_⟩
   exact hR v' h'' tk'' hP' fun b o hbI hbS e=>hk'' b o hbI hbS (oth b o hbS (hk' b o (by simp [hbI]) e))
  | false =>
   simp only [XbP,if_false]
   refine Xaa (wpAny_letGo ?_)
   rw [hname]
   refine Xad ⟨plainId_quiet F.plain_min_loop _,ih (j+1) _ (.ref t2) c (by omega) hlt hst'.1 hst'.2 ht' (by simp only [argBest,hbt,XbP,if_false];exact hb) hS' fun v' h'' tk'' hP' hk''=>?_⟩
   exact hR v' h'' tk'' hP' fun b o hbI hbS e=>hk'' b o hbI hbS (hk' b o (by simp [hbI]) e)
theorem zeD {s:Shared}{l:Addr}{items:Array Value}{nss:Nat→List Int}{Q:Value→Shared→Prop}(hh:A.handled=none)(hu:A.units+1<cLine)(hl:s.heap.IsList l items)(ht:TupsI s.heap items nss)(hn:0<items.size)
  (h:∀ v h' tk,items[argBest (fun i j=>lexLt (nss i) (nss j)) (items.size - 1)]? = some v→(∀ b o,s.heap.get? b=some o→h'.get? b=some o)→Q v { s with heap:=h',toks:=tk }) :
  wpAny (model prog w) A (call (.builtin "min") [.ref l]) Q E s:=by
 have hname:(toString "min" ++ toString ".loop" : String) = "min.loop" := by decide
 refine call_function_tree F.kind_min F.plain_min F.entry_min (F.args_min1 _) ?_
 show wpAny _ A.in1 (Builtin.Builtins.bindParams "min" ["key","default"] 0 ⟨[],[]⟩ >>= _) _ _ s
 refine Xaa (wpAny_of_eq (show Builtin.Builtins.bindParams "min" ["key","default"] 0 ⟨[],[]⟩=pure [none,none] from rfl) ?_)
 refine Xaa (Xad ?_)
 have hlt:l<s.heap.objs.size:=by obtain ⟨_,e,_⟩:=hl;exact Xaj e
 refine Xaa (wpAny_pyIter_list hl ?_)
 refine Xaa (XaP ?_)
 rw [hname]
 obtain ⟨h2,e2⟩:∃ h2,h2=(s.heap.push { cls:=.type "list_iterator",data:=.fields #[.ref l,.int 0 0] }).push { cls:=.type "list",data:=.seq ([]:List Value).toArray }:=⟨_,rfl⟩
 have kp:∀ b o,s.heap.get? b=some o→h2.get? b=some o:=fun b o e=>by rw [e2];exact Xab _ (Xab _ e)
 have hsz:(s.heap.push { cls:=.type "list_iterator",data:=.fields #[.ref l,.int 0 0] }).objs.size=s.heap.objs.size+1:=XaG ..
 have hI:h2.IsListIter s.heap.objs.size l 0:=⟨_,by rw [e2];exact Xab _ (Xah _ rfl),rfl,rfl⟩
 have hS:h2.get? (s.heap.objs.size+1)=some { cls:=.type "list",dict:=none,data:=.seq #[] 0,slots:=#[] }:=by rw [e2,← hsz];exact Xah _ rfl
 have hl2:h2.IsList l items:=hl.at fun o e=>kp l o e
 have ht2:TupsI h2 items nss:=ht.kept (bad:=[]) (fun b hb=>nomatch hb) fun b o _ e=>kp b o e
 show wpAny _ A.in1 (again (.builtin "min.loop" ⟨[.ref s.heap.objs.size,.none,.ref (s.heap.push _).objs.size],[]⟩)) _ _ { s with heap:=_ }
 rw [hsz]
 refine Xad ⟨plainId_quiet F.plain_min_loop _,?_⟩
 have key:codeAny (model prog w) A (.builtin "min.loop" ⟨[.ref s.heap.objs.size,.none,.ref (s.heap.objs.size+1)],[]⟩) (fun r s'=>match r with
   | Except.ok (Flow.ret v)=>Q v s'
   | Except.ok a=>False
   | Except.error e=>E e s') { s with heap:=h2 }:=by
  have hlI:l≠s.heap.objs.size:=Xar hlt
  have hSI:s.heap.objs.size+1≠s.heap.objs.size:=Nat.succ_ne_self _
  have hSl:s.heap.objs.size+1≠l:=Xbk (Xbn hlt)
  have W:=Walks.list (prog:=prog) (w:=w) (A:=A.in1) hh s.heap.objs.size l hlI items
  refine codeAny_builtin F.entry_min_loop ?_
  rw [Around.under_plainId F.plain_min_loop _]
  show wpAny _ A.in1 (seqItems? (.ref (s.heap.objs.size+1)) >>= _) _ _ _
  refine Xaa (Xa6 hS rfl ?_)
  show wpAny _ A.in1 (tryCatch (pyNext (.ref s.heap.objs.size)) _ >>= _) _ _ _
  refine Xaa (wpAny_tryCatch (W.item 0 _ _ _ hn ⟨hI,hl2⟩ fun v h' tk hP hst' hk'=>?_))
  have hS':=hk' (s.heap.objs.size+1) _ (by simp) hS
  have ht':TupsI h' items nss:=ht2.kept (bad:=[s.heap.objs.size]) (fun b hb o e=>by
   rw [Xac.mp hb] at e
   obtain ⟨oi,ei,ci,_⟩:=hI
   rw [ei] at e;cases e;rw [ci];decide) fun b o hb e=>hk' b o hb e
  have nbS:∀ b∈[s.heap.objs.size+1],∀ o,h'.get? b=some o→o.cls≠.type "tuple" := fun b hb o e=>by
   rw [Xac.mp hb,hS'] at e;cases e;show Value.type "list" ≠ Value.type "tuple"; decide
  show wpAny _ A.in1 (updateSeq (s.heap.objs.size+1) (fun _=>#[v,v]) >>= _) _ _ _
  refine Xaa (XbQ hS' rfl ?_)
  rw [hname]
  have oth:∀ b o,b≠s.heap.objs.size+1→h'.get? b=some o→(h'.update (s.heap.objs.size+1) (Obj.mapSeq fun _=>#[v,v])).get? b=some o:=fun b o hb e=>(XaE _ _ (Ne.symm hb)).trans e
  refine Xad ⟨plainId_quiet F.plain_min_loop _,zi8 (l:=l) (items:=items) (nss:=nss) hh hu hlI hSl hSI _ 0 _ v _ rfl hn (hst'.1.at fun o e=>oth _ o (Ne.symm hSI) e) (hst'.2.at fun o e=>oth _ o (Ne.symm hSl) e) (ht'.kept nbS fun b o hb e=>oth b o (by simpa using hb) e) hP (XaI _ hS' rfl) fun v' h'' tk'' hP' hk''=>?_⟩
  refine h v' h'' tk'' hP' fun b o e=>?_
  have hb:=Xaj e
  exact hk'' b o (Xar hb) (Xar (Xbn hb)) (oth b o (Xar (Xbn hb)) (hk' b o (fun z=>Xar hb (Xac.mp z)) (kp b o e)))
 rw [e2] at key
 exact key
end
section
variable {X:Cx}
theorem zfr (hc:X.calm=true)(hu:X.A.units+1<cLine):zbH X (.builtin "min") (fun xs H Q=>∃ (a:Addr) (ts:List Addr) (nss:List (List Int)),xs=[.ref a]∧H a=some (.lst (ts.map V.ref))∧0<ts.length∧ts.length=nss.length∧(∀ (j:Nat) (t:Addr) (ns:List Int),ts[j]? = some t→nss[j]? = some ns→H t=some (.tup (ns.map V.int))) ∧
  ∀ t:Addr,ts[argBest (fun i j=>lexLt (nss.getD i []) (nss.getD j [])) (ts.length - 1)]? = some t→Q (.ref t) H):=by
 intro pins s σ H xs us Q I r h
 obtain ⟨a,ts,nss,rfl,e,h0,hl,ht,q⟩:=h
 obtain ⟨u,rfl,r1⟩:=zcw r
 obtain rfl:u=Value.ref a:=r1
 obtain ⟨its,rv,pl,hz⟩:=I.list (SqL.of e)
 have ei:its=ts.map Value.ref:=by
  clear pl hz e ht q h0 hl
  induction ts generalizing its with
  | nil=>cases rv;rfl
  | cons t r ih =>
   cases rv with
   | cons h1 h2=>rw [ih _ h2,show _=Value.ref t from h1];rfl
 have hlen:its.toArray.size=ts.length:=by rw [Xam,ei,Xae]
 refine zeD (items:=its.toArray) (nss:=fun i=>nss.getD i []) (I.ok.hd hc) hu pl.isList (fun i v hv=>?_) (by omega) fun v h' tk hv kp=>?_
 ·have hv':its[i]? = some v:=by simpa using hv
  rw [ei,Xan] at hv'
  obtain ⟨t,h1,rfl⟩:=Xaw.mp hv'
  have hi:i<nss.length:=by rw [← hl];exact (Xag.mp h1).1
  have h2:nss[i]? = some (nss.getD i []):=by rw [Xak hi];simp [hi]
  obtain ⟨its2,r2,p2,_⟩:=I.tuple (SqT.of (ht i t _ h1 h2))
  exact ⟨t,_,rfl,p2,zcM r2⟩
 ·rw [hlen] at hv
  have hv':its[argBest (fun i j=>lexLt (nss.getD i []) (nss.getD j [])) (ts.length - 1)]? = some v:=by simpa using hv
  rw [ei,Xan] at hv'
  obtain ⟨t,h1,rfl⟩:=Xaw.mp hv'
  exact ⟨.ref t,H,I.kept kp,rfl,q t h1⟩
end
section
variable {prog:Program}{w:World}{A:Around}{E:Value→Shared→Prop}{s:Shared}
end
end L2
end
section
namespace L2
open PySem PySem.Spec PyProof.Rows PySem.SeqAt
section
variable {X:Cx}{tg:Expr}
end
end L2
end
section
namespace L2
open PySem PySem.Spec PyProof.Rows PySem.SeqAt
section
variable {X:Cx}{K:W.Frag}
inductive rEqL0 (K:W.Frag)(x:V)(y:V)(H:Hp)(Q:VK):Prop
 | mk (a:_) (b:_) (xs:_) (z0_:x = .ref a) (z1_:y = .ref b) (z2_:SqL K H a xs) (z3_:SqL K H b []) (z4_:Q (.bl xs.isEmpty) H)
theorem zhO (hu:X.A.units<cLine)(hK:X.K=K):OpR X (compareOp .Eq) (rEqL0 K):=by
 subst hK
 rintro pins s σ H x y v u Q I rx ry ⟨a,b,xs,rfl,rfl,ha,hb,q⟩
 cases rx;cases ry
 obtain ⟨its,r1,p1,_⟩:=I.list ha
 obtain ⟨its2,r2,p2,_⟩:=I.list hb
 obtain rfl:=r2.nil_iff.mpr rfl
 have e:its.toArray.size=xs.length:=by rw [Xam];exact r1.length.symm
 cases xs with
 | nil =>
  refine RcAt.lists (e:=fun _=>true) p1.isList p2.isList (by rw [e];rfl) hu (fun j h1 h2=>absurd h2 (by simp)) _ _ _ _ ⟨.bl true,H,I,?_,q⟩
  rw [e];rfl
 | cons z zs=>exact RcAt.lists_lengths p1.isList p2.isList (by rw [e];simp) hu _ _ _ _ ⟨.bl false,H,I,rfl,q⟩
end
end L2
end
section
namespace L2
open PySem PySem.Spec PyProof.Rows PySem.SeqAt
section
variable {X:Cx}
end
end L2
end
section
namespace L2
open PySem PySem.Spec PyProof.Rows PySem.SeqAt
end L2
end
section
namespace L2
open PySem PySem.Spec PyProof.Rows PySem.SeqAt
section
variable {X:Cx}{K:W.Frag}
end
section
variable {X:Cx}{Nc:List Str}{src:List (Option Nat)}{scope:Scope}{elt tg iter:Expr}{ifs:List Expr}{pos:Pos}{wi:TI}{g:TG}{tf:TT}{te:TE}
end
section
variable {X:Cx}{K:W.Frag}{tg l:Expr}{tl:TE}
end
end L2
end
section
namespace L2
open PySem PySem.Spec PyProof.Rows HT
section
variable {X:Cx}{o e:Expr}{es:List Expr}{to:TE}{t:TA}{T:String}{id:String}{name:Str}{apos cpos:Pos}{r:V→List V→Hp→VK→Prop}
theorem pe_bmE {K:W.Frag}(hK:X.K=K)(pa:PlainAttrs T)(slot:Slot T name id)(hty:typeOf (.builtin id)=pure (.type "method_descriptor"))(hm:MtR X id r)(ho:PE X o to)(ha:PA X (e :: es) t)
  (hbase:attributeBase o name X.env (eval o X.env)=eval o X.env:=by rfl)
  (hfew:((backTo cpos (starEach (e :: es) X.env)).all (fun x=>!x.1) && (backToKw cpos (keywordEach [] X.env)).all (fun x=>x.1.isSome)
   && decide ((e :: es).length+([]:List Keyword).length+(if ([]:List Keyword).isEmpty then 0 else 1)<30))=true:=by rfl)
  (hline:(apos.endLine == cpos.line)=true:=by rfl) (hs:starEach (e :: es) X.env=(false,eval e X.env) :: starEach es X.env:=by rfl) (hplain:(backTo cpos (starEach es X.env)).any (·.1)=false:=by rfl) :
  PE X (.Call (.Attribute o name apos) (e :: es) [] cpos) (tBM K T r to t):=by
 subst hK;exact zb0 pa slot hty hm ho ha hbase hfew hline hs hplain
end
end L2
end
section
namespace L2
open PySem PySem.Spec PyProof.Rows HT
def zix (CX:CXT)(X:Cx)(E:St→XK):Prop:=∀ (pins:List (Addr×Obj)) (σ:St) (H:Hp) (s:Shared) (e:Value) (s':Shared),Inv X pins σ H s→CX X.stack H s (E σ) e s'→X.xe e s'
theorem Passes.s {CX:CXT}{X:Cx}{E:XK}(h:Passes CX X E):zix CX X fun _=>E:=fun pins σ H s e s'=>h pins σ H s e s'
def tCallS (sp:Sp)(E:St→XK)(t:TA):TE:=fun σ H Q=>t σ H fun vs H1=>sp (vs ++ []) H1 Q (E σ)
section
variable {X:Cx}{CX:CXT}{k:Nat}{f C:Addr}{fd:FuncData}{ps ks:List Str}{sp:Sp}{E:St→XK}{x m:Str}{p pos apos:Pos}{e o:Expr}{es:List Expr}{kws:List Keyword}{ta:TE}{t tk:TA}{g:List Value→List Value→List Value}{gV:List V→List V→List V}
theorem zhJ (Cl:CalX X.prog X.w X.K X.mg X.base k x ps sp)(hr:Room k X.A)(hg:Gl X x)(hx:zix (CX1 X.prog X.w) X E)(ha:PA X (e :: es) t)(hdb:(x == ("__debug__" : Str))=false:=by decide)
  (he:starEach (e :: es) X.env=(false,eval e X.env) :: starEach es X.env:=by rfl) (hpl:(backTo pos (starEach es X.env)).any (·.1)=false:=by rfl):PE X (.Call (.Name x p) (e :: es) [] pos) (tCallS sp E t):=by
 obtain ⟨f,fd,F,hm,hk,hb⟩:=Cl.ex
 intro pins s σ H Q I h
 refine Xbg (zbt I hg hm ?_ hdb)
 refine W.callWith_K (h₀:=X.base) I.ok.mod.kin hk (thn (ha pos pins s σ H _ I h) fun us s1 ⟨vs,H1,I1,r,q⟩=>⟨I1.kIn,?_⟩) he hpl
 have r2:Vals (vs ++ []) (us ++ []):=r.append .nil
 have hl:(us ++ []).length=ps.length:=by rw [← r2.length];exact F.len _ _ _ _ q
 refine Xbu (Xbw (F.run X.A X.stack s1 H1 ⟨us,[]⟩ (us ++ []) (vs ++ []) Q (E σ) hr I1.env0 (hb s1 us I1.kIn hl) r2 q) fun r s' hq=>?_)
 cases r with
 | error e=>exact hx pins σ H1 s1 e s' I1 hq
 | ok fl =>
  cases fl with
  | ret u=>exact I1.after hq
  | next=>exact False.elim hq
  | brk=>exact False.elim hq
  | cont=>exact False.elim hq
end
structure MakX (P:Program)(w:World)(K:W.Frag)(mg:Str→Option Value)(base:Heap)(k:Nat)(x:Str)(C:Addr)(ks:List Str)(gV:List V→List V→List V)(sp:Sp):Prop where
 at_:mg x=some (.ref C)
 ex:∃ f fd ps g,Mk K C f∧FnOk P w K mg base (CX1 P w) k f fd ps sp∧KBinds K fd ps ks g gV
theorem MakX.kp {P:Program}{w:World}{K:W.Frag}{mg:Str→Option Value}{base:Heap}{k:Nat}{x:Str}{C:Addr}{ks:List Str}{gV:List V→List V→List V}{sp:Sp}(M:MakX P w K mg base k x C ks gV sp):W.keepIn K (.ref C)=true:=by
 obtain ⟨_,_,_,_,_,M,_⟩:=M
 exact M.kp
def tMakS (C:Addr)(gV:List V→List V→List V)(sp:Sp)(E:St→XK)(t tk:TA):TE:=fun σ H Q=>t σ H fun vs H1=>tk σ H1 fun zs H2=>∀ x dx,H2 x=none→H2 dx=none→dx≠x →
 sp (gV (.ref x :: vs) zs) (upd (upd H2 dx (.own x)) x (.ins C dx [])) (fun v H3=>v = .non∧Q (.ref x) H3) (E σ)
section
variable {X:Cx}{k:Nat}{C:Addr}{ks:List Str}{gV:List V→List V→List V}{sp:Sp}{E:St→XK}{x:Str}{p pos:Pos}{e:Expr}{es:List Expr}{kws:List Keyword}{t tk:TA}
theorem ziN {pins:List (Addr×Obj)}{σ:St}{H:Hp}{s:Shared}{Q:VK}{us ws:List Value}{vs zs:List V}(M:MakX X.prog X.w X.K X.mg X.base k x C ks gV sp)(hr:Room (k+1) X.A)(hx:zix (CX1 X.prog X.w) X E)(I:Inv X pins σ H s)(r:Vals vs us)(rz:Vals zs ws)
  (h:∀ y dy,H y=none→H dy=none→dy≠y→sp (gV (.ref y :: vs) zs) (upd (upd H dy (.own y)) y (.ins C dy [])) (fun v H2=>v = .non∧Q (.ref y) H2) (E σ)) :
  wpAny (model X.prog X.w) X.A (call (.ref C) us (ks.zip ws)) (EP X pins σ Q) X.xe s:=by
 obtain ⟨hm,f,fd,ps,g,M,F,hb⟩:=M
 have hq:=h (s.heap.objs.size+1) s.heap.objs.size (I.hok.fresh (XbL _)) (I.hok.fresh (Xaf _)) (Xar (Xa2 _))
 have I2:=Inv.made (C:=C) I
 have r2:Vals (gV (V.ref (s.heap.objs.size+1) :: vs) zs) (g (Value.ref (s.heap.objs.size+1) :: us) ws):=hb.rel (.cons rfl r) rz
 have hl:(g (Value.ref (s.heap.objs.size+1) :: us) ws).length=ps.length:=by rw [← r2.length];exact F.len _ _ _ _ hq
 refine Xbu (zgs (f:=f) I.kIn M.makes M.init (beq_iff_eq.mp M.fn) (Xbw (F.run _ X.stack _ _ ⟨Value.ref (s.heap.objs.size+1) :: us,ks.zip ws⟩ _ _ _ (E σ) (hr.make C us (ks.zip ws))
  (I2.env0.make C us (ks.zip ws)) (hb.to _ (Value.ref (s.heap.objs.size+1) :: us) ws I2.kIn hl) r2 hq) fun r s' hq'=>?_))
 cases r with
 | error e=>exact hx pins σ _ _ e s' I2 hq'
 | ok fl =>
  cases fl with
  | ret u =>
   obtain ⟨v,H',I3,rv,ev,q3⟩:=I2.after hq'
   subst ev
   exact ⟨rv,⟨V.ref (s.heap.objs.size+1),H',I3,rfl,q3⟩⟩
  | next=>exact False.elim hq'
  | brk=>exact False.elim hq'
  | cont=>exact False.elim hq'
theorem zhH (M:MakX X.prog X.w X.K X.mg X.base k x C [] gV sp)(hr:Room (k+1) X.A)(hg:Gl X x)(hx:zix (CX1 X.prog X.w) X E)(ha:PA X (e :: es) t)(hdb:(x == ("__debug__" : Str))=false:=by decide)
  (he:starEach (e :: es) X.env=(false,eval e X.env) :: starEach es X.env:=by rfl) (hpl:(backTo pos (starEach es X.env)).any (·.1)=false:=by rfl):PE X (.Call (.Name x p) (e :: es) [] pos) (tMakS C gV sp E t tNil):=by
 intro pins s σ H Q I h
 refine Xbg (zbt I hg M.at_ ?_ hdb)
 refine W.callWith_K (h₀:=X.base) I.ok.mod.kin M.kp (thn (ha pos pins s σ H _ I h) fun us s1 ⟨vs,H1,I1,r,q⟩=>⟨I1.kIn,?_⟩) he hpl
 exact ziN (ws:=[]) (zs:=[]) M hr hx I1 r .nil q
end
section
variable {X:Cx}{k:Nat}{C:Addr}{ks:List Str}{E:St→XK}{x m:Str}{p pos apos:Pos}{e o:Expr}{es:List Expr}{kws:List Keyword}{ta:TE}{t tk:TA}
end
abbrev zdP (X:Cx)(pins:List (Addr×Obj))(b:Addr):Prop:=X.s₀.heap.get? b=none∧b≠X.env.locals∧(∀ x c,X.env.cells.lookup x=some c→c≠b)∧∀ p∈X.pn ++ pins,p.1≠b
abbrev Cx.tried (X:Cx)(pins:List (Addr×Obj))(E:St→XK):Cx:={ X with pn:=X.pn ++ pins,xe:=fun e s'=>∃ σ ea T H' C od,e = .ref ea∧Inv X pins σ H' s'∧XAt s'.heap ea T (.ref C) .none od∧H' ea=none∧H' T=none∧zdP X pins ea∧zdP X pins T∧E σ (.ref C) od H' }
section
variable {X:Cx}{pins pins2:List (Addr×Obj)}{σ:St}{H:Hp}{s:Shared}{E:St→XK}
theorem Cx.Ok.tried (ok:X.Ok):(X.tried pins E).Ok:=⟨ok.mod,ok.kind,ok.glob,ok.blt,ok.above,ok.inj,ok.has,ok.cab,ok.hd,ok.frames,ok.stk,ok.exf,ok.bs,ok.bsz,ok.noex,ok.exfs,ok.funs,ok.frf⟩
theorem Cx.Ok.untried (ok:(X.tried pins E).Ok):X.Ok:=⟨ok.mod,ok.kind,ok.glob,ok.blt,ok.above,ok.inj,ok.has,ok.cab,ok.hd,ok.frames,ok.stk,ok.exf,ok.bs,ok.bsz,ok.noex,ok.exfs,ok.funs,ok.frf⟩
theorem Inv.tried (I:Inv X pins σ H s)(E:St→XK):Inv (X.tried pins E) [] σ H s:=⟨I.ok.tried,I.os,I.bare,I.base,I.loc,I.cell,I.free,I.freeC,by
 intro p hp
 rw [Xa7] at hp
 exact I.pin p hp,I.hok,I.len⟩
theorem Inv.untried (I:Inv (X.tried pins E) pins2 σ H s):Inv X pins σ H s:=⟨I.ok.untried,I.os,I.bare,I.base,I.loc,I.cell,I.free,I.freeC,fun p hp=>I.pin p (XaV _ hp),I.hok,I.len⟩
theorem SP.untried {D:Ends}{f:Flow}{s':Shared}(h:SP (X.tried pins E) pins2 D f s'):SP X pins D f s':=by
 cases f with
 | next=>obtain ⟨σ',H',I,q⟩:=h;exact ⟨σ',H',I.untried,q⟩
 | brk=>obtain ⟨σ',H',I,q⟩:=h;exact ⟨σ',H',I.untried,q⟩
 | cont=>obtain ⟨σ',H',I,q⟩:=h;exact ⟨σ',H',I.untried,q⟩
 | ret u=>obtain ⟨v,σ',H',I,r,q⟩:=h;exact ⟨v,σ',H',I.untried,r,q⟩
theorem zd2 (hex:X.ex=[]):zix (CX1 X.prog X.w) (X.tried pins E) E:=by
 intro pins2 σ H1 s1 ev s' I hq
 obtain ⟨ea,T,H',C',od',rfl,os,bare,un,hok,xa,f1,f2,n1,n2,hE⟩:=hq
 have J:Inv (X.tried pins E) pins2 σ H' s':=I.call' (ch:=[]) os un hok bare (fun b z=>absurd z (by simp))
 have nex:∀ b:Addr,b ∉ (X.tried pins E).ex:=fun b z=>by
  have z:b∈X.ex:=z
  rw [hex] at z;cases z
 have o1:=I.untried.none_ours f1 (nex ea)
 have o2:=I.untried.none_ours f2 (nex T)
 exact ⟨σ,ea,T,H',C',od',rfl,J.untried,xa,n1,n2,o1,o2,hE⟩
end
def tTry1 (K:W.Frag)(tb:(St→XK)→TS)(j:Nat)(Cb:Addr)(th:TS):TS:=fun D σ H =>
 tb (fun σ' cls od H2=>W.exmOne K cls (.ref Cb)=some true∧∀ ea,H2 ea=none→th { nx:=fun σ2 H3=>D.nx ((σ2.set j (some .non)).set j none) H3,rt:=fun _ _=>False } (σ'.set j (some (.ref ea))) (upd H2 ea (.ext (xIs ea cls od)))) D σ H
section
variable {X:Cx}{cn n:Str}{j:Nat}{Cb:Addr}{body hbody:List Stmt}{b₀:Stmt}{tb:(St→XK)→TS}{th:TS}{p4 p8 p9:Pos}
theorem zkn (hb:∀ (pins:List (Addr×Obj)) (E:St→XK),PSs (X.tried pins E) body (tb E))(hD:∀ ea,PSs (X.marked (.ref ea)).nox (b₀ :: hbody) th)(hc:X.calm=true)(hN:X.N.Nodup)(hj:X.N[j]? = some n)(kn:X.env.scope.names.lookup n=some .local)
  (hmc:X.mg cn=some (.ref Cb)) (hst:X.stack=X.env :: X.outer∧X.env.frame=some X.env.locals) (hex:X.ex=[]) (hgm:∀ ea,Gl (X.marked (.ref ea)) cn) (hdc:(cn == ("__debug__" : Str))=false:=by decide) :
  PS X (.Try body [.ExceptHandler (some (.Name cn p4)) (some n) (b₀ :: hbody) p8] [] [] p9) (tTry1 X.K tb j Cb th):=by
 intro pins s σ H D I h
 refine wpAny_Try_except (Xaz (hb pins _ [] s σ H D (I.tried _) h) (fun fl s' q=>?_) fun e s' q=>?_)
 ·have q:=q.untried
  cases fl with
  | next=>exact XbN q
  | brk=>exact q
  | cont=>exact q
  | ret u=>exact q
 ·obtain ⟨σ',ea,T,H',C',od',rfl,J,xa,n1,n2,o1,o2,hm2,k2⟩:=q
  have fr:X.A.frames=some (X.env :: X.outer):=by rw [← hst.1];exact J.ok.frames
  have fl:s'.heap.FunFrames X.base (X.env :: X.outer):=by rw [← hst.1];exact J.stack
  refine zb6 fr fl hst.2 xa fun h1 T2 fT2 sl x2=>?_
  have sl':Slid (frs X.stack) [ea,T] s'.heap h1:=by rw [hst.1];exact sl
  have J1:Inv X pins σ' H' { s' with heap:=h1 }:=J.slid sl' fun b hb=>by
   rcases Xal.mp hb with rfl | hb
   ·exact ⟨n1,o1⟩
   ·rw [Xac.mp hb];exact ⟨n2,o2⟩
  have n3:H' T2=none:=J.hok.none_of fT2
  have nex:∀ b:Addr,b ∉ X.ex:=fun b z=>by rw [hex] at z;cases z
  have o3:=J.none_ours fT2 (nex T2)
  have cT2:∀ b∈[T2],H' b=none∧X.s₀.heap.get? b=none∧b≠X.env.locals∧(∀ x c,X.env.cells.lookup x=some c→c≠b)∧∀ p∈X.pn ++ pins,p.1≠b:=fun b hb=>by rw [Xac.mp hb];exact ⟨n3,o3⟩
  refine zbT x2 fun h2 sl2 x3=>?_
  have J2:Inv X pins σ' H' { s' with heap:=h2 }:=J1.slid (sl2.mono (fun b z=>nomatch z) fun _ z=>z) cT2
  have ty:W.Looks (model X.prog X.w) h2 (typeOf (.ref ea)) (.ref C'):=by
   obtain ⟨oe,vs,oT,ts,g1,⟨g2,_⟩,_⟩:=x3
   rw [← g2]
   exact (W.Looks.ld g1).andThen .now
  have Jm:=J2.marked (.ref ea)
  refine wpAny_handleBy_cons (codeAny_handlers_test (zbt Jm (hgm ea) hmc ?_ hdc)) (by intro z;cases z)
  refine (W.exm_one Jm.kIn ty hm2).here ?_
  refine codeAny_handlers_suite_as (zbT x3 fun h3 sl3 x4=>?_)
  have J3:Inv X pins σ' H' { s' with heap:=h3 }:=J2.slid (sl3.mono (fun b z=>nomatch z) fun _ z=>z) cT2
  have xo:xIs ea (.ref C') od' h3:=by
   obtain ⟨oe,vs,oT,ts,g1,g2,g3,_⟩:=x4
   exact ⟨oe,vs,g1,g2,g3⟩
  have J4:Inv X pins σ' (upd H' ea (.ext (xIs ea (.ref C') od'))) { s' with heap:=h3 }:=J3.trackX n1 xo o1
  have k3:=k2 ea n1
  clear k2
  generalize upd H' ea (.ext (xIs ea (.ref C') od'))=H3 at J4 k3
  refine zbx (v:=.ref ea) J4 hN hj (.inl kn) rfl (fun s4 J5=>?_) (.inr kn)
  refine Xaz (hD ea pins s4 _ H3 _ ((J5.marked (.ref ea)).wish _) k3) (fun fl s5 hq=>?_) fun _ _ z=>False.elim z
  cases fl with
  | ret u=>obtain ⟨_,_,_,_,_,z⟩:=hq;exact False.elim z
  | brk=>obtain ⟨_,_,_,z⟩:=hq;exact False.elim z
  | cont=>obtain ⟨_,_,_,z⟩:=hq;exact False.elim z
  | next =>
   obtain ⟨σ6,H6,J6,q6⟩:=hq
   have J7:Inv X pins σ6 H6 s5:=J6.unwish.unmarked I.ok.hd
   have hjσ:j<σ6.length:=by rw [J7.len];exact (Xag.mp hj).1
   show wpAny (model X.prog X.w) X.A (do bindName X.env n .none;unbindBehindTheSuite X.env n p8) (fun _ s₃=>SP X pins D .next s₃) X.xe s5
   refine Xaa (wpAny_bindName (zbx (v:=.non) J7 hN hj (.inl kn) rfl (fun s8 J8=>?_) (.inr kn)))
   unfold unbindBehindTheSuite
   refine wpAny_onRaise ?_
   obtain ⟨m,hm8,hl8⟩:=id J8.loc
   have hb8:∃ v,m n=some v:=by
    obtain ⟨u,ru,q⟩:=hl8 j n .non hj (by rw [Xbt hjσ]) (.inl kn)
    rcases q with ⟨_,q⟩ | ⟨z,_⟩
    ·exact ⟨_,q⟩
    ·rcases z with z | z
     ·have z:X.env.scope.names.lookup n=some .cell:=z
      rw [kn] at z;cases z
     ·have z:X.env.scope.names.lookup n=some .free:=z
      rw [kn] at z;cases z
   obtain ⟨vn,hvn8⟩:=hb8
   refine wpAny_unbindName_local kn hm8 hvn8 (by rw [J8.ok.kind];rfl) fun h9 u9 hn9 hs9=>?_
   exact ⟨_,H6,J8.unname (t':=s8.toks) hN hj kn hm8 hn9 hs9,q6⟩
end
end L2
end
section
namespace L2
open PySem PySem.Spec PyProof.Rows HT
abbrev TJ:=St→Hp→(Hp→Prop)→Prop
def PJ (X:Cx)(es:List Expr)(t:TJ):Prop:=∀ (out:Str) (pins:List (Addr×Obj)) (s:Shared) (σ:St) (H:Hp) (R:Hp→Prop),out.length+2000 * es.length≤100000→Inv X pins σ H s→t σ H R →
 wpAny (model X.prog X.w) X.A (joinParts out (evalEach es X.env)) (fun u s'=>∃ (z:Str) (tk:Tok) (H':Hp),u = .str z tk∧Inv X pins σ H' s'∧R H') X.xe s
def jNil:TJ:=fun _ H R=>R H
inductive jStr_1 (t:TJ)(σ:St)(R:Hp→Prop)(x:V)(H1:Hp):Prop
 | mk (a:Str) (z0_:x = .str a) (z1_:a.length≤1000) (z2_:t σ H1 R)
def jStr (ta:TE)(t:TJ):TJ:=fun σ H R=>ta σ H (jStr_1 t σ R)
inductive jInt_1 (t:TJ)(σ:St)(R:Hp→Prop)(x:V)(H1:Hp):Prop
 | mk (i:Int) (z0_:x = .int i) (z1_:i.natAbs<2 ^ 1000) (z2_:t σ H1 R)
def jInt (ta:TE)(t:TJ):TJ:=fun σ H R=>ta σ H (jInt_1 t σ R)
def tFsN (t:TJ):TE:=fun σ H Q=>t σ H fun H1=>∀ z:Str,Q (.str z) H1
section
variable {X:Cx}{e v:Expr}{es:List Expr}{pos p2:Pos}{ta:TE}{t:TJ}
theorem zjM:PJ X [] jNil:=fun out pins s σ H R hl I h=>by
 refine joinParts_nilE (joinParts_nil ⟨out,_,H,rfl,I.tok _,h⟩ ?_)
 have hz:(100000:Nat)≤sizeLine:=by decide
 simp only [XaZ] at hl
 omega
theorem zeW (he:PE X e ta)(hs:PJ X es t):PJ X (e :: es) (jStr ta t):=fun out pins s σ H R hl I h=>by
 refine joinParts_consE (joinParts_cons (thn (he pins s σ H _ I h) fun u s1 hh_=>?_))
 obtain ⟨x,H1,I1,rx,a,ex,la,q⟩:=hh_
 subst ex
 obtain ⟨t,rfl⟩:=(show ∃ t,u=Value.str a t from rx)
 have hz:(100000:Nat)≤sizeLine:=by decide
 simp only [Xay] at hl
 exact ⟨by rw [strLen_append];omega,hs _ pins s1 σ H1 R (by rw [strLen_append];omega) I1 q⟩
theorem zgn (hv:PE X v ta)(hs:PJ X es t):PJ X (.FormattedValue v (-1) none p2 :: es) (jInt ta t):=fun out pins s σ H R hl I h=>by
 refine joinParts_consE (joinParts_cons (FormattedValue_plain (thn (hv pins s σ H _ I h) fun u s1 hh_=>?_)))
 obtain ⟨x,H1,I1,rx,i,ex,hi,q⟩:=hh_
 subst ex
 obtain ⟨t,rfl⟩:=(show ∃ t,u=Value.int i t from rx)
 have hz:(100000:Nat)≤sizeLine:=by decide
 simp only [Xay] at hl
 have hlog:i.natAbs.log2<1000:=by
  by_cases z:i.natAbs=0
  ·rw [z];decide
  ·exact (Nat.log2_lt z).mpr hi
 have hlen:(Str.ofString (toString i)).length≤1001:=by
  rw [PySem.ofString_length]
  exact int_text_length_le (by decide) hlog
 refine formatField_int_small (Xbx hlog (by decide)) ⟨by rw [strLen_append];omega,?_⟩
 exact hs _ pins _ σ H1 R (by rw [strLen_append];omega) ((I1.tok _).tok _) q
theorem zjO (h2:∃ a b r,es=a :: b :: r)(hs:PJ X es t)(hz:es.length≤40:=by decide):PE X (.JoinedStr es pos) (tFsN t):=by
 obtain ⟨a,b,r,rfl⟩:=h2
 intro pins s σ H Q I h
 refine JoinedStr_many ?_
 refine thn (hs Str.empty pins s σ H _ ?_ I h) fun u s' ⟨z,tk,H',eu,I',q⟩=>⟨.str z,H',I',⟨tk,eu⟩,q z⟩
 have l0:Str.empty.length=0:=rfl
 omega
end
theorem FunD.okX {P:Program}{w:World}{K:W.Frag}{mg:Str→Option Value}{base:Heap}{x qual:Str}{st:Stmt}{dV:Value}{f:Addr}{fd:FuncData}{N ps:List Str}{k:Nat}{sp:Sp}(F:FunD K x qual st dV f fd)(S:FnScope N ps (zai st))(len:∀ vs H Q E,sp vs H Q E→vs.length=ps.length)
  (hbody:∀ (cdv:Value) (A:Around) (outer:List Env) (s:Shared) (H:Hp) (vs:List V) (Q:VK) (E:XK),Room k (A.deeper (envOfC qual (zai st) s.heap.objs.size f cdv))→sp vs H Q E →
   ∃ t,PSs (cxOf (CX1 P w) P w K mg base N qual (zai st) f cdv A outer s H E) (zaU st) t∧t { nx:=fun _ H'=>Q .non H',rt:=Q } (start N vs) H):FnOk P w K mg base (CX1 P w) (k+1) f fd ps sp:=by
 obtain ⟨oc,od,kV,doc,pm,an,cdv,ct,osl,rfl,lk,hcd⟩:=F.ex
 refine zjm lk hcd S len fun A outer s H vs Q E hr hsp=>?_
 obtain ⟨t,h,q⟩:=hbody cdv A outer s H vs Q E hr hsp
 exact ⟨t,h,q⟩
end L2
end
section
namespace L2
open PySem PySem.Spec PyProof.Rows HT
section
variable {prog:Program}{w:World}{A:Around}{E:Value→Shared→Prop}{h:Heap}{g:Array GenState}{d:Drawn}{t:Nat}{os:OsState}
variable {nm q:Str}{C N:Addr}{bs bm:List Value}{hdct:Bool}{sn:List Str}{sub:List Value}{ab:Bool}{col:Option Bool}{dd:Option Addr}{k0 k1 k2 k3 k5:Option Value}{mN:Str→Option Value}{rest:List Value}{fI:Addr}{oI:Obj}
theorem zfz {Q:Fin→Shared→Prop}(T:OwnTail h bmV bm)(hC:h.get? C=some (excClassObj nm q C N bs bm hdct sn sub ab col dd k0 k1 k2 k3 k5 "ValueError.__new__"))(hn:h.Ns N mN)(hi:mN "__init__" = some (.ref fI))
  (hfI:h.get? fI=some oI) (hfc:oI.cls = .type "function") (hrest:rest.length≤sizeLine)
  (hq:∀ h' e,Heap.MadeExcOf h h' e (.ref C) rest→wpAny (model prog w) A (call (.ref fI) (.ref e :: rest)) (fun r s'=>r = .none∧Q (.done (.ret (.ref e))) s') E ⟨h',g,d,t,os⟩) :
  wpAny (model prog w) A (Builtin.«type.__call__» ⟨.ref C :: rest,[]⟩) Q E ⟨h,g,d,t,os⟩:=by
 have F:=PySem.F.excBase_ValueError
 repeat (first | with_reducible refine wpAny_loadPart_at hC ?_ | with_reducible refine wpAny_madeBy_exc hC ?_ | wp_step)
 refine codeAny_call_builtin_code (Code.quiet_builtin _ F.quiet) (wpAny_check_new_subT F T hC ?_)
 refine codeAny_exc_new_subT F T hC ?_ hrest
 show wpAny _ _ _ _ _ _
 have kp:∀ b o,h.get? b=some o→((h.push { cls:=.type "tuple",data:=.seq rest.toArray }).push { cls:=.ref C,data:=.fields #[.ref h.objs.size,.none,.none,.none,.bool false,.none] }).get? b=some o:=
  fun b o e=>Xab _ (Xab _ e)
 have hC₁:=kp _ _ hC
 have hf₁:=kp _ _ hfI
 have hn₁:((h.push { cls:=.type "tuple",data:=.seq rest.toArray }).push { cls:=.ref C,data:=.fields #[.ref h.objs.size,.none,.none,.none,.bool false,.none] }).Ns N mN:=
  let ⟨o,es,ep,e,r⟩:=hn;⟨o,es,ep,kp _ _ e,r⟩
 have hget:((h.push { cls:=.type "tuple",data:=.seq rest.toArray }).push { cls:=.ref C,data:=.fields #[.ref h.objs.size,.none,.none,.none,.bool false,.none] }).get? (h.objs.size+1)=some
   { cls:=.ref C,data:=.fields #[.ref h.objs.size,.none,.none,.none,.bool false,.none] }:=by heap_get
 have hcC:(Value.ref C :: bm).contains (.ref C)=true:=by simp
 have T₁:=T.keeps kp
 unfold isInstance
 repeat (first | with_reducible refine wpAny_loadPart_at hget ?_ | (with_reducible refine wpAny_isSubtype_exc hC₁ ?_;rw [hcC]) | wp_step)
 show wpAny _ _ (typeLookup (.ref C) _) _ _ _
 refine wpAny_typeLookup_tail hC₁ hn₁ T₁ F.mroIs F.init.lookup ?_
 rw [hi]
 refine XaO (Xaa ?_)
 unfold bindSpecial
 refine Xaa (wpAny_typeOf (T := "function") ⟨_,hf₁,hfc⟩ ?_)
 rw [if_pos (by decide)]
 refine Xad (Xaa (Xaz (hq _ (h.objs.size+1) ⟨kp,XbI (XbL _),h.objs.size,hget,XbI (Xaf _),Xab _ (Heap.get?_push_at rfl rfl)⟩) (fun r s' hr=>?_) fun _ _ x=>x))
 obtain ⟨rfl,hQ⟩:=hr
 wp_walk
 exact hQ
theorem zj8 {Q:Value→Shared→Prop}(T:OwnTail h bmV bm)(hC:h.get? C=some (excClassObj nm q C N bs bm hdct sn sub ab col dd k0 k1 k2 k3 k5 "ValueError.__new__"))(hn:h.Ns N mN)(hi:mN "__init__" = some (.ref fI))
  (hfI:h.get? fI=some oI) (hfc:oI.cls = .type "function") (hrest:rest.length≤sizeLine)
  (hq:∀ h' e,Heap.MadeExcOf h h' e (.ref C) rest→wpAny (model prog w) (A.under (.builtin "type.__call__" ⟨.ref C :: rest,[]⟩)) (call (.ref fI) (.ref e :: rest)) (fun r s'=>r = .none∧Q (.ref e) s') E ⟨h',g,d,t,os⟩) :
  wpAny (model prog w) A (call (.ref C) rest) Q E ⟨h,g,d,t,os⟩:=by
 have f1:=tc_lookup
 have f2:=tc_bind (.ref C)
 have hT:(⟨h,g,d,t,os⟩:Shared).TypeIs (.ref C) "type" := ⟨_,hC,rfl⟩
 refine Xbu (codeAny_of_tree ?_)
 show wpAny _ _ (callAny (.ref C) _) _ _ _
 repeat (any_goals (first | assumption | with_reducible refine wpAny_loadPart_at hC ?_ | wp_step))
 refine ⟨rfl,?_⟩
 exact codeAny_call_builtin_at (Code.quiet_builtin _ (by decide +kernel)) entry_typeCall (wpAny_check_type_call_sub hC (zfz T hC hn hi hfI hfc hrest fun h' e hm=>hq h' e hm))
end
section
variable {M:Model}{A:Around}{E:Value→Shared→Prop}{s:Shared}{env:Env}
variable {nm q:Str}{C N:Addr}{bs bm:List Value}{hdct:Bool}{sn:List Str}{sub:List Value}{ab:Bool}{col:Option Bool}{dd:Option Addr}{k0 k1 k2 k3 k5:Option Value}
theorem ziC {x:Sem Value}{Q:Flow→Shared→Prop}(hbase:bm.contains (.type "BaseException")=true)(hh:A.handled=none)
  (h:wpAny M A x (fun v s₁=>∃ e t od,v = .ref e∧s₁.heap.get? C=some (excClassObj nm q C N bs bm hdct sn sub ab col dd k0 k1 k2 k3 k5 "ValueError.__new__") ∧
   s₁.heap.get? e=some { cls:=.ref C,dict:=od,data:=.fields #[.ref t,.none,.none,.none,.bool false,.none] }∧E (.ref e) s₁) E s) :
  wpAny M A (raiseStmt env (some x) none) Q E s:=by
 have hcB:(Value.ref C :: bm).contains (.type "BaseException")=true:=by rw [List.contains_cons,hbase,Bool.or_true]
 unfold raiseStmt
 refine Xaa (Xaz h (fun v s₁ h₁=>?_) fun _ _ x=>x)
 obtain ⟨e,t,od,rfl,hC,he,hE⟩:=h₁
 obtain ⟨hp,g,d,tk,os⟩:=s₁
 repeat (first | with_reducible refine wpAny_loadPart_at he ?_ | with_reducible refine wpAny_loadPart_at hC ?_ | (with_reducible refine wpAny_isSubtype_exc hC ?_;rw [hcB]) | wp_step)
 exact wpAny_raiseNew_none hh hE
end
section
variable {prog:Program}{w:World}{A:Around}{E:Value→Shared→Prop}{s:Shared}{env:Env}
variable {nm q:Str}{C N:Addr}{bs bm:List Value}{hdct:Bool}{sn:List Str}{sub:List Value}{ab:Bool}{col:Option Bool}{dd:Option Addr}{k0 k1 k2 k3 k5:Option Value}{mN:Str→Option Value}{fI:Addr}{oI:Obj}
theorem zj7 {x:Str}{np cpos pos:Pos}{args:List Expr}{Q:Flow→Shared→Prop}(hbase:bm.contains (.type "BaseException")=true)(hh:A.handled=none)(hplain:(backTo cpos (starEach args env)).any (·.1)=false)(hi:mN "__init__" = some (.ref fI))(hfc:oI.cls = .type "function")
  (h:wpAny (model prog w) A (eval (.Name x np) env) (fun f s₁=>f = .ref C∧wpAny (model prog w) A (evalArgs (.ref C) true (backTo cpos (starEach args env)) [])
   (fun a s₂=>a.kw=[]∧a.pos.length≤sizeLine∧s₂.heap.get? C=some (excClassObj nm q C N bs bm hdct sn sub ab col dd k0 k1 k2 k3 k5 "ValueError.__new__")∧s₂.heap.Ns N mN∧OwnTail s₂.heap bmV bm∧s₂.heap.get? fI=some oI ∧
    ∀ h' e,Heap.MadeExcOf s₂.heap h' e (.ref C) a.pos→wpAny (model prog w) (A.under (.builtin "type.__call__" ⟨.ref C :: a.pos,[]⟩)) (call (.ref fI) (.ref e :: a.pos))
     (fun r s'=>r = .none∧∃ t od,s'.heap.get? C=some (excClassObj nm q C N bs bm hdct sn sub ab col dd k0 k1 k2 k3 k5 "ValueError.__new__")∧s'.heap.get? e=some { cls:=.ref C,dict:=od,data:=.fields #[.ref t,.none,.none,.none,.bool false,.none] }∧E (.ref e) s') E { s₂ with heap:=h' }) E s₁) E s) :
  wpAny (model prog w) A (exec (.Raise (some (.Call (.Name x np) args [] cpos)) none pos) env) Q E s:=by
 rw [arm_exec_Raise]
 simp only [evalOpt,Option.map]
 refine Xaa (Xbo (ziC (C:=C) (nm:=nm) (q:=q) (N:=N) (bs:=bs) (bm:=bm) (hdct:=hdct) (sn:=sn) (sub:=sub) (ab:=ab) (col:=col) (dd:=dd) (k0:=k0) (k1:=k1) (k2:=k2) (k3:=k3) (k5:=k5) hbase hh (Xaa (Xaz (wpAny_Call_ofName (Xaz h (fun f s₁ h₁=>?_) fun _ _ x=>x)) (fun v s₃ h₃=>Xaa (Xbo (Xad h₃))) fun _ _ x=>x))))
 obtain ⟨rfl,h₁⟩:=h₁
 unfold callWith
 refine Xaa (XaO (Xaz h₁ (fun a s₂ h₂=>Xaa (Xbo ?_)) fun _ _ x=>x))
 obtain ⟨apos,akw⟩:=a
 obtain ⟨hkw,hlen,hC,hn,T,hfI,h₂⟩:=h₂
 obtain rfl:akw=[]:=hkw
 obtain ⟨hp,g,d,tk,os⟩:=s₂
 simp only [hplain]
 refine Xaa (wpAny_keeperOf_exc hC ?_)
 refine Xaa (zj8 T hC hn hi hfI hfc hlen fun h' e hm=>Xaz (h₂ h' e hm) (fun r s' hr=>?_) fun _ _ x=>x)
 obtain ⟨rfl,t,od,hC',he,hE⟩:=hr
 exact ⟨rfl,Xaa (XaO (wpAny_point (Xad ⟨e,t,od,rfl,hC',he,hE⟩)))⟩
end
end L2
end
section
namespace L2
open PySem PySem.Spec PyProof.Rows HT
end L2
end
section
namespace L2
open PySem PySem.Spec PyProof.Rows HT PySem.W PySem.Calls PySem.NumText
end L2
end
section
namespace L2
open PySem PySem.Spec PyProof.Rows HT
end L2
end
section
namespace L2
open PySem PySem.Spec PyProof.Rows HT
section
variable {X:Cx}{x:Str}{p pos:Pos}{e:Expr}{es:List Expr}{tv:TE}{t:TA}
end
end L2
end
section
namespace L2
open PySem PySem.Spec PyProof.Rows HT PySem.W PySem.Calls
end L2
end
section
namespace L2
open PySem PySem.Spec PyProof.Rows HT
section
variable {X:Cx}{x:Str}{a:Addr}{e:Expr}{p apos cpos:Pos}{ty:TE}{kvs:List (Key×V)}
end
end L2
end
section
namespace L2
open PySem PySem.Spec PyProof.Rows HT
end L2
end
section
namespace L2
open PySem PySem.Spec PyProof.Rows PySem.SeqAt
section
variable {X:Cx}{K:W.Frag}
end
section
variable {X:Cx}
end
end L2
end
section
namespace L2
open PySem PySem.Spec PyProof.Rows Builtin
section
variable {prog:Program}{w:World}{A:Around}{E:Value→Shared→Prop}{s:Shared}{K:W.Frag}{x y C D f:Addr}{ox oy:Obj}{od oe:Option Obj}
end
section
variable {X:Cx}
end
section
variable {prog:Program}{w:World}{A:Around}{E:Value→Shared→Prop}{s:Shared}
end
structure Tab (L:Bool)(t:SetTable)(n:Nat):Prop where
 fits:t.fits n=true
 ris:t.place.toList.Pairwise (· < ·)
 led:t.led=L
theorem zkK {xs:Array Nat}{i j:Nat}(h:i<xs.size):xs.getD i j=xs.toList[i]'(by simpa using h):=by
 rw [Array.getD_eq_getD_getElem?,XaN h];simp
theorem ziR {l:List Nat}(h:l.Pairwise (· < ·)){i k:Nat}(hk:k<l.length)(hik:i<k):l[i]'(by omega)<l[k]:=(List.pairwise_iff_getElem.mp h) i k (by omega) hk hik
theorem zeJ {xs:Array Nat}{j:Nat}(hr:xs.toList.Pairwise (· < ·)):∀ (fuel lo hi:Nat),hi≤xs.size→lo≤hi→hi - lo≤fuel→(∀ i (h:i<xs.toList.length),i<lo→xs.toList[i]<j)→(∀ i (h:i<xs.toList.length),hi≤i→j≤xs.toList[i]) →
  SetTable.below.go xs j fuel lo hi≤xs.size∧(∀ i (h:i<xs.toList.length),i<SetTable.below.go xs j fuel lo hi→xs.toList[i]<j)∧∀ i (h:i<xs.toList.length),SetTable.below.go xs j fuel lo hi≤i→j≤xs.toList[i]
 | 0,lo,hi,h1,h2,h3,a,b=>by
  obtain rfl:lo=hi:=by omega
  exact ⟨h1,a,b⟩
 | fuel+1,lo,hi,h1,h2,h3,a,b=>by
  unfold SetTable.below.go
  by_cases hlt:lo<hi
  ·rw [if_pos hlt]
   have hm:(lo+hi) / 2<xs.size:=by omega
   have hml:(lo+hi) / 2<xs.toList.length:=by simpa using hm
   dsimp only
   rw [zkK hm]
   by_cases hc:xs.toList[(lo+hi) / 2]<j
   ·rw [if_pos hc]
    refine zeJ hr fuel _ hi h1 (by omega) (by omega) (fun i h hi'=>?_) b
    rcases (show i<(lo+hi) / 2∨i=(lo+hi) / 2 by omega) with e | e
    ·exact Xbx (ziR hr hml e) hc
    ·subst e;exact hc
   ·rw [if_neg hc]
    refine zeJ hr fuel lo _ (by omega) (by omega) (by omega) a (fun i h hi'=>?_)
    rcases (show (lo+hi) / 2<i∨i=(lo+hi) / 2 by omega) with e | e
    ·exact Xbv (XaL (Nat.not_lt.mp hc) (ziR hr h e))
    ·subst e;exact Nat.not_lt.mp hc
  ·rw [if_neg hlt]
   obtain rfl:lo=hi:=by omega
   exact ⟨h1,a,b⟩
theorem zdc {xs:Array Nat}{j:Nat}(hr:xs.toList.Pairwise (· < ·)):SetTable.below xs j≤xs.size∧(∀ i (h:i<xs.toList.length),i<SetTable.below xs j→xs.toList[i]<j)∧∀ i (h:i<xs.toList.length),SetTable.below xs j≤i→j≤xs.toList[i]:=
 zeJ hr xs.size 0 xs.size (Xaf _) (Nat.zero_le _) (Xaf _) (fun i h z=>absurd z (XbS _)) fun i h z=>absurd (show i<xs.size by simpa using h) (Nat.not_lt.mpr z)
theorem zjx {xs:Array Nat}(hr:xs.toList.Pairwise (· < ·)){i:Nat}(h:i<xs.size):SetTable.below xs xs[i]=i:=by
 obtain ⟨b1,b2,b3⟩:=zdc (j:=xs[i]) hr
 have hl:i<xs.toList.length:=by simpa using h
 have e:xs.toList[i]=xs[i]:=by simp
 rcases Nat.lt_trichotomy (SetTable.below xs xs[i]) i with z | z | z
 ·have h2:SetTable.below xs xs[i]<xs.toList.length:=by omega
  have q1:=b3 _ h2 (Xaf _)
  have q2:=ziR hr hl z
  rw [e] at q2
  exact absurd q1 (Nat.not_le.mpr q2)
 ·exact z
 ·have q1:=b2 i hl z
  rw [e] at q1
  exact absurd q1 (XaT _)
theorem zhc {xs:Array Nat}(hr:xs.toList.Pairwise (· < ·)){i:Nat}(h:i<xs.size):SetTable.below xs (xs[i]+1)=i+1:=by
 obtain ⟨b1,b2,b3⟩:=zdc (j:=xs[i]+1) hr
 have hl:i<xs.toList.length:=by simpa using h
 have e:xs.toList[i]=xs[i]:=by simp
 rcases Nat.lt_trichotomy (SetTable.below xs (xs[i]+1)) (i+1) with z | z | z
 ·have q1:=b3 i hl (by omega)
  rw [e] at q1;omega
 ·exact z
 ·have hls:xs.toList.length=xs.size:=by simp
  have h2:i+1<xs.toList.length:=by omega
  have q1:=b2 (i+1) h2 z
  have q2:=ziR hr h2 (Xa2 i)
  rw [e] at q2;omega
theorem zhb {xs:Array Nat}(hr:xs.toList.Pairwise (· < ·)):SetTable.below xs 0=0:=by
 obtain ⟨b1,b2,b3⟩:=zdc (j:=0) hr
 rcases Nat.eq_zero_or_pos (SetTable.below xs 0) with z | z
 ·exact z
 ·have hls:xs.toList.length=xs.size:=by simp
  have h2:0<xs.toList.length:=by omega
  exact absurd (b2 0 h2 z) (XbS _)
theorem zjR {t:SetTable}(hr:t.place.toList.Pairwise (· < ·)){j:Nat}(h:∀ i,t.slot j≠.live i):j ∉ t.place.toList:=fun hm=>by
 obtain ⟨i,hi,e⟩:=List.getElem_of_mem hm
 have hi':i<t.place.size:=by simpa using hi
 have e':t.place[i]=j:=by simpa using e
 refine h (SetTable.below t.place j) ?_
 unfold SetTable.slot
 dsimp only
 rw [if_pos]
 rw [← e',zjx hr hi',XaN hi',beq_self_eq_true]
theorem zcI {t:SetTable}{hs:Nat→Int}{h:Int}:∀ (fuel:Nat) (p:SetTable.Probe) (j:Nat) (d:Option Nat),(∀ x,p.dummy=some x→∀ i,t.slot x≠.live i)→SetTable.probe.go t hs h fuel p=some (.empty j d)→(∀ i,t.slot j≠.live i)∧∀ x,d=some x→∀ i,t.slot x≠.live i
 | 0,p,j,d,_,e=>by cases e
 | fuel+1,p,j,d,hd,e=>by
  have adv:∀ q:SetTable.Probe,(t.advance q).dummy=q.dummy:=fun q=>by unfold SetTable.advance;split <;> rfl
  unfold SetTable.probe.go at e
  cases hq:t.slot p.j with
  | empty =>
   rw [hq] at e
   have e:=Option.some.inj e
   injection e with e1 e2
   subst e1 e2
   exact ⟨fun i z=>(by rw [hq] at z;cases z),hd⟩
  | dummy =>
   rw [hq] at e
   refine zcI fuel _ j d (fun x hx i z=>?_) e
   rw [adv] at hx
   have hx:p.j=x:=Option.some.inj hx
   subst hx
   rw [hq] at z;cases z
  | live i =>
   rw [hq] at e
   dsimp only at e
   split at e
   ·cases e
   ·exact zcI fuel _ j d (fun x hx=>hd x (by rw [adv] at hx;exact hx)) e
set_option tactic.hygienic true in
theorem zfg {t:SetTable}(hr:t.place.toList.Pairwise (· < ·)){h:Int}{j:Nat}{b:Bool}(e:t.freeSlot h=some (j,b)):j ∉ t.place.toList:=by
 unfold SetTable.freeSlot at e
 split at e
 ·rename_i j' d hp
  have e:=Option.some.inj e
  injection e with e1 _
  obtain ⟨a1,a2⟩:=zcI _ _ _ _ (fun x hx=>by cases hx) hp
  cases d with
  | none=>rw [← e1];exact zjR hr a1
  | some x=>rw [← e1];exact zjR hr (a2 x rfl)
 ·cases e
theorem zg7 {xs:Array Nat}(hr:xs.toList.Pairwise (· < ·)){j:Nat}(hj:j ∉ xs.toList):(SetTable.insertAt xs (SetTable.below xs j) j).toList.Pairwise (· < ·):=by
 obtain ⟨b1,b2,b3⟩:=zdc (j:=j) hr
 rw [SetTable.toList_insertAt,List.pairwise_append]
 refine ⟨hr.sublist (List.take_sublist _ _),List.pairwise_cons.mpr ⟨fun x hx=>?_,hr.sublist (List.drop_sublist _ _)⟩,fun x hx y hy=>?_⟩
 ·obtain ⟨i,hi,rfl⟩:=List.getElem_of_mem hx
  rw [List.getElem_drop]
  rw [Xa3] at hi
  have q:=b3 (SetTable.below xs j+i) (by omega) (by omega)
  exact Nat.lt_of_le_of_ne q fun z=>hj (by rw [z];exact Xbf _)
 ·obtain ⟨i,hi,rfl⟩:=List.getElem_of_mem hx
  rw [List.getElem_take]
  rw [XaR] at hi
  have q:=b2 i (by omega) (by omega)
  rcases Xal.mp hy with rfl | hy
  ·exact q
  ·obtain ⟨k,hk,rfl⟩:=List.getElem_of_mem hy
   rw [List.getElem_drop]
   rw [Xa3] at hk
   exact Xai q (b3 _ (by omega) (by omega))
theorem zbl (n:Nat):(Array.range n).toList.Pairwise (· < ·):=by
 rw [Array.toList_range]
 exact List.pairwise_lt_range
theorem or_tab {L:Bool}{t:SetTable}(hr:t.place.toList.Pairwise (· < ·))(hl:t.led=L)(n:Nat):(t.orStandIn n).place.toList.Pairwise (· < ·)∧(t.orStandIn n).led=L:=by
 unfold SetTable.orStandIn
 by_cases h:t.fits n=true
 ·rw [if_pos h];exact ⟨hr,hl⟩
 ·rw [if_neg h];exact ⟨zbl n,hl⟩
set_option tactic.hygienic true in
theorem zg4 {L:Bool}{t:SetTable}{es:Array (Int×Value)}(T:Tab L t es.size)(h:Int)(x:Value):Tab L (layNew t es h x).2.1 (layNew t es h x).1.size:=by
 have ft:=layNew_fits t es h x
 have q:(layNew t es h x).2.1.place.toList.Pairwise (· < ·)∧(layNew t es h x).2.1.led=L:=by
  unfold layNew
  split
  ·rename_i j b e
   exact or_tab (t:=(t.put j).1) (zg7 T.ris (zfg T.ris e)) T.led _
  ·exact ⟨zbl _,T.led⟩
 exact ⟨ft,q.1,q.2⟩
theorem zdF {mask finger moves:Nat}{led plain:Bool}{hashes:Array Int}{t:SetTable}{o:Array Nat}(e:SetTable.laid mask finger moves led plain hashes=some (t,o)):t.place.toList.Pairwise (· < ·)∧t.led=led:=by
 unfold SetTable.laid at e
 obtain ⟨owner,_,e⟩:=Option.bind_eq_some_iff.mp e
 have e:=Option.some.inj e
 injection e with e1 _
 subst e1
 refine ⟨?_,rfl⟩
 show ((((List.range (mask+1)).filterMap fun j=>(owner.getD j none).map (j,·)).map (·.1)).toArray).toList.Pairwise (· < ·)
 rw [List.map_filterMap,List.toList_toArray]
 refine List.Pairwise.filterMap _ (R:=(· < ·)) (S:=(· < ·)) (fun a a' hl b hb b' hb'=>?_) List.pairwise_lt_range
 ·cases h1:owner.getD a none with
  | none=>rw [h1] at hb;cases hb
  | some u =>
   rw [h1] at hb
   cases h2:owner.getD a' none with
   | none=>rw [h2] at hb';cases hb'
   | some v =>
    rw [h2] at hb'
    have q1:a=b:=Option.some.inj hb
    have q2:a'=b':=Option.some.inj hb'
    omega
set_option tactic.hygienic true in
theorem zhu {L:Bool}{t:SetTable}{es:Array (Int×Value)}(T:t.led=L)(n:Nat):Tab L (relayAll t es n).2.1 (relayAll t es n).1.size:=by
 refine ⟨relayAll_fits t es n,?_,?_⟩
 ·unfold relayAll
  split
  ·rename_i t' o e
   dsimp only
   split
   ·exact (zdF e).1
   ·exact zbl _
  ·exact zbl _
 ·unfold relayAll
  split
  ·rename_i t' o e
   dsimp only
   split
   ·exact (zdF e).2.trans T
   ·exact T
  ·exact T
def sObj (es:Array (Int×Value))(ep:Nat)(t:SetTable):Obj:={ cls:=.type "set",data:=.set es ep t }
def EOk (e:Int×Value):Prop:=∃ (n:Int) (t:Tok),e=(hashInt n,.int n t)
def eInt (e:Int×Value):Int:=match e.2 with
 | .int n _=>n
 | _=>0
def zh7 (l:List (Int×Value)):List Int:=l.map eInt
def SetI (L:Bool)(h:Heap)(a:Addr)(S:List Int):Prop:=∃ es ep t,h.get? a=some (sObj es ep t)∧(∀ e∈es.toList,EOk e)∧(zh7 es.toList).Perm S∧S.Nodup∧Tab L t es.size
theorem SetI.at {L:Bool}{h h':Heap}{a:Addr}{S:List Int}(x:SetI L h a S)(e:∀ o,h.get? a=some o→h'.get? a=some o):SetI L h' a S:=by
 obtain ⟨es,ep,t,g,r⟩:=x
 exact ⟨es,ep,t,e _ g,r⟩
theorem zh6 {prog:Program}{w:World}{l:List (Int×Value)}(h:∀ e∈l,EOk e):ElemsOf (intKind prog w) l:=fun e he=>by
 obtain ⟨n,t,rfl⟩:=h e he
 exact ⟨⟨n,intKind_is _ _ _ _,rfl⟩,rfl⟩
theorem zjV {prog:Program}{w:World}{e:Int×Value}(h:EOk e)(n:Int):(intKind prog w).is n e.2=decide (n=eInt e):=by
 obtain ⟨m,t,rfl⟩:=h
 show Value.isInt n (.int m t)=decide (n=m)
 unfold Value.isInt
 by_cases e:n=m
 ·subst e;simp
 ·rw [Xas e];simpa using fun z=>e z.symm
section
variable {prog:Program}{w:World}{A:Around}{E:Value→Shared→Prop}{s:Shared}
theorem zjK {h:Heap}{a:Addr}{es es':Array (Int×Value)}{ep:Nat}{t t':SetTable}(g:h.get? a=some (sObj es ep t)):(h.update a (Obj.putSet es' t')).get? a=some (sObj es' (ep+1) t'):=by
 have e:=putSet_of es' t' (show (sObj es ep t).data = .set es ep t from rfl)
 have:=XaI (Obj.putSet es' t') g (by rw [e];rfl)
 rw [e] at this;exact this
theorem zgG {L:Bool}{g:Bool→Sem Unit}(hg:∀ (b:Bool) (s₁:Shared) (Q':Unit→Shared→Prop),Q' () s₁→wpAny (model prog w) A (g b) Q' E s₁){a:Addr}{es es1:Array (Int×Value)}{ep:Nat}{t t2:SetTable}(ho:s.heap.get? a=some (sObj es ep t))
  (hz:es1.size<scanBound) (T2:Tab L t2 es1.size) {wd:Bool} {R:Option Bool→Shared→Prop}
  (h:∀ h' es' ep' t',Heap.SameBut a s.heap h'→h'.get? a=some (sObj es' ep' t')→es'.toList.Perm es1.toList→Tab L t' es'.size→R (some true) { s with heap:=h' }) :
  wpAny (model prog w) A (do
   storeSet a es1 t2
   if (!wd && t2.tooFull)=true then do
    g (relayAll t2 es1 (SetTable.grown es1.size)).2.2
    storeSet a (relayAll t2 es1 (SetTable.grown es1.size)).1 (relayAll t2 es1 (SetTable.grown es1.size)).2.1
    pure (some true)
   else pure (some true)) R E s:=by
 refine Xaa (wpAny_storeSet_of ho rfl ?_ (fits_of_scanBound hz))
 have g1:=zjK (es':=es1) (t':=t2) ho
 have b1:=Heap.SameBut.update s.heap a (Obj.putSet es1 t2)
 split
 ·have pm:=relayAll_perm t2 es1 (SetTable.grown es1.size)
  have T3:=zhu (es:=es1) T2.led (SetTable.grown es1.size)
  generalize relayAll t2 es1 (SetTable.grown es1.size)=Y at pm T3 ⊢
  obtain ⟨es2,t3,gv⟩:=Y
  have sz:es2.size=es1.size:=by rw [← Array.length_toList,pm.length_eq,Array.length_toList]
  refine Xaa (hg _ _ _ (Xaa (wpAny_storeSet_of g1 rfl ?_ (fits_of_scanBound (by rw [sz];exact hz)))))
  exact Xad (h _ es2 _ t3 (b1.trans (Heap.SameBut.update _ a _)) (zjK g1) pm T3)
 ·exact Xad (h _ es1 _ t2 b1 g1 .rfl T2)
theorem zkk {L:Bool}{a:Addr}{S:List Int}{n:Int}{tok:Tok}{Q:Value→Shared→Prop}(hS:SetI L s.heap a S)(hz:S.length<1000)
  (h:∀ h',Heap.SameBut a s.heap h'→SetI L h' a (if n∈S then S else S ++ [n])→Q .none { s with heap:=h',toks:=s.toks+1 }) :
  wpAny (model prog w) A (call (.builtin "set.add") [.ref a,.int n tok]) Q E s:=by
 obtain ⟨es,ep,t,ho,hE,hP,hN,T⟩:=hS
 have hel:=zh6 (prog:=prog) (w:=w) hE
 have hsz:es.size=S.length:=by rw [← Array.length_toList,← hP.length_eq];unfold zh7;rw [Xae]
 have hb:es.size<scanBound:=Xbx (show es.size<1000 by omega) (by decide)
 have hk:(intKind prog w).is n (.int n tok)=true:=intKind_is _ _ _ _
 have hsc:(Value.int n tok).scannable=true:=rfl
 refine Xa0 F.slot_set_add (show s.TypeIs (.ref a) "set" from ⟨_,ho,rfl⟩) F.entry_set_add ?_ (F.args_set_add_2 _ _)
 unfold Builtin.«set.add» Builtin.Frozenset.oneOther;simp only [List.isEmpty_nil,bind_assoc]
 unfold Builtin.Frozenset.addrOf setAdd;refine Xaa (Xad ?_)
 try dsimp only
 refine Xaa (Xad (Xaa (XaO (Xaa ((intKind prog w).pyHash hk ?_)))))
 generalize hs1:({ s with toks:=s.toks+1 }:Shared)=s1
 have ho1:s1.heap.get? a=some (sObj es ep t):=by rw [← hs1];exact ho
 have fin:∀ (b:Bool) h',Heap.SameBut a s.heap h'→SetI L h' a (if n∈S then S else S ++ [n])→(fun (_:Bool) s'=>wpAny (model prog w) A.in1 (ret Value.none) (fun fin s'=>∃ v,fin = .done (.ret v)∧Q v s') E s') b { s1 with heap:=h' }:=fun b h' hb' x=>by
  have:=h h' hb' x
  rw [← hs1]
  exact Xad ⟨_,rfl,this⟩
 show wpAny (model prog w) A.in1 (setAddHashed a (.int n tok) ((intKind prog w).hash n)) (fun _ s'=>wpAny (model prog w) A.in1 (ret Value.none) (fun fin s'=>∃ v,fin = .done (.ret v)∧Q v s') E s') E s1
 unfold setAddHashed setAddHashedIn;refine XaO (Xaa (Xba ho1 rfl T.fits ?_))
 dsimp only
 rw [byScan_of hsc hb hel,if_pos rfl]
 unfold setAddByScan;refine Xaa (Xaa (wpAny_rule (Xaa (wpAny_setScan_of hk ho1 rfl T.fits hel ?_))))
 have s1h:s1.heap=s.heap:=by rw [← hs1]
 have mem:n∈S↔∃ e∈es.toList,(intKind prog w).is n e.2=true:=by
  rw [← hP.mem_iff]
  constructor
  ·intro hm
   obtain ⟨e,he,z⟩:=XaJ.mp hm
   exact ⟨e,he,by rw [zjV (hE e he)];exact Xap z.symm⟩
  ·rintro ⟨e,he,z⟩
   rw [zjV (hE e he)] at z
   rw [XaQ z]
   exact XaJ.mpr ⟨e,he,rfl⟩
 cases hr:List.findIdx? (fun e=>(intKind prog w).is n e.2) es.toList with
 | some j =>
  obtain ⟨hj,pj,_⟩:=List.findIdx?_eq_some_iff_getElem.mp hr
  have hm:n∈S:=mem.mpr ⟨_,Xbf hj,pj⟩
  refine Xad (Xad ?_)
  have:=fin false s.heap (Heap.SameBut.refl a s.heap) (by rw [if_pos hm];exact ⟨es,ep,t,ho,hE,hP,hN,T⟩)
  rw [← hs1] at this ⊢
  exact this
 | none =>
  have hm:n ∉ S:=fun z=>by
   obtain ⟨e,he,p⟩:=mem.mp z
   have:=List.findIdx?_eq_none_iff.mp hr e he
   rw [p] at this;cases this
  rw [if_neg hm] at fin
  have pm:=layNew_perm t es ((intKind prog w).hash n) (.int n tok)
  have T1:=zg4 T ((intKind prog w).hash n) (.int n tok)
  generalize layNew t es ((intKind prog w).hash n) (.int n tok)=Y at pm T1 ⊢
  obtain ⟨es1,t1,wd,gv⟩:=Y
  dsimp only at pm T1 ⊢
  rw [Array.toList_push] at pm
  have sz1:es1.size=es.size+1:=by rw [← Array.length_toList,pm.length_eq,Xao,Array.length_toList];rfl
  have hz1:es1.size<scanBound:=Xbx (show es1.size<1001 by omega) (by decide)
  have last:∀ h' es' ep' t',Heap.SameBut a s1.heap h'→h'.get? a=some (sObj es' ep' t')→es'.toList.Perm es1.toList→Tab L t' es'.size→SetI L h' a (S ++ [n]):=fun h' es' ep' t' hb' g' p' T'=>by
   have p2:=p'.trans pm
   refine ⟨es',ep',t',g',fun e he=>?_,?_,?_,T'⟩
   ·rcases XaF.mp (p2.mem_iff.mp he) with z | z
    ·exact hE e z
    ·rw [Xac.mp z];exact ⟨n,tok,rfl⟩
   ·have q:=p2.map eInt
    rw [XaC] at q
    exact q.trans (hP.append_right _)
   ·exact Xbb.mpr ⟨hN,XbA.mpr ⟨(fun z=>nomatch z),List.nodup_nil⟩,fun x hx y hy z=>hm (by rw [← Xac.mp hy,← z];exact hx)⟩
  refine Xaa (m:=(match gv with | true=>rule "set.scan.the-table-gave-way" | false=>pure ())) ?_
  have hgw:∀ (b:Bool) (s₁:Shared) (Q':Unit→Shared→Prop),Q' () s₁→wpAny (model prog w) A.in1 (match b with | true=>rule "set.scan.the-table-gave-way" | false=>pure ()) Q' E s₁:=fun b s₁ Q' q=>by
   cases b
   ·exact Xad q
   ·exact wpAny_rule q
  refine hgw gv _ _ ?_
  have off:Tab L { t1 with plain:=false } es1.size:=⟨SetTable.fits_plain_off T1.fits,T1.ris,T1.led⟩
  split
  ·refine Xaa ?_
   rw [hashByValue_scannable 8 hsc]
   refine Xad (zgG (L:=L) hgw ho1 hz1 ?_ fun h' es' ep' t' hb' g' p' T'=>Xad (fin true h' (by rw [← s1h];exact hb') (last h' es' ep' t' hb' g' p' T')))
   split
   ·exact T1
   ·exact off
  ·refine Xaa (Xad ?_)
   rw [if_pos rfl]
   exact zgG (L:=L) hgw ho1 hz1 T1 fun h' es' ep' t' hb' g' p' T'=>Xad (fin true h' (by rw [← s1h];exact hb') (last h' es' ep' t' hb' g' p' T'))
end
theorem slot_si_next:Slot "set_iterator" "__next__" "set_iterator.__next__" :=
 .of (owner := "set_iterator") (n := "__next__") (by rw [typeLookup_type,builtinLookup_eq_fast];kernel_rfl) (by decide +kernel) (by decide +kernel) (by decide +kernel) (by first | exact .inl (by decide +kernel) | exact .inr (by decide +kernel)) (by rw [isSubtype_type];kernel_rfl)
theorem zcs:entryFor table "set_iterator.__next__" = some Builtin.«set_iterator.__next__»:=entryFor_of_tree (by kernel_rfl)
theorem zgp:Manifest.owners.lookup (String.ofList ['r','o','t','a','r','e','t','i','_','t','e','s'].reverse)=some Manifest.sig_set_iterator:=by kernel_rfl
theorem zcU (a:Value):argsOk "set_iterator.__next__" ⟨[a],[]⟩:=by
 unfold argsOk;rw [signature?_of (id := "set_iterator.__next__") (n:=['_','_','t','x','e','n','_','_']) (o:=['r','o','t','a','r','e','t','i','_','t','e','s']) (by kernel_rfl) zgp];kernel_rfl
theorem zfk:entryFor table "set.__iter__" = some Builtin.«frozenset.__iter__»:=entryFor_alias (id' := "frozenset.__iter__") (by kernel_rfl) rfl (by decide +kernel) (by kernel_rfl)
theorem zcP {α:Type}:∀ {l:List α} {i:Nat} (h:i<l.length),(l[i] :: l.eraseIdx i).Perm l
 | a :: l,0,h=>.rfl
 | a :: l,i+1,h=>(List.Perm.swap _ _ _).trans ((zcP (l:=l) (i:=i) (by simpa using h)).cons a)
theorem zhD {α:Type}(next:Nat→Nat):∀ (fuel k:Nat) (left:List α) (out:Array α),left.length=fuel→(pickOrder.go next fuel k left out).toList.Perm (out.toList ++ left)
 | 0,k,left,out,h=>by rw [List.eq_nil_of_length_eq_zero h,Xa7];exact .rfl
 | fuel+1,k,left,out,h=>by
  have hl:next k % left.length<left.length:=Xbc _ (by omega)
  unfold pickOrder.go
  rw [Xak hl]
  dsimp only
  refine (zhD next fuel (k+1) _ _ (by rw [List.length_eraseIdx_of_lt hl];omega)).trans ?_
  rw [Array.toList_push,List.append_assoc]
  exact (List.Perm.refl _).append (zcP hl)
theorem zhC {α:Type}(next:Nat→Nat)(xs:Array α):(pickOrder next xs).toList.Perm xs.toList:=by
 have:=zhD next xs.size 0 xs.toList #[] (by simp)
 simpa [pickOrder] using this
section
variable {prog:Program}{w:World}{A:Around}{E:Value→Shared→Prop}{s:Shared}
theorem zhd {src:Source}{n:Nat}{Q:Nat→Shared→Prop}(hn:n≠0)(h:∀ i d,i<n→Q i { s with drawn:=d }):wpAny (model prog w) A (choose src n) Q E s:=fun Γ p _ =>
 ⟨hn,h _ _ (Xbc _ (Nat.pos_of_ne_zero hn))⟩
theorem zd6 {α:Type}:∀ (n:Nat) (xs:List α) (s:Shared) (Q:List α→Shared→Prop),xs.length=n→(∀ ys d,ys.Perm xs→Q ys { s with drawn:=d })→wpAny (model prog w) A (drawOrder n xs) Q E s
 | 0,xs,s,Q,h,q=>by
  unfold drawOrder
  exact Xad (by have:=q [] s.drawn (by rw [List.eq_nil_of_length_eq_zero h]);exact this)
 | n+1,[],s,Q,h,q=>by cases h
 | n+1,x :: xs,s,Q,h,q=>by
  unfold drawOrder
  refine Xaa (zhd (by simp) fun i d hi=>?_)
  rw [Xak hi]
  dsimp only
  refine Xaa (zd6 n _ _ _ (by rw [List.length_eraseIdx_of_lt hi];simp at h ⊢;exact h) fun ys d' p=>Xad (q _ d' ?_))
  exact (List.Perm.cons _ p).trans (zcP hi)
def zhf (w:World)(a:Addr)(es:Array (Int×Value))(ep:Nat)(t:SetTable)(vs:List Value)(h:Heap)(i:Nat)(first:Value):Prop:=
 (w.params.followText "set-order" = true∧(∃ k:Nat,first = .int (k:Int) 0)∧vs=(pickOrder (w.params.setOrder a ep) es).toList.map (·.2)) ∨
 (w.params.followText "set-order" = false∧(!t.plain && decide (es.size > 1))=false∧t.led=true∧(∃ k:Nat,first = .int (k:Int) 0∧SetTable.below t.place k=i)∧vs=es.toList.map (·.2)) ∨
 (w.params.followText "set-order" = false∧∃ (T:Addr) (ps:List Nat),first = .ref T∧h.get? T=some { cls:=.type "tuple",data:=.seq (ps.map fun (p:Nat)=>Value.int (p:Int) 0).toArray }∧ps.length=es.size∧(∀ p∈ps,p<es.size)∧vs=ps.map fun p=>((es[p]?).getD (0,.none)).2)
end
def siO (first:Value)(i:Int)(a:Value)(n:Int)(ep:Int):Obj:={ cls:=.type "set_iterator",data:=.fields #[first,.int i 0,a,.int n 0,.int ep 0] }
section
variable {prog:Program}{w:World}{A:Around}{E:Value→Shared→Prop}{s:Shared}
theorem zdY {h:Heap}{I:Addr}{vs:Array Value}{j:Nat}{x:Value}(hI:h.get? I=some { cls:=.type "set_iterator",data:=.fields vs }):(h.update I (Obj.mapFields (·.setIfInBounds j x))).get? I=some { cls:=.type "set_iterator",data:=.fields (vs.setIfInBounds j x) }:=by
 have:=XaI (Obj.mapFields (·.setIfInBounds j x)) hI rfl
 exact this
theorem zkh {I a:Addr}{es:Array (Int×Value)}{ep i:Nat}{t:SetTable}{vs:List Value}{first x:Value}{Q:Option Value→Shared→Prop}(hI:s.heap.get? I=some (siO first (i:Int) (.ref a) (es.size:Int) (ep:Int)))(ha:s.heap.get? a=some (sObj es ep t))(hf:t.fits es.size=true)(hr:t.place.toList.Pairwise (· < ·))
  (m:zhf w a es ep t vs s.heap i first) (hx:vs[i]? = some x)
  (hq:∀ h' first',Heap.SameBut I s.heap h'→h'.get? I=some (siO first' ((i+1:Nat):Int) (.ref a) (es.size:Int) (ep:Int))→zhf w a es ep t vs h' (i+1) first'→(∀ T:Addr,first' = .ref T→first = .ref T)→Q (some x) { s with heap:=h' }):wpAny (model prog w) A (pyNext (.ref I)) Q E s:=by
 have hT:s.TypeIs (.ref I) "set_iterator" := ⟨_,hI,rfl⟩
 have ps:t.place.size=es.size:=by
  have:=hf;unfold SetTable.fits at this
  exact beq_iff_eq.mp (Bool.and_eq_true_iff.mp this).1
 unfold pyNext
 refine Xaa (XbM (wpAny_callSpecial?_slot (name:=Str.ofString "__next__") hT slot_si_next (Xa0 slot_si_next hT zcs ?_ (zcU _))))
 delta Builtin.«set_iterator.__next__»
 refine Xaa (m:=slotArgs "__next__" 0 _) (Xad ?_)
 dsimp only
 refine Xaa (wpAny_fieldsOf hI rfl ?_)
 show wpAny _ _ (setEntries a >>= _) _ _ s
 refine Xaa (wpAny_setEntries_of ha rfl hf ?_)
 rw [if_neg (by simp)]
 have far:∀ {T:Addr} {o:Obj},s.heap.get? T=some o→o.cls = .type "tuple" → T≠I:=fun {T o} e c z=>by rw [z,hI] at e;cases e;exact absurd (show ("set_iterator" : String) = "tuple" by injection c) (by decide)
 rcases m with ⟨bt,⟨k,rfl⟩,ev⟩ | ⟨bt,dr,led,⟨k,rfl,bk⟩,ev⟩ | ⟨bt,T,pl,rfl,eT,hl,hp,ev⟩
 ·
  show wpAny _ _ (setNext a (k:Int).toNat (i:Int).toNat (ep:Int).toNat >>= _) _ _ s
  rw [Xat,Xat,Xat]
  unfold setNext setsByText setWalk
  refine Xaa (Xaa (Xba ha rfl hf ?_))
  refine Xaa (Xaa (Xa4 (Xad ?_)))
  rw [show (model prog w).w.params.followText "set-order" = true from bt,if_pos rfl,show (ep != ep)=false by simp,if_neg Xaq]
  refine Xaa (Xaa (Xba ha rfl hf ?_))
  unfold setsByText
  refine Xaa (Xaa (Xa4 (Xad ?_)))
  rw [show (model prog w).w.params.followText "set-order" = true from bt,if_pos rfl]
  refine Xaa (Xa4 (Xad (Xad ?_)))
  have e1:(pickOrder ((model prog w).w.params.setOrder a ep) es)[i]?.map (fun e=>(e.2,k))=some (x,k):=by
   rw [ev,Xan,Xbh] at hx
   obtain ⟨e,h1,h2⟩:=Xaw.mp hx
   show (pickOrder (w.params.setOrder a ep) es)[i]?.map _=_
   rw [h1,← h2];rfl
  rw [e1]
  refine Xaa (Xa1 hI rfl (by simp) ?_)
  have h1:=zdY (j:=0) (x:=.int (k:Int) 0) hI
  refine Xaa (Xa1 h1 rfl (by simp) ?_)
  have h2:=zdY (j:=1) (x:=.int ((i:Int)+1) 0) h1
  refine Xad ⟨_,rfl,?_⟩
  refine Xad (hq _ (.int (k:Int) 0) ((Heap.SameBut.update _ _ _).trans (Heap.SameBut.update _ _ _)) h2 (.inl ⟨bt,⟨k,rfl⟩,ev⟩) fun T z=>by cases z)
 ·
  have hi:i<es.size:=by
   have:=(Xag.mp hx).1
   rw [ev,Xae] at this;simpa using this
  have hip:i<t.place.size:=by omega
  show wpAny _ _ (setNext a (k:Int).toNat (i:Int).toNat (ep:Int).toNat >>= _) _ _ s
  rw [Xat,Xat,Xat]
  unfold setNext setsByText
  refine Xaa (Xaa (Xba ha rfl hf ?_))
  refine Xaa (Xaa (Xa4 (Xad ?_)))
  rw [show (model prog w).w.params.followText "set-order" = false from bt,if_neg Xaq]
  rw (transparency:=.default) [if_neg (fun z=>Xaq (dr.symm.trans z))]
  refine Xaa ?_
  show wpAny _ _ (if (!t.led && !es.isEmpty)=true then (unsupported "set:maker-not-led" : Sem Unit) else pure ()) _ _ s
  rw [if_neg (by rw [led];exact Xaq)]
  refine Xad (Xad ?_)
  have e1:es[i]? = some (es[i].1,x):=by
   rw [ev,Xan,Xbh,XaN hi] at hx
   rw [XaN hi,← Option.some.inj hx]
  rw [bk,e1,XaN hip]
  refine Xaa (Xa1 hI rfl (by simp) ?_)
  have h1:=zdY (j:=0) (x:=.int ((t.place[i]+1:Nat):Int) 0) hI
  refine Xaa (Xa1 h1 rfl (by simp) ?_)
  have h2:=zdY (j:=1) (x:=.int ((i:Int)+1) 0) h1
  refine Xad ⟨_,rfl,?_⟩
  refine Xad (hq _ (.int ((t.place[i]+1:Nat):Int) 0) ((Heap.SameBut.update _ _ _).trans (Heap.SameBut.update _ _ _)) h2 (.inr (.inl ⟨bt,dr,led,⟨t.place[i]+1,rfl,zhc hr hip⟩,ev⟩)) fun T z=>by cases z)
 ·
  have hip:i<pl.length:=by
   have:=(Xag.mp hx).1
   rw [ev,Xae] at this;exact this
  have hpi:pl[i]<es.size:=hp _ (Xbf hip)
  show wpAny _ _ (seqItems? (.ref T) >>= _) _ _ s
  refine Xaa (Xa6 eT rfl ?_)
  dsimp only
  rw [Xat,List.getElem?_toArray,Xan,Xak hip]
  show wpAny _ _ (setNextDrawn a ((pl[i]:Nat):Int).toNat (ep:Int).toNat >>= _) _ _ s
  rw [Xat,Xat]
  unfold setNextDrawn
  refine Xaa (Xaa (Xba ha rfl hf ?_))
  dsimp only
  rw [show (ep != ep)=false by simp,if_neg Xaq]
  have e1:es[pl[i]]? = some (es[pl[i]].1,x):=by
   rw [ev,Xan,Xak hip,Option.map_some,XaN hpi] at hx
   rw [XaN hpi,← Option.some.inj hx];rfl
  rw [e1]
  refine Xad ?_
  refine Xaa (Xa1 hI rfl (by simp) ?_)
  have h1:=zdY (j:=1) (x:=.int ((i:Int)+1) 0) hI
  refine Xad ⟨_,rfl,?_⟩
  refine Xad (hq _ (.ref T) (Heap.SameBut.update _ _ _) h1 (.inr (.inr ⟨bt,T,pl,rfl,?_,hl,hp,ev⟩)) fun T' z=>z)
  exact (Heap.SameBut.update s.heap I _).extBut T _ (far eT rfl) eT
end
theorem zcQ:Slot "set_iterator" "__iter__" "set_iterator.__iter__" :=
 .of (owner := "set_iterator") (n := "__iter__") (by rw [typeLookup_type,builtinLookup_eq_fast];kernel_rfl) (by decide +kernel) (by decide +kernel) (by decide +kernel) (by first | exact .inl (by decide +kernel) | exact .inr (by decide +kernel)) (by rw [isSubtype_type];kernel_rfl)
theorem zeC:entryFor table "set_iterator.__iter__" = some Builtin.«dict_keyiterator.__iter__»:=entryFor_alias (id' := "dict_keyiterator.__iter__") (by kernel_rfl) rfl (by decide +kernel) (by kernel_rfl)
theorem zfy (a:Value):argsOk "set_iterator.__iter__" ⟨[a],[]⟩:=by
 unfold argsOk;rw [signature?_of (id := "set_iterator.__iter__") (n:=['_','_','r','e','t','i','_','_']) (o:=['r','o','t','a','r','e','t','i','_','t','e','s']) (by kernel_rfl) zgp];kernel_rfl
section
variable {prog:Program}{w:World}{A:Around}{E:Value→Shared→Prop}{s:Shared}
theorem zfD {α:Type}{Q:α→Shared→Prop}(hh:A.handled=none)(q:∀ e,(∃ o,(s.heap.push (seqObj "tuple" #[] 0)).push o=(s.heap.push (seqObj "tuple" #[] 0)).push o)→∀ h',Heap.ExtBut s.heap.objs.size s.heap h'→(∀ b o,s.heap.get? b=some o→h'.get? b=some o)→(∃ o,h'.get? e=some o∧o.cls = .type "StopIteration")→E (.ref e) { s with heap:=h' }) :
  wpAny (model prog w) A (do raiseNew (← newExc (.type "StopIteration") [])) Q E s:=by
 refine Xaa ?_;simp only [newExc,newTuple];refine Xaa (XaP ?_ (by size_fits))
 refine Xaa (m:=firstArgMember _ _) (wpAny_of_eq (a:=Value.none) (by first | rfl | (simp only [firstArgMember];rfl)) ?_);refine XaP ?_ (by size_fits)
 simp only [raiseNew];refine Xaa (wpAny_handled ?_);rw [hh];refine Xaa (Xad (wpAny_throw ?_))
 refine q _ ⟨default,rfl⟩ _ (fun b o _ e=>Xab _ (Xab _ e)) (fun b o e=>Xab _ (Xab _ e)) ⟨_,Xah _ rfl,rfl⟩
theorem zki {I a:Addr}{es:Array (Int×Value)}{ep:Nat}{t:SetTable}{vs:List Value}{first:Value}{Q:Option Value→Shared→Prop}(hh:A.handled=none)(hI:s.heap.get? I=some (siO first (vs.length:Int) (.ref a) (es.size:Int) (ep:Int)))(ha:s.heap.get? a=some (sObj es ep t))(hf:t.fits es.size=true)(hr:t.place.toList.Pairwise (· < ·))
  (m:zhf w a es ep t vs s.heap vs.length first)
  (hq:∀ h',Heap.ExtBut I s.heap h'→Q none { s with heap:=h' }):wpAny (model prog w) A (pyNext (.ref I)) Q E s:=by
 have hT:s.TypeIs (.ref I) "set_iterator" := ⟨_,hI,rfl⟩
 unfold pyNext
 refine Xaa (XbM (wpAny_callSpecial?_slot (name:=Str.ofString "__next__") hT slot_si_next (Xa0 slot_si_next hT zcs ?_ (zcU _))))
 delta Builtin.«set_iterator.__next__»
 refine Xaa (m:=slotArgs "__next__" 0 _) (Xad ?_)
 dsimp only
 refine Xaa (wpAny_fieldsOf hI rfl ?_)
 show wpAny _ _ (setEntries a >>= _) _ _ s
 refine Xaa (wpAny_setEntries_of ha rfl hf ?_)
 rw [if_neg (by simp)]
 
 have last:∀ {Q':PySem.Fin→Shared→Prop} (h1:Heap),Heap.SameBut I s.heap h1→wpAny (model prog w) A.in1 (do raiseNew (← newExc (.type "StopIteration") [])) Q' (fun e s'=>wpAny (model prog w) A (do let __do_lift ← isInstance e (Value.type "StopIteration");if __do_lift=true then pure none else throw e) Q E s') { s with heap:=h1 }:=fun {Q'} h1 b1=>by
  refine zfD hh fun e _ h' _ k he=>?_
  obtain ⟨o,ho,hcl⟩:=he
  refine Xaa (wpAny_isInstance (T := "StopIteration") (b:=true) ⟨o,ho,hcl⟩ isSubtype_stop ?_)
  exact Xad (hq h' fun b o hb e=>k b o (b1.extBut b o hb e))
 rcases m with ⟨bt,⟨k,rfl⟩,ev⟩ | ⟨bt,dr,led,⟨k,rfl,bk⟩,ev⟩ | ⟨bt,T,pl,rfl,eT,hl,hp,ev⟩
 ·show wpAny _ _ (setNext a (k:Int).toNat (vs.length:Int).toNat (ep:Int).toNat >>= _) _ _ s
  rw [Xat,Xat,Xat]
  unfold setNext setsByText setWalk
  refine Xaa (Xaa (Xba ha rfl hf ?_))
  refine Xaa (Xaa (Xa4 (Xad ?_)))
  rw [show (model prog w).w.params.followText "set-order" = true from bt,if_pos rfl,show (ep != ep)=false by simp,if_neg Xaq]
  refine Xaa (Xaa (Xba ha rfl hf ?_))
  unfold setsByText
  refine Xaa (Xaa (Xa4 (Xad ?_)))
  rw [show (model prog w).w.params.followText "set-order" = true from bt,if_pos rfl]
  refine Xaa (Xa4 (Xad (Xad ?_)))
  have e1:(pickOrder ((model prog w).w.params.setOrder a ep) es)[vs.length]? = none:=by
   rw [← Xbh,XaM]
   rw [ev,Xae];exact Xaf _
  rw [e1]
  refine Xaa (Xa1 hI rfl (by simp) ?_)
  exact last _ (Heap.SameBut.update _ _ _)
 ·show wpAny _ _ (setNext a (k:Int).toNat (vs.length:Int).toNat (ep:Int).toNat >>= _) _ _ s
  rw [Xat,Xat,Xat]
  unfold setNext setsByText
  refine Xaa (Xaa (Xba ha rfl hf ?_))
  refine Xaa (Xaa (Xa4 (Xad ?_)))
  rw [show (model prog w).w.params.followText "set-order" = false from bt,if_neg Xaq]
  rw (transparency:=.default) [if_neg (fun z=>Xaq (dr.symm.trans z))]
  refine Xaa ?_
  show wpAny _ _ (if (!t.led && !es.isEmpty)=true then (unsupported "set:maker-not-led" : Sem Unit) else pure ()) _ _ s
  rw [if_neg (by rw [led];exact Xaq)]
  refine Xad (Xad ?_)
  have e1:es[vs.length]? = none:=by
   rw [← Xbh,XaM]
   rw [ev,Xae];exact Xaf _
  rw [bk,e1]
  refine Xaa (Xa1 hI rfl (by simp) ?_)
  exact last _ (Heap.SameBut.update _ _ _)
 ·show wpAny _ _ (seqItems? (.ref T) >>= _) _ _ s
  refine Xaa (Xa6 eT rfl ?_)
  dsimp only
  have e1:(pl.map fun (p:Nat)=>Value.int (p:Int) 0).toArray[vs.length]? = none:=by
   rw [List.getElem?_toArray,XaM]
   rw [ev,Xae,Xae];exact Xaf _
  rw [Xat,e1]
  refine Xaa (Xa1 hI rfl (by simp) ?_)
  have h1:=zdY (j:=0) (x:=.int 0 0) hI
  refine Xaa (Xa1 h1 rfl (by simp) ?_)
  exact last _ ((Heap.SameBut.update _ _ _).trans (Heap.SameBut.update _ _ _))
theorem ziI {I a:Addr}{es:Array (Int×Value)}{ep:Nat}{t:SetTable}{vs:List Value}{fp:List Addr}(hh:A.handled=none)(hf:t.fits es.size=true)(hr:t.place.toList.Pairwise (· < ·))(hIa:I≠a)(hI:I∈fp)(ha:a∈fp) :
  Walks prog w A I fp [I] vs.length (fun i v=>vs[i]? = some v) (fun i h=>∃ first,h.get? I=some (siO first (i:Int) (.ref a) (es.size:Int) (ep:Int))∧h.get? a=some (sObj es ep t)∧zhf w a es ep t vs h i first∧∀ T:Addr,first = .ref T→T∈fp) where
 sub:=fun b hb=>by rw [Xac.mp hb];exact hI
 frame:=fun i h h' ⟨first,e1,e2,m,m2⟩ k=>by
  refine ⟨first,k I hI _ e1,k a ha _ e2,?_,m2⟩
  rcases m with z | z | ⟨bt,T,pl,ef,eT,r⟩
  ·exact .inl z
  ·exact .inr (.inl z)
  ·exact .inr (.inr ⟨bt,T,pl,ef,k T (m2 T ef) _ eT,r⟩)
 item:=fun i s Q E hi ⟨first,e1,e2,m,m2⟩ q=>by
  have hx:vs[i]? = some vs[i]:=Xak hi
  refine zkh e1 e2 hf hr m hx fun h' first' b g m' mt=>?_
  have:=q vs[i] h' s.toks hx ⟨first',g,b.extBut a _ (Ne.symm hIa) e2,m',?_⟩ fun b' o hb' e=>b.extBut b' o (fun z=>hb' (by rw [z];exact Xac.mpr rfl)) e
  ·exact this
  ·exact fun T z=>m2 T (mt T z)
 done:=fun s Q E ⟨first,e1,e2,m,m2⟩ q=>zki hh e1 e2 hf hr m fun h' k=>q h' s.toks fun b o hb e=>k b o (fun z=>hb (by rw [z];exact Xac.mpr rfl)) e
 self:=fun i s Q E ⟨first,e1,e2,m,m2⟩ q=>by
  have hT:s.TypeIs (.ref I) "set_iterator" := ⟨_,e1,rfl⟩
  refine wpAny_pyIter_slot hT zcQ (Xa0 zcQ hT zeC ?_ (zfy _))
  delta Builtin.«dict_keyiterator.__iter__»
  refine Xaa (m:=slotArgs "__iter__" 0 _) (Xad ?_)
  exact Xad ⟨_,rfl,"set_iterator",_,hT,slot_si_next.lookup,q⟩
end
section
variable {prog:Program}{w:World}{A:Around}{E:Value→Shared→Prop}{s:Shared}
theorem zgP (es:Array (Int×Value)):(List.range es.size).map (fun p=>((es[p]?).getD (0,.none)).2)=es.toList.map (·.2):=by
 apply List.ext_getElem
 ·simp
 ·intro i h1 h2
  have hi:i<es.size:=by simpa using h1
  simp [XaN hi]
theorem ziK {a:Addr}{es:Array (Int×Value)}{ep:Nat}{t:SetTable}{Q:Value→Shared→Prop}(ha:s.heap.get? a=some (sObj es ep t))(Tb:Tab (!w.params.followText "set-order") t es.size)(hz:es.size≤sizeLine)
  (q:∀ (h':Heap) (d:Drawn) (I:Addr) (first:Value) (vs:List Value),(∀ b o,s.heap.get? b=some o→h'.get? b=some o)→h'.get? I=some (siO first 0 (.ref a) (es.size:Int) (ep:Int))→zhf w a es ep t vs h' 0 first→vs.Perm (es.toList.map (·.2))→s.heap.objs.size≤I→I<h'.objs.size→(∀ T:Addr,first = .ref T→s.heap.objs.size≤T∧T<h'.objs.size)→Q (.ref I) { s with heap:=h',drawn:=d }) :
  wpAny (model prog w) A (pyIter (.ref a)) Q E s:=by
 have hT:s.TypeIs (.ref a) "set" := ⟨_,ha,rfl⟩
 refine wpAny_pyIter_slot hT F.slot_set_iter (Xa0 F.slot_set_iter hT zfk ?_ (F.args_set_iter_1 _))
 delta Builtin.«frozenset.__iter__»
 unfold Builtin.Frozenset.slot0
 refine Xaa (Xaa (m:=slotArgs "__iter__" 0 _) (Xad ?_))
 unfold Builtin.Frozenset.addrOf
 refine Xad ?_
 dsimp only
 unfold Builtin.Frozenset.sizeOf
 refine Xaa (Xaa (wpAny_setEntries_of ha rfl Tb.fits (Xad ?_)))
 unfold setDrawn setsByText
 refine Xaa (Xaa (Xba ha rfl Tb.fits ?_))
 refine Xaa (Xaa (Xa4 (Xad (Xad ?_))))
 rw [show (model prog w).w.params.followText "set-order" = w.params.followText "set-order" from rfl]
 have fin:∀ (s1:Shared) (first:Value),s1.heap.get? a=some (sObj es ep t)→(Q (.ref s1.heap.objs.size) { s1 with heap:=s1.heap.push (siO first 0 (.ref a) (es.size:Int) (ep:Int)) }) →
   wpAny (model prog w) A.in1 (do let __do_lift ← setEpoch a;let __do_lift ← newFields "set_iterator" [first,rawInt 0,.ref a,rawInt (es.size:Int),rawInt (__do_lift:Int)];ret __do_lift) (fun fin s'=>∃ v,fin = .done (.ret v)∧∃ T' r,s'.TypeIs v T'∧typeLookup (.type T') (Str.ofString "__next__")=pure (some r)∧Q v s') E s1:=fun s1 first h1 hq=>by
  refine Xaa (wpAny_setEpoch_of h1 rfl Tb.fits ?_)
  refine Xaa (XaP ?_)
  exact Xad ⟨_,rfl,"set_iterator",_,⟨_,Xah _ rfl,rfl⟩,slot_si_next.lookup,hq⟩
 have plain:∀ vs:List Value,zhf w a es ep t vs (s.heap.push (siO (.int 0 0) 0 (.ref a) (es.size:Int) (ep:Int))) 0 (.int 0 0)→vs.Perm (es.toList.map (·.2))→Q (.ref s.heap.objs.size) { s with heap:=s.heap.push (siO (.int 0 0) 0 (.ref a) (es.size:Int) (ep:Int)) }:=fun vs m p =>
  q _ s.drawn s.heap.objs.size (.int 0 0) vs (fun b o e=>Xab _ e) (Xah _ rfl) m p (Xaf _) (by rw [XaG];exact Xa2 _) (fun T z=>by cases z)
 cases bt:w.params.followText "set-order" with
 | true =>
  rw (transparency:=.default) [if_neg (show ¬ (!true && (!t.plain && decide (es.size > 1)))=true from Xaq)]
  refine Xaa (Xad (fin s (rawInt 0) ha (plain _ (.inl ⟨bt,⟨0,rfl⟩,rfl⟩) ((zhC _ es).map _))))
 | false =>
  have led:t.led=true:=by have:=Tb.led;rw [bt] at this;exact this
  cases hd:(!t.plain && decide (es.size > 1)) with
  | false =>
   rw (transparency:=.default) [if_neg (show ¬ (!false && (!t.plain && decide (es.size > 1)))=true by rw [hd];exact Xaq)]
   refine Xaa (Xad (fin s (rawInt 0) ha (plain _ (.inr (.inl ⟨bt,hd,led,⟨0,rfl,zhb Tb.ris⟩,rfl⟩)) .rfl)))
  | true =>
   rw (transparency:=.default) [if_pos (show (!false && (!t.plain && decide (es.size > 1)))=true by rw [hd];rfl)]
   refine Xaa (zd6 es.size (List.range es.size) s _ (by simp) fun ps d pp=>?_)
   refine Xaa (wpAny_newTuple ?_ ?_)
   ·refine fin { s with heap:=s.heap.push { cls:=.type "tuple",data:=.seq (ps.map fun (i:Nat)=>rawInt (i:Int)).toArray },drawn:=d } (.ref s.heap.objs.size) (Xab _ ha) ?_
    have hps:∀ p∈ps,p<es.size:=fun p hp=>List.mem_range.mp (pp.mem_iff.mp hp)
    refine q _ d _ (.ref s.heap.objs.size) (ps.map fun p=>((es[p]?).getD (0,.none)).2) (fun b o e=>Xab _ (Xab _ e)) (Xah _ rfl) (.inr (.inr ⟨bt,s.heap.objs.size,ps,rfl,Xab _ (Xah _ rfl),by rw [pp.length_eq,List.length_range],hps,rfl⟩)) ?_ ?_ ?_ ?_
    ·rw [← zgP];exact pp.map _
    ·show s.heap.objs.size≤(s.heap.push _).objs.size
     rw [XaG];exact XbL _
    ·show (s.heap.push _).objs.size<((s.heap.push _).push _).objs.size
     simp only [XaG];exact Xa2 _
    ·intro T z
     cases z
     refine ⟨Xaf _,?_⟩
     show s.heap.objs.size<((s.heap.push _).push _).objs.size
     simp only [XaG];exact Xbn (Xa2 _)
   ·rw [Xae,pp.length_eq,List.length_range];exact hz
def fpOf:Value→List Addr
 | .ref T=>[T]
 | _=>[]
theorem zeg:typeLookup (.type "set") (Str.ofString "__len__")=pure (some (.builtin "set.__len__")):=F.slot_set_len.lookup
theorem ziL {a:Addr}(hT:s.TypeIs (.ref a) "set"){Q:Bool→Shared→Prop}(h:Q false s):wpAny (model prog w) A (Builtin.List.listLengthHint (.ref a)) Q E s:=by
 unfold Builtin.List.listLengthHint;refine Xaa (wpAny_specialOf hT zeg ?_)
 generalize hid:("set.__len__" : String)=id1;wp_delta
 rw [show splitId id1=some ("set","__len__") from by subst hid;decide +kernel];subst hid
 refine Xaa (wpAny_isInstance (T := "set") (b:=true) hT (by rw [isSubtype_type];kernel_rfl) ?_);refine wpAny_ite_split (fun z=>absurd z (by decide)) (fun _=>?_)
 refine wpAny_ite_split (fun _=>?_) (fun z=>absurd (by decide +kernel) z);exact Xaa (wpAny_typeOf hT (Xad h))
theorem zka {es:List (Int×Value)}(h:∀ e∈es,EOk e):∀ {vs:List Value},vs.Perm (es.map (·.2))→∃ ns,IntsAre vs ns∧ns.Perm (zh7 es):=fun {vs} p=>by
 have vI:∀ v∈vs,∃ n t,v=Value.int n t:=fun v hv=>by
  obtain ⟨e,he,rfl⟩:=XaJ.mp (p.mem_iff.mp hv)
  obtain ⟨n,t,rfl⟩:=h e he
  exact ⟨n,t,rfl⟩
 have g:∀ l:List Value,(∀ v∈l,∃ n t,v=Value.int n t)→IntsAre l (l.map fun v=>eInt (0,v)):=fun l=>by
  induction l with
  | nil=>exact fun _=>.nil
  | cons v l ih =>
   intro hl
   obtain ⟨n,t,rfl⟩:=hl v (XaA ..)
   exact .cons _ _ (ih fun v hv=>hl v (XaB _ hv))
 refine ⟨vs.map fun v=>eInt (0,v),g vs vI,?_⟩
 have q:=p.map fun v=>eInt (0,v)
 rw [Xby] at q
 exact q
theorem zfG {a:Addr}{S:List Int}{R:List Value→Shared→Prop}(hh:A.handled=none)(hS:SetI (!w.params.followText "set-order") s.heap a S)(hz:S.length<1000)
  (h:∀ (h':Heap) (tk:Nat) (d:Drawn) (ns:List Int) (vs:List Value),(∀ b o,s.heap.get? b=some o→h'.get? b=some o)→IntsAre vs ns→ns.Perm S→R vs { s with heap:=h',toks:=tk,drawn:=d }) :
  wpAny (model prog w) A (collect (.ref a)) R E s:=by
 obtain ⟨es,ep,t,ha,hE,hP,hN,Tb⟩:=hS
 have hsz:es.size=S.length:=by rw [← Array.length_toList,← hP.length_eq];unfold zh7;rw [Xae]
 have hzl:es.size≤sizeLine:=Xav (show es.size≤1000 by omega) (by decide)
 have hal:a<s.heap.objs.size:=Xaj ha
 unfold collect
 refine Xaa (wpAny_runValue (codeAny_builtin F.entry_proto_collect ?_));rw [Around.under_plainId F.plain_proto_collect _]
 show wpAny _ A.in1 (newList [] >>= fun l=>again (.builtin "list.__iadd__" ⟨[l,.ref a],[]⟩)) _ _ s;refine Xaa (XaP ?_)
 refine Xad ⟨plainId_quiet F.plain_list_iadd _,codeAny_builtin F.entry_list_iadd ?_⟩;rw [Around.under_plainId F.plain_list_iadd _]
 generalize hD:s.heap.objs.size=D
 have hg:s.heap.push { cls:=.type "list",data:=.seq ([]:List Value).toArray }=s.heap.push (seqObj "list" #[] 0):=rfl
 generalize hh1:s.heap.push { cls:=.type "list",dict:=none,data:=.seq ([]:List Value).toArray }=h1
 have k1:∀ b o,s.heap.get? b=some o→h1.get? b=some o:=fun b o e=>by rw [← hh1];exact Xab _ e
 have eD:h1.get? D=some { cls:=.type "list",data:=.seq #[] }:=by rw [← hh1,← hD];exact Xah _ rfl
 have sz1:h1.objs.size=D+1:=by rw [← hh1,XaG,hD]
 have ha1:=k1 _ _ ha
 show wpAny _ A.in1 (Builtin.List.listExtendWith (.ref D) (.ref a) (.ref D)) _ _ { s with heap:=h1 }
 unfold Builtin.List.listExtendWith
 refine Xaa (wpAny_typeOf (show Shared.TypeIs { s with heap:=h1 } (.ref a) "set" from ⟨_,ha1,rfl⟩) ?_)
 have ns:Builtin.List.listSameRef (.ref D) (.ref a)=false:=by
  have hne:D≠a:=by rw [← hD];exact Xbk hal
  simp [Builtin.List.listSameRef,hne]
 rw [if_neg (by rw [ns];decide)]
 refine Xaa (ziK (s:={ s with heap:=h1 }) ha1 Tb hzl fun h2 d I first vs k2 eI m pv hI hI2 hT=>?_)
 have k12:∀ b o,s.heap.get? b=some o→h2.get? b=some o:=fun b o e=>k2 b o (k1 b o e)
 have ha2:=k12 _ _ ha
 refine Xaa (XaO ?_)
 refine ziL (show Shared.TypeIs { s with heap:=h2,drawn:=d } (.ref a) "set" from ⟨_,ha2,rfl⟩) ?_
 have eD2:=k2 _ _ eD
 refine wpAny_ite_split (fun _=>?_) (fun z=>absurd (by decide +kernel) z)
 refine Xaa (wpAny_rule (Xaa ?_))
 show wpAny _ A.in1 (updateSeq D (·.push .none) >>= fun _=>updateSeq D (·.pop)) _ _ { s with heap:=h2,drawn:=d }
 refine Xaa (XbQ eD2 rfl ?_)
 have eD3:=XaI (Obj.mapSeq (·.push Value.none)) eD2 rfl
 refine XbQ eD3 rfl ?_
 have eD4:=XaI (Obj.mapSeq (·.pop)) eD3 rfl
 generalize hh4:(h2.update D (Obj.mapSeq (·.push Value.none))).update D (Obj.mapSeq (·.pop))=h4 at eD4
 have k24:∀ b o,b≠D→h2.get? b=some o→h4.get? b=some o:=fun b o hb e=>by
  rw [← hh4]
  exact (XaE _ _ (Ne.symm hb)).trans ((XaE _ _ (Ne.symm hb)).trans e)
 have naD:a≠D:=by rw [← hD];exact Xar hal
 have hI':h1.objs.size≤I:=hI
 have hT':∀ T:Addr,first = .ref T→h1.objs.size≤T:=fun T z=>(hT T z).1
 have nID:I≠D:=fun z=>by rw [z,sz1] at hI';exact absurd hI' (Nat.not_succ_le_self D)
 have nTD:∀ T:Addr,first = .ref T→T≠D:=fun T z z2=>by have q:=hT' T z;rw [z2,sz1] at q;exact absurd q (Nat.not_succ_le_self D)
 have hIa:I≠a:=fun z=>by rw [z,sz1,← hD] at hI';exact absurd (Xai hal (Xav (XbL _) hI')) (XaT _)
 have W:Walks prog w A.in1 I (I :: a :: fpOf first) [I] vs.length (fun i v=>vs[i]? = some v) _:=ziI (es:=es) (ep:=ep) (t:=t) (vs:=vs) hh Tb.fits Tb.ris hIa (XaA ..) (XaB _ (XaA ..))
 have hSf:D ∉ I :: a :: fpOf first:=fun z=>by
  rcases Xal.mp z with z | z
  ·exact nID z.symm
  ·rcases Xal.mp z with z | z
   ·exact naD z.symm
   ·cases first with
    | ref T=>exact nTD T rfl (Xac.mp z).symm
    | _=>cases z
 refine Xad ⟨plainId_quiet F.plain_extend_loop _,codeAny_extend_loopS W.toS (by rw [pv.length_eq,Xae,Array.length_toList];exact hzl) D hSf (.ref D) vs.length 0 { s with heap:=h4,drawn:=d } _ _ rfl (Nat.zero_le _) ?_ eD4 (ItemsOf.nil _) fun s' acc' c' hm hS' hacc=>?_⟩
 ·refine ⟨first,k24 _ _ nID eI,k24 _ _ naD ha2,?_,fun T z=>?_⟩
  ·rcases m with z | z | ⟨bt,T,pl,ef,eT,r⟩
   ·exact .inl z
   ·exact .inr (.inl z)
   ·exact .inr (.inr ⟨bt,T,pl,ef,k24 _ _ (nTD T ef) eT,r⟩)
  ·subst z;exact XaB _ (XaB _ (Xac.mpr rfl))
 ·show wpAny _ A (load D >>= _) _ _ s'
  refine Xaa (wpAny_load hS' (Xad ?_))
  have ev:acc'.toList=vs:=by
   obtain ⟨z1,z2⟩:=hacc
   apply List.ext_getElem?
   intro j
   by_cases hj:j<acc'.size
   ·have e1:acc'.toList[j]? = some acc'[j]:=by rw [Xbh,XaN hj]
    rw [e1,z2 j acc'[j] (XaN hj)]
   ·rw [XaM (by rw [Array.length_toList];exact Nat.not_lt.mp hj),XaM (by rw [← z1];exact Nat.not_lt.mp hj)]
  rw [ev]
  obtain ⟨nn,hi,hp⟩:=zka (es:=es.toList) hE pv
  have kk:∀ b o,s.heap.get? b=some o→s'.heap.get? b=some o:=fun b o e=>by
   have hb:=Xaj e
   have nb:b≠D:=fun z=>by rw [z,hD] at hb;exact absurd hb (XaT _)
   refine hm.heap b o (fun z=>?_) (k24 b o nb (k12 b o e))
   rcases Xal.mp z with z | z
   ·exact nb z
   ·rw [Xac.mp z] at hb
    rw [sz1,← hD] at hI'
    exact absurd (Xai hb (Xav (XbL _) hI')) (XaT _)
  have fin:=h s'.heap s'.toks d nn vs kk hi (hp.trans hP)
  have g:s'.gens=s.gens:=hm.gens
  have dd:s'.drawn=d:=hm.drawn
  have oo:s'.os=s.os:=hm.os
  have e':s'={ s with heap:=s'.heap,toks:=s'.toks,drawn:=d }:=by
   rw [← g,← dd,← oo]
  rw [e'];exact fin
end
end L2
end
section
namespace L2
open PySem PySem.Spec PyProof.Rows HT
theorem Inv.draw {X:Cx}{pins:List (Addr×Obj)}{σ:St}{H:Hp}{s:Shared}(I:Inv X pins σ H s)(d:Drawn):Inv X pins σ H { s with drawn:=d }:=⟨I.ok,I.os,I.bare,I.base,I.loc,I.cell,I.free,I.freeC,I.pin,I.hok,I.len⟩
def stI (w:World)(a:Addr)(S:List Int):Heap→Prop:=fun h=>SetI (!w.params.followText "set-order") h a S
theorem stI_ok {P:Program}{w:World}{H:Hp}{h:Heap}{a:Addr}{S:List Int}(x:stI w a S h):ObjOk P w H h a (.ext (stI w a S)):=by
 refine ⟨x,?_,fun h1 h2 y k=>y.at k⟩
 obtain ⟨es,ep,t,g,_⟩:=x
 exact ⟨_,g⟩
theorem zfo {X:Cx}(hc:X.calm=true):zbH X (.builtin "sorted") (fun xs H Q=>∃ (a:Addr) (S:List Int),xs=[.ref a]∧H a=some (.ext (stI X.w a S))∧S.length<64 ∧
  ∀ (l:Addr) (ns:List Int),H l=none→ns.Perm S→ns.Pairwise (·≤·)→Q (.ref l) (upd H l (.lst (ns.map V.int)))):=by
 intro pins s σ H xs us Q I r h
 obtain ⟨a,S,rfl,ea,h64,q⟩:=h
 obtain ⟨u,rfl,r1⟩:=zcw r
 obtain rfl:u=Value.ref a:=r1
 obtain ⟨hS,_,_⟩:=(show ObjOk X.prog X.w H s.heap a (.ext (stI X.w a S)) from I.hok a _ ea)
 refine zdi (zfG (I.ok.hd hc) hS (by omega) fun h' tk d ks vs kp hI hP=>?_)
 have hl:vs.length=ks.length:=hI.length
 have hk:ks.length<64:=by rw [hP.length_eq];exact h64
 refine ⟨Xav (show vs.length≤64 by omega) (by decide),?_⟩
 refine list_sort_tree (s:={ s with heap:=h'.push (seqObj "list" vs.toArray 0),toks:=tk,drawn:=d }) (Xah _ rfl) hI (by omega) fun out ns a1 a2 a3=>⟨rfl,?_⟩
 have hsz:h'.objs.size<(h'.push (seqObj "list" vs.toArray 0)).objs.size:=by rw [XaG];exact Xa2 _
 have I2:Inv X pins σ H { s with heap:=h',toks:=tk,drawn:=d }:=(I.kept (t':=tk) kp).draw d
 obtain ⟨c,hc'⟩:=sortedHeap_at (a:=h'.objs.size) (vs:=vs) (out:=out) (Xah (h:=h') (o:=seqObj "list" vs.toArray 0) rfl)
 refine ⟨.ref _,_,I2.laid (t':=tk) (o:=.lst (ns.map V.int)) (fun b o eb=>?_) (Xaf _) ?_,rfl,q _ ns (I2.hok.fresh (Xaf _)) (a2.trans hP) a3⟩
 ·have hb:=Xaj eb
  rw [sortedHeap_old (Xar hb) (Xbx hb hsz)];exact Xab _ eb
 ·refine ⟨?_,out.toList,_,zcl a1,by simpa [seqObj] using hc'⟩
  rw [Xae,a2.length_eq];exact Xav (Xbv hk) (by decide)
abbrev TEm (α:Type):=St→Hp→(α→Hp→Prop)→Prop
def PEm {α:Type}(B:Nat)(Y:Cx)(EM:Env→Addr→(Shared→Prop)→Shared→Prop)(AO:List α→Obj→Prop)(em:TEm α):Prop:=
 ∀ (D:Addr) (pins:List (Addr×Obj)) (s:Shared) (σ:St) (H:Hp) (Q:α→Hp→Prop) (ys:List α) (o:Obj),Inv Y pins σ H s→(D,o)∈pins→AO ys o→ys.length<B→em σ H Q →
  EM Y.env D (fun s'=>∃ y H8 s8 h' o' tk,Inv Y pins σ H8 s8∧AO (ys ++ [y]) o'∧Heap.SameBut D s8.heap h'∧h'.get? D=some o'∧s'={ s8 with heap:=h',toks:=tk }∧Q y H8) s
def ziz {α:Type}(B:Nat)(J:It)(g:TG)(tf:TT)(em:TEm α)(Q:List α→Hp→Prop)(σ0:St)(H1:Hp):Prop:=
 ∃ W:Nat→Nat→List α→St→Hp→Prop,(∃ m,W 0 m [] σ0 H1)∧∀ i m ys σc Hc,W i m ys σc Hc →
  (J.stop i Hc∧ys.length≤B∧Q ys Hc) ∨
  (J.go i Hc∧ys.length<B∧∃ N:List α→St→Hp→Prop,(∀ ys' σ' H',N ys' σ' H'→∃ m',m'<m∧W (i+1) m' ys' σ' H') ∧
   ∀ x H',J.yld i Hc x H'→g x σc H' fun σ2 H2=>tf σ2 H2 fun b H3=>if b=true then em σ2 H3 fun y H4=>N (ys ++ [y]) σ2 H4 else N ys σ2 H3)
structure CLoop (prog:Program)(w:World)(A:Around)(tg:Expr)(ifs:List Expr)(ce:Expr)(it:Value)(EM:Env→Addr→(Shared→Prop)→Shared→Prop):Prop where
 mono:∀ (env:Env) (D:Addr) (p q:Shared→Prop) (s:Shared),EM env D p s→(∀ s',p s'→q s')→EM env D q s
 loop:∀ (env:Env) (D:Addr) (I:Nat→Shared→Prop) {R:Result→Shared→Prop} (turn:∀ n s,I n s→wpAny (model prog w) A (pyNext it) (fun r s1=>match r with
   | none=>R (.ok .next) s1
   | some v=>wpAny (model prog w) A (letOwnedTupleGo tg it v) (fun _ s2=>wpAny (model prog w) A (assign tg env v) (fun _ s3 =>
     wpAny (model prog w) A (forIn ifs true fun c r=>if r=true then do let ok ← isTrue c env (eval c env);pure (ForInStep.yield ok) else pure (ForInStep.yield r)) (fun ok s4 =>
      if ok=true then EM env D (fun s6=>∃ m,m<n∧I m s6) s4 else ∃ m,m<n∧I m s4) (fun _ _=>False) s3) (fun _ _=>False) s2) (fun _ _=>False) s1) (fun _ _=>False) s)
  (n:Nat) (s:Shared) (h:I n s),codeAny (model prog w) A (.compLoop ce 0 it (.ref D) env) R s
 start:∀ (env:Env) (D:Addr) (R:Result→Shared→Prop) (s:Shared),codeAny (model prog w) A (.compLoop ce 0 it (.ref D) env) R s →
  wpAny (model prog w) A (pyIter it) (fun it' s'=>codeAny (model prog w) A (.compLoop ce 0 it' (.ref D) env) R s') (notedBy (model prog w) A env fun x s'=>R (.error x) s') s→codeAny (model prog w) A (.compStart ce 0 it (.ref D) env) R s
theorem zg9 {α:Type}{X:Cx}{pins:List (Addr×Obj)}{σ:St}{H2:Hp}{s2:Shared}{Nc:List Str}{src:List (Option Nat)}{scope:Scope}{cl:List (Str×Addr)}{fp:List Addr}{tg ce:Expr}{ifs:List Expr}
  {it:Addr} {tn:Nat→Heap→Prop} {J:It} {g:TG} {tf:TT} {em:TEm α} {Qf:List α→Hp→Prop} {E:Value→Shared→Prop} {RR:Value→Addr→Result→Shared→Prop} {mk:Sem Value} {o0:Obj} {AO:List α→Obj→Prop} {ho:Addr→List α→HO} {B:Nat} {EM:Env→Addr→(Shared→Prop)→Shared→Prop}
  (hc:X.calm=true) (I2:Inv X pins σ H2 s2) (S:CompOk X.N X.env.scope Nc src scope)
  (hcl1:∀ (x:Str) (c:Addr),cl.lookup x=some c→X.env.cells.lookup x=some c) (hcl2:∀ x∈scope.names,x.2 = .free→∃ c,cl.lookup x.1=some c)
  (T:Turn X.prog X.w X.K tg J fp it tn) (st2:tn 0 s2.heap) (f2:∀ b∈fp,FpOk X pins H2 b)
  (hg:∀ cl C fp s2 H2,PG (cxC X Nc scope cl C fp s2 H2) tg g) (hf:∀ cl C fp s2 H2,PF (cxC X Nc scope cl C fp s2 H2) ifs tf) (he:∀ cl C fp s2 H2,PEm B (cxC X Nc scope cl C fp s2 H2) EM AO em)
  (hmk:∀ (Q:Value→Shared→Prop) (s:Shared),Q (.ref s.heap.objs.size) { s with heap:=s.heap.push o0 }→wpAny (model X.prog X.w) X.A mk Q E s) (hfr:o0.isFreed=false) (h0:AO [] o0) (hcell:∀ ys o v,AO ys o→o.data≠.cell v)
  (hho:∀ ys o H h D,AO ys o→ys.length≤B→s2.heap.objs.size≤D→h.get? D=some o→ObjOk X.prog X.w (upd H D (ho D ys)) h D (ho D ys))
  (hlp:CLoop X.prog X.w X.A tg ifs ce (.ref it) EM)
  (hw:ziz B J g tf em Qf (za5 src σ) H2)
  (fin:∀ (H4:Hp) (s4:Shared) (ys:List α) (m:Str→Option Value) (C:Addr),s2.heap.objs.size≤C→H4 s2.heap.objs.size=none→Inv X pins σ (upd H4 s2.heap.objs.size (ho s2.heap.objs.size ys)) s4→s4.heap.Ns C m→upd H4 s2.heap.objs.size (ho s2.heap.objs.size ys) C=none→Qf ys H4→RR (.ref s2.heap.objs.size) C (.ok .next) s4) :
  wpAny (model X.prog X.w) X.A mk (fun acc s3=>wpAny (model X.prog X.w) X.A (newFunctionEnv scope X.env.globals cl [] X.env.qual none .none (some X.env)) (fun cenv s4 =>
   codeAny (model X.prog X.w) X.A (.compStart ce 0 (.ref it) acc { cenv with scope:=relabel scope X.env }) (RR acc cenv.locals) s4) E s3) E s2:=by
 refine hmk _ s2 (wpAny_newFunctionEnv S.nocell (by intro y hy;simp at hy) (fun h1 hns1 hsb1=>?_) S.kind)
 dsimp only at hns1 hsb1 ⊢
 generalize hH2:s2.heap.push o0=G2 at hns1 hsb1 ⊢
 have hCz:G2.objs.size=s2.heap.objs.size+1:=by rw [← hH2,XaG]
 generalize hCe:G2.objs.size=C at hns1 hsb1 hCz ⊢
 generalize hDe:s2.heap.objs.size=D at fin hCz ⊢
 have hDC:D≠C:=by omega
 have hCle:s2.heap.objs.size≤C:=by omega
 have hDle:s2.heap.objs.size≤D:=by omega
 have old:∀ b o,s2.heap.get? b=some o→h1.get? b=some o:=fun b o e=>hsb1.extBut b o (Xar (Xai (Xaj e) hCle)) (Xab _ (hH2 ▸ Xab _ e))
 have hacc:h1.get? D=some o0:=by
  refine hsb1.extBut _ _ hDC (Xab _ ?_)
  rw [← hH2,← hDe]
  exact Xah _ hfr
 have hfp:∀ b∈fp,b<s2.heap.objs.size:=fun b hb=>by
  obtain ⟨o,e,_⟩:=T.obj 0 _ st2 b hb
  exact Xaj e
 have ok:=zj3 (Nc:=Nc) (src:=src) (scope:=scope) (cl:=cl) (C:=C) (fp:=fp) I2 S hcl1 hcl2 hCle hfp f2
 generalize hXC:cxC X Nc scope cl C fp s2 H2=Y at ok
 have hYN:Y.N=Nc:=by rw [← hXC];rfl
 
 have I0:Inv (cxC X Nc scope cl C fp s2 H2) [] (za5 src σ) H2 { s2 with heap:=h1,toks:=s2.toks+([]:List (Str×Value)).length }:=by
  rw [← hXC] at ok
  refine ⟨ok,rfl,I2.bare,Un.kept old,⟨_,hns1,fun j x v e1 e2 _=>?_⟩,fun x c e=>?_,I2.hok.fresh hCle,fun x c e=>I2.freeC x c (hcl1 _ _ e),(fun p hp=>nomatch hp),I2.hok.kept old,?_⟩
  ·
   have e2':(za5 src σ)[j]? = some (some v):=e2
   have e1':Nc[j]? = some x:=e1
   unfold za5 at e2'
   rw [Xan] at e2'
   cases hs:src[j]? with
   | none=>rw [hs] at e2';cases e2'
   | some o =>
    rw [hs] at e2'
    cases o with
    | none=>cases e2'
    | some i =>
     simp only [Option.map_some,Option.some.injEq] at e2'
     obtain ⟨y,hy1,hy2,hy3⟩:=S.src j i hs
     rw [e1'] at hy1;cases hy1
     have hσ:σ[i]? = some (some v):=by
      cases hq:σ[i]? with
      | none=>rw [hq] at e2';cases e2'
      | some z=>rw [hq] at e2';simp only [Option.getD_some] at e2';rw [e2']
     have hm:=zbY hy3
     have hfr:=S.free _ hm rfl
     obtain ⟨m0,hn0,hl0⟩:=I2.loc
     obtain ⟨u,r,l⟩:=hl0 i x v hy2 hσ (Or.inr hfr)
     refine ⟨u,r,.inr ⟨?_,?_⟩⟩
     ·show (relabel scope X.env).names.lookup x=some .cell∨(relabel scope X.env).names.lookup x=some .free
      rw [zbs,hy3]
      simp only [Option.map_some]
      split
      ·exact .inl rfl
      ·exact .inr rfl
     ·rcases l with ⟨k,_⟩ | ⟨_,c,hc1,hc2⟩
      ·have k':X.env.scope.names.lookup x=some .local:=k
       rw [k'] at hfr;rcases hfr with z | z <;> cases z
      ·obtain ⟨c',hc'⟩:=hcl2 _ hm rfl
       have:=hcl1 _ _ hc'
       rw [hc1] at this;cases this
       exact ⟨c,hc',hc2.keeps old⟩
  ·obtain ⟨v,z⟩:=I2.cell x c (hcl1 _ _ e)
   exact ⟨v,z.keeps old⟩
  ·show (za5 src σ).length=Nc.length
   unfold za5;rw [Xae];exact S.len
 obtain ⟨W,⟨m0,w0⟩,turn⟩:=hw
 have loop:codeAny (model X.prog X.w) X.A (.compLoop ce 0 (.ref it) (.ref D) (compEnvC scope cl C X.env)) (RR (.ref D) C) { s2 with heap:=h1,toks:=s2.toks+([]:List (Str×Value)).length }:=by
  have fpk:∀ {H':Hp} {ob:Obj},(∀ b∈fp,H' b=none)→∀ b∈fp,FpOk (cxC X Nc scope cl C fp s2 H2) [(D,ob)] H' b:=fun {H' ob} hn b hb =>
   ⟨hn b hb,(I0.ok.exf b hb).1,I0.ok.exfs b hb,.inl hb,(I0.ok.exf b hb).2,fun p hp=>by
    have e:p=(D,ob):=Xac.mp hp
    subst e
    exact Xbk (Xai (hfp b hb) hDle)⟩
  have hDfs:D ∉ frs X.stack:=fun hs=>by
   rcases Xal.mp (I2.stkSub D hs) with z | z
   ·exact absurd (Xai I2.lt hDle) (by rw [z];exact XaT _)
   ·exact I2.nofs hDle z
  refine hlp.loop (compEnvC scope cl C X.env) D (fun n s'=>∃ i ys σ' H' ob,Inv (cxC X Nc scope cl C fp s2 H2) [] σ' H' s'∧tn i s'.heap∧(∀ b∈fp,H' b=none)∧H' D=none∧s'.heap.get? D=some ob∧AO ys ob∧W i n ys σ' H') ?_ m0 _
   ⟨0,[],za5 src σ,H2,o0,I0,T.keep _ _ _ st2 fun b hb o e=>old b o e,fun b hb=>(f2 b hb).1,I2.hok.fresh hDle,hacc,h0,w0⟩
  rintro n s3 ⟨i,ys,σ3,H3,ob,I3,st3,fr3,hD3,hO3,vs3,w3⟩
  have I3':Inv (cxC X Nc scope cl C fp s2 H2) [(D,ob)] σ3 H3 s3:=I3.pins_of fun p hp=>by
   have e:=Xac.mp hp
   subst e
   exact ⟨hO3,hD3,hDC,hDfs,fun v z=>hcell ys ob v vs3 z⟩
  rcases turn i n ys σ3 H3 w3 with ⟨stop,hlen,qn⟩ | ⟨go,hlen,N,hN,step⟩
  ·refine thn (T.done (cxC X Nc scope cl C fp s2 H2) rfl rfl rfl hc i _ s3 σ3 H3 _ I3' (fpk fr3) st3 stop) fun r s4 ⟨hr,I4⟩=>?_
   subst hr
   have hO4:=(I4.pin (D,_) (Xax _ (Xac.mpr rfl))).1
   obtain ⟨m4,hn4,_⟩:=I4.loc
   have fC:H3 C=none:=I4.free
   have uD:upd H3 D (ho D ys) C=none:=by rw [zag hDC.symm];exact fC
   have hl2:∀ b v,H2 b=some v→b<s2.heap.objs.size:=fun b v e=>I2.hok.lt e
   have Iout:Inv X pins σ (upd H3 D (ho D ys)) s4:=by
    refine I2.call' (ch:=fp) I4.os (Un.track I4.base hDle hl2) (HOk.track I4.hok hD3 (hho ys ob H3 s4.heap D vs3 hlen hDle hO4)) I4.bare fun b hb=>?_
    obtain ⟨_,a1,_,a3,a4,a5⟩:=f2 b hb
    exact ⟨a3,a1,a4,a5⟩
   exact fin H3 s4 ys m4 C (by omega) hD3 Iout hn4 uD qn
  ·refine thn (T.item (cxC X Nc scope cl C fp s2 H2) rfl rfl rfl hc i _ s3 σ3 H3 _ I3' (fpk fr3) st3 go) fun r s4 ⟨u,hr,h4⟩=>?_
   subst hr
   refine thn h4 fun _ s5 hh_=>?_
   obtain ⟨x,H5,I5,r5,y5,st5,fr5⟩:=hh_
   have I5':=I5.pinned (fpk fr5) (T.obj _ _ st5)
   refine thn (hg cl C fp s2 H2 _ s5 σ3 H5 x u _ I5' r5 (step x H5 y5)) fun _ s6 ⟨σ6,H6,I6,q6⟩=>?_
   refine thn (hf cl C fp s2 H2 _ s6 σ6 H6 _ I6 q6) fun ok s7 ⟨H7,I7,q7⟩=>?_
   have back:∀ {s8:Shared} {σ8:St} {H8:Hp},Inv (cxC X Nc scope cl C fp s2 H2) ([(D,ob)] ++ zd0 fp s5.heap) σ8 H8 s8 →
     tn (i+1) s8.heap∧(∀ b∈fp,H8 b=none)∧H8 D=none∧s8.heap.get? D=some ob:=fun {s8 σ8 H8} I8=>by
    refine ⟨T.keep _ _ _ st5 fun b hb o e=>(I8.pin (b,o) (Xax _ (Xax _ (za9 hb e)))).1,fun b hb=>?_,?_,?_⟩
    ·obtain ⟨o,e,d⟩:=T.obj _ _ st5 b hb
     exact (I8.pin (b,o) (Xax _ (Xax _ (za9 hb e)))).2.1
    ·exact (I8.pin (D,_) (Xax _ (XaV _ (Xac.mpr rfl)))).2.1
    ·exact (I8.pin (D,_) (Xax _ (XaV _ (Xac.mpr rfl)))).1
   cases ok with
   | false =>
    obtain ⟨m',hm',w7⟩:=hN _ _ _ q7
    obtain ⟨b1,b2,b3,b4⟩:=back I7
    exact ⟨m',hm',i+1,ys,σ6,H7,ob,I7.pins_of (fun p hp=>nomatch hp),b1,b2,b3,b4,vs3,w7⟩
   | true =>
    refine hlp.mono _ _ _ _ _ (he cl C fp s2 H2 D _ s7 σ6 H7 _ ys ob I7 (XaV _ (Xac.mpr rfl)) vs3 hlen q7) fun s9 hh_=>?_
    obtain ⟨y,H8,s8,h9,o9,tk9,I8,a9,sb9,g9,e9,q8⟩:=hh_
    subst e9
    obtain ⟨m',hm',w8⟩:=hN _ _ _ q8
    obtain ⟨b1,b2,b3,b4⟩:=back I8
    have I8n:Inv (cxC X Nc scope cl C fp s2 H2) [] σ6 H8 s8:=I8.pins_of fun p hp=>nomatch hp
    have I9:Inv (cxC X Nc scope cl C fp s2 H2) [] σ6 H8 { s8 with heap:=h9,toks:=tk9 }:=
     I8n.turned (it:=D) (fun b o hb e=>sb9.extBut b o hb e) b3 hDC (.inr hDle) (fun x c e z=>by
      obtain ⟨w',z'⟩:=I2.cell x c (hcl1 _ _ e)
      exact absurd (Xai z'.lt hDle) (by rw [z];exact XaT _)) (fun p hp=>nomatch hp)
    refine ⟨m',hm',i+1,ys ++ [y],σ6,H8,o9,I9,T.keep _ _ _ b1 fun b hb o e=>sb9.extBut b o (Xar (Xai (hfp b hb) hDle)) e,b2,b3,g9,a9,w8⟩
 exact hlp.start _ D _ _ loop (T.self X.A 0 _ _ _ (T.keep _ _ _ st2 fun b hb o e=>old b o e) loop)
theorem ziE (elt target iter:Expr)(ifs:List Expr)(scope:Scope)(pos:Pos)(it acc:Value)(env:Env):compTurn (.SetComp elt [⟨target,iter,ifs,0⟩] scope pos) 0 it acc env=(do
   standAt iter.pos;match ← pyNext it with
   | none=>pure (.done .next)
   | some v=>do
    letOwnedTupleGo target it v;assign target env v;let mut ok:=true
    for c in ifs do if ok then ok ← isTrue c env (eval c env)
    if ok then (do let v ← eval elt env;standAt elt.pos;let _ ← call (.builtin "set.add") [acc,v])
    again (.compLoop (.SetComp elt [⟨target,iter,ifs,0⟩] scope pos) 0 it acc env)):=by rfl
section
variable {prog:Program}{w:World}{A:Around}{E:Value→Shared→Prop}{R:Result→Shared→Prop}{s:Shared}
theorem zhm {elt target iter ifs rest scope pos it acc env}
  (h0:codeAny (model prog w) A (.compLoop (.SetComp elt (⟨target,iter,ifs,0⟩ :: rest) scope pos) 0 it acc env) R s)
  (h:wpAny (model prog w) A (pyIter it) (fun it' s'=>codeAny (model prog w) A (.compLoop (.SetComp elt (⟨target,iter,ifs,0⟩ :: rest) scope pos) 0 it' acc env) R s') (notedBy (model prog w) A env fun x s'=>R (.error x) s') s) :
  codeAny (model prog w) A (.compStart (.SetComp elt (⟨target,iter,ifs,0⟩ :: rest) scope pos) 0 it acc env) R s:=by
 refine codeAny_of_tree ?_
 show wpAny _ A ((compStart (.SetComp elt (⟨target,iter,ifs,0⟩ :: rest) scope pos) 0 it acc env).onRaise (fun x=>do noteFrame x env;standAt theWindowsPlace)) _ _ s
 refine wpAny_notedAt ?_;unfold compStart;show wpAny _ A (ask >>= _) _ _ s;refine Xaa (Xa4 (wpAny_ite ?_))
 split
 ·first | exact Xaa (Xad (Xad (And.intro rfl h0))) | exact Xad (And.intro rfl h0)
 ·first | exact Xaa (wpAny_rule (Xaa (Xbo (Xaa (Xaz h (fun it' s' h'=>Xad (And.intro rfl h')) fun _ _ x=>x))))) | (refine Xaa (wpAny_rule ?_);show wpAny _ _ (standAt iter.pos >>= _) _ _ s;exact Xaa (Xbo (Xaa (Xaz h (fun it' s' h'=>Xad (And.intro rfl h')) fun _ _ x=>x))))
def EMs (prog:Program)(w:World)(A:Around)(elt:Expr)(env:Env)(D:Addr)(p:Shared→Prop)(s:Shared):Prop:=
 wpAny (model prog w) A (eval elt env) (fun v s5=>wpAny (model prog w) A (call (.builtin "set.add") [.ref D,v]) (fun _ s6=>p s6) (fun _ _=>False) s5) (fun _ _=>False) s
theorem zja {elt target iter:Expr}{ifs:List Expr}{scope:Scope}{pos:Pos}{it:Value}:CLoop prog w A target ifs (.SetComp elt [⟨target,iter,ifs,0⟩] scope pos) it (EMs prog w A elt) where
 mono:=fun env D p q s h k=>Xaz h (fun v s5 h5=>Xaz h5 (fun _ s6 h6=>k s6 h6) fun _ _ e=>e) fun _ _ e=>e
 loop:=fun env D I {R} turn n s h=>by
  refine codeAny_loop rfl I (fun n s hI=>?_) n h
  show wpAny _ A ((compTurn (.SetComp elt [⟨target,iter,ifs,0⟩] scope pos) 0 it (.ref D) env).onRaise (fun x=>do noteFrame x env;theTreesLotGoes x)) _ _ s
  refine wpAny_noted ?_
  rw [ziE]
  refine Xaa (Xbo (Xaa (Xaz (turn n s hI) (fun r s1 h1=>?_) fun _ _ h'=>h'.elim)))
  cases r with
  | none=>exact Xad h1
  | some v =>
   refine Xaa (Xaz h1 (fun _ s2 h2=>?_) fun _ _ h'=>h'.elim)
   refine Xaa (Xaz h2 (fun _ s3 h3=>Xaa (Xaz h3 (fun ok s4 h4=>?_) fun _ _ h'=>h'.elim)) fun _ _ h'=>h'.elim)
   cases ok with
   | false=>exact Xad ⟨rfl,h4⟩
   | true =>
    exact Xaa (Xaa (Xaz h4 (fun x s5 h5=>Xaa (Xbo (Xaa (Xaz h5 (fun _ s6 h6=>Xad (Xad ⟨rfl,h6⟩)) fun _ _ h'=>h'.elim)))) fun _ _ h'=>h'.elim))
 start:=fun env D R s h0 h=>zhm h0 h
end
def dd (ys:List Int):List Int:=ys.foldl (fun S n=>if n∈S then S else S ++ [n]) []
theorem zkO (ys:List Int)(n:Int):dd (ys ++ [n])=if n∈dd ys then dd ys else dd ys ++ [n]:=by unfold dd;rw [List.foldl_append];rfl
theorem zj2 (ys:List Int):(dd ys).length≤ys.length:=by
 have g:∀ (l:List Int) (S:List Int),(l.foldl (fun S n=>if n∈S then S else S ++ [n]) S).length≤S.length+l.length:=by
  intro l
  induction l with
  | nil=>intro S;exact Xaf _
  | cons a l ih =>
   intro S
   refine Xav (ih _) ?_
   dsimp only
   split
   ·rw [Xay];omega
   ·have e1:(S ++ [a]).length=S.length+1:=by rw [Xao];rfl
    have e2:(a :: l).length=l.length+1:=rfl
    omega
 have:=g ys []
 simpa [dd] using this
theorem mem_dd {ys:List Int}{n:Int}:n∈dd ys↔n∈ys:=by
 have g:∀ (l:List Int) (S:List Int),n∈(l.foldl (fun S n=>if n∈S then S else S ++ [n]) S)↔n∈S∨n∈l:=by
  intro l
  induction l with
  | nil=>intro S;simp
  | cons a l ih =>
   intro S
   rw [List.foldl_cons,ih]
   by_cases h:a∈S
   ·rw [if_pos h]
    constructor
    ·rintro (z | z)
     ·exact .inl z
     ·exact .inr (XaB _ z)
    ·rintro (z | z)
     ·exact .inl z
     ·rcases Xal.mp z with rfl | z
      ·exact .inl h
      ·exact .inr z
   ·rw [if_neg h];simp [or_assoc]
 have:=g ys []
 simpa [dd] using this
def AOs (w:World)(ys:List Int)(o:Obj):Prop:=∃ es ep t,o=sObj es ep t∧(∀ e∈es.toList,EOk e)∧(zh7 es.toList).Perm (dd ys)∧(dd ys).Nodup∧Tab (!w.params.followText "set-order") t es.size
theorem AOs.at {w:World}{ys:List Int}{o:Obj}(x:AOs w ys o){h:Heap}{a:Addr}(e:h.get? a=some o):SetI (!w.params.followText "set-order") h a (dd ys):=by
 obtain ⟨es,ep,t,rfl,r⟩:=x
 exact ⟨es,ep,t,e,r⟩
def emS (te:TE):TEm Int:=fun σ H Q=>te σ H fun v H1=>∃ i,v = .int i∧Q i H1
theorem zks {Y:Cx}{elt:Expr}{te:TE}(he:PE Y elt te)(hxe:Y.xe=fun _ _=>False):PEm 500 Y (EMs Y.prog Y.w Y.A elt) (AOs Y.w) (emS te):=by
 intro D pins s σ H Q ys o I hp ao hl h
 refine Xaz (he pins s σ H _ I h) (fun v s5 hh_=>?_) fun e s' z=>by rw [hxe] at z;exact z
 obtain ⟨x,H5,I5,rx,i,ex,q⟩:=hh_
 subst ex
 obtain ⟨t,rfl⟩:=(show ∃ t,v=Value.int i t from rx)
 have g5:=(I5.pin (D,o) (Xax _ hp)).1
 refine zkk (ao.at g5) (XaL (zj2 ys) (by omega)) fun h' sb x=>?_
 rw [← zkO] at x
 obtain ⟨es,ep,t',g',r'⟩:=x
 exact ⟨i,H5,s5,h',_,_,I5,⟨es,ep,t',rfl,r'⟩,sb,g',rfl,q⟩
section
variable {X:Cx}{Nc:List Str}{src:List (Option Nat)}{scope:Scope}{elt tg iter:Expr}{ifs:List Expr}{pos:Pos}{wi:TI}{g:TG}{tf:TT}{te:TE}
theorem cxC_xe (cl:List (Str×Addr))(C:Addr)(fp:List Addr)(s2:Shared)(H2:Hp):(cxC X Nc scope cl C fp s2 H2).xe=fun _ _=>False:=rfl
def tSetC (w:World)(src:List (Option Nat))(wi:TI)(g:TG)(tf:TT)(te:TE):TE:=fun σ H Q=>wi σ H fun J H1 =>
 ziz 500 J g tf (emS te) (fun ys H2=>∀ D,H2 D=none→Q (.ref D) (upd H2 D (.ext (stI w D (dd ys))))) (za5 src σ) H1
theorem mk_set {prog:Program}{w:World}{A:Around}{E:Value→Shared→Prop}(Q:Value→Shared→Prop)(s:Shared)(q:Q (.ref s.heap.objs.size) { s with heap:=s.heap.push (sObj #[] 0 (.fresh 0 0 (!w.params.followText "set-order"))) }):wpAny (model prog w) A (newSet (.type "set")) Q E s:=by
 unfold newSet setsByText
 exact Xaa (Xaa (Xa4 (Xad (XaP q))))
theorem ev_set (elt:Expr)(gens:List Comprehension)(scope:Scope)(pos:Pos)(env:Env):eval (.SetComp elt gens scope pos) env=comprehension (.SetComp elt gens scope pos) scope env (firstIterPos gens pos) (newSet (.type "set")) (firstAsync gens) (firstIter gens env):=rfl
theorem zgS (src:List (Option Nat))(hc:X.calm=true)(S:CompOk X.N X.env.scope Nc src scope)(hi:PI X tg iter wi)
  (hg:∀ cl C fp s2 H2,PG (cxC X Nc scope cl C fp s2 H2) tg g) (hf:∀ cl C fp s2 H2,PF (cxC X Nc scope cl C fp s2 H2) ifs tf) (he:∀ cl C fp s2 H2,PE (cxC X Nc scope cl C fp s2 H2) elt te)
  (hs:∀ x,foldedSetIterable iter X.env x=pure x:=by intro _;rfl):PE X (.SetComp elt [⟨tg,iter,ifs,0⟩] scope pos) (tSetC X.w src wi g tf te):=by
 intro pins s σ H Q I h
 obtain ⟨cl,hclos,hcl1,hcl2⟩:=zbD I.ok (scope:=scope) S.free
 rw [ev_set]
 refine wpAny_comprehension_free (use:=none) rfl hs hclos S.kind (fun x hx hl=>by obtain ⟨n,k⟩:=x;cases hl;exact zbC S.nodup hx) (thn (hi pins s σ H _ I h) fun xv s1 h1=>thn h1 fun itv s2 h2=>?_)
 obtain ⟨it,fp,tn,J,H2,e,I2,T,st2,f2,hw⟩:=h2
 subst e
 refine zg9 (α:=Int) (B:=500) (ho:=fun D ys=>.ext (stI X.w D (dd ys))) (AO:=AOs X.w) (RR:=fun acc C=>compPost (model X.prog X.w) X.A X.xe none (EP X pins σ Q) acc C) hc I2 S hcl1 hcl2 T st2 f2 hg hf (fun cl C fp s2 H2=>zks (he cl C fp s2 H2) (cxC_xe cl C fp s2 H2)) mk_set rfl ?_ ?_ ?_ zja hw ?_
 ·exact ⟨#[],0,_,rfl,(fun e he=>nomatch he),.rfl,List.nodup_nil,⟨rfl,List.Pairwise.nil,rfl⟩⟩
 ·rintro ys o v ⟨es,ep,t,rfl,_⟩ z
  have z':Data.set es ep t=Data.cell v:=z
  cases z'
 ·intro ys o H h D ao _ _ g'
  exact stI_ok (ao.at g')
 intro H4 s4 ys m C hC hD Iout hn hCn q
 refine ⟨m,hn,fun h' sb=>⟨.ref s2.heap.objs.size,_,?_,rfl,q _ hD⟩⟩
 obtain ⟨f0,f1,f3,f4,f5,f6⟩:=I2.fpOk (H':=upd H4 s2.heap.objs.size (.ext (stI X.w s2.heap.objs.size (dd ys)))) hC hCn
 exact Iout.turned (t':=s4.toks) (it:=C) (fun b o hb e=>(sb.2 b hb).trans e) f0 f1 f4 f5 f6
end
section
variable {prog:Program}{w:World}{A:Around}{E:Value→Shared→Prop}{R:Result→Shared→Prop}{s:Shared}
end
theorem ziS (kvs:List (Key×V))(k:Key)(v:V):(putK kvs k v).length≤kvs.length+1:=by
 unfold putK
 split
 ·rw [Xae];exact XbL _
 ·rw [Xao];exact Xaf _
section
variable {X:Cx}{Nc:List Str}{src:List (Option Nat)}{scope:Scope}{kx vx tg iter:Expr}{ifs:List Expr}{pos:Pos}{wi:TI}{g:TG}{tf:TT}{tk tv:TE}
end
section
variable {X:Cx}{Nc:List Str}{src:List (Option Nat)}{scope:Scope}{kx vx tg iter:Expr}{ifs:List Expr}{pos:Pos}{wi:TI}{g:TG}{tf:TT}{tk tv:TE}
end
section
variable {X:Cx}
inductive rSetD (x:V)(vs:List V)(H:Hp)(Q:VK):Prop
 | mk (a:Addr) (kvs:List (Key×V)) (k:Key) (y:V) (z0_:x = .ref a) (z1_:vs=[kV k,y]) (z2_:H a=some (.dK kvs)) (z3_:kvs.length<1000) (z4_:(∀ v,valV kvs k=some v→Q v H)) (z5_:(valV kvs k=none→Q y (upd H a (.dK (putK kvs k y)))))
theorem zex:MtR X "dict.setdefault" rSetD:=by
 rintro pins s σ H x vs v us Q I rx rv ⟨a,kvs,k,y,rfl,rfl,e,hl,q1,q2⟩
 obtain rfl:v=Value.ref a:=rx
 cases rv with
 | cons ry rr =>
  obtain ⟨u,rfl,ru⟩:=Vals.one rr
  obtain ⟨z,hd,vs,rel,dd⟩:=zia I.hok e
  refine call_meetsIn PySem.F.slot_dict_setdefault dd.typeIs PySem.F.entry_dict_setdefault (PySem.F.args_dict_setdefault_3 _ _ _) (kt_meets_setdefault (zaI X.prog X.w) a (zh0 ry) hd u) ⟨vs,dd,by rw [← rel.length];exact z,fun w' hw=>?_,fun hn h' dd' hs=>?_⟩
  ·have r:=rel.val k
   rw [hw] at r
   cases hv:valV kvs k with
   | none=>rw [hv] at r;exact r.elim
   | some v=>rw [hv] at r;exact ⟨v,H,I.tok _,r,q1 v hv⟩
  ·have r:=rel.val k
   rw [hn] at r
   have hv:valV kvs k=none:=by
    cases hv:valV kvs k with
    | none=>rfl
    | some v=>rw [hv] at r;exact r.elim
   have he:∃ q,h'.get? a=some q:=let ⟨q,_,_,hq,_⟩:=dd';⟨q,hq⟩
   exact ⟨y,_,zf9 (t':=s.toks+1) I (by rw [e];exact True.intro) hs he (zj0 (Xav (ziS kvs k y) (Xav hl (by decide))) hd (rel.put k ru) dd'),ru,q2 hv⟩
end
section
variable {K:W.Frag}{α:Type}{B:Nat}{g:TG}{tf:TT}{em:TEm α}{Q:List α→Hp→Prop}{σ:St}{H:Hp}
theorem zih {a:Addr}{xs:List V}(Pv:Nat→List α→St→Hp→Prop)(hn:xs.length≤B)(h0:Pv 0 [] σ H)(hl:∀ i ys σ H,i≤xs.length→Pv i ys σ H→SqT K H a xs∧ys.length≤i)
  (hs:∀ i x ys σ H,xs[i]? = some x→Pv i ys σ H→g x σ H fun σ2 H2=>tf σ2 H2 fun b H3=>if b=true then em σ2 H3 fun y H4=>Pv (i+1) (ys ++ [y]) σ2 H4 else Pv (i+1) ys σ2 H3)
  (hd:∀ ys σ H,Pv xs.length ys σ H→Q ys H):ziz B (Itt K a) g tf em Q σ H:=by
 refine ⟨fun i m ys σ H=>m=xs.length - i∧i≤xs.length∧Pv i ys σ H,⟨xs.length,by simp,Nat.zero_le _,h0⟩,?_⟩
 rintro i m ys σ H ⟨rfl,hi,p⟩
 obtain ⟨q,hz⟩:=hl i ys σ H hi p
 by_cases hlt:i<xs.length
 ·refine .inr ⟨⟨xs,xs[i],q,by simp [hlt]⟩,by omega,Pv (i+1),fun ys' σ' H' p'=>⟨xs.length - (i+1),by omega,rfl,hlt,p'⟩,fun x H' y=>?_⟩
  obtain ⟨e,y⟩:=y
  subst e
  exact hs i x ys σ _ (y xs q) p
 ·have e:i=xs.length:=by omega
  subst e
  exact .inl ⟨⟨xs,q,Xaf _⟩,by omega,hd ys σ H p⟩
end
section
variable {X:Cx}{k:Nat}{ks:List Str}{m:Str}{pos apos:Pos}{e o:Expr}{es:List Expr}{kws:List Keyword}{ta:TE}{t tk:TA}
end
section
variable {X:Cx}
end
end L2
end
section
namespace L2
open PySem PySem.Spec PyProof.Rows PySem.SeqAt
section
variable {X:Cx}{K:W.Frag}
end
end L2
end
section
namespace L2
open PySem PySem.Spec PyProof.Rows HT PySem.W PySem.Calls
def xFr (e C:Addr)(od:Option Addr):Heap→Prop:=fun h=>∃ t,h.get? e=some { cls:=.ref C,dict:=od,data:=.fields #[.ref t,.none,.none,.none,.bool false,.none] }
def xDc (dx:Addr)(fs:List (Str×V)):Heap→Prop:=fun h=>fs.length≤100∧∃ mA,h.Ns1 dx mA∧(∀ f,RelO (fs.lookup f) (mA f))∧PySem.Within mA (fs.map (·.1))
section
variable {P:Program}{w:World}{H:Hp}{h:Heap}{e C dx:Addr}{od:Option Addr}{fs:List (Str×V)}
theorem zkA (x:xFr e C od h):ObjOk P w H h e (.ext (xFr e C od)):=by
 obtain ⟨t,g⟩:=id x
 exact ⟨x,⟨_,g⟩,fun h1 h2 ⟨t1,q⟩ k=>⟨t1,k _ q⟩⟩
theorem ok_dc (x:xDc dx fs h):ObjOk P w H h dx (.ext (xDc dx fs)):=by
 obtain ⟨l,mA,⟨o,es,ep,e,r⟩,r1,r2⟩:=id x
 exact ⟨x,⟨_,e⟩,fun h1 h2 ⟨l,mA,⟨o,es,ep,e,r⟩,r1,r2⟩ k=>⟨l,mA,⟨o,es,ep,k _ e,r⟩,r1,r2⟩⟩
end
def NsKI (K:W.Frag)(N fI:Addr):Prop:=∃ c d es ep sl,K.lookup N=some ⟨c,d,.dict es ep,sl⟩∧StrKeys es∧nsFind es "__init__" = some (.ref fI)
structure ExcI (K:W.Frag)(C fI:Addr):Prop where
 ex:∃ nm q N bs bm sn sub ab col dd k0 k1 k2 k3 k5,K.lookup C=some (excClassObj nm q C N bs bm true sn sub ab col dd k0 k1 k2 k3 k5 "ValueError.__new__")∧NsKI K N fI∧TailK K bm
 sa:findIn K (.ref C) "__setattr__" = some (some (.builtin "object.__setattr__"))
theorem TailK.pass {K:W.Frag}{bm:List Value}(x:TailK K bm)(self:Value):refuseLoop self "__setattr__" bm=pure ():=by
 induction x with
 | base=>exact PySem.F.store_ValueError.passes self
 | own e n _ ih=>rw [refuseLoop_ref];exact ih
theorem TailK.has {K:W.Frag}{bm:List Value}(x:TailK K bm):bm.contains (.type "object")=true:=by
 induction x with
 | base=>decide +kernel
 | own e n _ ih=>rw [List.contains_cons,ih,Bool.or_true]
section
variable {prog:Program}{w:World}{A:Around}{E:Value→Shared→Prop}{s:Shared}{K:W.Frag}{x dx C fI:Addr}{mA:Str→Option Value}{name:Str}{v:Value}{ox:Obj}{od:Option Obj}
theorem zeK {tk:Tok}{R:Result→Shared→Prop}(X:K.In s.heap)(I:InstAt s.heap x ox C od)(c:ExcI K C fI)(ht:takerIn K C name=some none)
  (h:∀ b,wpAny (model prog w) A.in1 (Builtin.ObjectAttr.storeInOwnDict (.ref x) (.ref C) (.str name tk) name v b)
   (fun fin s'=>match fin with | .done f=>R (.ok f) s' | .again c'=>c'.quiet=true∧codeAny (model prog w) A c' R s') (fun e s'=>R (.error e) s') s) :
  codeAny (model prog w) A (.call (.builtin "object.__setattr__") ⟨[.ref x,.str name tk,v],[]⟩) R s:=by
 have SF:=PySem.F.store_object
 obtain ⟨nm,q,N,bs,bm,sn,sub,ab,col,dd,k0,k1,k2,k3,k5,hC,hN,hT⟩:=c.ex
 have hc:∃ cd,clsIn K C=some cd∧cd.mro = .ref C :: bm:=⟨_,by unfold clsIn;rw [hC],rfl⟩
 obtain ⟨cd,hc,hmr⟩:=hc
 have hcon:cd.mro.contains (.type "object")=true:=by rw [hmr,List.contains_cons,hT.has,Bool.or_true]
 have ne:cd.mro.isEmpty=false:=by rw [hmr];rfl
 have sub:Looks (model prog w) s.heap (isInstance (.ref x) (.type "object")) true:=I.type.andThen (looks_mroIn X (by unfold mroIn;rw [hc,Option.bind_some,if_neg (by rw [ne];decide),hcon]))
 refine codeAny_call_builtin SF.slot.plain SF.entry (@check_slot (model prog w) _ _ s "object.__setattr__" "object" "__setattr__" (.ref x) [.str name tk,v] [] _ SF.kind SF.split sub (SF.args (.ref x) (.str name tk) v) ?_)
 obtain ⟨attr,ha,hr⟩:=Option.bind_eq_some_iff.mp ht
 have hm:Looks (model prog w) s.heap (mroOf (.ref C)) cd.mro:=(looks_clsIn X hc).andThen .now
 have L3:Looks (model prog w) s.heap (Builtin.ObjectAttr.storeTaker? attr) none:=by
  cases attr with
  | none=>exact .now
  | some a =>
   obtain ⟨b,hb,hb2⟩:=Xaw.mp hr
   refine (looks_takesIn X hb).andThen ?_
   cases b with
   | true=>cases hb2
   | false=>exact .now
 rw [osa_eq,refuse_eq]
 refine Xaa (Xaa (I.type.here (Xaa (hm.here ?_))))
 rw [hmr,refuseLoop_ref,hT.pass]
 refine Xad (Xaa (I.type.here (Xaa ((looks_findIn X ha).here (Xaa (L3.here ?_))))))
 exact h _
theorem zgI {vs:Array Value}{Q:Unit→Shared→Prop}(X:K.In s.heap)(hx:s.heap.get? x=some { cls:=.ref C,dict:=none,data:=.fields vs })(c:ExcI K C fI)(ht:takerIn K C name=some none)
  (h:∀ h',(∀ b o,b≠x→s.heap.get? b=some o→h'.get? b=some o)→h'.get? x=some { cls:=.ref C,dict:=some s.heap.objs.size,data:=.fields vs }→h'.Ns1 s.heap.objs.size (fun y=>if y=name then some v else none)→Q () { s with heap:=h',toks:=s.toks+2 }) :
  wpAny (model prog w) A (setAttr (.ref x) name v) Q E s:=by
 have J:InstAt s.heap x { cls:=.ref C,dict:=none,data:=.fields vs } C none:=⟨hx,rfl,rfl,trivial⟩
 refine set_plain X J c.sa (zeK (s:={ s with toks:=s.toks+1 }) X J c ht fun b=>?_)
 obtain ⟨nm,q,N,bs,bm,sn,sub,ab,col,dd,k0,k1,k2,k3,k5,hC,hN,hT⟩:=c.ex
 have hc:∃ cd,clsIn K C=some cd∧cd.hasDict=true:=⟨_,by unfold clsIn;rw [hC],rfl⟩
 obtain ⟨cd,hc,hd'⟩:=hc
 have hxs:x≠s.heap.objs.size:=Xar (Xaj hx)
 refine Xaa (Xad (Xaa (Xaa (wpAny_loadPart hx (Xaa (Looks.here (s:={ s with toks:=s.toks+1 }) (looks_clsIn X hc) ?_))))))
 rw [hd']
 have hx₁:(s.heap.push { cls:=.type "dict",data:=.dict #[] }).get? x=some { cls:=.ref C,dict:=none,data:=.fields vs }:=Xab _ hx
 obtain ⟨hp,g,d,t,os⟩:=s
 refine Xaa (wpAny_alloc' ?_)
 refine Xaa (wpAny_update' hx₁ ?_)
 refine Xad ?_
 have hgd:((hp.push { cls:=.type "dict",data:=.dict #[] }).update x fun o=>{ cls:=o.cls,dict:=some hp.objs.size,data:=o.data,slots:=o.slots }).get? hp.objs.size=some { cls:=.type "dict",data:=.dict #[] }:=
  (Heap.get?_update_ne _ _ _ _ hxs.symm).trans (Heap.get?_push_at rfl rfl)
 have hnd:((hp.push { cls:=.type "dict",data:=.dict #[] }).update x fun o=>{ cls:=o.cls,dict:=some hp.objs.size,data:=o.data,slots:=o.slots }).Ns hp.objs.size (fun _=>none):=
  ⟨_,#[],_,hgd,rfl,fun e he=>absurd he (by simp),fun _=>rfl⟩
 show wpAny _ _ (Builtin.ObjectAttr.storeInDict hp.objs.size (.str name t) name v) _ _ _
 unfold Builtin.ObjectAttr.storeInDict Builtin.ObjectAttr.newKeyGuard
 refine Xaa (Xad (Xaa (wpAny_nsSet1 (Heap.Ns1.of_empty hnd) fun h' hn' hs=>?_)))
 obtain ⟨oD,esD,epD,hoD,hdD,hcD⟩:=hn'.count (Within.cons name v Within.nil)
 refine Xaa (wpAny_lookBehind hoD (by rw [hdD];exact pastItsLine_dict (Xav hcD (by rw [Xay,XaZ,sizeLine_eq];omega))) ?_)
 refine Xad (h h' (fun b o hb e=>?_) ?_ ?_)
 ·exact (hs.2 b (Xar (Xaj e))).trans ((Heap.get?_update_ne _ _ _ _ hb).trans (Xab _ e))
 ·exact (hs.2 x hxs).trans (XaI _ hx₁ rfl)
 ·exact hn'
theorem zhh {vs:Array Value}{ns:List Str}{Q:Unit→Shared→Prop}(X:K.In s.heap)(hx:s.heap.get? x=some { cls:=.ref C,dict:=some dx,data:=.fields vs })(hne:dx≠x)(hn:s.heap.Ns1 dx mA)(c:ExcI K C fI)(ht:takerIn K C name=some none)
  (hw:PySem.Within mA ns) (hsz:ns.length≤1000)
  (h:∀ h',h'.Ns1 dx (fun y=>if y=name then some v else mA y)→Heap.SameBut dx s.heap h'→Q () { s with heap:=h',toks:=s.toks+2 }) :
  wpAny (model prog w) A (setAttr (.ref x) name v) Q E s:=by
 obtain ⟨oD0,hoD0,hl⟩:=zcq hn
 have J:InstAt s.heap x { cls:=.ref C,dict:=some dx,data:=.fields vs } C (some oD0):=⟨hx,rfl,rfl,hoD0⟩
 refine set_plain X J c.sa (zeK (s:={ s with toks:=s.toks+1 }) X J c ht fun b=>?_)
 obtain ⟨nm,q,N,bs,bm,sn,sub,ab,col,dd,k0,k1,k2,k3,k5,hC,hN,hT⟩:=c.ex
 have hc:∃ cd,clsIn K C=some cd∧cd.hasDict=true:=⟨_,by unfold clsIn;rw [hC],rfl⟩
 obtain ⟨cd,hc,hd'⟩:=hc
 refine Xaa (Xad (Xaa (Xaa (wpAny_loadPart hx (Xaa (Looks.here (s:={ s with toks:=s.toks+1 }) (looks_clsIn X hc) ?_))))))
 rw [hd']
 refine Xad (a:=some dx) (Xaa (Xad (Xaa ?_)))
 refine wpAny_nsSet1 (s:={ s with toks:=s.toks+1 }) hn fun h' hn2 hs2=>?_
 obtain ⟨oD,esD,epD,hoD,hdD,hcD⟩:=hn2.count (PySem.Within.cons name v hw)
 refine Xaa (wpAny_lookBehind hoD (by rw [hdD];exact pastItsLine_dict (Xav hcD (by rw [Xay,sizeLine_eq];omega))) ?_)
 exact Xad (h _ hn2 hs2)
theorem xget {Q:Value→Shared→Prop}{expr:Bool}(X:K.In s.heap)(I:InstAt s.heap x ox C od)(hga:findIn K (.ref C) "__getattribute__" = some (some (.builtin "BaseException.__getattribute__")))(hgr:findIn K (.ref C) "__getattr__" = some none)
  (hf:findObj K C od name=some (.value v)) (hsub:subIn K (.ref C) (.type "BaseException")=some true) (hv:handedIn v=true)
  (h:Q v { s with toks:=s.toks+1 }):wpAny (model prog w) A (getAttr (.ref x) name expr) Q E s:=by
 obtain ⟨hh,g,d,t,os⟩:=s
 have L0:=I.type (M:=model prog w)
 have L1:=looks_findIn (M:=model prog w) X hga
 have L2:=looks_findIn (M:=model prog w) X hgr
 unfold getAttr getAttrBy
 refine Xaa (wpAny_mkText (XaO (Xaa (L0.at (Xaa (L1.at ?_))))))
 have hx2:(Value.builtin "BaseException.__getattribute__" == Value.builtin "object.__getattribute__")=false:=by decide +kernel
 have hx:(onTheHeap (Value.ref C) && Value.builtin "BaseException.__getattribute__" == Value.builtin "object.__getattribute__")=false:=by rw [hx2];rfl
 show wpAny _ _ (if (onTheHeap (Value.ref C) && Value.builtin "BaseException.__getattribute__" == Value.builtin "object.__getattribute__")=true then _ else _) _ _ _
 rw [hx,if_neg Xaq]
 unfold getAttrByItsOwn
 have hb:hookBefore (Value.ref C)=typeLookup (Value.ref C) "__getattr__" := rfl
 rw [hb]
 refine Xaa (L2.at ?_)
 refine Xaa (XbM (XaO ?_))
 have hc:callGetattribute (Value.ref x) (Value.str name t) (Value.builtin "BaseException.__getattribute__") expr=boundAndCalled (Value.builtin "BaseException.__getattribute__") (Value.ref x) (Value.str name t):=by
  unfold callGetattribute
  rw [if_neg (by cases expr <;> decide +kernel)]
 rw [hc]
 unfold boundAndCalled
 rw [PySem.F.excAttr_ValueError.ga.bind (.ref x)]
 refine Xaa (Xad ?_)
 show wpAny _ _ (call (.builtin "BaseException.__getattribute__") [.ref x,.str name t]) _ _ _
 refine Xbu ?_
 have hk:builtinKind "BaseException.__getattribute__" = some .slot:=by decide +kernel
 have hs:splitId "BaseException.__getattribute__" = some ("BaseException","__getattribute__"):=by decide +kernel
 refine codeAny_call_builtin PySem.F.excAttr_ValueError.ga.plain PySem.F.entry_bexc_ga ?_
 have hi:Looks (model prog w) hh (isInstance (.ref x) (.type "BaseException")) true:=L0.andThen (looks_subIn X hsub)
 have ha:=PySem.F.args_bexc_ga (.ref x) (.str name t)
 have LF:=looks_find (M:=model prog w) X I hf
 refine @check_slot _ _ _ _ _ _ _ _ _ _ _ hk hs hi ha ?_
 unfold Builtin.«object.__getattribute__»
 refine Xaa (wpAny_of_eq (a:=(Value.ref x,[Value.str name t])) rfl ?_)
 dsimp only
 refine Xaa (Xad (Xaa (L0.at (Xaa (LF.at ?_)))))
 refine Xad ?_
 show wpAny _ _ (handedOut v) _ _ _
 rw [handedOut_of hv]
 exact Xad h
end
end L2
end
section
namespace L2
open PySem PySem.Spec PyProof.Rows HT PySem.W PySem.Calls
section
variable {X:Cx}{pins:List (Addr×Obj)}{σ:St}{H:Hp}{s:Shared}
theorem Inv.trackE {ea:Addr}{φ:Heap→Prop}(I:Inv X pins σ H s)(hn:H ea=none)(ho:∀ H',ObjOk X.prog X.w H' s.heap ea (.ext φ))(h:zdP X pins ea):Inv X pins σ (upd H ea (.ext φ)) s:=by
 have up:∀ b o,H b=some o→upd H ea (.ext φ) b=some o:=fun b o e=>by rw [zag (fun z=>by rw [z,hn] at e;cases e)];exact e
 refine ⟨I.ok,I.os,I.bare,⟨I.base.keep,I.base.slot,fun b o e n hx=>?_,I.base.there,fun b xs e=>up _ _ (I.base.tups b xs e),fun b o u e=>up _ _ (I.base.frzs b o u e),fun b ps e=>?_⟩,I.loc,I.cell,?_,fun x c e=>?_,fun p hp=>?_,fun a o e=>?_,I.len⟩
 ·rw [zag (fun z=>by rw [z,h.1] at e;cases e)];exact I.base.free b o e n hx
 ·obtain ⟨more,q⟩:=I.base.tbls b ps e
  exact ⟨more,up _ _ q⟩
 ·rw [zag (Ne.symm h.2.1)];exact I.free
 ·rw [zag (h.2.2.1 x c e)];exact I.freeC x c e
 ·obtain ⟨e,n,r⟩:=I.pin p hp
  exact ⟨e,by rw [zag (h.2.2.2 p hp)];exact n,r⟩
 ·by_cases z:a=ea
  ·subst z
   rw [zab] at e
   cases e
   exact ho _
  ·rw [zag z] at e
   exact (I.hok a o e).stay (fun _ _ _ q=>q) (fun b q=>up _ _ q) fun b xs q=>up _ _ q
end
inductive sFldX0_1 (K:W.Frag)(f:Str)(D:Ends)(σ:St)(y:V)(x:V)(H2:Hp):Prop
 | mk (a:_) (C:_) (fI:_) (z0_:x = .ref a) (z1_:H2 a=some (.ext (xFr a C none))) (z2_:ExcI K C fI) (z3_:takerIn K C f=some none) (z4_:∀ dx,H2 dx=none→dx≠a→D.nx σ (upd (upd H2 a (.ext (xFr a C (some dx)))) dx (.ext (xDc dx [(f,y)]))))
def sFldX0 (K:W.Frag)(ta tv:TE)(f:Str):TS:=fun D σ H=>tv σ H fun y H1=>ta σ H1 (sFldX0_1 K f D σ y)
inductive sFldX1_1 (K:W.Frag)(f:Str)(D:Ends)(σ:St)(y:V)(x:V)(H2:Hp):Prop
 | mk (a:_) (C:_) (fI:_) (dx:_) (fs:_) (z0_:x = .ref a) (z1_:H2 a=some (.ext (xFr a C (some dx)))) (z2_:dx≠a) (z3_:H2 dx=some (.ext (xDc dx fs))) (z4_:fs.length<100) (z5_:ExcI K C fI) (z6_:takerIn K C f=some none) (z7_:D.nx σ (upd H2 dx (.ext (xDc dx (putF f y fs)))))
def sFldX1 (K:W.Frag)(ta tv:TE)(f:Str):TS:=fun D σ H=>tv σ H fun y H1=>ta σ H1 (sFldX1_1 K f D σ y)
inductive tFldX_1 (K:W.Frag)(f:Str)(Q:VK)(x:V)(H1:Hp):Prop
 | mk (a:_) (C:_) (dx:_) (fs:_) (v:_) (z0_:x = .ref a) (z1_:H1 a=some (.ext (xIs a (.ref C) (some dx)))) (z2_:H1 dx=some (.ext (xDc dx fs))) (z3_:XCls K C) (z4_:hasDictIn K C=true) (z5_:findIn K (.ref C) f=some none) (z6_:fs.lookup f=some v) (z7_:Q v H1)
def tFldX (K:W.Frag)(ta:TE)(f:Str):TE:=fun σ H Q=>ta σ H (tFldX_1 K f Q)
section
variable {X:Cx}{o e value:Expr}{f:Str}{pos pos':Pos}{ta tv:TE}
theorem zgm (hex:X.ex=[])(ha:PE X o ta)(hv:PE X value tv)(hs:swapsWith value (some (.Attribute o f pos')) pos.line X.env=pure false):PS X (.Assign [.Attribute o f pos'] value pos) (sFldX0 X.K ta tv f):=by
 intro pins s σ H D I h
 refine plainObj_wpAny_Assign_Attribute (thn (hv pins s σ H _ I h) fun u s1 ⟨y,H1,I1,ry,q⟩=>thn (ha pins s1 σ H1 _ I1 q) fun ov s2 hh_=>?_) hs
 obtain ⟨x,H2,I2,rx,a,C,fI,ex,ea,c,ht,q2⟩:=hh_
 subst ex
 obtain rfl:ov=Value.ref a:=rx
 obtain ⟨t,g⟩:=(show xFr a C none s2.heap from (I2.hok a _ ea).1)
 have hnew:s2.heap.get? s2.heap.objs.size=none:=XbI (Xaf _)
 have ne:s2.heap.objs.size≠a:=fun z=>by rw [z,g] at hnew;cases hnew
 refine zgI I2.kIn g c ht fun h' k1 k2 k3=>⟨σ,_,?_,q2 s2.heap.objs.size (I2.hok.fresh (Xaf _)) ne⟩
 have J:Inv X pins σ (upd H2 a (.ext (xFr a C (some s2.heap.objs.size)))) { s2 with heap:=h',toks:=s2.toks+2 }:=
  I2.write (x:=a) (e:=a) (by rw [ea];exact True.intro) (.inl rfl) k1 ⟨_,k2⟩ (zkA ⟨t,k2⟩)
 refine J.trackE (by rw [zag ne];exact I2.hok.fresh (Xaf _)) (fun H'=>ok_dc ⟨by show 1≤100;decide,_,k3,fun g=>?_,fun g hg=>?_⟩) (I2.none_ours hnew (by rw [hex];simp))
 ·show RelO (List.lookup g [(f,y)]) (if g=f then some u else none)
  by_cases q:g=f
  ·subst q
   rw [if_pos rfl]
   simp only [List.lookup,beq_self_eq_true]
   exact ry
  ·rw [if_neg q]
   have:(g == f)=false:=by simpa using q
   simp only [List.lookup,this]
   exact True.intro
 ·by_cases q:g=f
  ·rw [q];simp
  ·exact absurd (show (if g=f then some u else none)=none by rw [if_neg q]) hg
theorem zeo (ha:PE X o ta)(hv:PE X value tv)(hs:swapsWith value (some (.Attribute o f pos')) pos.line X.env=pure false):PS X (.Assign [.Attribute o f pos'] value pos) (sFldX1 X.K ta tv f):=by
 intro pins s σ H D I h
 refine plainObj_wpAny_Assign_Attribute (thn (hv pins s σ H _ I h) fun u s1 ⟨y,H1,I1,ry,q⟩=>thn (ha pins s1 σ H1 _ I1 q) fun ov s2 hh_=>?_) hs
 obtain ⟨x,H2,I2,rx,a,C,fI,dx,fs,ex,ea,ne,ed,hl,c,ht,q2⟩:=hh_
 subst ex
 obtain rfl:ov=Value.ref a:=rx
 obtain ⟨t,g⟩:=(show xFr a C (some dx) s2.heap from (I2.hok a _ ea).1)
 obtain ⟨_,mA,hn,r,wi⟩:=(show xDc dx fs s2.heap from (I2.hok dx _ ed).1)
 refine zhh I2.kIn g ne hn c ht wi (by rw [Xae];omega) fun h' n' sb=>⟨σ,_,?_,q2⟩
 have hd:∃ o,h'.get? dx=some o:=let ⟨o,_,_,e',_⟩:=n';⟨o,e'⟩
 refine I2.write (x:=dx) (e:=dx) (by rw [ed];exact True.intro) (.inl rfl) (fun b u hb z=>(sb.2 b hb).trans z) hd (ok_dc ⟨?_,_,n',fun g=>?_,fun g hg=>?_⟩)
 ·have:=zcj f y fs;omega
 ·show RelO ((putF f y fs).lookup g) (if g=f then some u else mA g)
  rw [zci]
  by_cases q:g=f
  ·rw [if_pos q,if_pos q];exact ry
  ·rw [if_neg q,if_neg q];exact r g
 ·by_cases q:g=f
  ·rw [q];exact (zbP f y fs).1
  ·refine (zbP f y fs).2 g (wi g fun z=>hg ?_)
   show (if g=f then some u else mA g)=none
   rw [if_neg q];exact z
theorem zku (he:PE X e ta)(hb:attributeBase e f X.env (eval e X.env)=eval e X.env):PE X (.Attribute e f pos) (tFldX X.K ta f):=by
 intro pins s σ H Q I h
 refine ziu hb (thn (he pins s σ H _ I h) fun u s1 hh_=>?_)
 obtain ⟨x,H1,I1,rx,a,C,dx,fs,v,ex,ea,ed,c,hh,ha,l,q⟩:=hh_
 subst ex
 obtain rfl:u=Value.ref a:=rx
 obtain ⟨oe,vs,g1,⟨g2,g3⟩,g4⟩:=(show xIs a (.ref C) (some dx) s1.heap from (I1.hok a _ ea).1)
 obtain ⟨_,mA,hn,r,wi⟩:=(show xDc dx fs s1.heap from (I1.hok dx _ ed).1)
 obtain ⟨oD,hoD,hl⟩:=zcq hn
 have J:InstAt s1.heap a oe C (some oD):=⟨g1,g2,by unfold notCls;rw [g4],by rw [g3];exact hoD⟩
 obtain ⟨u',hu,ru⟩:=RelO.some_of (v:=v) (o:=mA f) (by rw [← l];exact r f)
 exact xget I1.kIn J c.ga c.gr (findObj_own hh ha rfl (by rw [hl,hu])) c.sub (zff ru) ⟨v,H1,I1.tok _,ru,q⟩
end
structure SupI (K:W.Frag)(mg:Str→Option Value)(x:Str):Prop where
 ex:∃ B,mg x=some (.ref B)∧specialIn K (.ref B) "__getattribute__" = some (some (.builtin "type.__getattribute__"))∧readsIn K B (.type "type")=true∧findCls K (.ref B) (.type "type") "__init__" = some (.val (.builtin "ValueError.__init__"))
inductive tXini_1 (K:W.Frag)(Q:VK)(vs:List V)(H1:Hp):Prop
 | mk (a:_) (C:_) (fI:_) (od:_) (z:_) (z0_:vs=[.ref a,z]) (z1_:H1 a=some (.ext (xFr a C od))) (z2_:ExcI K C fI) (z3_:Q .non H1)
def tXini (K:W.Frag)(t:TA):TE:=fun σ H Q=>t σ H (tXini_1 K Q)
section
variable {X:Cx}{x:Str}{p pos apos:Pos}{e e2:Expr}{t:TA}
theorem zhG (M:SupI X.K X.mg x)(hg:Gl X x){pl:Sem Bool}(ha:PA X [e,e2] t)(hdb:(x == ("__debug__" : Str))=false:=by decide)
  (hst:starEach [e,e2] X.env=(false,eval e X.env) :: starEach [e2] X.env:=by rfl) (hpl:(backTo pos (starEach [e2] X.env)).any (·.1)=false:=by rfl)
  (ht:eval (.Call (.Attribute (.Name x p) "__init__" apos) [e,e2] [] pos) X.env=(do
   let ov ← eval (.Name x p) X.env
   standAt apos.atName
   let (f,first) ← holding [ov] (getMethod ov "__init__" pl)
   callWith pos f first (backTo pos (starEach [e,e2] X.env)) (backToKw pos (keywordEach [] X.env))):=by rfl) :
  PE X (.Call (.Attribute (.Name x p) "__init__" apos) [e,e2] [] pos) (tXini X.K t):=by
 obtain ⟨B,hm,hs,hrd,hf⟩:=M.ex
 intro pins s σ H Q I h
 refine W.methodCall_KW (pl:=pl) ?_ ht
 refine zbt I hg hm ?_ hdb
 refine W.method_cls I.kIn hs (W.cls_value I.kIn hrd hf rfl ?_)
 have I0:=I.tok (s.toks+1)
 have h2:=ha pos pins _ σ H _ I0 h
 rw [hst] at h2 ⊢
 refine Calls.callWith_builtin (by show (false || (backTo pos (starEach [e2] X.env)).any (·.1))=false;rw [hpl];rfl) (Calls.evalArgs_plain (thn h2 fun us s2 hh_=>?_))
 obtain ⟨vs,H2,I2,r,a,C,fI,od,z,ev,ea,c,q2⟩:=hh_
 subst ev
 obtain ⟨v1,v2,rfl,r1,r2⟩:=zfA r
 obtain rfl:v1=Value.ref a:=r1
 obtain ⟨t,g⟩:=(show xFr a C od s2.heap from (I2.hok a _ ea).1)
 obtain ⟨nm,q,N,bs,bm,sn,sub,ab,col,dd,k0,k1,k2,k3,k5,hC,hN,hT⟩:=c.ex
 have F:=PySem.F.excBase_ValueError
 have T:=hT.tail I2.kIn
 have hC':=I2.kIn _ _ hC
 have I3:=I2
 obtain ⟨hp,gg,dr,tk,os⟩:=s2
 show wpAny _ _ (call (.builtin "ValueError.__init__") [.ref a,v2]) _ _ _
 refine Xbu (codeAny_call_builtin F.init.plain F.initEntry (wpAny_check_init_subT F T hC' g rfl ?_))
 wp_walk
 have g1:(hp.push { cls:=.type "tuple",data:=.seq #[v2] }).get? a=some { cls:=.ref C,dict:=od,data:=.fields #[.ref t,.none,.none,.none,.bool false,.none] }:=Xab _ g
 have g2:=XaI (Obj.mapFields fun x=>x.setIfInBounds 0 (Value.ref hp.objs.size)) g1 rfl
 refine ⟨.non,H2,?_,rfl,q2⟩
 have hu:upd H2 a (.ext (xFr a C od))=H2:=by
  funext b
  by_cases hb:b=a
  ·rw [hb,zab,ea]
  ·rw [zag hb]
 have J:=I2.write (x:=a) (e:=a) (o:=.ext (xFr a C od)) (t':=tk) (h':=(hp.push { cls:=.type "tuple",data:=.seq #[v2] }).update a (Obj.mapFields fun x=>x.setIfInBounds 0 (Value.ref hp.objs.size))) (by rw [ea];exact True.intro) (.inl rfl)
  (fun b u hb z=>(XaE _ _ (Ne.symm hb)).trans (Xab _ z)) ⟨_,g2⟩ (zkA ⟨hp.objs.size,g2⟩)
 rw [hu] at J
 exact J
end
theorem PA.nox {X:Cx}{es:List Expr}{t:TA}(h:PA X.nox es t):PA X es t:=fun p pins s σ H Q I hw =>
 Xaz (h p pins s σ H Q (I.wish _) hw) (fun _ _ ⟨vs,H',I',r,q⟩=>⟨vs,H',I'.unwish,r,q⟩) fun _ _ z=>False.elim z
def unt (H:Hp)(e:Addr):Hp:=fun b=>if b=e then none else H b
theorem zgh {H:Hp}{e:Addr}:unt H e e=none:=by unfold unt;rw [if_pos rfl]
theorem zdW {H:Hp}{e b:Addr}(h:b≠e):unt H e b=H b:=by unfold unt;rw [if_neg h]
theorem zeM {P:Program}{w:World}{K:W.Frag}{mg:Str→Option Value}{base:Heap}{N:List Str}{qual:Str}{scope:Scope}{f:Addr}{cd:Value}{A:Around}{outer:List Env}{s:Shared}{H:Hp}{E:XK}
  {pins:List (Addr×Obj)} {σ:St} {H2:Hp} {s2:Shared} {e C:Addr} {od:Option Addr} (I:Inv (cxOf (CX1 P w) P w K mg base N qual scope f cd A outer s H E) pins σ H2 s2) (ee:H2 e=some (.ext (xFr e C od))) (hn:s.heap.get? e=none) (hE:E (.ref C) od (unt H2 e)) :
  (cxOf (CX1 P w) P w K mg base N qual scope f cd A outer s H E).xe (.ref e) s2:=by
 obtain ⟨t,he⟩:=(show xFr e C od s2.heap from (I.hok e _ ee).1)
 have b1:=I.base
 refine zeb I.ok.frames I.stack (L:=s.heap.objs.size) rfl he rfl rfl fun h'' T fT sl x=>?_
 have ne:∀ b o,s.heap.get? b=some o→b ∉ [e]:=fun b o q z=>by rw [Xac.mp z,hn] at q;cases q
 have nL:∀ b o,s.heap.get? b=some o→b ∉ frs outer→b ∉ ((envOfC qual scope s.heap.objs.size f cd) :: outer).filterMap (·.frame):=fun b o q hb z=>by
  rcases Xal.mp (show b∈s.heap.objs.size :: outer.filterMap (·.frame) from z) with r | r
  ·exact absurd r (Xar (Xaj q))
  ·exact hb r
 have nex:∀ b,b ∉ (cxOf (CX1 P w) P w K mg base N qual scope f cd A outer s H E).ex:=fun b=>by show b ∉ ([]:List Addr);simp
 have dif:∀ b o,H2 b=some o→o≠.ext (xFr e C od)→unt H2 e b=some o:=fun b o q hne=>by
  rw [zdW fun z=>hne (by rw [z,ee] at q;exact (Option.some.inj q).symm)];exact q
 refine ⟨e,T,unt H2 e,C,od,rfl,I.os,I.bare,⟨fun b o q n hb _=>?_,fun b o q n hb _=>?_,fun b o q n _=>?_,fun b o q _=>?_,fun b xs q=>dif _ _ (b1.tups b xs q) (fun z=>nomatch z),fun b o u q=>dif _ _ (b1.frzs b o u q) (fun z=>nomatch z),fun b ps q=>?_⟩,?_,x,hn,?_,zgh,?_,hE⟩
 ·exact (sl b o (b1.keep b o q n hb (nex b)) (ne b o q)).1 (nL b o q hb)
 ·obtain ⟨t1,e1⟩:=b1.slot b o q n hb (nex b)
  obtain ⟨t2,e2⟩:=(sl b _ e1 (ne b o q)).2
  exact ⟨t2,e2⟩
 ·have:=b1.free b o q n (nex b)
  unfold unt
  split
  ·rfl
  ·exact this
 ·obtain ⟨o',e1⟩:=b1.there b o q (nex b)
  obtain ⟨t2,e2⟩:=(sl b _ e1 (ne b o q)).2
  exact ⟨_,e2⟩
 ·obtain ⟨more,q'⟩:=b1.tbls b ps q
  exact ⟨more,dif _ _ q' (fun z=>nomatch z)⟩
 ·intro a o q
  have hae:a≠e:=fun z=>by rw [z,zgh] at q;cases q
  rw [zdW hae] at q
  refine (I.hok a o q).stay (fun b u hb hu=>?_) (fun b z=>dif _ _ z (fun z=>nomatch z)) fun b xs z=>dif _ _ z (fun z=>nomatch z)
  have hbe:b≠e:=by
   rcases hb with rfl | hb
   ·exact hae
   ·exact fun z=>by rw [z,ee] at hb;cases hb
  refine (sl b u hu fun z=>hbe (Xac.mp z)).1 fun z=>?_
  have hf:H2 b=none:=I.stkFree b z
  rcases hb with rfl | hb
  ·rw [hf] at q;cases q
  ·rw [hf] at hb;cases hb
 ·cases q:s.heap.get? T with
  | none=>rfl
  | some o =>
   obtain ⟨o',q'⟩:=b1.there T o q (nex T)
   rw [fT] at q';cases q'
 ·have:=I.hok.none_of fT
  unfold unt
  split
  ·rfl
  ·exact this
structure XIni (P:Program)(w:World)(K:W.Frag)(mg:Str→Option Value)(base:Heap)(k:Nat)(x:Str)(C:Addr)(sp:Sp):Prop where
 at_:mg x=some (.ref C)
 ex:∃ fI fd ps oI,ExcI K C fI∧(K.lookup fI=some oI∧oI.cls = .type "function")∧FnOk P w K mg base CX0 k fI fd ps sp∧Binds K fd ps []
def zke (C:Addr)(sp:Sp)(E:XK)(t:TA):TS:=fun _ σ H=>t σ H fun vs H1=>vs.length≤1000∧∀ e,H1 e=none→sp ((.ref e :: vs) ++ []) (upd H1 e (.ext (xFr e C none))) (fun v H2=>v = .non∧∃ od,H2 e=some (.ext (xFr e C od))∧E (.ref C) od (unt H2 e)) E0
section
variable {X:Cx}{x:Str}{C:Addr}{e:Expr}{es:List Expr}{t:TA}{np cpos pos:Pos}{k:Nat}{sp:Sp}{E:XK}
theorem zeU (M:XIni X.prog X.w X.K X.mg X.base k x C sp)(hr:Room (k+1) X.A)(hg:Gl X x)(hc:X.calm=true)(hex:X.ex=[])(ha:PA X (e :: es) t)
  (hx:∀ (pins:List (Addr×Obj)) (σ:St) (H2:Hp) (s2:Shared) (ea:Addr) (od:Option Addr),Inv X pins σ H2 s2→H2 ea=some (.ext (xFr ea C od))→X.s₀.heap.get? ea=none→E (.ref C) od (unt H2 ea)→X.xe (.ref ea) s2)
  (hd:(x == ("__debug__" : Str))=false:=by decide) (hst:starEach (e :: es) X.env=(false,eval e X.env) :: starEach es X.env:=by rfl) (hpl:(backTo cpos (starEach es X.env)).any (·.1)=false:=by rfl) :
  PS X (.Raise (some (.Call (.Name x np) (e :: es) [] cpos)) none pos) (zke C sp E t):=by
 intro pins s σ H D I h
 obtain ⟨hm,fI,fd,ps,oI,c,⟨hfI,hfc⟩,F,hb⟩:=M
 obtain ⟨nm,q,N,bs,bm,sn,sub,ab,col,dd,k0,k1,k2,k3,k5,hC,hN,hT⟩:=id c.ex
 obtain ⟨cN,d,es',ep,sl,hNl,hNs,hi⟩:=hN
 have T:=hT.tail I.kIn
 have hbase:bm.contains (.type "BaseException")=true:=T.hasType PySem.F.excBase_ValueError.hasBase
 refine zj7 (C:=C) (nm:=nm) (q:=q) (N:=N) (bs:=bs) (bm:=bm) (hdct:=true) (sn:=sn) (sub:=sub) (ab:=ab) (col:=col) (dd:=dd) (k0:=k0) (k1:=k1) (k2:=k2) (k3:=k3) (k5:=k5) (mN:=nsFind es') (fI:=fI) (oI:=oI)
  hbase (I.ok.hd hc) (by rw [hst];show (false || (backTo cpos (starEach es X.env)).any (·.1))=false;rw [hpl];rfl) hi hfc (zbt I hg hm ⟨rfl,?_⟩ hd)
 have h2:=ha cpos pins s σ H _ I h
 rw [hst] at h2 ⊢
 refine Calls.evalArgs_plain (thn h2 fun us s2 h3=>?_)
 obtain ⟨vs,H1,I2,r,hl,q1⟩:=h3
 have hlen:us.length=vs.length:=r.length.symm
 refine ⟨rfl,by show us.length≤sizeLine;rw [hlen,sizeLine_eq];omega,I2.kIn _ _ hC,⟨_,es',ep,I2.kIn _ _ hNl,rfl,hNs,fun _=>rfl⟩,hT.tail I2.kIn,I2.kIn _ _ hfI,fun h' ea hm'=>?_⟩
 have hnone:H1 ea=none:=I2.hok.none_of hm'.new
 have ours:=I2.none_ours hm'.new (by rw [hex];simp)
 have J:Inv X pins σ H1 { s2 with heap:=h' }:=I2.kept (t':=s2.toks) hm'.keeps
 obtain ⟨tt,ht,_⟩:=hm'.there
 have J2:Inv X pins σ (upd H1 ea (.ext (xFr ea C none))) { s2 with heap:=h' }:=J.trackE hnone (fun H'=>zkA ⟨tt,ht⟩) ours
 have q2:=q1 ea hnone
 have r2:Vals ((V.ref ea :: vs) ++ []) ((Value.ref ea :: us) ++ []):=(show Vals (V.ref ea :: vs) (Value.ref ea :: us) from .cons rfl r).append .nil
 have hl2:((Value.ref ea :: us) ++ []).length=ps.length:=by rw [← r2.length];exact F.len _ _ _ _ q2
 refine Xbu (Xbw (F.run _ X.stack _ _ ⟨Value.ref ea :: us,[]⟩ _ _ _ E0 (hr.make C us []) (J2.env0.make C us []) (hb _ (Value.ref ea :: us) J2.kIn hl2) r2 q2) fun rr s' hq=>?_)
 cases rr with
 | error ex=>exact False.elim hq
 | ok fl =>
  cases fl with
  | ret u =>
   obtain ⟨v,H',J3,rv,ev,od,e2,hE⟩:=J2.after hq
   subst ev
   obtain ⟨t3,g3⟩:=(show xFr ea C od s'.heap from (J3.hok ea _ e2).1)
   exact ⟨rv,t3,od,J3.kIn _ _ hC,g3,hx pins σ H' s' ea od J3 e2 ours.1 hE⟩
  | next=>exact False.elim hq
  | brk=>exact False.elim hq
  | cont=>exact False.elim hq
end
def prD (q:Int×Int):PyData:=.tuple [.int q.1,.int q.2]
def PrsH (H:Hp)(p:Addr)(l:List (Int×Int)):Prop:=∃ ts:List Addr,H p=some (.tup (ts.map V.ref))∧ts.length=l.length∧∀ (j:Nat) (t:Addr) (q:Int×Int),ts[j]? = some t→l[j]? = some q→H t=some (.tup [.int q.1,.int q.2])
inductive jPrs_1 (t:TJ)(σ:St)(R:Hp→Prop)(x:V)(H1:Hp):Prop
 | mk (p:Addr) (l:List (Int×Int)) (z0_:x = .ref p) (z1_:PrsH H1 p l) (z2_:l.length≤8) (z3_:(∀ q∈l,q.1.natAbs<10 ^ 12∧q.2.natAbs<10 ^ 12)) (z4_:t σ H1 R)
def jPrs (ta:TE)(t:TJ):TJ:=fun σ H R=>ta σ H (jPrs_1 t σ R)
theorem zeO {P:Program}{w:World}{H:Hp}{h:Heap}{p:Addr}{xs:List V}{ds:List PyData}{as:List Addr}(x:ObjOk P w H h p (.tup xs))(hr:∀ its,Vals xs its→ReadsAll h its ds as):Reads h (.ref p) (.tuple ds) as:=by
 obtain ⟨_,its,rv,⟨c0,d0,dt0,sl0⟩,g1,g2,n,g3⟩:=x
 exact .tuple g1 g2 g3 (by simpa using hr its rv)
set_option tactic.hygienic true in
theorem zeV {P:Program}{w:World}{H:Hp}{h:Heap}(hok:HOk P w H h):∀ (ts:List Addr) (l:List (Int×Int)),ts.length=l.length→(∀ (j:Nat) (t:Addr) (q:Int×Int),ts[j]? = some t→l[j]? = some q→H t=some (.tup [.int q.1,.int q.2]))→∀ its,Vals (ts.map V.ref) its→ReadsAll h its (l.map prD) []
 | [],[],_,_,_,r=>by cases r;exact .nil
 | t :: ts,q :: l,hl,hh,_,r=>by
  cases r with
  | cons a b =>
   rename_i u us
   obtain rfl:u=Value.ref t:=a
   refine ReadsAll.cons (as:=[]) (bs:=[]) ?_ (zeV hok ts l (by simpa using hl) (fun j t' q' e1 e2=>hh (j+1) t' q' (by simpa using e1) (by simpa using e2)) us b)
   refine zeO (hok t _ (hh 0 t q rfl rfl)) fun its rv=>?_
   obtain ⟨v1,v2,rfl,⟨t1,rfl⟩,⟨t2,rfl⟩⟩:=zfA rv
   exact ReadsAll.cons (as:=[]) (bs:=[]) (.int _ _) (ReadsAll.cons (as:=[]) (bs:=[]) (.int _ _) .nil)
 | [],_ :: _,hl,_,_,_=>by simp at hl
 | _ :: _,[],hl,_,_,_=>by simp at hl
theorem zhA {q:Int×Int}(h:q.1.natAbs<10 ^ 12∧q.2.natAbs<10 ^ 12):(prD q).shown.length≤40∧(prD q).showable=true∧(prD q).hasDict=false:=by
 have h1:=PyData.shown_int_le h.1
 have h2:=PyData.shown_int_le h.2
 have lg:∀ {i:Int},i.natAbs<10 ^ 12→i.natAbs.log2<1920:=fun {i} hi=>by
  by_cases z:i.natAbs=0
  ·rw [z];decide
  ·exact Xai ((Nat.log2_lt z).mpr (show i.natAbs<2 ^ 40 by omega)) (by decide)
 refine ⟨?_,?_,rfl⟩
 ·have:=tupleText_len_le [PyData.shown (.int q.1),PyData.shown (.int q.2)]
  simp only [List.map,List.sum_cons,List.sum_nil,Xay,XaZ] at this
  show (tupleText [PyData.shown (.int q.1),PyData.shown (.int q.2)]).length≤40
  omega
 ·show (PyData.showable (.int q.1) && (PyData.showable (.int q.2) && true))=true
  unfold PyData.showable
  rw [Xap (lg h.1),Xap (lg h.2)];rfl
theorem zhz:∀ (l:List (Int×Int)),(∀ q∈l,q.1.natAbs<10 ^ 12∧q.2.natAbs<10 ^ 12)→((PyData.shownAll (l.map prD)).map (·.length)).sum≤40 * l.length∧(PyData.shownAll (l.map prD)).length=l.length∧PyData.showableAll (l.map prD)=true∧PyData.hasDictAll (l.map prD)=false∧PyData.depthAll (l.map prD)≤1
 | [],_=>⟨Xaf _,rfl,rfl,rfl,Nat.zero_le _⟩
 | q :: l,h=>by
  obtain ⟨a1,a2,a3,a4,a5⟩:=zhz l fun q hq=>h q (XaB _ hq)
  obtain ⟨b1,b2,b3⟩:=zhA (h q XaA)
  refine ⟨?_,?_,?_,?_,?_⟩
  ·show (PyData.shown (prD q)).length+((PyData.shownAll (l.map prD)).map (·.length)).sum≤40 * (l.length+1)
   omega
  ·show (PyData.shownAll (l.map prD)).length+1=l.length+1
   omega
  ·show (PyData.showable (prD q) && PyData.showableAll (l.map prD))=true
   rw [b2,a3];rfl
  ·show (PyData.hasDict (prD q) || PyData.hasDictAll (l.map prD))=false
   rw [b3,a4];rfl
  ·show max (PyData.depth (prD q)) (PyData.depthAll (l.map prD))≤1
   have:PyData.depth (prD q)=1:=rfl
   omega
section
variable {X:Cx}{v:Expr}{es:List Expr}{p2:Pos}{ta:TE}{t:TJ}
theorem pj_prs (hgd:X.A.guards=some [])(hu:X.A.units+64<cLine)(hv:PE X v ta)(hs:PJ X es t):PJ X (.FormattedValue v (-1) none p2 :: es) (jPrs ta t):=fun out pins s σ H R hl I h=>by
 refine joinParts_consE (joinParts_cons (FormattedValue_plain (thn (hv pins s σ H _ I h) fun u s1 hh_=>?_)))
 obtain ⟨x,H1,I1,rx,p,l,ex,⟨ts,ep,hlt,hts⟩,hl8,hb,q⟩:=hh_
 subst ex
 obtain rfl:u=Value.ref p:=rx
 have rd:Reads s1.heap (.ref p) (.tuple (l.map prD)) []:=zeO (I1.hok p _ ep) (zeV I1.hok ts l hlt hts)
 obtain ⟨a1,a2,a3,a4,a5⟩:=zhz l hb
 have hlen:(PyData.shown (.tuple (l.map prD))).length≤1000:=by
  have:=tupleText_len_le (PyData.shownAll (l.map prD))
  show (tupleText (PyData.shownAll (l.map prD))).length≤1000
  omega
 have hz:(100000:Nat)≤sizeLine:=by decide
 simp only [Xay] at hl
 have hdp:PyData.depth (.tuple (l.map prD))≤2:=by
  show PyData.depthAll (l.map prD)+1≤2
  omega
 refine formatField_of_reads rd (show PyData.showableAll (l.map prD)=true from a3) (PyData.noDict_hsm (show PyData.hasDictAll (l.map prD)=false from a4)) hgd (by omega) (fun _ _ z=>z) (fun h' u tk hk=>⟨by rw [strLen_append];omega,?_⟩) (by omega)
 exact hs _ pins _ σ H1 R (by rw [strLen_append];omega) (I1.kept (t':=tk) hk) q
end
end L2
end
section
namespace L2
open PySem PySem.Spec PyProof.Rows HT PySem.W PySem.Calls
section
variable {prog:Program}{w:World}{A:Around}
end
section
variable {X:Cx}
end
end L2
end
section
namespace L2
open PySem PySem.Spec PyProof.Rows PySem.SeqAt
def Itu (lo st:Int)(n:Nat):It:=⟨fun i _=>i<n,fun i H x H'=>H'=H∧x = .int (lo+i * st),fun i _=>n≤i⟩
theorem zfC {P:Program}{w:World}{K:PySem.W.Frag}{tg:Expr}(it:Addr)(lo st:Int)(n:Nat):Turn P w K tg (Itu lo st n) [it] it (fun i h=>IsRangeIter h it (lo+(i:Nat) * st) ((n:Int) - (i:Nat)) st) where
 mem:=by simp
 obj:=fun i h st b hb=>by
  have e:b=it:=by simpa using hb
  subst e
  exact ⟨_,st,fun v z=>by
   have z':Data.fields _=Data.cell v:=z
   cases z'⟩
 keep:=fun i h h' st k=>k it (by simp) _ st
 item:=by
  intro X hP hw hK hc i pins s σ H E I hf st' hg
  subst hP hw hK
  obtain ⟨f0,f1,f2,f3,f4,f5⟩:=hf it (by simp)
  have W:=Walks.range (prog:=X.prog) (w:=X.w) (I.ok.hd hc) it lo st n
  refine W.item i s _ _ hg st' fun v h' tk hv st'' kk=>?_
  obtain ⟨t,rfl⟩:=hv
  have I1:Inv X pins σ H { s with heap:=h',toks:=tk }:=I.turned (fun b o hb e=>kk b o (by simpa using hb) e) f0 f1 f3 f4 f5
  exact ⟨_,rfl,zji (s:={ s with heap:=h',toks:=tk }) (n := "range_iterator") st'' rfl rfl (by decide) ⟨.int (lo+i * st),H,I1,⟨t,rfl⟩,⟨rfl,rfl⟩,st'',fun b hb=>(hf b hb).1⟩⟩
 done:=by
  intro X hP hw hK hc i pins s σ H E I hf st' hg
  subst hP hw hK
  obtain ⟨f0,f1,f2,f3,f4,f5⟩:=hf it (by simp)
  exact wpAny_pyNext_range_end (I.ok.hd hc) st' (by have:n≤i:=hg;omega) fun h' eb=>⟨rfl,I.turned (t':=s.toks) (fun b o hb e=>eb b o hb e) f0 f1 f3 f4 f5⟩
 self:=fun _ _ _ _ _ st h=>wpAny_pyIter_rangeiter st h
section
variable {X:Cx}{tg:Expr}
theorem zhw {pins:List (Addr×Obj)}{σ:St}{H:Hp}{s:Shared}{R:It→Hp→Prop}{E:Value→Shared→Prop}{lo hi st:Int}{n:Nat}{t u v:Tok}{tk:Nat}(I:Inv X pins σ H s)(h1:Builtin.Range.small lo hi st=true)(hn:Builtin.Range.rangeSize lo hi st=(n:Int))
  (q:R (Itu lo st n) H):wpAny (model X.prog X.w) X.A (pyIter (.ref s.heap.objs.size)) (PIE X pins σ tg R) E { s with heap:=s.heap.push { cls:=.type "range",data:=.fields #[.int lo t,.int hi u,.int st v] },toks:=tk }:=by
 refine wpAny_pyIter_range (IsRange.new ..) h1 ?_
 have I1:Inv X pins σ H { s with heap:=s.heap.push { cls:=.type "range",data:=.fields #[.int lo t,.int hi u,.int st v] },toks:=tk }:=I.kept fun b o e=>Xab _ e
 refine ⟨(s.heap.push { cls:=.type "range",data:=.fields #[.int lo t,.int hi u,.int st v] }).objs.size,[(s.heap.push { cls:=.type "range",data:=.fields #[.int lo t,.int hi u,.int st v] }).objs.size],_,_,H,rfl,
  I1.kept (t':=tk) fun b o e=>Xab _ e,zfC _ lo st n,?_,fun b hb=>?_,q⟩
 ·have e1:lo+((0:Nat):Int) * st=lo:=by simp
  have e2:(n:Int) - ((0:Nat):Int)=Builtin.Range.rangeSize lo hi st:=by rw [hn];simp
  show IsRangeIter _ _ (lo+((0:Nat):Int) * st) ((n:Int) - ((0:Nat):Int)) st
  rw [e1,e2]
  exact Xah _ rfl
 ·have e:b=(s.heap.push { cls:=.type "range",data:=.fields #[.int lo t,.int hi u,.int st v] }).objs.size:=by simpa using hb
  subst e
  exact I1.fpOk (Xaf _) (I1.hok.fresh (Xaf _))
inductive iRngS_1 (R:It→Hp→Prop)(vs:List V)(H1:Hp):Prop
 | mk (i j st:Int) (n:Nat) (z0_:vs=[.int i,.int j,.int st]) (z1_:st≠0) (z2_:Builtin.Range.small i j st=true) (z3_:Builtin.divisionGoesByPylong (j - i) st=false) (z4_:Builtin.Range.rangeSize i j st=(n:Int)) (z5_:R (Itu i st n) H1)
def iRngS (ta:TA):TI:=fun σ H R=>ta σ H (iRngS_1 R)
theorem zeX {a b c:Expr}{ta:TA}{p pos:Pos}(hg:Gl X "range")(hm:X.mg "range" = none)(ha:PA X [a,b,c] ta)(hs:starEach [a,b,c] X.env=(false,eval a X.env) :: starEach [b,c] X.env:=by rfl)(hs2:(backTo pos (starEach [b,c] X.env)).any (·.1)=false:=by rfl) :
  PI X tg (.Call (.Name "range" p) [a,b,c] [] pos) (iRngS ta):=by
 intro pins s σ H R I h
 refine Call_ (zcr I hg hm boot_range (PyProof.Rows.callWith_type1 (thn (ha pos pins s σ H _ I h) fun us s1 hh_=>?_) hs hs2))
 obtain ⟨vs,H1,I1,r1,q1⟩:=hh_
 obtain ⟨i,j,st,n,e,hne,q1,q2,q3,q⟩:=q1
 subst e
 cases r1 with
 | cons r rr =>
  cases rr with
  | cons r' rr =>
   cases rr with
   | cons r'' rr =>
    cases rr
    obtain ⟨t,rfl⟩:=r
    obtain ⟨t',rfl⟩:=r'
    obtain ⟨t'',rfl⟩:=r''
    exact call_range_3 hne (zhw I1 q1 q3 q) (.inl q2)
end
theorem zd5 {lo st:Int}{n:Nat}{g:TG}{tb:TS}{D:Ends}{σ:St}{H:Hp}(Pv:Nat→St→Hp→Prop)(h0:Pv 0 σ H)
  (hs:∀ i σ H,i<n→Pv i σ H→g (.int (lo+i * st)) σ H fun σ2 H2=>tb { D with nx:=Pv (i+1),ct:=Pv (i+1),bk:=D.nx } σ2 H2) (hd:∀ σ H,Pv n σ H→D.nx σ H) :
  ∃ W:Nat→Nat→St→Hp→Prop,(∃ m,W 0 m σ H)∧∀ i m σ H,W i m σ H →
   ((Itu lo st n).stop i H∧D.nx σ H)∨((Itu lo st n).go i H∧∃ N:St→Hp→Prop,(∀ σ' H',N σ' H'→∃ m',m'<m∧W (i+1) m' σ' H')∧∀ x H',(Itu lo st n).yld i H x H'→g x σ H' fun σ2 H2=>tb { D with nx:=N,ct:=N,bk:=D.nx } σ2 H2):=by
 refine ⟨fun i m σ H=>m=n - i∧i≤n∧Pv i σ H,⟨n,by simp,Nat.zero_le _,h0⟩,?_⟩
 rintro i m σ H ⟨rfl,hi,p⟩
 by_cases hlt:i<n
 ·refine .inr ⟨hlt,Pv (i+1),fun σ' H' p'=>⟨n - (i+1),by omega,rfl,hlt,p'⟩,fun x H' y=>?_⟩
  obtain ⟨e,y⟩:=y
  subst e y
  exact hs i σ _ hlt p
 ·have e:i=n:=by omega
  subst e
  exact .inl ⟨Xaf _,hd σ H p⟩
theorem zgk {j st n:Nat}(hj:j≤1000)(hs:0<st)(hs2:st≤1000)(hn:n=(j+st - 1) / st):Builtin.Range.small 0 (j:Int) (st:Int)=true∧Builtin.divisionGoesByPylong ((j:Int) - 0) (st:Int)=false∧Builtin.Range.rangeSize 0 (j:Int) (st:Int)=(n:Int):=by
 have e:Builtin.Range.rangeSize 0 (j:Int) (st:Int)=(n:Int):=by
  unfold Builtin.Range.rangeSize
  rw [if_pos (show (st:Int) > 0 by omega)]
  by_cases h:j=0
  ·subst h
   rw [if_neg (by omega),hn,show 0+st - 1=st - 1 by omega,Nat.div_eq_of_lt (by omega)];rfl
  ·rw [if_pos (by omega),hn,show (j:Int) - 0 - 1=((j - 1:Nat):Int) by omega,show j+st - 1=(j - 1)+st by omega,Nat.add_div_right _ hs]
   rfl
 have hn2:n≤2000:=by rw [hn];exact Xav (Nat.div_le_self _ _) (by omega)
 have fits:∀ k:Int,0≤k→k≤100000→Builtin.Range.rangeFitsLong k=true:=fun k h1 h2=>by unfold Builtin.Range.rangeFitsLong;simp;omega
 refine ⟨?_,PyProof.noPylong_small (by omega),e⟩
 unfold Builtin.Range.small
 simp [e,fits 0 (by omega) (by omega),fits (st:Int) (by omega) (by omega),fits (n:Int) (by omega) (by omega),fits (j:Int) (by omega) (by omega)]
 right
 rw [if_pos hs]
 exact fits _ (by omega) (by omega)
end L2
end
section
namespace L2
open PySem
section
variable {X:Cx}
theorem zc8 {K:W.Frag}{e:Expr}{ta:TE}{f:Str}{pos:Pos}(hK:X.K=K)(he:PE X e ta)(hb:attributeBase e f X.env (eval e X.env)=eval e X.env):PE X (.Attribute e f pos) (tFldX K ta f):=by
 subst hK;exact zku he hb
end
section
variable {P:Program}{w:World}{K:W.Frag}{mg:Str→Option Value}{base:Heap}{k:Nat}{C f:Addr}{fd:FuncData}{m:Str}{ps ks:List Str}{gV:List V→List V→List V}{sp:Sp}
end
end L2
end
section
namespace L2
open PySem
section
variable {P:Program}{w:World}{K:W.Frag}{mg:Str→Option Value}{base:Heap}{k:Nat}{C f:Addr}{fd:FuncData}{m:Str}{ps ks:List Str}{g:List Value→List Value→List Value}{gV:List V→List V→List V}{sp:Sp}
end
abbrev THd:=Value→Option Addr→TS
def thNil:THd:=fun _ _ _ _ _=>False
def thAs (K:W.Frag)(j:Nat)(Cb:Addr)(th:TS)(tr:THd):THd:=fun cls od D σ' H2 =>
 (W.exmOne K cls (.ref Cb)=some true∧∀ ea,H2 ea=none→th { nx:=fun σ2 H3=>D.nx ((σ2.set j (some .non)).set j none) H3,rt:=fun _ _=>False } (σ'.set j (some (.ref ea))) (upd H2 ea (.ext (xIs ea cls od))))∨(W.exmOne K cls (.ref Cb)=some false∧tr cls od D σ' H2)
def tTryH (tb:(St→XK)→TS)(t:THd):TS:=fun D σ H=>tb (fun σ' cls od H2=>t cls od D σ' H2) D σ H
def PHs (X:Cx)(hs:List ExceptHandler)(t:THd):Prop:=∀ (pins:List (Addr×Obj)) (σ':St) (H':Hp) (s':Shared) (ea T2 C':Addr) (od':Option Addr) (D:Ends),Inv X pins σ' H' s'→XAt s'.heap ea T2 (.ref C') .none od'→H' ea=none→zdP X pins ea→H' T2=none→zdP X pins T2→t (.ref C') od' D σ' H'→wpAny (model X.prog X.w) X.A (handleBy (.ref ea) X.env hs) (fun f s₁=>SP X pins D f s₁) X.xe s'
section
variable {X:Cx}{cn n:Str}{j:Nat}{Cb:Addr}{body hbody:List Stmt}{b₀:Stmt}{tb:(St→XK)→TS}{th:TS}{tr t:THd}{p4 p8 p9:Pos}{hs:List ExceptHandler}{h0:ExceptHandler}
theorem ph_nil:PHs X [] thNil:=fun _ _ _ _ _ _ _ _ _ _ _ _ _ _ _ z=>z.elim
theorem ph_as (hD:∀ ea,PSs (X.marked (.ref ea)).nox (b₀ :: hbody) th)(hr:PHs X hs tr)(hN:X.N.Nodup)(hj:X.N[j]? = some n)(kn:X.env.scope.names.lookup n=some .local)(hmc:X.mg cn=some (.ref Cb))(hgm:∀ ea,Gl (X.marked (.ref ea)) cn)(hdc:(cn == ("__debug__" : Str))=false:=by decide) :
  PHs X (.ExceptHandler (some (.Name cn p4)) (some n) (b₀ :: hbody) p8 :: hs) (thAs X.K j Cb th tr):=by
 intro pins σ' H' s' ea T2 C' od' D J2 x3 n1 o1 n3 o3 hk
 have nop:True:=trivial
 have cT2:∀ b∈[T2],H' b=none∧X.s₀.heap.get? b=none∧b≠X.env.locals∧(∀ x c,X.env.cells.lookup x=some c→c≠b)∧∀ p∈X.pn ++ pins,p.1≠b:=fun b hb=>by rw [Xac.mp hb];exact ⟨n3,o3⟩
 have hd0:=J2.ok.hd
 have ty:W.Looks (model X.prog X.w) s'.heap (typeOf (.ref ea)) (.ref C'):=by
  obtain ⟨oe,vs,oT,ts,g1,⟨g2,_⟩,_⟩:=x3
  rw [← g2]
  exact (W.Looks.ld g1).andThen .now
 have Jm:=J2.marked (.ref ea)
 refine wpAny_handleBy_cons (codeAny_handlers_test (zbt Jm (hgm ea) hmc ?_ hdc)) (by intro z;cases z)
 rcases hk with ⟨hm2,k2⟩ | ⟨hm2,k2⟩
 rotate_left
 ·refine (W.exm_one Jm.kIn ty hm2).here ?_
  exact hr pins σ' H' s' ea T2 C' od' D J2 x3 n1 o1 n3 o3 k2
 ·refine (W.exm_one Jm.kIn ty hm2).here ?_
  refine codeAny_handlers_suite_as (zbT x3 fun h3 sl3 x4=>?_)
  have J3:Inv X pins σ' H' { s' with heap:=h3 }:=J2.slid (sl3.mono (fun b z=>nomatch z) fun _ z=>z) cT2
  have xo:xIs ea (.ref C') od' h3:=by
   obtain ⟨oe,vs,oT,ts,g1,g2,g3,_⟩:=x4
   exact ⟨oe,vs,g1,g2,g3⟩
  have J4:Inv X pins σ' (upd H' ea (.ext (xIs ea (.ref C') od'))) { s' with heap:=h3 }:=J3.trackX n1 xo o1
  have k3:=k2 ea n1
  clear k2
  generalize upd H' ea (.ext (xIs ea (.ref C') od'))=H3 at J4 k3
  refine zbx (v:=.ref ea) J4 hN hj (.inl kn) rfl (fun s4 J5=>?_) (.inr kn)
  refine Xaz (hD ea pins s4 _ H3 _ ((J5.marked (.ref ea)).wish _) k3) (fun fl s5 hq=>?_) fun _ _ z=>False.elim z
  cases fl with
  | ret u=>obtain ⟨_,_,_,_,_,z⟩:=hq;exact False.elim z
  | brk=>obtain ⟨_,_,_,z⟩:=hq;exact False.elim z
  | cont=>obtain ⟨_,_,_,z⟩:=hq;exact False.elim z
  | next =>
   obtain ⟨σ6,H6,J6,q6⟩:=hq
   have J7:Inv X pins σ6 H6 s5:=J6.unwish.unmarked hd0
   have hjσ:j<σ6.length:=by rw [J7.len];exact (Xag.mp hj).1
   show wpAny (model X.prog X.w) X.A (do bindName X.env n .none;unbindBehindTheSuite X.env n p8) (fun _ s₃=>SP X pins D .next s₃) X.xe s5
   refine Xaa (wpAny_bindName (zbx (v:=.non) J7 hN hj (.inl kn) rfl (fun s8 J8=>?_) (.inr kn)))
   unfold unbindBehindTheSuite
   refine wpAny_onRaise ?_
   obtain ⟨m,hm8,hl8⟩:=id J8.loc
   have hb8:∃ v,m n=some v:=by
    obtain ⟨u,ru,q⟩:=hl8 j n .non hj (by rw [Xbt hjσ]) (.inl kn)
    rcases q with ⟨_,q⟩ | ⟨z,_⟩
    ·exact ⟨_,q⟩
    ·rcases z with z | z
     ·have z:X.env.scope.names.lookup n=some .cell:=z
      rw [kn] at z;cases z
     ·have z:X.env.scope.names.lookup n=some .free:=z
      rw [kn] at z;cases z
   obtain ⟨vn,hvn8⟩:=hb8
   refine wpAny_unbindName_local kn hm8 hvn8 (by rw [J8.ok.kind];rfl) fun h9 u9 hn9 hs9=>?_
   exact ⟨_,H6,J8.unname (t':=s8.toks) hN hj kn hm8 hn9 hs9,q6⟩
theorem zkm (hb:∀ (pins:List (Addr×Obj)) (E:St→XK),PSs (X.tried pins E) body (tb E))(hh:PHs X (h0 :: hs) t)(hst:X.stack=X.env :: X.outer∧X.env.frame=some X.env.locals)(hex:X.ex=[]):PS X (.Try body (h0 :: hs) [] [] p9) (tTryH tb t):=by
 intro pins s σ H D I h
 refine wpAny_Try_except (Xaz (hb pins _ [] s σ H D (I.tried _) h) (fun fl s' q=>?_) fun e s' q=>?_)
 ·have q:=q.untried
  cases fl with
  | next=>exact XbN q
  | brk=>exact q
  | cont=>exact q
  | ret u=>exact q
 ·obtain ⟨σ',ea,T,H',C',od',rfl,J,xa,n1,n2,o1,o2,k2⟩:=q
  have fr:X.A.frames=some (X.env :: X.outer):=by rw [← hst.1];exact J.ok.frames
  have fl:s'.heap.FunFrames X.base (X.env :: X.outer):=by rw [← hst.1];exact J.stack
  refine zb6 fr fl hst.2 xa fun h1 T2 fT2 sl x2=>?_
  have sl':Slid (frs X.stack) [ea,T] s'.heap h1:=by rw [hst.1];exact sl
  have J1:Inv X pins σ' H' { s' with heap:=h1 }:=J.slid sl' fun b hb=>by
   rcases Xal.mp hb with rfl | hb
   ·exact ⟨n1,o1⟩
   ·rw [Xac.mp hb];exact ⟨n2,o2⟩
  have n3:H' T2=none:=J.hok.none_of fT2
  have nex:∀ b:Addr,b ∉ X.ex:=fun b z=>by rw [hex] at z;cases z
  have o3:=J.none_ours fT2 (nex T2)
  have cT2:∀ b∈[T2],H' b=none∧X.s₀.heap.get? b=none∧b≠X.env.locals∧(∀ x c,X.env.cells.lookup x=some c→c≠b)∧∀ p∈X.pn ++ pins,p.1≠b:=fun b hb=>by rw [Xac.mp hb];exact ⟨n3,o3⟩
  refine zbT x2 fun h2 sl2 x3=>?_
  have J2:Inv X pins σ' H' { s' with heap:=h2 }:=J1.slid (sl2.mono (fun b z=>nomatch z) fun _ z=>z) cT2
  exact hh pins σ' H' _ ea T2 C' od' D J2 x3 n1 o1 n3 o3 k2
end
section
variable {X:Cx}{k:Nat}{ks:List Str}{x:Str}{C:Addr}{gV:List V→List V→List V}{sp:Sp}{p pos:Pos}{e:Expr}{es:List Expr}{kws:List Keyword}{t tk:TA}
end
section
variable {X:Cx}{pins:List (Addr×Obj)}{σ:St}{H:Hp}{s:Shared}{a:Addr}
end
section
variable {X:Cx}{tg:Expr}
end
section
variable {X:Cx}{K:W.Frag}
end
section
variable {X:Cx}{a b e:Expr}{ta tb te:TE}{pos pos':Pos}{x:Str}
theorem pe_x {r:R2}(hr:IxR X r)(ha:PE X a ta)(hb:PE X b tb)(hs:ziw b:=by exact fun _ _=>rfl):PE X (.Subscript a b pos) (tOp r ta tb):=pe_ix hr ha hb hs
theorem ps_L (i:Nat)(hN:X.N.Nodup)(he:PE X e te)(hi:X.N[i]? = some x:=by rfl)(hx:Loc X.env.scope x:=by exact Or.inl rfl)(hs:swapsWith e (some (.Name x pos')) pos.line X.env=pure false:=by rfl)(hf:X.fn x=true∨X.env.scope.names.lookup x=some .local:=by first | exact .inl rfl | exact .inr rfl | assumption):PS X (.Assign [.Name x pos'] e pos) (tAsg te (za7 i)):=zhy hN hi hx he hs hf
theorem pg_L (i:Nat)(hN:X.N.Nodup)(hi:X.N[i]? = some x:=by rfl)(hx:Loc X.env.scope x:=by exact Or.inl rfl)(hf:X.fn x=true∨X.env.scope.names.lookup x=some .local:=by first | exact .inl rfl | exact .inr rfl | assumption):PG X (.Name x pos) (za7 i):=zkr hN hi hx hf
theorem hrm {j k:Nat}{A:Around}(r:Room k A)(h:j≤k:=by first | exact Nat.le_of_ble_eq_true rfl | omega):Room j A:=r.mono h
theorem pe_c {k:Nat}{ps:List Str}{sp:Sp}{p:Pos}{e:Expr}{es:List Expr}{t:TA}(C:Cal X.prog X.w X.K X.mg X.base k x ps sp)(ha:PA X (e :: es) t)(hr:Room k X.A:=by exact hrm (by assumption))(hg:Gl X x:=by rfl)(hdb:(x == ("__debug__" : Str))=false:=by decide)
  (he:starEach (e :: es) X.env=(false,eval e X.env) :: starEach es X.env:=by rfl) (hpl:(backTo pos (starEach es X.env)).any (·.1)=false:=by rfl):PE X (.Call (.Name x p) (e :: es) [] pos) (ziF sp [] E0 t):=pe_cal C hr hg ha hdb he hpl
theorem sck {N P:List Str}{sc:Scope}(h1:sc.kind = .function)(h2:sc.isCoroutine=false)(h3:sc.isGenerator=false)(h:N.Nodup∧N.take P.length=P∧(∀ x∈P,sc.names.lookup x=some .local∨sc.names.lookup x=some .cell)∧∀ y∈sc.names,y.2≠.free):FnScope N P sc:=⟨h1,h2,h3,h.1,h.2.1,h.2.2.1,h.2.2.2⟩
end
end L2
end
section
namespace L2
open PySem PySem.Spec PyProof.Rows PySem.SeqAt
section
variable {X:Cx}{K:W.Frag}
theorem zg6 {vs:List Value}{ns:List Int}(h:IntsAre vs ns):∃ xs:List (Int×Tok),vs=xs.map (fun p=>Value.int p.1 p.2)∧xs.map (·.1)=ns:=by
 induction h with
 | nil=>exact ⟨[],rfl,rfl⟩
 | cons n t _ ih =>
  obtain ⟨xs,e1,e2⟩:=ih
  exact ⟨(n,t) :: xs,by rw [e1];rfl,by rw [← e2];rfl⟩
theorem zin (hc:X.calm=true):zbH X (.builtin "min") (fun xs H Q=>∃ (a:Addr) (ns:List Int),xs=[.ref a]∧H a=some (.lst (ns.map V.int))∧0<ns.length∧∀ m,m∈ns→(∀ n∈ns,m≤n)→Q (.int m) H):=by
 intro pins s σ H xs us Q I r h
 obtain ⟨a,ns,rfl,hq,h0,q⟩:=h
 obtain ⟨u,rfl,ru⟩:=zcw r
 cases ru
 obtain ⟨its,rv,p,hz⟩:=I.list (SqL.of hq)
 obtain ⟨ys,rfl,rfl⟩:=zg6 (zcM rv)
 have h0:0<ys.length:=by simpa using h0
 refine min_intList (xs:=ys.toArray) (I.ok.hd hc) (by simpa [intItems] using p.isList) (by simpa using h0) fun v h' tk hv kp=>?_
 obtain ⟨t,rfl⟩:=intItems_at hv
 obtain ⟨h1,h2⟩:=argBest_lt (numAt ys.toArray) (ys.toArray.size - 1)
 have hl:ys.toArray.size=ys.length:=Xam
 have at_:∀ j,j<ys.length→numAt ys.toArray j=(ys.map (·.1)).getD j 0:=fun j _=>by rw [numAt_eq]
 refine ⟨.int _,H,I.kept kp,⟨t,rfl⟩,q _ ?_ fun n hn=>?_⟩
 ·rw [at_ _ (by omega),XaK,Xak (by rw [Xae];omega)]
  exact Xbf _
 ·obtain ⟨j,hj⟩:=XbC.mp hn
  have hj':j<ys.length:=by have:=(Xag.mp hj).1;rwa [Xae] at this
  have:=h2 j (by omega)
  rw [at_ j hj',XaK,hj] at this
  exact this
def Atm:V→Prop
 | .int _=>True
 | .str _=>True
 | .non=>True
 | .bl _=>True
 | _=>False
theorem eq_atm {A:Around}{s:Shared}{x:V}{u v:Value}(h:Atm x)(r1:RelV x u)(r2:RelV x v):EqAt A s u v true:=by
 cases x with
 | int i =>
  obtain ⟨t,rfl⟩:=(show ∃ t,u=Value.int i t from r1)
  obtain ⟨t2,rfl⟩:=(show ∃ t,v=Value.int i t from r2)
  have:=EqAt.int_int (A:=A) (s:=s) i t i t2
  rw [beq_self_eq_true] at this
  exact this
 | str i =>
  obtain ⟨t,rfl⟩:=(show ∃ t,u=Value.str i t from r1)
  obtain ⟨t2,rfl⟩:=(show ∃ t,v=Value.str i t from r2)
  have:=EqAt.str_str (A:=A) (s:=s) i t i t2
  rw [beq_self_eq_true] at this
  exact this
 | non=>cases r1;cases r2;exact EqAt.same _
 | bl b=>cases r1;cases r2;exact EqAt.same _
 | _=>exact h.elim
inductive rEqA (K:W.Frag)(x:V)(y:V)(H:Hp)(Q:VK):Prop
 | mk (a:_) (b:_) (xs:_) (z0_:x = .ref a) (z1_:y = .ref b) (z2_:SqT K H a xs) (z3_:SqT K H b xs) (z4_:∀ v∈xs,Atm v) (z5_:Q (.bl true) H)
theorem op_eqA (hu:X.A.units<cLine)(hK:X.K=K):OpR X (compareOp .Eq) (rEqA K):=by
 subst hK
 rintro pins s σ H x y v u Q I rx ry ⟨a,b,xs,rfl,rfl,ha,hb,hA,q⟩
 cases rx;cases ry
 obtain ⟨t1,w1,p1,_⟩:=I.tuple ha
 obtain ⟨t2,w2,p2,_⟩:=I.tuple hb
 have l1:=w1.length
 have l2:=w2.length
 refine RcAt.tuples (e:=fun _=>true) p1 p2 hu (fun j h1 h2=>?_) _ _ _ _ ⟨.bl true,H,I,?_,q⟩
 ·have g1:j<t1.length:=by simpa using h1
  have g2:j<t2.length:=by simpa using h2
  have ex:xs[j]? = some (xs[j]'(by omega)):=Xak (by omega)
  obtain ⟨v1,z1,rx⟩:=w1.get ex
  obtain ⟨v2,z2,ry⟩:=w2.get ex
  have q1:t1.toArray[j]=v1:=by rw [XbJ];exact (Xag.mp z1).2
  have q2:t2.toArray[j]=v2:=by rw [XbJ];exact (Xag.mp z2).2
  rw [q1,q2]
  exact eq_atm (hA _ (Xbf _)) rx ry
 ·show _=Value.bool true
  rw [show (List.range (min t1.toArray.size t2.toArray.size)).all (fun _=>true)=true from Xbe.mpr fun _ _=>rfl,Xam,Xam,show t1.length=t2.length by omega]
  simp
inductive rEqLB (K:W.Frag)(x:V)(y:V)(H:Hp)(Q:VK):Prop
 | mk (a:_) (b:_) (bs:List Bool) (z0_:x = .ref a) (z1_:y = .ref b) (z2_:SqL K H a (bs.map V.bl)) (z3_:SqL K H b (bs.map V.bl)) (z4_:Q (.bl true) H)
theorem zky (hu:X.A.units<cLine)(hK:X.K=K):OpR X (compareOp .Eq) (rEqLB K):=by
 subst hK
 rintro pins s σ H x y v u Q I rx ry ⟨a,b,bs,rfl,rfl,ha,hb,q⟩
 cases rx;cases ry
 obtain ⟨t1,r1,p1,_⟩:=I.list ha
 obtain ⟨t2,r2,p2,_⟩:=I.list hb
 have l1:=r1.length
 have l2:=r2.length
 refine RcAt.lists (e:=fun _=>true) p1.isList p2.isList (by rw [Xam,Xam];omega) hu (fun j h1 h2=>?_) _ _ _ _ ⟨.bl true,H,I,?_,q⟩
 ·have g1:j<t1.length:=by simpa using h1
  have g2:j<t2.length:=by simpa using h2
  have ex:(bs.map V.bl)[j]? = some ((bs.map V.bl)[j]'(by omega)):=Xak (by omega)
  obtain ⟨v1,z1,rx⟩:=r1.get ex
  obtain ⟨v2,z2,ry⟩:=r2.get ex
  have q1:t1.toArray[j]=v1:=by rw [XbJ];exact (Xag.mp z1).2
  have q2:t2.toArray[j]=v2:=by rw [XbJ];exact (Xag.mp z2).2
  rw [q1,q2]
  obtain ⟨c,_,e⟩:=XaJ.mp (Xau ex)
  rw [← e] at rx ry
  cases rx;cases ry
  exact EqAt.same _
 ·show _=Value.bool true
  rw [show ((List.range t1.toArray.size).all fun _=>true)=true from Xbe.mpr fun _ _=>rfl]
inductive rEqTI (K:W.Frag)(x:V)(y:V)(H:Hp)(Q:VK):Prop
 | mk (a:_) (b:_) (ns:List Int) (ms:List Int) (z0_:x = .ref a) (z1_:y = .ref b) (z2_:SqT K H a (ns.map V.int)) (z3_:SqT K H b (ms.map V.int)) (zl_:ns.length=ms.length) (z4_:Q (.bl (decide (ns=ms))) H)
theorem zkx (hu:X.A.units<cLine)(hK:X.K=K):OpR X (compareOp .Eq) (rEqTI K):=by
 subst hK
 rintro pins s σ H x y v u Q I rx ry ⟨a,b,ns,ms,rfl,rfl,ha,hb,hl,q⟩
 cases rx;cases ry
 obtain ⟨t1,r1,p1,_⟩:=I.tuple ha
 obtain ⟨t2,r2,p2,_⟩:=I.tuple hb
 have l1:=r1.length
 have l2:=r2.length
 rw [Xae] at l1 l2
 refine RcAt.tuples (e:=fun j=>ns[j]? == ms[j]?) p1 p2 hu (fun j h1 h2=>?_) _ _ _ _ ⟨.bl (decide (ns=ms)),H,I,?_,q⟩
 ·have g1:j<t1.length:=by simpa using h1
  have g2:j<t2.length:=by simpa using h2
  obtain ⟨u1,e1⟩:=zcv r1 j g1 (by omega)
  obtain ⟨u2,e2⟩:=zcv r2 j g2 (by omega)
  have e:(ns[j]? == ms[j]?)=(ns[j]'(by omega) == ms[j]'(by omega)):=by
   rw [Xak (by omega),Xak (by omega)]
   rfl
  rw [e]
  simp only [XbJ,e1,e2]
  exact EqAt.int_int _ _ _ _
 ·show _=Value.bool _
  rw [Xam,Xam,← l1,← l2,← hl,Nat.min_self,all_eq hl,beq_self_eq_true,Bool.and_true]
end
section
open PySem.W PySem.Calls
variable {K:Frag}{x C:Addr}
def xIsD (x C:Addr)(h:Heap):Prop:=∃ oe vs dx oD,h.get? x=some oe∧(oe.cls = .ref C∧oe.dict=some dx)∧oe.data = .fields vs∧h.get? dx=some oD
theorem zfb (c:XCls K C):KitX K (.ref x) (.ref C) (xIsD x C) where
 ty:=fun M h _ p=>by
  obtain ⟨o,vs,_,_,h1,⟨h2,_⟩,_⟩:=p
  rw [← h2]
  exact (Looks.ld h1).andThen .now
 it:=fun _ _ X _=>by
  obtain ⟨c',d',cd',sl',ho⟩:=c.look
  intro A' Q' E' s' k q
  unfold isType loadHead
  exact Xaa (wpAny_loadPart (k _ _ (X _ _ ho)) (Xad q))
 ne:=fun h tp dd its n sl X htp=>by
  obtain ⟨c',d',cd',sl',ho⟩:=c.look
  refine Bool.eq_false_iff.mpr fun q=>?_
  have e:C=tp:=Value.ref.inj (beq_iff_eq.mp q)
  subst e
  have z:=(X _ _ ho).symm.trans htp
  cases z
 ca:=fun {prog w A E Q s} X p k=>by
  obtain ⟨o,vs,dx,oD,h1,⟨h2,h3⟩,h4,h5⟩:=p
  have I:InstAt s.heap x o C (some oD):=⟨h1,h2,by unfold notCls;rw [h4],by rw [h3];exact h5⟩
  exact zj9 X I c.ga c.gr (c.cf _) c.sub c.mro k
variable {X:Cx}
theorem zjW {pins:List (Addr×Obj)}{s:Shared}{σ:St}{H:Hp}{ea dx:Addr}{fs:List (Str×V)}(I:Inv X pins σ H s)(e:H ea=some (.ext (xIs ea (.ref C) (some dx))))(ed:H dx=some (.ext (xDc dx fs))):xIsD ea C s.heap:=by
 obtain ⟨oe,vs,g1,g2,g4⟩:=(show xIs ea (.ref C) (some dx) s.heap from (I.hok ea _ e).1)
 obtain ⟨_,mA,hn,r,wi⟩:=(show xDc dx fs s.heap from (I.hok dx _ ed).1)
 obtain ⟨oD,hoD,hl⟩:=zcq hn
 exact ⟨oe,vs,dx,oD,g1,g2,g4,hoD⟩
theorem zdK (hK:X.K=K):zbH X (.builtin "isinstance") (fun xs H Q=>∃ (ea C dx:Addr) (fs:List (Str×V)) (c:V) (u:Value) (b:Bool),xs=[.ref ea,c]∧H ea=some (.ext (xIs ea (.ref C) (some dx)))∧H dx=some (.ext (xDc dx fs))∧XCls K C∧((∃ D,c = .ref D∧u=Value.ref D)∨∃ T,c = .ty T∧u=Value.type T)∧kitOne K (.ref C) u=some b∧Q (.bl b) H):=by
 subst hK
 intro pins s σ H xs us Q I r h
 obtain ⟨ea,C,dx,fs,c,u,b,rfl,e,ed,xc,hc,hk,q⟩:=h
 obtain ⟨v1,v2,rfl,r1,r2⟩:=zfA r
 obtain rfl:v1=Value.ref ea:=r1
 obtain rfl:v2=u:=by
  rcases hc with ⟨D,rfl,rfl⟩ | ⟨T,rfl,rfl⟩
  ·exact r2
  ·exact r2
 exact kia_one (zfb xc) I.kIn (zjW I e ed) hk (fun z=>nomatch z) fun tk=>⟨.bl b,H,I.tok _,rfl,q⟩
theorem zd9 (hK:X.K=K):zbH X (.builtin "isinstance") (fun xs H Q=>∃ (ea C dx tp:Addr) (fs:List (Str×V)) (Ds:List Addr) (b:Bool),xs=[.ref ea,.ref tp]∧H ea=some (.ext (xIs ea (.ref C) (some dx)))∧H dx=some (.ext (xDc dx fs))∧XCls K C∧H tp=some (.tup (Ds.map V.ref))∧kitAny K (.ref C) (Ds.map Value.ref)=some b∧Q (.bl b) H):=by
 subst hK
 intro pins s σ H xs us Q I r h
 obtain ⟨ea,C,dx,tp,fs,Ds,b,rfl,e,ed,xc,ht,hk,q⟩:=h
 obtain ⟨v1,v2,rfl,r1,r2⟩:=zfA r
 obtain rfl:v1=Value.ref ea:=r1
 obtain rfl:v2=Value.ref tp:=r2
 obtain ⟨_,its,rv,⟨c0,d0,dt0,sl0⟩,g1,g2,n,g3⟩:=(show ObjOk X.prog X.w H s.heap tp (.tup (Ds.map V.ref)) from I.hok tp _ ht)
 simp only at g2 g3
 subst g2 g3
 have ei:its=Ds.map Value.ref:=zhv rv
 subst ei
 exact kia_tup (zfb xc) I.kIn (zjW I e ed) g1 hk (fun z=>nomatch z) fun tk=>⟨.bl b,H,I.tok _,rfl,q⟩
end
end L2
end
local macro_rules | `(tactic| omega)=>`(tactic| lia)
set_option maxHeartbeats 8000000
namespace Cb
open PySem L2
def top (i:Nat):Stmt:=PySem.Challenge.pw_chipbus_k33_clashes_refused.main.body.getD i (.Pass ⟨0,0,0,0⟩)
set_option tactic.hygienic true in
theorem zis {b:Int}{k:Nat}(h:b.natAbs<2 ^ k):Builtin.Int.intBits b≤k:=by
 unfold Builtin.Int.intBits
 split
 ·omega
 ·rename_i h0
  have h1:b.natAbs≠0:=by first | omega | (intro z;simp_all)
  have:=(Nat.log2_lt h1).mpr h
  omega
theorem zcp {a b:Int}(ha:a.natAbs<2 ^ 200)(hb:b.natAbs<2 ^ 200):IntMulOk a b:=IntMulOk.of_bits (Xav (zis ha) (by decide)) (Xav (zis hb) (by decide))
theorem log_ok {m:Int}(h:0<m)(h2:m≤2 ^ 64):m.natAbs.log2<9000:=by
 have h1:m.natAbs≠0:=by omega
 exact Xai ((Nat.log2_lt h1).mpr (show m.natAbs<2 ^ 65 by omega)) (by decide)
local macro_rules | `(tactic| walk_at "l")=>`(tactic| (rintro _ _ _ _ ⟨⟩;subst_vars;rfl))
local macro_rules | `(tactic| walk_at "sd")=>`(tactic| first | assumption | (exact ⟨by decide,by decide,by decide⟩) | (exact ⟨by assumption,by assumption⟩) | (exact ⟨by decide,by decide +kernel⟩) | (show (0:Int)<_;decide))
local macro_rules | `(tactic| walk_at "hp")=>`(tactic| first | assumption | exact zab)
local macro_rules | `(tactic| walk_at "vc")=>`(tactic| repeat (first | refine ⟨_,rfl,?_⟩ | refine ⟨_,_,rfl,rfl,?_⟩ | refine ⟨_,_,rfl,?_⟩ | refine ⟨_,_,_,_,rfl,rfl,SqL.of (by walk_at "hp"),rfl,?_⟩ | refine ⟨_,_,_,_,rfl,rfl,(by walk_at "hp"),rfl,?_⟩ | refine And.intro (by walk_at "sd") ?_))
theorem zas {t u:TS}{D:Ends}(S S':St→Hp→Prop)(h1:∀ σ H,S σ H→∀ N:St→Hp→Prop,(∀ σ' H',S' σ' H'→N σ' H')→t { D with nx:=N } σ H)(h2:∀ σ' H',S' σ' H'→u D σ' H'):∀ σ H,S σ H→tSeq t u D σ H:=
 fun σ H s=>h1 σ H s _ h2
theorem ziP (m:Nat)(x:Nat):((List.replicate m [V.int (x:Int)]).flatten:List V)=vN (List.replicate m x):=by
 unfold vN
 rw [List.map_replicate]
 induction m with
 | zero=>rfl
 | succ m ih=>rw [Xa5,List.flatten_cons,ih,Xa5];rfl
theorem ln0 {α:Type}{P:List α→Prop}(us:List α)(h:us.length=0)(k:P []):P us:=by
 rw [List.eq_nil_of_length_eq_zero h];exact k
theorem lnS {α:Type}{P:List α→Prop}{n:Nat}(us:List α)(h:us.length=n+1)(k:∀ a (r:List α),r.length=n→P (a :: r)):P us:=by
 cases us with
 | nil=>cases h
 | cons a r=>exact k a r (Nat.succ.inj h)
theorem ln1 {α:Type}{P:List α→Prop}(us:List α)(h:us.length=1)(k:∀ a,P [a]):P us:=lnS us h fun a r h=>ln0 (P:=fun r=>P (a :: r)) r h (k a)
theorem ln2 {α:Type}{P:List α→Prop}(us:List α)(h:us.length=2)(k:∀ a b,P [a,b]):P us:=lnS us h fun a r h=>ln1 (P:=fun r=>P (a :: r)) r h (k a)
theorem ln3 {α:Type}{P:List α→Prop}(us:List α)(h:us.length=3)(k:∀ a b c,P [a,b,c]):P us:=lnS us h fun a r h=>ln2 (P:=fun r=>P (a :: r)) r h (k a)
theorem ln4 {α:Type}{P:List α→Prop}(us:List α)(h:us.length=4)(k:∀ a b c d,P [a,b,c,d]):P us:=lnS us h fun a r h=>ln3 (P:=fun r=>P (a :: r)) r h (k a)
theorem ln5 {α:Type}{P:List α→Prop}(us:List α)(h:us.length=5)(k:∀ a b c d e,P [a,b,c,d,e]):P us:=lnS us h fun a r h=>ln4 (P:=fun r=>P (a :: r)) r h (k a)
local macro_rules | `(tactic| walk_at "o")=>`(tactic| first | exact Or.inl rfl | exact Or.inr (Or.inl rfl) | exact Or.inr (Or.inr rfl))
local macro_rules | `(tactic| walk_at "p")=>`(tactic| first | exact .inl rfl | exact .inr rfl | assumption)
local macro_rules | `(tactic| walk_at "m")=>`(tactic| first | decide | omega)
theorem zht {α:Type}(n:Nat)(x:α):(List.replicate n [x]).flatten=List.replicate n x:=by
 induction n with
 | zero=>rfl
 | succ n ih=>rw [Xa5,List.flatten_cons,ih,Xa5];rfl
theorem ty_seq {K:W.Frag}{H:Hp}{t:Bool}{a:Addr}{xs:List V}(h:SqX t H a xs):TyOf K H (.ref a) (.type (sqC t)):=by
 cases t with
 | true=>exact .tup (xs:=xs) h
 | false=>exact .lst (xs:=xs) h
theorem zgC {xs:List V}{m:Nat}(h:m≤xs.length):cutV xs none (some (m:Int))=xs.take m:=by
 unfold cutV HT.sIx
 have e:((m:Int)).toNat=m:=by omega
 simp only [List.drop_zero,Nat.sub_zero]
 split
 ·omega
 ·rw [e,XbT h]
theorem zgb {P:Hp→Prop}{Hr:Hp}(R:Hp→Prop)(hr:R Hr)(h:∀ H',R H'→P H'):P Hr:=h _ hr
theorem zay {D:Ends}{σ:St}{H:Hp}(h:D.nx σ H):tNext D σ H:=h
def mulL:List Nat→List Nat→List Nat
 | a :: r,b :: s=>(a * b) :: mulL r s
 | _,_=>[]
structure RowBits (m:Nat)(lm lw li:List Nat):Prop where
 m0:lm.length=m
 w0:lw.length=m
 i0:li.length=m
 mb:Bit lm
 wb:Bit lw
 ib:Bit li
 wm:∀ (k a b:Nat),lm[k]? = some a→lw[k]? = some b→b≤a
 im:∀ (k a b:Nat),lm[k]? = some a→li[k]? = some b→a+b≤1
theorem zeA {α:Type}{l:List α}{x y:α}{k:Nat}(h:(l ++ [x])[k]? = some y):l[k]? = some y∨(k=l.length∧y=x):=by
 rcases Nat.lt_trichotomy k l.length with z | z | z
 ·rw [Xbj z] at h;exact .inl h
 ·subst z;simp at h;exact .inr ⟨rfl,h.symm⟩
 ·rw [XaM (by simp;omega)] at h;cases h
inductive spSize (vs:List V)(H:Hp)(Q:VK)(u3_:XK):Prop
 | mk (n:Nat) (z0_:vs=[.int (n:Int)]) (z1_:n≤16) (z2_:Q (.int (2 ^ n)) H)
theorem zkP {xs:List V}{lo hi:Option Int}{x:V}(h:x∈cutV xs lo hi):x∈xs:=Xbm (XbK h)
theorem zeR:∀ l:List Nat,Bit l→sgl (num (l ++ [1]))=sgl (num l) ++ [2 ^ l.length]
 | [],_=>by
  show sgl (2 * 0+1)=sgl 0 ++ [1]
  rw [zdl,zc6];rfl
 | b :: l,h=>by
  have ih:=zeR l fun x hx=>h x (XaB _ hx)
  have hb:=h b XaA
  have e1:num (b :: (l ++ [1]))=b+2 * num (l ++ [1]):=rfl
  have e2:num (b :: l)=b+2 * num l:=rfl
  rw [List.cons_append,e1,e2]
  rcases (show b=0∨b=1 by omega) with rfl | rfl
  ·rw [Nat.zero_add,Nat.zero_add,zbW,zbW,ih,XaC,Xay,Xbl,Nat.mul_comm];rfl
  ·rw [Nat.add_comm 1,Nat.add_comm 1,zdl,zdl,ih,XaC,Xay,Xbl,Nat.mul_comm];rfl
theorem ze8:∀ l:List Nat,num (l ++ [0])=num l
 | []=>rfl
 | b :: l=>by
  have e1:num (b :: (l ++ [0]))=b+2 * num (l ++ [0]):=rfl
  rw [List.cons_append,e1,ze8 l];rfl
theorem strKey {v:Value}(h:(match v with | .str _ _=>true | _=>false)=true):∃ n t,v = .str n t:=by
 cases v with
 | str n t=>exact ⟨n,t,rfl⟩
 | _=>cases h
theorem zbw (m:Nat):ones (2 * m)=ones m:=by rw [zdy,show 2 * m % 2=0 by omega,show 2 * m / 2=m by omega];omega
theorem zco (m:Nat):ones (2 * m+1)=ones m+1:=by rw [zdy,show (2 * m+1) % 2=1 by omega,show (2 * m+1) / 2=m by omega];omega
theorem zcn:ones 0=0:=by simp [ones]
theorem zkN {P:Nat→Nat→Prop}(h0:P 0 0)(hee:∀ m o,P m o→P (2 * m) (2 * o))(hoe:∀ m o,P m o→P (2 * m+1) (2 * o))(heo:∀ m o,P m o→P (2 * m) (2 * o+1)):∀ m o,m &&& o=0→P m o:=by
 have key:∀ k m o,m+o≤k→m &&& o=0→P m o:=by
  intro k
  induction k with
  | zero =>
   intro m o h _
   obtain ⟨rfl,rfl⟩:m=0∧o=0:=by omega
   exact h0
  | succ k ih =>
   intro m o hk hd
   by_cases hz:m+o=0
   ·obtain ⟨rfl,rfl⟩:m=0∧o=0:=by omega
    exact h0
   obtain ⟨x,hx⟩:∃ x,m=2 * x∨m=2 * x+1:=⟨m / 2,by omega⟩
   obtain ⟨y,hy⟩:∃ y,o=2 * y∨o=2 * y+1:=⟨o / 2,by omega⟩
   rcases hx with rfl | rfl <;> rcases hy with rfl | rfl
   ·rw [zhV] at hd;exact hee x y (ih x y (by omega) (by omega))
   ·rw [zhW] at hd;exact heo x y (ih x y (by omega) (by omega))
   ·rw [zf6] at hd;exact hoe x y (ih x y (by omega) (by omega))
   ·rw [zjf] at hd;omega
 exact fun m o h=>key _ m o (Xaf _) h
theorem zjp:∀ m o,m &&& o=0→ones (m+o)=ones m+ones o:=by
 refine zkN ?_ ?_ ?_ ?_
 ·rw [zcn]
 ·intro m o ih;rw [show 2 * m+2 * o=2 * (m+o) by omega,zbw,zbw,zbw,ih]
 ·intro m o ih;rw [show 2 * m+1+2 * o=2 * (m+o)+1 by omega,zco,zco,zbw,ih];omega
 ·intro m o ih;rw [show 2 * m+(2 * o+1)=2 * (m+o)+1 by omega,zco,zco,zbw,ih];omega
theorem bor (a b:Nat):Builtin.bitOr (a:Int) (b:Int)=((a ||| b:Nat):Int):=by
 unfold Builtin.bitOr Builtin.bitAnd Builtin.bitNot
 rw [Xas (show ¬ (0:Int)≤-(a:Int) - 1 by omega),Xas (show ¬ (0:Int)≤-(b:Int) - 1 by omega)]
 show -(-((((-(-(a:Int) - 1) - 1).toNat ||| (-(-(b:Int) - 1) - 1).toNat:Nat)):Int) - 1) - 1=_
 rw [show -(-(a:Int) - 1) - 1=(a:Int) by omega,show -(-(b:Int) - 1) - 1=(b:Int) by omega,Xat,Xat]
 omega
theorem zdr {H H':Hp}{p:Addr}(s:Same H H')(h:H' p=none):H p=none:=by
 cases e:H p with
 | none=>rfl
 | some o=>rw [s _ _ e] at h;cases h
theorem zeH (op:Nat→Nat→Nat)(f:Bool→Bool→Bool)(hop:∀ a b i,(op a b).testBit i=f (a.testBit i) (b.testBit i))(hf:f false false=false)(x y:Nat) :
  op x y=(f (x % 2 == 1) (y % 2 == 1)).toNat+2 * op (x / 2) (y / 2):=by
 apply Nat.eq_of_testBit_eq
 intro i
 cases i with
 | zero =>
  rw [hop]
  simp only [Nat.testBit_zero]
  cases h:f (x % 2 == 1) (y % 2 == 1) <;> simp_all [Nat.add_mod]
 | succ i =>
  rw [hop]
  simp only [Xa9]
  rw [show ((f (x % 2 == 1) (y % 2 == 1)).toNat+2 * op (x / 2) (y / 2)) / 2=op (x / 2) (y / 2) by cases f (x % 2 == 1) (y % 2 == 1) <;> simp <;> omega,hop]
theorem or_is:∀ a b:Nat,a ||| b=(a ^^^ b)+(a &&& b):=by
 intro a
 induction a using Nat.strongRecOn with
 | _ a ih =>
  intro b
  by_cases h0:a=0
  ·subst h0;simp
  have e1:a ||| b=((a % 2 == 1) || (b % 2 == 1)).toNat+2 * (a / 2 ||| b / 2):=zeH (· ||| ·) (· || ·) Nat.testBit_or rfl a b
  have e2:a ^^^ b=(Bool.xor (a % 2 == 1) (b % 2 == 1)).toNat+2 * (a / 2 ^^^ b / 2):=zeH (· ^^^ ·) Bool.xor Nat.testBit_xor rfl a b
  have e3:a &&& b=((a % 2 == 1) && (b % 2 == 1)).toNat+2 * (a / 2 &&& b / 2):=zeH (· &&& ·) (· && ·) XaD rfl a b
  have e4:=ih (a / 2) (by omega) (b / 2)
  rw [e1,e2,e3,e4]
  cases (a % 2 == 1) <;> cases (b % 2 == 1) <;> simp <;> omega
theorem bxor (a b:Nat):Builtin.bitXor (a:Int) (b:Int)=((a ^^^ b:Nat):Int):=by
 unfold Builtin.bitXor
 rw [bor,band,or_is]
 omega
def agr (m w n v:Nat):Bool:=decide ((w ^^^ v) &&& m &&& n=0)
inductive spAgr (vs:List V)(H:Hp)(Q:VK)(u3_:XK):Prop
 | mk (m w n v:Nat) (z0_:vs=[.int (m:Int),.int (w:Int),.int (n:Int),.int (v:Int)]) (z1_:Q (.bl (agr m w n v)) H)
def LatV (H:Hp)(v:V):Option (Nat×Nat×Nat)→Prop
 | none=>v = .non
 | some (c,a,b)=>∃ u:Addr,v = .ref u∧H u=some (.tup [.int (c:Int),.int (a:Int),.int (b:Int)])
def latA:Option (Nat×Nat×Nat)→Option (Nat×Nat×Nat)→Bool
 | some (c,a,b),some (d,x,y)=>if c=d then agr a b x y else true
 | _,_=>true
inductive spLatA (vs:List V)(H:Hp)(Q:VK)(u3_:XK):Prop
 | mk (x:_) (y:_) (o:_) (p:_) (z0_:vs=[x,y]) (z1_:LatV H x o) (z2_:LatV H y p) (z3_:Q (.bl (latA o p)) H)
structure Rw where
 m:Nat
 w:Nat
 i:Nat
 c:Nat
 l:Option (Nat×Nat×Nat)
def RwAt (H:Hp)(t:Addr)(r:Rw):Prop:=∃ lt:V,H t=some (.tup [.int (r.m:Int),.int (r.w:Int),.int (r.i:Int),.int (r.c:Int),lt])∧LatV H lt r.l
def zbk (r q:Rw):Bool:=agr r.m r.w q.m q.w && latA r.l q.l
inductive spClash (vs:List V)(H:Hp)(Q:VK)(u3_:XK):Prop
 | mk (t:_) (u:_) (r:_) (q:_) (z0_:vs=[.ref t,.ref u]) (z1_:RwAt H t r) (z2_:RwAt H u q) (z3_:Q (.bl (zbk r q)) H)
theorem zdN:bootBuiltins "sorted" = some (.builtin "sorted"):=by decide +kernel
def lwL:Option (Nat×Nat×Nat)→Option (Nat×Nat×Nat)→List (Int×Int)
 | none,none=>[]
 | some (c,_,b),none=>[((c:Int),(b:Int))]
 | none,some (d,_,y)=>[((d:Int),(y:Int))]
 | some (c,_,b),some (d,_,y)=>if c=d then [((c:Int),((b ||| y:Nat):Int))] else srt2 [((c:Int),(b:Int)),((d:Int),(y:Int))]
def PrsAt (H:Hp)(p:Addr)(l:List (Int×Int)):Prop:=∃ ts:List Addr,H p=some (.tup (ts.map V.ref))∧ts.length=l.length∧∀ (j:Nat) (t:Addr) (q:Int×Int),ts[j]? = some t→l[j]? = some q→H t=some (.tup [.int q.1,.int q.2])
inductive spLeast (vs:List V)(H:Hp)(Q:VK)(u3_:XK):Prop
 | mk (t:_) (u:_) (r:_) (q:_) (z0_:vs=[.ref t,.ref u]) (z1_:RwAt H t r) (z2_:RwAt H u q) (z3_:∀ (p:Addr) (H':Hp),H p=none→PrsAt H' p (lwL r.l q.l)→Same H H'→Q (.ref p) H')
theorem LatV.same {H H':Hp}{v:V}{o:Option (Nat×Nat×Nat)}(h:LatV H v o)(s:Same H H'):LatV H' v o:=by
 match o,h with
 | none,h=>exact h
 | some (c,a,b),⟨u,e,eu⟩=>exact ⟨u,e,s _ _ eu⟩
theorem RwAt.same {H H':Hp}{t:Addr}{r:Rw}(h:RwAt H t r)(s:Same H H'):RwAt H' t r:=by
 obtain ⟨lt,e,hl⟩:=h
 exact ⟨lt,s _ _ e,hl.same s⟩
def dOne:Option (Nat×Nat×Nat)→List (Nat×Nat)
 | none=>[]
 | some (c,_,b)=>[(c,b)]
def dPut (l:List (Nat×Nat)):Option (Nat×Nat×Nat)→List (Nat×Nat)
 | none=>l
 | some (c,_,b)=>match l with
  | []=>[(c,b)]
  | (d,y) :: _=>if d=c then [(c,y ||| b)] else [(d,y),(c,b)]
def knN (l:List (Nat×Nat)):List (Int×Int):=l.map fun q=>((q.1:Int),(q.2:Int))
theorem zkD:∀ o p:Option (Nat×Nat×Nat),srt2 (knN (dPut (dOne o) p))=lwL o p
 | none,none=>rfl
 | some (c,_,b),none=>rfl
 | none,some (d,_,y)=>rfl
 | some (c,_,b),some (d,_,y)=>by
  show srt2 (knN (if c=d then [(d,b ||| y)] else [(c,b),(d,y)]))=if c=d then [((c:Int),((b ||| y:Nat):Int))] else srt2 [((c:Int),(b:Int)),((d:Int),(y:Int))]
  by_cases h:c=d
  ·rw [if_pos h,if_pos h,h];rfl
  ·rw [if_neg h,if_neg h];rfl
theorem zd7 (o p:Option (Nat×Nat×Nat)):((knN (dPut (dOne o) p)).map (·.1)).Nodup:=by
 match o,p with
 | none,none=>simp [dPut,dOne,knN]
 | some (c,_,b),none=>simp [dPut,dOne,knN]
 | none,some (d,_,y)=>simp [dPut,dOne,knN]
 | some (c,_,b),some (d,_,y) =>
  show ((knN (if c=d then [(d,b ||| y)] else [(c,b),(d,y)])).map (·.1)).Nodup
  by_cases h:c=d
  ·rw [if_pos h];simp [knN]
  ·rw [if_neg h];simp [knN];omega
theorem zgB (o p:Option (Nat×Nat×Nat)):(knN (dPut (dOne o) p)).length≤2:=by
 match o,p with
 | none,none=>simp [dPut,dOne,knN]
 | some (c,_,b),none=>simp [dPut,dOne,knN]
 | none,some (d,_,y)=>simp [dPut,dOne,knN]
 | some (c,_,b),some (d,_,y) =>
  show (knN (if c=d then [(d,b ||| y)] else [(c,b),(d,y)])).length≤2
  by_cases h:c=d
  ·rw [if_pos h];simp [knN]
  ·rw [if_neg h];simp [knN]
theorem put_is {l:List (Nat×Nat)}(hl:l.length≤1)(c a b:Nat):∃ n:Nat,(valV (knV (knN l)) (Sum.inl (c:Int))).getD (.int 0) = .int (n:Int)∧putK (knV (knN l)) (Sum.inl (c:Int)) (.int ((n ||| b:Nat):Int))=knV (knN (dPut l (some (c,a,b)))):=by
 match l,hl with
 | [],_=>exact ⟨0,rfl,by simp [putK,knV,knN,dPut]⟩
 | [(d,y)],_ =>
  by_cases h:d=c
  ·subst h
   refine ⟨y,by simp [valV,knV,knN],by simp [putK,knV,knN,dPut]⟩
  ·have h':¬ (d:Int)=(c:Int):=by omega
   refine ⟨0,by simp [valV,knV,knN,h',List.find?],by simp [putK,knV,knN,dPut,h,h']⟩
 | _ :: _ :: _,hl=>simp at hl
def fnd1 (rs:List Rw)(i j:Nat):List (List Int):=match rs[i]?,rs[j]? with
 | some r,some q=>if zbk r q=true then [[((r.w ||| q.w:Nat):Int),(i:Int),(j:Int)]] else []
 | _,_=>[]
def fndR (rs:List Rw)(j m:Nat):List (List Int):=(List.range m).flatMap fun i=>fnd1 rs i j
def fndL (rs:List Rw)(m:Nat):List (List Int):=(List.range m).flatMap fun j=>fndR rs j j
theorem zdJ (rs:List Rw)(j m:Nat):fndR rs j (m+1)=fndR rs j m ++ fnd1 rs m j:=by
 unfold fndR;rw [List.range_succ,List.flatMap_append];simp
theorem zfi (rs:List Rw)(m:Nat):fndL rs (m+1)=fndL rs m ++ fndR rs m m:=by
 unfold fndL;rw [List.range_succ,List.flatMap_append];simp
theorem zjl (rs:List Rw)(i j:Nat):(fnd1 rs i j).length≤1:=by
 unfold fnd1
 split
 ·split <;> simp
 ·simp
theorem zeB (rs:List Rw)(j:Nat):∀ m,(fndR rs j m).length≤m
 | 0=>by simp [fndR]
 | m+1=>by
  have:=zeB rs j m
  have:=zjl rs m j
  rw [zdJ,Xao];omega
theorem zgz (rs:List Rw):∀ m,(fndL rs m).length≤m * m
 | 0=>by simp [fndL]
 | m+1=>by
  have:=zgz rs m
  have:=zeB rs m m
  rw [zfi,Xao,Nat.add_mul,Nat.mul_add];omega
def FndAt (X:Hp)(ts:List Addr)(nss:List (List Int)):Prop:=ts.length=nss.length∧∀ (i:Nat) (t:Addr) (ns:List Int),ts[i]? = some t→nss[i]? = some ns→X t=some (.tup (ns.map V.int))
theorem FndAt.same {X Y:Hp}{ts:List Addr}{nss:List (List Int)}(h:FndAt X ts nss)(s:Same X Y):FndAt Y ts nss:=⟨h.1,fun i t ns e1 e2=>s _ _ (h.2 i t ns e1 e2)⟩
theorem FndAt.snoc {X Y:Hp}{ts:List Addr}{nss:List (List Int)}{t:Addr}{ns:List Int}(h:FndAt Y ts nss)(ht:Y t=some (.tup (ns.map V.int))):FndAt Y (ts ++ [t]) (nss ++ [ns]):=by
 refine ⟨by rw [Xao,Xao,h.1];rfl,fun i t' ns' e1 e2=>?_⟩
 rcases zeA e1 with z | ⟨z1,rfl⟩
 ·rcases zeA e2 with y | ⟨y1,rfl⟩
  ·exact h.2 i t' ns' z y
  ·have:=(Xag.mp z).1
   have:=h.1
   omega
 ·rcases zeA e2 with y | ⟨y1,rfl⟩
  ·have:=(Xag.mp y).1
   have:=h.1
   omega
  ·exact ht
inductive spClashOf (vs:List V)(H:Hp)(Q:VK)(u3_:XK):Prop
 | mk (p:Addr) (as:List Addr) (rs:List Rw) (z0_:vs=[.ref p]) (z1_:H p=some (.tup (as.map V.ref))) (z2_:as.length=rs.length) (z3_:rs.length≤100) (z4_:(∀ (j:Nat) (a:Addr) (r:Rw),as[j]? = some a→rs[j]? = some r→RwAt H a r)) (z5_:(fndL rs rs.length=[]→∀ H',Same H H'→Q .non H')) (z6_:(∀ (x:Nat) (i j:Nat) (r q:Rw),(fndL rs rs.length)[PySem.argBest (fun i j=>HT.lexLt ((fndL rs rs.length).getD i []) ((fndL rs rs.length).getD j [])) ((fndL rs rs.length).length - 1)]? = some [(x:Int),(i:Int),(j:Int)]→rs[i]? = some r→rs[j]? = some q→∀ (tp wp:Addr) (H':Hp),H tp=none→H' tp=some (.tup [.int (x:Int),.int (i:Int),.int (j:Int),.ref wp])→PrsAt H' wp (lwL r.l q.l)→Same H H'→Q (.ref tp) H'))
set_option tactic.hygienic true in
theorem zjk {rs:List Rw}{i j:Nat}{ns:List Int}(h:ns∈fnd1 rs i j):∃ (r q:Rw) (x:Nat),rs[i]? = some r∧rs[j]? = some q∧ns=[(x:Int),(i:Int),(j:Int)]:=by
 unfold fnd1 at h
 split at h
 ·rename_i r q e1 e2
  split at h
  ·exact ⟨r,q,_,e1,e2,Xac.mp h⟩
  ·simp at h
 ·simp at h
theorem zjj {rs:List Rw}{m:Nat}{ns:List Int}(h:ns∈fndL rs m):∃ (i j:Nat) (r q:Rw) (x:Nat),rs[i]? = some r∧rs[j]? = some q∧ns=[(x:Int),(i:Int),(j:Int)]:=by
 unfold fndL at h
 obtain ⟨j,_,h⟩:=List.mem_flatMap.mp h
 unfold fndR at h
 obtain ⟨i,_,h⟩:=List.mem_flatMap.mp h
 obtain ⟨r,q,x,e⟩:=zjk h
 exact ⟨i,j,r,q,x,e⟩
theorem zga (bt:Nat→Nat→Bool):∀ n,PySem.argBest bt n≤n
 | 0=>Xaf _
 | n+1=>by
  have:=zga bt n
  show (if bt (n+1) (PySem.argBest bt n)=true then n+1 else PySem.argBest bt n)≤n+1
  split <;> omega
def zjz:Option (Nat×Nat×Nat)→Prop
 | none=>True
 | some (c,a,b)=>c<100∧a<256∧b &&& a=b
structure RwOk (m:Nat)(r:Rw):Prop where
 m0:r.m<2 ^ m
 w0:r.w<2 ^ m
 wm:r.w &&& r.m=r.w
 i0:r.i<2 ^ m
 im:r.i &&& r.m=0
 c0:r.c<100
 l0:zjz r.l
theorem or_of {w a b x y:Nat}(h1:w &&& a=b)(h2:w &&& x=y):b ||| y=w &&& (a ||| x):=by
 rw [← h1,← h2,Nat.and_or_distrib_left]
theorem zjy {a b x y:Nat}(hb:b &&& a=b)(hy:y &&& x=y)(h:agr a b x y=true):(b ||| y) &&& a=b∧(b ||| y) &&& x=y:=by
 have h:=XaQ h
 have g:∀ i,((b.testBit i ^^ y.testBit i) && a.testBit i && x.testBit i)=false:=fun i=>by
  have:=congrArg (fun n=>Nat.testBit n i) h
  simpa only [XaD,Nat.testBit_xor,Nat.zero_testBit] using this
 have gb:∀ i,(b.testBit i && a.testBit i)=b.testBit i:=fun i=>by
  have:=congrArg (fun n=>Nat.testBit n i) hb
  simpa only [XaD] using this
 have gy:∀ i,(y.testBit i && x.testBit i)=y.testBit i:=fun i=>by
  have:=congrArg (fun n=>Nat.testBit n i) hy
  simpa only [XaD] using this
 constructor
 ·apply Nat.eq_of_testBit_eq;intro i
  have e1:=g i;have e2:=gb i;have e3:=gy i
  simp only [XaD,Nat.testBit_or]
  revert e1 e2 e3
  cases b.testBit i <;> cases a.testBit i <;> cases x.testBit i <;> cases y.testBit i <;> simp
 ·apply Nat.eq_of_testBit_eq;intro i
  have e1:=g i;have e2:=gb i;have e3:=gy i
  simp only [XaD,Nat.testBit_or]
  revert e1 e2 e3
  cases b.testBit i <;> cases a.testBit i <;> cases x.testBit i <;> cases y.testBit i <;> simp
theorem zgi {a b:Nat}(h:b &&& a=b)(ha:a<256):b<256:=by
 have:b &&& a≤a:=Xbr
 omega
theorem or_256 {a b:Nat}(ha:a<256)(hb:b<256):a ||| b<256:=Nat.or_lt_two_pow (n:=8) ha hb
def cand (rs:List Rw)(i j x:Nat):Prop:=i<j∧∃ r q,rs[i]? = some r∧rs[j]? = some q∧zbk r q=true∧x=r.w ||| q.w
def zjb (x i j y k l:Nat):Prop:=x<y∨(x=y∧(i<k∨(i=k∧j≤l)))
def IsDue (rs:List Rw)(x i j:Nat):Prop:=cand rs i j x∧∀ i' j' x',cand rs i' j' x'→zjb x i j x' i' j'
theorem IsDue.uniq {rs:List Rw}{x i j y k l:Nat}(h:IsDue rs x i j)(g:IsDue rs y k l):x=y∧i=k∧j=l:=by
 have h1:=h.2 _ _ _ g.1
 have h2:=g.2 _ _ _ h.1
 unfold zjb at h1 h2
 omega
set_option tactic.hygienic true in
theorem zgr {rs:List Rw}{i j:Nat}(hij:i<j){ns:List Int}:ns∈fnd1 rs i j↔∃ x,ns=[((x:Nat):Int),(i:Int),(j:Int)]∧cand rs i j x:=by
 constructor
 ·intro h
  unfold fnd1 at h
  split at h
  ·rename_i r q e1 e2
   split at h
   ·rename_i hc
    exact ⟨_,Xac.mp h,hij,r,q,e1,e2,hc,rfl⟩
   ·simp at h
  ·simp at h
 ·rintro ⟨x,rfl,_,r,q,e1,e2,hc,rfl⟩
  unfold fnd1
  rw [e1,e2]
  try dsimp only
  rw [if_pos hc]
  exact XaA
theorem mem_fndL {rs:List Rw}{ns:List Int}:ns∈fndL rs rs.length↔∃ i j x:Nat,ns=[(x:Int),(i:Int),(j:Int)]∧cand rs i j x:=by
 unfold fndL fndR
 rw [List.mem_flatMap]
 constructor
 ·rintro ⟨j,hj,h⟩
  obtain ⟨i,hi,h⟩:=List.mem_flatMap.mp h
  obtain ⟨x,e,hc⟩:=(zgr (List.mem_range.mp hi)).mp h
  exact ⟨i,j,x,e,hc⟩
 ·rintro ⟨i,j,x,e,hc⟩
  obtain ⟨hij,r,q,e1,e2,hcl,hx⟩:=id hc
  exact ⟨j,List.mem_range.mpr (Xag.mp e2).1,List.mem_flatMap.mpr ⟨i,List.mem_range.mpr hij,(zgr hij).mpr ⟨x,e,hc⟩⟩⟩
theorem zgy {rs:List Rw}(h:fndL rs rs.length=[]):∀ i j x,¬ cand rs i j x:=fun i j x hc=>by
 have:=mem_fndL.mpr ⟨i,j,x,rfl,hc⟩
 rw [h] at this
 cases this
theorem zeI (bt:Nat→Nat→Bool)(N:Nat)(tr:∀ a b c,a≤N→b≤N→c≤N→bt a b=false→bt b c=false→bt a c=false)(ir:∀ a,a≤N→bt a a=false)(as:∀ a b,a≤N→b≤N→bt a b=true→bt b a=false) :
  ∀ n,n≤N→∀ k,k≤n→bt k (PySem.argBest bt n)=false
 | 0,hn,k,hk=>by
  obtain rfl:k=0:=by omega
  exact ir 0 hn
 | n+1,hn,k,hk=>by
  have ih:=zeI bt N tr ir as n (by omega)
  have hb:=zga bt n
  show bt k (if bt (n+1) (PySem.argBest bt n)=true then n+1 else PySem.argBest bt n)=false
  by_cases h:bt (n+1) (PySem.argBest bt n)=true
  ·rw [if_pos h]
   rcases (show k≤n∨k=n+1 by omega) with z | z
   ·exact tr k (PySem.argBest bt n) (n+1) (by omega) (by omega) hn (ih k z) (as _ _ hn (by omega) h)
   ·rw [z];exact ir _ hn
  ·rw [if_neg h]
   rcases (show k≤n∨k=n+1 by omega) with z | z
   ·exact ih k z
   ·rw [z];exact Bool.eq_false_iff.mpr h
theorem lex3 (x i j y k l:Int):HT.lexLt [x,i,j] [y,k,l]=decide (x<y∨(x=y∧(i<k∨(i=k∧j<l)))):=by
 rw [HT.lexLt_cons]
 by_cases h1:x=y
 ·rw [if_pos h1,HT.lexLt_cons]
  by_cases h2:i=k
  ·rw [if_pos h2,HT.lexLt_cons]
   by_cases h3:j=l
   ·rw [if_pos h3,HT.lexLt_nil_nil];symm;apply Xas;omega
   ·rw [if_neg h3,Xbs];omega
  ·rw [if_neg h2,Xbs];omega
 ·rw [if_neg h1,Xbs];omega
theorem zgA {rs:List Rw}{x i j:Nat}(h:(fndL rs rs.length)[PySem.argBest (fun i j=>HT.lexLt ((fndL rs rs.length).getD i []) ((fndL rs rs.length).getD j [])) ((fndL rs rs.length).length - 1)]? = some [(x:Int),(i:Int),(j:Int)]):IsDue rs x i j:=by
 generalize hL:fndL rs rs.length=L at h
 have mem:∀ ns,ns∈L↔∃ i j x:Nat,ns=[(x:Int),(i:Int),(j:Int)]∧cand rs i j x:=fun ns=>by rw [← hL];exact mem_fndL
 have hpos:0<L.length:=XaL (Nat.zero_le _) (Xag.mp h).1
 have at_:∀ a,a≤L.length - 1→∃ x i j:Int,L.getD a []=[x,i,j]:=fun a ha=>by
  have e:L[a]? = some (L[a]'(by omega)):=Xak (by omega)
  obtain ⟨i,j,x,e2,_⟩:=(mem _).mp (Xau e)
  exact ⟨_,_,_,by rw [XaK,e,e2];rfl⟩
 have hmin:=zeI (fun i j=>HT.lexLt (L.getD i []) (L.getD j [])) (L.length - 1)
  (fun a b c ha hb hc h1 h2=>by
   obtain ⟨x1,i1,j1,e1⟩:=at_ a ha
   obtain ⟨x2,i2,j2,e2⟩:=at_ b hb
   obtain ⟨x3,i3,j3,e3⟩:=at_ c hc
   rw [e1,e2,lex3,XaH] at h1
   rw [e2,e3,lex3,XaH] at h2
   rw [e1,e3,lex3,XaH]
   omega)
  (fun a ha=>by
   obtain ⟨x1,i1,j1,e1⟩:=at_ a ha
   rw [e1,lex3,XaH]
   omega)
  (fun a b ha hb h1=>by
   obtain ⟨x1,i1,j1,e1⟩:=at_ a ha
   obtain ⟨x2,i2,j2,e2⟩:=at_ b hb
   rw [e1,e2,lex3,decide_eq_true_iff] at h1
   rw [e2,e1,lex3,XaH]
   omega) (L.length - 1) (Xaf _)
 have hc:cand rs i j x:=by
  obtain ⟨i',j',x',e,hc⟩:=(mem _).mp (Xau h)
  injection e with e1 e;injection e with e2 e;injection e with e3 e
  rw [Int.ofNat.inj e1,Int.ofNat.inj e2,Int.ofNat.inj e3];exact hc
 refine ⟨hc,fun i' j' x' hc'=>?_⟩
 obtain ⟨k,hk⟩:=XbC.mp ((mem _).mpr ⟨i',j',x',rfl,hc'⟩)
 have hk2:k<L.length:=(Xag.mp hk).1
 have:=hmin k (by omega)
 rw [XaK,hk,XaK,h] at this
 rw [show (some [(x':Int),(i':Int),(j':Int)]).getD []=[(x':Int),(i':Int),(j':Int)] from rfl,show (some [(x:Int),(i:Int),(j:Int)]).getD []=[(x:Int),(i:Int),(j:Int)] from rfl,lex3,XaH] at this
 unfold zjb
 omega
theorem PrsAt.same {H H':Hp}{p:Addr}{l:List (Int×Int)}(h:PrsAt H p l)(s:Same H H'):PrsAt H' p l:=by
 obtain ⟨ts,e,hl,ht⟩:=h
 exact ⟨ts,s _ _ e,hl,fun j t q e1 e2=>s _ _ (ht j t q e1 e2)⟩
theorem zjT (o p:Option (Nat×Nat×Nat)):(lwL o p).length≤2:=by
 match o,p with
 | none,none=>simp [lwL]
 | some (c,_,b),none=>simp [lwL]
 | none,some (d,_,y)=>simp [lwL]
 | some (c,_,b),some (d,_,y) =>
  show (if c=d then [((c:Int),((b ||| y:Nat):Int))] else if ((d:Int),(y:Int)).1<((c:Int),(b:Int)).1 then [((d:Int),(y:Int)),((c:Int),(b:Int))] else [((c:Int),(b:Int)),((d:Int),(y:Int))]).length≤2
  split
  ·simp
  ·split <;> simp
theorem clash_parts {r q:Rw}:zbk r q=true↔agr r.m r.w q.m q.w=true∧latA r.l q.l=true:=by unfold zbk;rw [Xa8]
theorem zjr {xs:List V}{m:Nat}(h:m≤xs.length):cutV xs (some (m:Int)) none=xs.drop m:=by
 unfold cutV HT.sIx
 have e:((m:Int)).toNat=m:=by omega
 simp only
 split
 ·omega
 ·rw [e,XbT h]
  exact XaY (by rw [Xa3];exact Xaf _)
def RwsAt2 (m:Nat)(X:Hp)(ws:List (Addr×Rw)):Prop:=∀ z∈ws,RwAt X z.1 z.2∧RwOk m z.2
theorem RwsAt2.same {m:Nat}{X Y:Hp}{ws:List (Addr×Rw)}(h:RwsAt2 m X ws)(s:Same X Y):RwsAt2 m Y ws:=fun z hz=>⟨(h z hz).1.same s,(h z hz).2⟩
def refs {α:Type}(ws:List (Addr×α)):List V:=ws.map fun z=>.ref z.1
theorem zat {α:Type}(ws:List (Addr×α)):(refs ws).length=ws.length:=Xae ..
theorem zjX {K:W.Frag}{i j:Nat}{T:Addr}{x y:V}{σ:St}{H:Hp}{Q:St→Hp→Prop}(e:H T=some (.tup [x,y]))(h:Q ((σ.set i (some x)).set j (some y)) H) :
  gTup K 2 (gCons (za7 i) (gCons (za7 j) gNil)) (.ref T) σ H Q:=
 ⟨T,[x,y],rfl,SqT.of e,rfl,x,[y],rfl,y,[],rfl,rfl,h⟩
theorem LatV.updL {X:Hp}{l:Addr}{v:V}{o:Option (Nat×Nat×Nat)}{xs ys:List V}(h:LatV X v o)(hl:X l=some (.lst xs)):LatV (upd X l (.lst ys)) v o:=by
 match o,h with
 | none,h=>exact h
 | some (c,a,b),⟨u,e,eu⟩=>exact ⟨u,e,by rw [zag (fun z=>by rw [z,hl] at eu;cases eu)];exact eu⟩
theorem RwAt.updL {X:Hp}{l t:Addr}{r:Rw}{xs ys:List V}(h:RwAt X t r)(hl:X l=some (.lst xs)):RwAt (upd X l (.lst ys)) t r:=by
 obtain ⟨lt,e,hlt⟩:=h
 exact ⟨lt,by rw [zag (fun z=>by rw [z,hl] at e;cases e)];exact e,hlt.updL hl⟩
theorem zbM {α:Type}{ws:List (Addr×α)}{k:Nat}{z:Addr×α}(h:ws[k]? = some z):(refs ws)[k]? = some (.ref z.1):=by unfold refs;rw [Xan,h];rfl
theorem zc7 {α:Type}{ws:List (Addr×α)}{k:Nat}{x:V}(h:(refs ws)[k]? = some x):∃ z,ws[k]? = some z∧x = .ref z.1:=by
 unfold refs at h
 rw [Xan] at h
 obtain ⟨z,h1,h2⟩:=Xaw.mp h
 exact ⟨z,h1,h2.symm⟩
def met (r:Rw)(x:Nat):Bool:=decide (x &&& r.m=r.w)
theorem zjS {r:Rw}{x:Nat}:decide (V.int (Builtin.bitAnd (x:Int) (r.m:Int))=V.int (r.w:Int))=met r x:=by
 rw [band]
 unfold met
 by_cases h:x &&& r.m=r.w
 ·rw [Xap h,h];exact Xap rfl
 ·rw [Xas h];exact Xas fun z=>h (by injection z with z;exact Int.ofNat.inj z)
theorem lex2 (i j k l:Int):HT.lexLt [i,j] [k,l]=decide (i<k∨(i=k∧j<l)):=by
 rw [HT.lexLt_cons]
 by_cases h2:i=k
 ·rw [if_pos h2,HT.lexLt_cons]
  by_cases h3:j=l
  ·rw [if_pos h3,HT.lexLt_nil_nil];symm;apply Xas;omega
  ·rw [if_neg h3,Xbs];omega
 ·rw [if_neg h2,Xbs];omega
def pr2 (q:Nat×Nat):List Int:=[(q.1:Int),(q.2:Int)]
theorem zit {L:List (Nat×Nat)}{ns:List Int}(h:(L.map pr2)[PySem.argBest (fun a b=>HT.lexLt ((L.map pr2).getD a []) ((L.map pr2).getD b [])) ((L.map pr2).length - 1)]? = some ns) :
  ∃ i j:Nat,ns=[(i:Int),(j:Int)]∧(i,j)∈L∧∀ q∈L,i<q.1∨(i=q.1∧j≤q.2):=by
 have hpos:0<(L.map pr2).length:=XaL (Nat.zero_le _) (Xag.mp h).1
 have at_:∀ a,a≤(L.map pr2).length - 1→∃ i j:Int,(L.map pr2).getD a []=[i,j]:=fun a ha=>by
  have e:(L.map pr2)[a]? = some ((L.map pr2)[a]'(by omega)):=Xak (by omega)
  obtain ⟨q,_,e2⟩:=XaJ.mp (Xau e)
  exact ⟨(q.1:Int),(q.2:Int),by rw [XaK,e,← e2];rfl⟩
 have hmin:=zeI (fun i j=>HT.lexLt ((L.map pr2).getD i []) ((L.map pr2).getD j [])) ((L.map pr2).length - 1)
  (fun a b c ha hb hc h1 h2=>by
   obtain ⟨i1,j1,e1⟩:=at_ a ha
   obtain ⟨i2,j2,e2⟩:=at_ b hb
   obtain ⟨i3,j3,e3⟩:=at_ c hc
   rw [e1,e2,lex2,XaH] at h1
   rw [e2,e3,lex2,XaH] at h2
   rw [e1,e3,lex2,XaH]
   omega)
  (fun a ha=>by
   obtain ⟨i1,j1,e1⟩:=at_ a ha
   rw [e1,lex2,XaH]
   omega)
  (fun a b ha hb h1=>by
   obtain ⟨i1,j1,e1⟩:=at_ a ha
   obtain ⟨i2,j2,e2⟩:=at_ b hb
   rw [e1,e2,lex2,decide_eq_true_iff] at h1
   rw [e2,e1,lex2,XaH]
   omega) ((L.map pr2).length - 1) (Xaf _)
 obtain ⟨⟨i,j⟩,hq,e0⟩:=XaJ.mp (Xau h)
 refine ⟨i,j,e0.symm,hq,fun q hq'=>?_⟩
 obtain ⟨k,hk⟩:=XbC.mp (XaJ.mpr ⟨q,hq',rfl⟩:pr2 q∈L.map pr2)
 have hk2:k<(L.map pr2).length:=(Xag.mp hk).1
 have:=hmin k (by omega)
 rw [XaK,hk,XaK,h,← e0] at this
 rw [show (some (pr2 q)).getD []=[(q.1:Int),(q.2:Int)] from rfl,show (some (pr2 (i,j))).getD []=[(i:Int),(j:Int)] from rfl,lex2,XaH] at this
 omega
theorem lnB1 {α:Type}{P:List α→Prop}(k:∀ a,P [a]):∀ us:List α,us.length=1→P us:=fun us h=>ln1 us h k
theorem lnB2 {α:Type}{P:List α→Prop}(k:∀ a b,P [a,b]):∀ us:List α,us.length=2→P us:=fun us h=>ln2 us h k
theorem lnB3 {α:Type}{P:List α→Prop}(k:∀ a b c,P [a,b,c]):∀ us:List α,us.length=3→P us:=fun us h=>ln3 us h k
theorem lnB4 {α:Type}{P:List α→Prop}(k:∀ a b c d,P [a,b,c,d]):∀ us:List α,us.length=4→P us:=fun us h=>ln4 us h k
theorem lnB5 {α:Type}{P:List α→Prop}(k:∀ a b c d e,P [a,b,c,d,e]):∀ us:List α,us.length=5→P us:=fun us h=>ln5 us h k
section
variable {P:Program}{w:World}{K:W.Frag}{mg:Str→Option Value}{base:Heap}{k:Nat}{f C:Addr}{fd:FuncData}{ps ks:List Str}{sp:Sp}{x m:Str}{g:List Value→List Value→List Value}{gV:List V→List V→List V}
theorem zdM (G:FnOk P w K mg base CX0 k f fd ps sp)(a:mg x=some (.ref f))(kp:W.keepIn K (.ref f)=true)(b:Binds K fd ps []):Cal P w K mg base k x ps sp:=⟨f,fd,G,a,kp,b⟩
theorem zkC (c:Cls K C)(a:W.findIn K (.ref C) m=some (some (.ref f)))(fn:W.isFn K (.ref f)=true)(kp:W.keepIn K (.ref f)=true)(G:FnOk P w K mg base CX0 k f fd ps sp)(b:KBinds K fd ps ks g gV):Mth P w K mg base k C m ks gV sp:=⟨c,f,fd,ps,g,⟨a,fn,kp⟩,G,b⟩
theorem mth_mk (c:Cls K C)(a:W.findIn K (.ref C) m=some (some (.ref f)))(fn:W.isFn K (.ref f)=true)(kp:W.keepIn K (.ref f)=true)(G:FnOk P w K mg base CX0 k f fd ps sp)(b:Binds K fd ps []):Mth P w K mg base k C m [] (fun vs _=>vs) sp:=zkC c a fn kp G (.pos b)
theorem ze9 (a:mg x=some (.ref C))(mk:W.makesIn K C=true)(at_:W.findIn K (.ref C) "__init__" = some (some (.ref f)))(fn:W.isFn K (.ref f)=true)(kc:W.keepIn K (.ref C)=true)(G:FnOk P w K mg base CX0 k f fd ps sp)(b:KBinds K fd ps ks g gV):Mak P w K mg base k x C ks gV sp:=⟨a,f,fd,ps,g,⟨mk,at_,fn,kc⟩,G,b⟩
end
structure Nums (mg:Str→Option Value):Prop where
 MOST_BITS:∃ t,mg "MOST_BITS" = some (.int 16 t)
 LAST_CHIP:∃ t,mg "LAST_CHIP" = some (.int 99 t)
 LAST_WORD:∃ t,mg "LAST_WORD" = some (.int 255 t)
 MOST_CELLS:∃ t,mg "MOST_CELLS" = some (.int 4096 t)
 MOST_ROOM:∃ t,mg "MOST_ROOM" = some (.int 255 t)
 SIXTEEN:∃ t,mg "SIXTEEN" = some (.str "0123456789abcdef" t)
 READ:∃ t,mg "READ" = some (.str "read" t)
 WRITE:∃ t,mg "WRITE" = some (.str "write" t)
 BOTH:∃ t,mg "BOTH" = some (.str "both" t)
abbrev zbJ:Stmt:=top 15
theorem scsingle_ones:FnScope ["mask","singles","rest"] ["mask"] (zai zbJ):=sck rfl rfl rfl (by decide +kernel)
section
variable {P:Program}{w:World}{K:W.Frag}{mg:Str→Option Value}{base:Heap}
theorem zet {f:Addr}{fd:FuncData}(F:Fun K "single_ones" "single_ones" zbJ f fd)(T:Blt mg):FnOk P w K mg base CX0 1 f fd ["mask"] spSingles:=by
 refine F.ok scsingle_ones (by walk_at "l") (fun cdv A outer s H vs Q E hr h=>?_)
 ·obtain ⟨n,rfl,hn,k⟩:=h
  refine ⟨_,(zaf (ps_L 1 scsingle_ones.nd (zaw zae))
   (zaf (zen PassesOwn.never (zau ze0 (pv 0) zad (zav _)) (zaf (ps_L 2 scsingle_ones.nd (zak zaW (pv 0) (zak zb5 (pv 0) zad)))
   (zaf (zaA (zb0 PySem.F.plainAttrs_list PySem.F.slot_list_append PySem.F.type_list_append zaC (pv 1) (zaa (zak zb5 (pv 0) (pv 2)) zae)))
   (zah (ps_L 0 scsingle_ones.nd (pv 2))))))
   (zah (zaq (pv 1))))),?rd⟩
  refine ⟨by show 0≤sizeLine;decide,fun l hl=>?_⟩
  refine zec (fun σ H2=>∃ (m:Nat) (r:Option V) (d:List Nat),σ=[some (.int (m:Int)),some (.ref l),r]∧m<2 ^ 64∧Same H H2∧H2 l=some (.lst (vN d))∧d ++ sgl m=sgl n) (fun σ _=>match σ with | some (.int i) :: _=>i.toNat | _=>0)
   ⟨n,none,[],rfl,hn,zac hl,zab,rfl⟩ ?_ ?_
  ·rintro σ H2 ⟨m,r,d,rfl,hm,hs,hL,hd⟩
   walk_at "vc"
   refine ite2 (fun h1=>?_) (fun h1=>?_)
   ·have h1:0<m:=by have:=XaQ h1;omega
    obtain ⟨s1,s2⟩:=ziJ m h1
    have e1:((m:Int) - 1)=((m - 1:Nat):Int):=by omega
    walk_at "vc"
    have hlen:(vN d).length<sizeLine:=by
     have h2:=congrArg List.length hd
     rw [Xao,zbV,zbV] at h2
     have h3:=zfR 64 n hn
     rw [zaz];exact zdj (by omega)
    refine ⟨.inl ⟨rfl,_,SqL.of hL⟩,?_⟩
    walk_at "vc"
    refine ⟨l,_,_,rfl,rfl,hL,hlen,?_⟩
    walk_at "vc"
    have e2:Builtin.bitAnd (m:Int) ((m:Int) - 1)=((m &&& (m - 1):Nat):Int):=by rw [e1,band]
    have e3:(m:Int) - Builtin.bitAnd (m:Int) ((m:Int) - 1)=((m - (m &&& (m - 1)):Nat):Int):=by rw [e2];omega
    refine ⟨⟨m &&& (m - 1),some (.int ((m &&& (m - 1):Nat):Int)),d ++ [m - (m &&& (m - 1))],?_,by omega,fun b o e=>?_,?_,?_⟩,?_⟩
    ·show List.set (List.set _ _ _) _ _=_
     simp only [List.set]
     rw [e2]
    ·rw [zag (zaj e hl)];exact hs b o e
    ·rw [zab,zdd,← e3]
    ·rw [← hd,s2];simp
    ·show (Builtin.bitAnd (m:Int) ((m:Int) - 1)).toNat<((m:Nat):Int).toNat
     rw [e2];simpa using s1
   ·have h1:m=0:=by have:=h1;simp at this;omega
    subst h1
    walk_at "vc"
    rw [zc6,Xa7] at hd
    subst hd
    exact k l H2 hl hL hs
  ·rintro σ H2 Q1 Q2 hq h
   obtain ⟨v,e,i,j,e1,e2,c,e3,h⟩:=h
   exact ⟨v,e,i,j,e1,e2,c,e3,hq _ _ h⟩
abbrev zef:Stmt:=top 16
theorem zhr:FnScope ["mask"] ["mask"] (zai zef):=sck rfl rfl rfl (by decide +kernel)
theorem zhR {f:Addr}{fd:FuncData}(F:Fun K "ones_of" "ones_of" zef f fd)(T:Blt mg)(Gsingle_ones:Cal P w K mg base 1 "single_ones" ["mask"] spSingles):FnOk P w K mg base CX0 2 f fd ["mask"] spOnes:=by
 refine F.ok zhr (by walk_at "l") (fun cdv A outer s H vs Q E hr h=>?_)
 ·obtain ⟨n,rfl,hn,k⟩:=h
  refine ⟨_,(zah (zaq (zal zan (by rfl) T.len PySem.boot_len (zaa (pe_c Gsingle_ones (zaa (pv 0) zae)) zae)))),?rd⟩
  refine ⟨_,rfl,n,rfl,hn,fun p H' hp hL hs=>?_⟩
  refine ⟨p,_,rfl,.inl (SqL.of hL),?_⟩
  rw [zaz,zbV]
  exact k H' hs
abbrev zcx:Stmt:=top 24
theorem zfH:FnScope ["thing","last"] ["thing","last"] (zai zcx):=sck rfl rfl rfl (by decide +kernel)
theorem zfS {f:Addr}{fd:FuncData}(F:Fun K "is_number" "is_number" zcx f fd)(T:Blt mg):FnOk P w K mg base CX0 1 f fd ["thing","last"] spIsNum:=by
 refine F.ok zfH (by walk_at "l") (fun cdv A outer s H vs Q E hr h=>?_)
 ·obtain ⟨a,b,rfl,k⟩:=h
  refine ⟨_,(zah (zaq (zbn (zal (zaH "int" (K:=K) rfl) (by rfl) T.isinstance zaN (zaa (pv 0) (zaa (zaL rfl T.int zgF zjI) zae))) (zbn (zjN (zal (zaH "bool" (K:=K) rfl) (by rfl) T.isinstance zaN (zaa (pv 0) (zaa (zaL rfl T.bool zeE zel) zae)))) (zbh (zi0 zgT zgT zad (pv 0) (pv 1))))))),?rd⟩
  refine ⟨_,rfl,_,_,_,rfl,.int a,rfl,true,rfl,iteT ?_⟩
  refine ⟨_,rfl,_,_,_,rfl,.int a,rfl,false,rfl,true,rfl,iteT ?_⟩
  refine ⟨_,rfl,_,_,rfl,rfl,_,rfl,ite2 (fun h=>?_) (fun h=>?_)⟩
  ·have h:=XaQ h
   refine ⟨_,rfl,_,_,rfl,rfl,?_⟩
   rw [show decide (0≤a∧a≤b)=decide (a≤b) from Xbs.mpr ⟨fun z=>z.2,fun z=>⟨h,z⟩⟩] at k
   exact k
  ·have h:¬ 0≤a:=fun z=>h (Xap z)
   rw [show decide (0≤a∧a≤b)=false from Xas fun z=>h z.1] at k
   exact k
abbrev zee:Stmt:=top 38
theorem zhp:FnScope ["bits"] ["bits"] (zai zee):=sck rfl rfl rfl (by decide +kernel)
theorem zhQ {f:Addr}{fd:FuncData}(F:Fun K "size_of" "size_of" zee f fd)(T:Blt mg):FnOk P w K mg base CX0 1 f fd ["bits"] spSize:=by
 refine F.ok zhp (by walk_at "l") (fun cdv A outer s H vs Q E hr h=>?_)
 ·obtain ⟨n,rfl,hn,k⟩:=h
  refine ⟨_,(zah (zaq (zak zd3 zad (zal (zio rfl) (by rfl) T.max PyProof.Rows.boot_max (zaa (pv 0) (zaa zad zae)))))),?rd⟩
  refine ⟨_,rfl,_,_,rfl,?_⟩
  refine ⟨_,_,rfl,rfl,?_,?_⟩
  ·rw [if_neg (by omega)]
   exact ⟨by omega,by omega,by decide⟩
  ·have e:(1:Int) * 2 ^ (if (0:Int) > (n:Int) then 0 else (n:Int)).toNat=2 ^ n:=by
    rw [if_neg (by omega),Int.one_mul,Xat]
   show Q (V.int ((1:Int) * 2 ^ (if (0:Int) > (n:Int) then 0 else (n:Int)).toNat)) H
   rw [e]
   exact k
abbrev zcy:Stmt:=top 39
theorem zfI:FnScope ["mask","want","last"] ["mask","want","last"] (zai zcy):=sck rfl rfl rfl (by decide +kernel)
inductive spChoiceV (vs:List V)(H:Hp)(Q:VK)(u3_:XK):Prop
 | mk (m v:Nat) (l:Int) (z0_:vs=[.int (m:Int),.int (v:Int),.int l]) (z1_:(m:Int)≤l) (z2_:(v:Int)≤l) (z3_:v &&& m=v) (z4_:Q (.bl true) H)
theorem zfT {f:Addr}{fd:FuncData}(F:Fun K "is_choice" "is_choice" zcy f fd)(T:Blt mg)(Gis_number:Cal P w K mg base 1 "is_number" ["thing","last"] spIsNum):FnOk P w K mg base CX0 2 f fd ["mask","want","last"] spChoiceV:=by
 refine F.ok zfI (by walk_at "l") (fun cdv A outer s H vs Q E hr h=>?_)
 ·obtain ⟨m,v,l,rfl,hm,hv,hw,k⟩:=h
  refine ⟨_,(zah (zaq (zbn (pe_c Gis_number (zaa (pv 0) (zaa (pv 2) zae))) (zbn (pe_c Gis_number (zaa (pv 1) (zaa (pv 2) zae))) (zbh (za3 zbG (zak zaW (pv 1) (pv 0)) (pv 1) (zav _))))))),?rd⟩
  refine ⟨_,rfl,_,rfl,_,_,rfl,_,rfl,?_⟩
  rw [Xap (show 0≤(m:Int)∧(m:Int)≤l from ⟨Int.natCast_nonneg m,hm⟩)]
  refine iteT ⟨_,rfl,_,rfl,_,_,rfl,_,rfl,?_⟩
  rw [Xap (show 0≤(v:Int)∧(v:Int)≤l from ⟨Int.natCast_nonneg v,hv⟩)]
  refine iteT ⟨_,rfl,_,rfl,_,_,rfl,rfl,_,rfl,rfl,?_⟩
  show Q (.bl (decide (V.int (Builtin.bitAnd (v:Int) (m:Int))=V.int (v:Int)))) H
  rw [band,hw,Xap rfl]
  exact k
abbrev zdk:Stmt:=top 40
theorem scis_latch:FnScope ["thing","chip","mask","want"] ["thing"] (zai zdk):=sck rfl rfl rfl (by decide +kernel)
inductive spLatchV (vs:List V)(H:Hp)(Q:VK)(u3_:XK):Prop
 | mk (t:Addr) (c a b:Nat) (z0_:vs=[.ref t]) (z1_:H t=some (.tup [.int (c:Int),.int (a:Int),.int (b:Int)])) (z2_:c≤99) (z3_:a≤255) (z4_:b≤255) (z5_:b &&& a=b) (z6_:Q (.bl true) H)
theorem zgW {f:Addr}{fd:FuncData}(F:Fun K "is_latch" "is_latch" zdk f fd)(T:Blt mg)(N:Nums mg)(Gis_number:Cal P w K mg base 1 "is_number" ["thing","last"] spIsNum)(Gis_choice:Cal P w K mg base 2 "is_choice" ["mask","want","last"] spChoiceV):FnOk P w K mg base CX0 3 f fd ["thing"] spLatchV:=by
 refine F.ok scis_latch (by walk_at "l") (fun cdv A outer s H vs Q E hr h=>?_)
 ·obtain ⟨t,c,a,b,rfl,e,hc,ha,hb,hw,k⟩:=h
  refine ⟨_,(zaf (zaG (PW.pt (zcf (zaX (zaP (zal (zaH "tuple" (K:=K) rfl) (by rfl) T.isinstance zaN (zaa (pv 0) (zaa (zaL rfl T.tuple za0 zbX) zae))))) (zbF (zau zfP (zal zan (by rfl) T.len PySem.boot_len (zaa (pv 0) zae)) zad (zav _))))) (zah (zaq zcJ)) zap)
   (zaf (zcR (pv 0) (zbv rfl (zao (pg_L 1 scis_latch.nd) (zao (pg_L 2 scis_latch.nd) (zao (pg_L 3 scis_latch.nd) zaY)))))
   (zah (zaq (zbn (pe_c Gis_number (zaa (pv 1) (zaa (zbm rfl N.LAST_CHIP) zae))) (zbh (pe_c Gis_choice (zaa (pv 2) (zaa (pv 3) (zaa (zbm rfl N.LAST_WORD) zae)))))))))),?rd⟩
  refine ⟨_,rfl,_,_,_,rfl,.tup e,rfl,_,rfl,iteF ⟨_,rfl,t,_,rfl,.inr (SqT.of e),rfl,_,rfl,iteF ?_⟩⟩
  refine ⟨_,rfl,t,_,rfl,SqT.of e,rfl,_,_,rfl,_,_,rfl,_,_,rfl,rfl,?_⟩
  refine ⟨_,rfl,_,_,rfl,_,rfl,?_⟩
  rw [Xap (show 0≤(c:Int)∧(c:Int)≤99 by omega)]
  exact iteT ⟨_,rfl,_,rfl,a,b,255,rfl,by omega,by omega,hw,k⟩
abbrev zfE:Stmt:=top 41
theorem scis_row:FnScope ["bits","thing","mask","want","inner","chip","latch","last"] ["bits","thing"] (zai zfE):=sck rfl rfl rfl (by decide +kernel)
inductive spRowV (vs:List V)(H:Hp)(Q:VK)(u3_:XK):Prop
 | mk (t:Addr) (r:Rw) (n:Nat) (z0_:vs=[.int (n:Int),.ref t]) (z1_:RwAt H t r) (z2_:RwOk n r) (z3_:n≤16) (z4_:Q (.bl true) H)
theorem zi4 {f:Addr}{fd:FuncData}(F:Fun K "is_row" "is_row" zfE f fd)(T:Blt mg)(N:Nums mg)(Gis_number:Cal P w K mg base 1 "is_number" ["thing","last"] spIsNum)(Gsize_of:Cal P w K mg base 1 "size_of" ["bits"] spSize)(Gis_choice:Cal P w K mg base 2 "is_choice" ["mask","want","last"] spChoiceV)(Gis_latch:Cal P w K mg base 3 "is_latch" ["thing"] spLatchV):FnOk P w K mg base CX0 4 f fd ["bits","thing"] spRowV:=by
 refine F.ok scis_row (by walk_at "l") (fun cdv A outer s H vs Q E hr h=>?_)
 ·obtain ⟨t,r,n,rfl,⟨lt,e,hl⟩,o,hn,k⟩:=h
  have h1:∀ z:Nat,z<2 ^ n→(z:Int)≤2 ^ n - 1:=fun z hz=>by
   have:((2 ^ n:Nat):Int)=(2:Int) ^ n:=by norm_cast
   omega
  refine ⟨_,(zaf (zaG (PW.pt (zcf (zaX (zaP (zal (zaH "tuple" (K:=K) rfl) (by rfl) T.isinstance zaN (zaa (pv 1) (zaa (zaL rfl T.tuple za0 zbX) zae))))) (zbF (zau zfP (zal zan (by rfl) T.len PySem.boot_len (zaa (pv 1) zae)) zad (zav _))))) (zah (zaq zcJ)) zap)
   (zaf (zcR (pv 1) (zbv rfl (zao (pg_L 2 scis_row.nd) (zao (pg_L 3 scis_row.nd) (zao (pg_L 4 scis_row.nd) (zao (pg_L 5 scis_row.nd) (zao (pg_L 6 scis_row.nd) zaY)))))))
   (zaf (ps_L 7 scis_row.nd (zak zb5 (pe_c Gsize_of (zaa (pv 0) zae)) zad))
   (zaf (zaG (PW.pt (zcf (zaX (zaP (pe_c Gis_choice (zaa (pv 2) (zaa (pv 3) (zaa (pv 7) zae)))))) (zcf (zaX (zaP (pe_c Gis_number (zaa (pv 4) (zaa (pv 7) zae))))) (zbF (zau zfP (zak zaW (pv 4) (pv 2)) zad (zav _)))))) (zah (zaq zcJ)) zap)
   (zah (zaq (zbn (pe_c Gis_number (zaa (pv 5) (zaa (zbm rfl N.LAST_CHIP) zae))) (zbh (ziW (zhI (zdx (pv 6))) (zbh (pe_c Gis_latch (zaa (pv 6) zae)))))))))))),?rd⟩
  refine ⟨_,rfl,_,_,_,rfl,.tup e,rfl,_,rfl,iteF ⟨_,rfl,t,_,rfl,.inr (SqT.of e),rfl,_,rfl,iteF ?_⟩⟩
  refine ⟨_,rfl,t,_,rfl,SqT.of e,rfl,_,_,rfl,_,_,rfl,_,_,rfl,_,_,rfl,_,_,rfl,rfl,?_⟩
  refine ⟨_,rfl,n,rfl,hn,_,_,rfl,rfl,?_⟩
  refine ⟨_,rfl,_,rfl,_,rfl,r.m,r.w,_,rfl,h1 _ o.m0,h1 _ o.w0,o.wm,_,rfl,iteF ⟨_,rfl,_,rfl,_,_,rfl,_,rfl,?_⟩⟩
  rw [Xap (show 0≤(r.i:Int)∧(r.i:Int)≤2 ^ n - 1 from ⟨Int.natCast_nonneg _,h1 _ o.i0⟩)]
  refine iteF ⟨_,rfl,_,rfl,_,_,rfl,rfl,rfl,_,rfl,?_⟩
  refine ite2 (fun z=>?_) (fun _=>zay ?_)
  ·exfalso
   have z:(!decide (V.int (Builtin.bitAnd (r.i:Int) (r.m:Int))=V.int 0))=true:=z
   rw [band,o.im] at z
   cases z
  try dsimp only
  refine ⟨_,rfl,_,_,rfl,_,rfl,?_⟩
  rw [Xap (show 0≤(r.c:Int)∧(r.c:Int)≤99 by have:=o.c0;omega)]
  refine iteT ?_
  have ol:=o.l0
  cases hr':r.l with
  | none =>
   rw [hr'] at hl
   rw [show lt = .non from hl]
   exact ⟨_,rfl,_,rfl,iteT k⟩
  | some z =>
   rw [hr'] at hl ol
   obtain ⟨c,a,b⟩:=z
   obtain ⟨u,rfl,eu⟩:=hl
   exact ⟨_,rfl,_,rfl,iteF ⟨_,rfl,u,c,a,b,rfl,eu,Nat.le_of_lt_succ ol.1,Nat.le_of_lt_succ ol.2.1,Nat.le_of_lt_succ (XaL (ol.2.2 ▸ Xbr) ol.2.1),ol.2.2,k⟩⟩
abbrev zfF:Stmt:=top 42
theorem ziM:FnScope ["bits","thing"] ["bits","thing"] (zai zfF):=sck rfl rfl rfl (by decide +kernel)
inductive spMapV (vs:List V)(H:Hp)(Q:VK)(u3_:XK):Prop
 | mk (m:Nat) (R:Addr) (ws:List (Addr×Rw)) (z0_:vs=[.int (m:Int),.ref R]) (z1_:H R=some (.tup (refs ws))) (z2_:RwsAt2 m H ws) (z3_:ws.length≤300) (z4_:m≤16) (z5_:∀ H',Same H H'→Q (.bl true) H')
theorem zi5 {f:Addr}{fd:FuncData}(F:Fun K "is_map" "is_map" zfF f fd)(T:Blt mg)(Gis_row:Cal P w K mg base 4 "is_row" ["bits","thing"] spRowV):FnOk P w K mg base CX0 5 f fd ["bits","thing"] spMapV:=by
 refine F.ok ziM (by walk_at "l") (fun cdv A outer s H vs Q E hr h=>?_)
 ·obtain ⟨m,R,ws,rfl,e,hw,hl,hm,k⟩:=h
  refine' ⟨_,(zah (zaq (zbn (zal (zaH "tuple" (K:=K) rfl) (by rfl) T.isinstance zaN (zaa (pv 1) (zaa (zaL rfl T.tuple za0 zbX) zae))) (zbh (zal (zdL rfl) (by rfl) T.all ziq (zaa ?c1 zae)))))),?rd⟩
  (case c1=>exact (zch (Nc:=["row","bits"]) [none,some 0] rfl (zaQ (by rfl)) (zhE (pv 1)) (fun _ _ _ _ _=>(pg_L 0 (show (["row","bits"]:List Str).Nodup by decide +kernel))) (fun _ _ _ _ _=>zd1) (fun _ _ _ _ _=>(pe_c Gis_row (zaa (pv 1) (zaa (pv 0) zae))))))
  refine ⟨_,rfl,_,_,_,rfl,.tup e,rfl,_,rfl,iteT ⟨_,rfl,R,rfl,⟨_,SqT.of e⟩,?_⟩⟩
  refine zjs (K:=K) (xs:=refs ws) (fun j rs σ H1=>∃ v0,σ=[v0,some (.int (m:Int))]∧rs=(ws.take j).map (fun _=>V.bl true)∧Same H H1) (Xav (show _≤300 by rw [zat];exact hl) (by decide)) ⟨none,rfl,rfl,Same.refl _⟩ ?_ ?_ ?_
  ·rintro j rs σ H1 hj ⟨v0,rfl,rfl,s1⟩
   exact ⟨SqT.of (s1 _ _ e),by rw [Xae,XaR];exact Nat.min_le_left _ _⟩
  ·rintro j x rs σ H1 hx ⟨v0,rfl,rfl,s1⟩
   obtain ⟨z,hz,rfl⟩:=zc7 hx
   obtain ⟨z1,z2⟩:=hw z (Xau hz)
   refine ⟨_,rfl,_,rfl,z.1,z.2,m,rfl,z1.same s1,z2,hm,⟨_,rfl,?_,s1⟩⟩
   rw [List.take_succ,hz,XaC]
   rfl
  ·rintro rs σ H1 ⟨v0,rfl,rfl,s1⟩ Dd hD
   refine ⟨Dd,ws.map (fun _=>true),rfl,SqL.of (by rw [zat,XaY (Xaf _),Xby];exact zab),?_⟩
   have e2:(ws.map (fun _=>true)).all id=true:=by rw [List.all_map];exact Xbe.mpr fun _ _=>rfl
   rw [e2]
   exact k _ (s1.trans (zac hD))
abbrev zbp:Stmt:=top 46
theorem zdo:FnScope ["mask","want","other_mask","other_want"] ["mask","want","other_mask","other_want"] (zai zbp):=sck rfl rfl rfl (by decide +kernel)
theorem zdA {f:Addr}{fd:FuncData}(F:Fun K "choices_agree" "choices_agree" zbp f fd)(T:Blt mg):FnOk P w K mg base CX0 1 f fd ["mask","want","other_mask","other_want"] spAgr:=by
 refine F.ok zdo (by walk_at "l") (fun cdv A outer s H vs Q E hr h=>?_)
 ·obtain ⟨m,x,n,v,rfl,k⟩:=h
  refine ⟨_,(zah (zaq (za3 zbG (zak zaW (zak zaW (zak zhL (pv 1) (pv 3)) (pv 0)) (pv 2)) zad (zav _)))),?rd⟩
  refine ⟨_,rfl,_,rfl,_,_,rfl,rfl,_,rfl,_,_,rfl,rfl,_,rfl,_,_,rfl,rfl,rfl,?_⟩
  have e:decide (V.int (Builtin.bitAnd (Builtin.bitAnd (Builtin.bitXor (x:Int) (v:Int)) (m:Int)) (n:Int))=V.int 0)=agr m x n v:=by
   rw [bxor,band,band]
   unfold agr
   exact Xbs.mpr ⟨fun h=>by have:=V.int.inj h;omega,fun h=>by rw [h];rfl⟩
  exact Eq.mpr (congrArg (fun b=>Q (V.bl b) H) e) k
abbrev zbo:Stmt:=top 47
theorem zdm:FnScope ["latch","other"] ["latch","other"] (zai zbo):=sck rfl rfl rfl (by decide +kernel)
theorem zdz {f:Addr}{fd:FuncData}(F:Fun K "latches_agree" "latches_agree" zbo f fd)(T:Blt mg)(Gchoices_agree:Cal P w K mg base 1 "choices_agree" ["mask","want","other_mask","other_want"] spAgr):FnOk P w K mg base CX0 2 f fd ["latch","other"] spLatA:=by
 refine F.ok zdm (by walk_at "l") (fun cdv A outer s H vs Q E hr h=>?_)
 ·obtain ⟨x,y,o,p,rfl,hx,hy,k⟩:=h
  refine ⟨_,(zaf (zaG (PW.pt (zcf (zb3 (zdx (pv 0))) (zcf (zb3 (zdx (pv 1))) (zbF (zau zfP (pe_x zar (pv 0) zad) (pe_x zar (pv 1) zad) (zav _)))))) (zah (zaq zcJ)) zap)
   (zah (zaq (pe_c Gchoices_agree (zaa (pe_x zar (pv 0) zad) (zaa (pe_x zar (pv 0) zad) (zaa (pe_x zar (pv 1) zad) (zaa (pe_x zar (pv 1) zad) zae)))))))),?rd⟩
  cases o with
  | none =>
   obtain rfl:x = .non:=hx
   exact ⟨_,rfl,_,rfl,iteT (iteT k)⟩
  | some o =>
   obtain ⟨c,a,b⟩:=o
   obtain ⟨u,rfl,eu⟩:=hx
   refine ⟨_,rfl,_,rfl,iteF ?_⟩
   cases p with
   | none =>
    obtain rfl:y = .non:=hy
    exact ⟨_,rfl,_,rfl,iteT (iteT k)⟩
   | some p =>
    obtain ⟨d,x',y'⟩:=p
    obtain ⟨u',rfl,eu'⟩:=hy
    refine ⟨_,rfl,_,rfl,iteF ?_⟩
    refine ⟨_,rfl,u,_,_,_,rfl,rfl,SqT.of eu,rfl,_,rfl,u',_,_,_,rfl,rfl,SqT.of eu',rfl,rfl,_,rfl,?_⟩
    by_cases h:c=d
    ·subst h
     rw [show (!decide (V.int (c:Int)=V.int (c:Int)))=false by simp]
     refine iteF ?_
     refine ⟨_,rfl,u,_,_,_,rfl,rfl,SqT.of eu,rfl,_,rfl,u,_,_,_,rfl,rfl,SqT.of eu,rfl,_,rfl,u',_,_,_,rfl,rfl,SqT.of eu',rfl,_,rfl,u',_,_,_,rfl,rfl,SqT.of eu',rfl,a,b,x',y',rfl,?_⟩
     rw [show latA (some (c,a,b)) (some (c,x',y'))=agr a b x' y' from if_pos rfl] at k
     exact k
    ·rw [show (!decide (V.int (c:Int)=V.int (d:Int)))=true by simp;omega]
     rw [show latA (some (c,a,b)) (some (d,x',y'))=true from if_neg h] at k
     exact iteT k
abbrev zb7:Stmt:=top 48
theorem zeS:FnScope ["row","other"] ["row","other"] (zai zb7):=sck rfl rfl rfl (by decide +kernel)
theorem ze1 {f:Addr}{fd:FuncData}(F:Fun K "rows_clash" "rows_clash" zb7 f fd)(T:Blt mg)(Gchoices_agree:Cal P w K mg base 1 "choices_agree" ["mask","want","other_mask","other_want"] spAgr)(Glatches_agree:Cal P w K mg base 2 "latches_agree" ["latch","other"] spLatA):FnOk P w K mg base CX0 3 f fd ["row","other"] spClash:=by
 refine F.ok zeS (by walk_at "l") (fun cdv A outer s H vs Q E hr h=>?_)
 ·obtain ⟨t,u,r,q,rfl,⟨lt,et,hl⟩,⟨lu,eu,hk⟩,k⟩:=h
  refine ⟨_,(zah (zaq (zbn (pe_c Gchoices_agree (zaa (pe_x zar (pv 0) zad) (zaa (pe_x zar (pv 0) zad) (zaa (pe_x zar (pv 1) zad) (zaa (pe_x zar (pv 1) zad) zae))))) (zbh (pe_c Glatches_agree (zaa (pe_x zar (pv 0) zad) (zaa (pe_x zar (pv 1) zad) zae))))))),?rd⟩
  refine ⟨_,rfl,t,_,_,_,rfl,rfl,SqT.of et,rfl,_,rfl,t,_,_,_,rfl,rfl,SqT.of et,rfl,_,rfl,u,_,_,_,rfl,rfl,SqT.of eu,rfl,_,rfl,u,_,_,_,rfl,rfl,SqT.of eu,rfl,r.m,r.w,q.m,q.w,rfl,_,rfl,?_⟩
  unfold zbk at k
  cases h:agr r.m r.w q.m q.w with
  | false =>
   rw [h] at k
   exact iteF k
  | true =>
   rw [h] at k
   exact iteT ⟨_,rfl,t,_,_,_,rfl,rfl,SqT.of et,rfl,_,rfl,u,_,_,_,rfl,rfl,SqT.of eu,rfl,lt,lu,r.l,q.l,rfl,hl,hk,k⟩
abbrev zbK:Stmt:=top 49
theorem scleast_words:FnScope ["row","other","least","latch","chip"] ["row","other"] (zai zbK):=sck rfl rfl rfl (by decide +kernel)
theorem zeu {f:Addr}{fd:FuncData}(F:Fun K "least_words" "least_words" zbK f fd)(T:Blt mg)(GBsorted:mg "sorted" = none):FnOk P w K mg base CX0 1 f fd ["row","other"] spLeast:=by
 refine F.ok scleast_words (by walk_at "l") (fun cdv A outer s H vs Q E hr h=>?_)
 ·obtain ⟨t,u,r,q,rfl,⟨lt,et,hl⟩,⟨lu,eu,hk⟩,k⟩:=h
  refine ⟨_,(zaf (ps_L 2 scleast_words.nd zer)
   (zaf (zbg PassesOwn.never rfl (zhE (zaK (zaa (pe_x zar (pv 0) zad) (zaa (pe_x zar (pv 1) zad) zae)))) (pg_L 3 scleast_words.nd)
   (zah (zaG (zb3 (zcK (pv 3))) (zaf (ps_L 4 scleast_words.nd (pe_x zar (pv 3) zad))
   (zah (zko (zcN hr) (pv 2) (pv 4) (zak zhM (ziZ (zcN hr) (pv 2) (pv 4) zad ⟨rfl,rfl,rfl,rfl⟩) (pe_x zar (pv 3) zad)) rfl))) zap)))
   (zah (zaq (za1 za8 (by rfl) T.tuple za0 (zaa (zal (zfp rfl) (by rfl) GBsorted zdN (zaa (pe_bm0 PySem.F.plainAttrs_dict PySem.F.slot_dict_items PySem.F.type_dict_items zi7 (pv 2)) zae)) zae)))))),?rd⟩
  refine fun d hd=>⟨_,rfl,t,_,_,_,rfl,rfl,SqT.of (zac hd _ _ et),rfl,_,rfl,u,_,_,_,rfl,rfl,SqT.of (zac hd _ _ eu),rfl,by show 2≤sizeLine;decide,fun tp htp=>⟨tp,rfl,⟨_,SqT.of zab⟩,?_⟩⟩
  have s1:Same H (upd H d (.dK [])):=zac hd
  have s2:=s1.trans (zac (o:=.tup [lt,lu]) htp)
  have ndt:d≠tp:=fun z=>by rw [← z,zab] at htp;cases htp
  refine zkM (K:=K) (a:=tp) (xs:=[lt,lu]) (fun i σ X=>∃ (v3 v4:Option V),σ=[some (.ref t),some (.ref u),some (.ref d),v3,v4]∧X d=some (.dK (knV (knN (if i=0 then [] else if i=1 then dOne r.l else dPut (dOne r.l) q.l))))∧X tp=some (.tup [lt,lu])∧Same H X)
   ⟨none,none,rfl,by rw [zag ndt];exact zab,zab,s2⟩ (fun i σ X hi ⟨_,_,_,_,e,_⟩=>SqT.of e) ?_ ?_
  ·rintro i x σ X hx ⟨v3,v4,rfl,ed,etp,sX⟩
   
   obtain ⟨l,o,hlen,hlx,hnow,hnext⟩:∃ (l:List (Nat×Nat)) (o:Option (Nat×Nat×Nat)),l.length≤1∧LatV H x o∧(if i=0 then [] else if i=1 then dOne r.l else dPut (dOne r.l) q.l)=l∧(if i+1=0 then [] else if i+1=1 then dOne r.l else dPut (dOne r.l) q.l)=dPut l o:=by
    rcases (show i=0∨i=1 by have:=(Xag.mp hx).1;simp at this;omega) with rfl | rfl
    ·cases hx
     refine ⟨[],r.l,by simp,hl,rfl,?_⟩
     show dOne r.l=dPut [] r.l
     cases r.l with
     | none=>rfl
     | some z=>rfl
    ·cases hx
     refine ⟨dOne r.l,q.l,?_,hk,rfl,rfl⟩
     cases r.l with
     | none=>simp [dOne]
     | some z=>simp [dOne]
   rw [hnow] at ed
   rw [hnext]
   match o,hlx with
   | none,hlx =>
    obtain rfl:x = .non:=hlx
    exact ⟨_,rfl,_,rfl,iteF ⟨_,_,rfl,ed,etp,sX⟩⟩
   | some (c,a,b),hlx =>
    obtain ⟨lp,rfl,elp⟩:=hlx
    have elX:=sX _ _ elp
    obtain ⟨n,hv,hput⟩:=put_is hlen c a b
    refine ⟨_,rfl,_,rfl,iteT ?_⟩
    refine ⟨_,rfl,lp,_,_,_,rfl,rfl,SqT.of elX,rfl,?_⟩
    refine ⟨_,rfl,d,rfl,.inl ⟨_,.inl ed⟩,_,rfl,_,DGet.k (k:=Sum.inl (c:Int)) ed,?_⟩
    rw [hv]
    refine ⟨_,rfl,lp,_,_,_,rfl,rfl,SqT.of elX,rfl,_,_,rfl,rfl,_,rfl,_,rfl,d,_,rfl,DPut.k (k:=Sum.inl (c:Int)) ed ?_,?_⟩
    ·unfold knV knN
     rw [Xae,Xae]
     exact XaL hlen (by decide)
    ·refine ⟨_,_,rfl,?_,by rw [zag (Ne.symm ndt)];exact etp,fun z o e=>?_⟩
     ·rw [zab,bor,hput]
     ·rw [zag (zaj e hd)];exact sX _ _ e
  ·rintro σ X ⟨v3,v4,rfl,ed,etp,sX⟩
   have ed:X d=some (.dK (knV (knN (dPut (dOne r.l) q.l)))):=ed
   refine ⟨_,rfl,.inr (.inr (.inl ⟨rfl,.inl ⟨_,ed⟩⟩)),d,_,rfl,rfl,ed,fun vp hvp=>?_⟩
   refine ⟨vp,d,_,rfl,zab,zac hvp _ _ ed,zgB _ _,zd7 _ _,fun l ts X2 hts hl2 s2 el hpr=>?_⟩
   refine ⟨l,_,rfl,.inl ⟨SqL.of el,fun p hp=>?_⟩⟩
   have sF:=sX.trans ((zac hvp).trans s2)
   refine k p _ (zdr sF hp) ⟨ts,zab,?_,fun j t' q' e1 e2=>?_⟩ (sF.trans (zac hp))
   ·rw [hts,← zkD]
    have:∀ l:List (Int×Int),(srt2 l).length=l.length:=fun l=>by
     match l with
     | []=>rfl
     | [_]=>rfl
     | [x,y] =>
      show (if y.1<x.1 then [y,x] else [x,y]).length=2
      split <;> rfl
     | _ :: _ :: _ :: _=>rfl
    exact (this _).symm
   ·rw [← zkD] at e2
    exact zac hp _ _ (hpr j t' q' e1 e2).2
abbrev zdn:Stmt:=top 50
theorem scclash_of:FnScope ["rows","found","second","other","first","row","address"] ["rows"] (zai zdn):=sck rfl rfl rfl (by decide +kernel)
theorem zgX {f:Addr}{fd:FuncData}(F:Fun K "clash_of" "clash_of" zdn f fd)(T:Blt mg)(Grows_clash:Cal P w K mg base 3 "rows_clash" ["row","other"] spClash)(Gleast_words:Cal P w K mg base 1 "least_words" ["row","other"] spLeast):FnOk P w K mg base CX0 4 f fd ["rows"] spClashOf:=by
 refine F.ok scclash_of (by walk_at "l") (fun cdv A outer s H vs Q E hr h=>?_)
 ·obtain ⟨p,as,rs,rfl,hp,hla,hrs,hrw,k1,k2⟩:=h
  refine ⟨_,(zaf (ps_L 1 scclash_of.nd (zaw zae))
   (zaf (zbg PassesOwn.never rfl (zep rfl T.enumerate (zaa (pv 0) zae)) (zbv rfl (zao (pg_L 2 scclash_of.nd) (zao (pg_L 3 scclash_of.nd) zaY)))
   (zah (zbg PassesOwn.never rfl (zep rfl T.enumerate (zaa (zaV (zei (K:=K) rfl) (pv 0) zcg (zaT (pv 2))) zae)) (zbv rfl (zao (pg_L 4 scclash_of.nd) (zao (pg_L 5 scclash_of.nd) zaY)))
   (zah (zaG (zaP (pe_c Grows_clash (zaa (pv 5) (zaa (pv 3) zae)))) (zah (zaA (zb0 PySem.F.plainAttrs_list PySem.F.slot_list_append PySem.F.type_list_append zaC (pv 1) (zaa (zaK (zaa (zak zhM (pe_x zar (pv 5) zad) (pe_x zar (pv 3) zad)) (zaa (pv 4) (zaa (pv 2) zae)))) zae)))) zap)))))
   (zaf (zaG (zaX (ziT (pv 1) (fun _=>rfl))) (zah (zaq zdw)) zap)
   (zaf (zcR (zal (zfr rfl (zcN hr)) (by rfl) T.min PyProof.Rows.boot_min (zaa (pv 1) zae)) (zbv rfl (zao (pg_L 6 scclash_of.nd) (zao (pg_L 4 scclash_of.nd) (zao (pg_L 2 scclash_of.nd) zaY)))))
   (zah (zaq (zaK (zaa (pv 6) (zaa (pv 4) (zaa (pv 2) (zaa (pe_c Gleast_words (zaa (pe_x zar (pv 0) (pv 4)) (zaa (pe_x zar (pv 0) (pv 2)) zae))) zae))))))))))),?rd⟩
  refine ⟨by show 0≤sizeLine;decide,fun fa hfa=>?_⟩
  refine ⟨_,rfl,p,rfl,⟨_,SqT.of (zac hfa _ _ hp)⟩,?_⟩
  have nfa:∀ (X:Hp) (ts:List Addr) (t:Addr) (o:List V),X fa=some (.lst (ts.map V.ref))→X t=some (.tup o)→t≠fa:=fun X ts t o e1 e2 z=>by rw [z,e1] at e2;cases e2
  refine zdI (K:=K) (a:=p) (xs:=as.map V.ref) (fun j σ X=>∃ (v2 v3 v4 v5:Option V) (ts:List Addr),σ=[some (.ref p),some (.ref fa),v2,v3,v4,v5,none]∧X fa=some (.lst (ts.map V.ref))∧FndAt X ts (fndL rs j)∧Same H X)
   ⟨none,none,none,none,[],rfl,zab,⟨rfl,fun i t ns e1=>by simp at e1⟩,zac hfa⟩ (fun i σ X hi ⟨_,_,_,_,_,_,_,_,s⟩=>SqT.of (s _ _ hp)) ?_ ?_
  ·rintro j x T0 σ X hx hT0 ⟨v2,v3,v4,v5,ts,rfl,efa,hF,sX⟩
   rw [Xan] at hx
   obtain ⟨b,hb,rfl⟩:=Xaw.mp hx
   have hj:j<as.length:=(Xag.mp hb).1
   obtain ⟨q,hq⟩:∃ q,rs[j]? = some q:=⟨_,Xak (by omega)⟩
   refine zgx ?_
   have sT:Same H (upd X T0 (.tup [.int (j:Int),.ref b])):=sX.trans (zac hT0)
   refine ⟨_,rfl,_,rfl,_,rfl,p,_,rfl,SqT.of (sT _ _ hp),fun z=>?_,fun u hu=>?_⟩
   ·exfalso
    rw [zgC (by rw [Xae];omega)] at z
    have:=congrArg List.length z
    rw [XaR,Xae] at this
    omega
   have ecut:cutV (as.map V.ref) none (some (j:Int))=(as.take j).map V.ref:=by rw [zgC (by rw [Xae];omega),← List.map_take]
   refine ⟨u,rfl,⟨_,SqT.of zab⟩,?_⟩
   rw [ecut] at *
   have sU:Same X (upd (upd X T0 (.tup [.int (j:Int),.ref b])) u (.tup ((as.take j).map V.ref))):=(zac hT0).trans (zac hu)
   refine zdI (K:=K) (a:=u) (xs:=(as.take j).map V.ref) (fun i σ Y=>∃ (v4 v5:Option V) (ts:List Addr),σ=[some (.ref p),some (.ref fa),some (.int (j:Int)),some (.ref b),v4,v5,none]∧Y fa=some (.lst (ts.map V.ref))∧FndAt Y ts (fndL rs j ++ fndR rs j i)∧Y u=some (.tup ((as.take j).map V.ref))∧Same H Y)
    ⟨v4,v5,ts,rfl,sU _ _ efa,by rw [show fndR rs j 0=[] from rfl,Xa7];exact hF.same sU,zab,sX.trans sU⟩ (fun i σ Y hi ⟨_,_,_,_,_,_,e,_⟩=>SqT.of e) ?_ ?_
   ·rintro i y T1 σ Y hy hT1 ⟨v4,v5,ts,rfl,efa,hF,eu,sY⟩
    rw [Xan] at hy
    obtain ⟨a,ha,rfl⟩:=Xaw.mp hy
    have hij:i<j:=by have:=(Xag.mp ha).1;rw [XaR] at this;omega
    have ha':as[i]? = some a:=by rw [List.getElem?_take] at ha;simpa [hij] using ha
    obtain ⟨r,hr'⟩:∃ r,rs[i]? = some r:=⟨_,Xak (by omega)⟩
    refine zgx ?_
    have s1:Same Y (upd Y T1 (.tup [.int (i:Int),.ref a])):=zac hT1
    have s2:=sY.trans s1
    have rwa:=hrw i a r ha' hr'
    have rwb:=hrw j b q hb hq
    have e1:fnd1 rs i j=if zbk r q=true then [[((r.w ||| q.w:Nat):Int),(i:Int),(j:Int)]] else []:=by unfold fnd1;rw [hr',hq]
    refine ⟨_,rfl,_,rfl,a,b,r,q,rfl,rwa.same s2,rwb.same s2,_,rfl,ite2 (fun hc=>?_) (fun hc=>?_)⟩
    ·obtain ⟨la,ea,hla2⟩:=rwa.same s2
     obtain ⟨lb,eb,hlb⟩:=rwb.same s2
     have efa1:=s1 _ _ efa
     refine ⟨_,rfl,.inl ⟨rfl,_,SqL.of efa1⟩,_,rfl,a,_,_,_,rfl,rfl,SqT.of ea,rfl,_,rfl,b,_,_,_,rfl,rfl,SqT.of eb,rfl,_,_,rfl,rfl,_,rfl,_,rfl,by show 3≤sizeLine;decide,fun T2 hT2=>?_⟩
     have s3:=zac (o:=.tup [.int (Builtin.bitOr (r.w:Int) (q.w:Int)),.int (i:Int),.int (j:Int)]) hT2
     have efa2:=s3 _ _ efa1
     have nT2:T2≠fa:=fun z=>by rw [z,efa1] at hT2;cases hT2
     refine ⟨fa,_,_,rfl,rfl,efa2,?_,?_⟩
     ·rw [Xae,hF.1,Xao]
      have a1:=zgz rs j
      have a2:=zeB rs j i
      have a3:j * j≤100 * 100:=Nat.mul_le_mul (by omega) (by omega)
      exact XaL (show _≤10100 by omega) (by decide)
     ·have hF2:FndAt (upd (upd (upd Y T1 (.tup [.int (i:Int),.ref a])) T2 (.tup [.int (Builtin.bitOr (r.w:Int) (q.w:Int)),.int (i:Int),.int (j:Int)])) fa (.lst (ts.map V.ref ++ [.ref T2]))) ts (fndL rs j ++ fndR rs j i):=⟨hF.1,fun z t ns e2 e3=>by
       have h9:=hF.2 z t ns e2 e3
       rw [zag (nfa Y ts t _ efa h9)]
       exact s3 _ _ (s1 _ _ h9)⟩
      refine ⟨_,_,ts ++ [T2],rfl,by rw [zab,XaC];rfl,?_,?_,fun z o e=>?_⟩
      ·rw [zdJ,← List.append_assoc,e1,if_pos hc]
       refine hF2.snoc (X:=H) ?_
       rw [zag nT2,zab]
       show some (HO.tup [V.int (Builtin.bitOr (r.w:Int) (q.w:Int)),V.int (i:Int),V.int (j:Int)])=some (HO.tup [V.int ((r.w ||| q.w:Nat):Int),V.int (i:Int),V.int (j:Int)])
       rw [bor]
      ·rw [zag (nfa Y ts u _ efa eu)]
       exact s3 _ _ (s1 _ _ eu)
      ·rw [zag (zaj e hfa)]
       exact s3 _ _ (s2 _ _ e)
    ·refine ⟨_,_,ts,rfl,s1 _ _ efa,?_,s1 _ _ eu,s2⟩
     rw [zdJ,← List.append_assoc,e1,if_neg hc,Xa7]
     exact hF.same s1
   ·rintro σ Y ⟨v4,v5,ts,rfl,efa,hF,eu,sY⟩
    rw [Xae,XaR,XbT (by omega)] at hF
    exact ⟨_,_,_,_,ts,rfl,efa,by rw [zfi];exact hF,sY⟩
  ·rintro σ X ⟨v2,v3,v4,v5,ts,rfl,efa,hF,sX⟩
   rw [Xae,hla] at hF
   have hfl:=hF.1
   by_cases h0:fndL rs rs.length=[]
   ·have et:ts=[]:=List.eq_nil_of_length_eq_zero (by rw [hfl,h0];rfl)
    subst et
    refine ⟨_,rfl,_,.inl ⟨_,SqL.of efa,rfl⟩,?_⟩
    exact iteT (k1 h0 X sX)
   ·have hpos:0<(fndL rs rs.length).length:=List.length_pos_iff.mpr h0
    refine ⟨_,rfl,_,.inl ⟨_,SqL.of efa,rfl⟩,?_⟩
    have hne:(!(ts.map V.ref).isEmpty)=true:=by
     cases ts with
     | nil=>rw [← hfl] at hpos;simp at hpos
     | cons _ _=>rfl
    rw [hne]
    refine iteF ?_
    refine ⟨_,rfl,fa,ts,fndL rs rs.length,rfl,efa,by omega,hfl,hF.2,fun t ht=>?_⟩
    rw [hfl] at ht
    obtain ⟨ns,hns⟩:∃ ns,(fndL rs rs.length)[PySem.argBest (fun i j=>HT.lexLt ((fndL rs rs.length).getD i []) ((fndL rs rs.length).getD j [])) ((fndL rs rs.length).length - 1)]? = some ns:=⟨_,Xak (by have:=(Xag.mp ht).1;omega)⟩
    have et:=hF.2 _ t ns ht hns
    obtain ⟨i,j,r,q,x,hr',hq',rfl⟩:=zjj (Xau hns)
    have et:X t=some (.tup [.int (x:Int),.int (i:Int),.int (j:Int)]):=et
    have hi:i<rs.length:=(Xag.mp hr').1
    have hj:j<rs.length:=(Xag.mp hq').1
    obtain ⟨a,ha⟩:∃ a,as[i]? = some a:=⟨_,Xak (by omega)⟩
    obtain ⟨b,hb⟩:∃ b,as[j]? = some b:=⟨_,Xak (by omega)⟩
    refine ⟨t,[.int (x:Int),.int (i:Int),.int (j:Int)],rfl,SqT.of et,rfl,_,_,rfl,_,_,rfl,_,_,rfl,rfl,?_⟩
    have hpX:=sX _ _ hp
    refine ⟨_,rfl,_,rfl,_,rfl,_,rfl,_,rfl,p,_,_,V.ref a,rfl,rfl,SqT.of hpX,zaJ (by rw [Xan,ha];rfl),_,rfl,_,rfl,p,_,_,V.ref b,rfl,rfl,SqT.of hpX,zaJ (by rw [Xan,hb];rfl),a,b,r,q,rfl,(hrw i a r ha hr').same sX,(hrw j b q hb hq').same sX,fun wp Y hwp hpr sY=>?_⟩
    refine ⟨by show 4≤sizeLine;decide,fun tp htp=>?_⟩
    have sF:=sX.trans sY
    refine k2 x i j r q hns hr' hq' tp wp _ (zdr sF htp) zab ?_ (sF.trans (zac htp))
    obtain ⟨ts',e1,e2,e3⟩:=hpr
    exact ⟨ts',zac htp _ _ e1,e2,fun z t' q' h1 h2=>zac htp _ _ (e3 z t' q' h1 h2)⟩
abbrev zej:Stmt:=top 25
theorem zhs:FnScope ["thing"] ["thing"] (zai zej):=sck rfl rfl rfl (by decide +kernel)
theorem zhS {f:Addr}{fd:FuncData}(F:Fun K "is_word" "is_word" zej f fd)(T:Blt mg)(N:Nums mg)(Gis_number:Cal P w K mg base 1 "is_number" ["thing","last"] spIsNum):FnOk P w K mg base CX0 2 f fd ["thing"] spIsWord:=by
 refine F.ok zhs (by walk_at "l") (fun cdv A outer s H vs Q E hr h=>?_)
 ·obtain ⟨a,rfl,k⟩:=h
  refine ⟨_,(zah (zaq (pe_c Gis_number (zaa (pv 0) (zaa (zbm rfl N.LAST_WORD) zae))))),?rd⟩
  exact ⟨_,rfl,a,255,rfl,k⟩
abbrev zbr:Stmt:=zbi (top 30) 0
theorem zdq:FnScope ["self","head","held"] ["self","head","held"] (zai zbr):=sck rfl rfl rfl (by decide +kernel)
theorem zdC {f:Addr}{fd:FuncData}(F:Fun K "__init__" "Chip.__init__" zbr f fd)(T:Blt mg):FnOk P w K mg base CX0 1 f fd ["self","head","held"] (spInit K):=by
 refine F.ok zdq (by walk_at "l") (fun cdv A outer s H vs Q E hr h=>?_)
 ·obtain ⟨a,C,dx,p,hd,rfl,ha,c,k⟩:=h
  refine ⟨_,(zaf (zb4 (pv 0) (pv 1) rfl)
   (zah (zb4 (pv 0) (pv 2) rfl))),?rd⟩
  refine ⟨_,rfl,_,rfl,a,C,dx,_,rfl,ha,c.cl,c.head,by show 0<1000;decide,?_⟩
  refine ⟨_,rfl,_,rfl,a,C,dx,_,rfl,zab,c.cl,c.held,by show 1<1000;decide,?_⟩
  exact k _ zab fun b hb=>by rw [zag hb,zag hb]
abbrev zca:Stmt:=top 20
theorem scby_figures:FnScope ["number","many","text","place"] ["number","many"] (zai zca):=sck rfl rfl rfl (by decide +kernel)
def FIG:Str := "0123456789abcdef"
def figc (k:Nat):Nat:=(FIG.cps.toList[k]?).getD 0
def fig2 (n:Nat):Str:=(⟨#[figc (n / 16)]⟩:Str) ++ (⟨#[figc (n % 16)]⟩:Str)
def phead (r:Nat):Str:=Str.empty ++ ("pipe " : Str) ++ fig2 r
theorem zjZ {k:Nat}(h:k<16):atI FIG.cps.toList (k:Int)=some (figc k):=by
 have e:FIG.cps.toList.length=16:=by decide
 refine zaJ ?_
 unfold figc
 rw [Xak (by omega)]
 rfl
structure ObP (C:Addr)(H:Hp)(a p:Addr)(r:Nat)(ws:List Nat):Prop where
 ex:∃ dx,H a=some (.ins C dx [("head",.str (phead r)),("held",.ref p),("room",.int (r:Int))])
 ls:H p=some (.lst (vN ws))
def two (_:List V):Nat:=2
inductive sp2fig (vs:List V)(H:Hp)(Q:VK)(u3_:XK):Prop
 | mk (n:Nat) (z0_:vs=[.int (n:Int)]) (z1_:n≤255) (z2_:Q (.str (fig2 n)) H)
inductive spMkP (C:Addr)(vs:List V)(H:Hp)(Q:VK)(u3_:XK):Prop
 | mk (a:_) (dx:_) (r:Nat) (z0_:vs=[.ref a,.int (r:Int)]) (z1_:1≤r) (z2_:r≤255) (z3_:H a=some (.ins C dx [])) (z4_:∀ (p:Addr) (H':Hp),H p=none→ObP C H' a p r []→zkS a H H'→Q .non H')
inductive spByFig (vs:List V)(H:Hp)(Q:VK)(u3_:XK):Prop
 | mk (n:Nat) (z0_:vs=[.int (n:Int),.int 2]) (z1_:n≤255) (z2_:Q (.str (fig2 n)) H)
def figs (n:Nat):Nat→Str
 | 0=>("" : Str)
 | 1=>(⟨#[figc (n % 16)]⟩:Str) ++ ("" : Str)
 | _=>(⟨#[figc (n / 16)]⟩:Str) ++ ((⟨#[figc (n % 16)]⟩:Str) ++ ("" : Str))
theorem and15 (n:Nat):n &&& 15=n % 16:=Nat.and_two_pow_sub_one_eq_mod n 4
theorem ze3 {f:Addr}{fd:FuncData}(F:Fun K "by_figures" "by_figures" zca f fd)(T:Blt mg)(N:Nums mg):FnOk P w K mg base CX0 1 f fd ["number","many"] spByFig:=by
 refine F.ok scby_figures (by walk_at "l") (fun cdv A outer s H vs Q E hr h=>?_)
 ·obtain ⟨n,rfl,hn,k⟩:=h
  refine ⟨_,(zaf (ps_L 2 scby_figures.nd zaE)
   (zaf (zbg PassesOwn.never rfl (zbu rfl T.range (zaa (pv 1) zae)) (pg_L 3 scby_figures.nd)
   (zah (ps_L 2 scby_figures.nd (zak zgU (pe_x ix_str (ziX rfl N.SIXTEEN) (zak zaW (zak op_shr (pv 0) (zak zbN zad (pv 3))) zad)) (pv 2)))))
   (zah (zaq (pv 2))))),?rd⟩
  refine ⟨_,rfl,2,rfl,by decide,by decide,?_⟩
  refine zbQ (n:=2) (fun i σ H2=>∃ v3,σ=[some (.int (n:Int)),some (.int 2),some (.str (figs n i)),v3]∧H2=H) ⟨none,rfl,rfl⟩ ?_ ?_
  ·rintro i σ H2 hi ⟨v3,rfl,rfl⟩
   rcases (show i=0∨i=1 by omega) with rfl | rfl
   ·refine ⟨_,rfl,_,rfl,_,_,rfl,rfl,zcp (by decide) (by decide),_,_,rfl,rfl,(show (0:Int)≤4 * (0+((0:Nat):Int)) by decide),_,_,rfl,rfl,FIG,((n % 16:Nat):Int),_,rfl,congrArg V.int ?_,by decide,zjZ (by omega),?_⟩
    ·show Builtin.bitAnd ((n:Int) / 1) ((15:Nat):Int)=_
     rw [Int.ediv_one,band,and15]
    ·exact ⟨_,rfl,_,_,rfl,rfl,by show 1+0≤sizeLine;decide,⟨_,rfl,rfl⟩⟩
   ·refine ⟨_,rfl,_,rfl,_,_,rfl,rfl,zcp (by decide) (by decide),_,_,rfl,rfl,(show (0:Int)≤4 * (0+((1:Nat):Int)) by decide),_,_,rfl,rfl,FIG,((n / 16:Nat):Int),_,rfl,congrArg V.int ?_,by decide,zjZ (by omega),?_⟩
    ·have e:(n:Int) / 2 ^ (4 * (0+((1:Nat):Int))).toNat=((n / 16:Nat):Int):=by
      show (n:Int) / 16=_
      omega
     show Builtin.bitAnd ((n:Int) / 2 ^ (4 * (0+((1:Nat):Int))).toNat) ((15:Nat):Int)=_
     rw [e,band,and15,Nat.mod_eq_of_lt (by omega)]
    ·exact ⟨_,rfl,_,_,rfl,rfl,by show 1+1≤sizeLine;decide,⟨_,rfl,rfl⟩⟩
  ·rintro σ H2 ⟨v3,rfl,rfl⟩
   exact ⟨_,rfl,k⟩
abbrev zbI:Stmt:=top 21
theorem zek:FnScope ["word"] ["word"] (zai zbI):=sck rfl rfl rfl (by decide +kernel)
theorem zes {f:Addr}{fd:FuncData}(F:Fun K "two_figures" "two_figures" zbI f fd)(T:Blt mg)(Gby_figures:Cal P w K mg base 1 "by_figures" ["number","many"] spByFig):FnOk P w K mg base CX0 2 f fd ["word"] sp2fig:=by
 refine F.ok zek (by walk_at "l") (fun cdv A outer s H vs Q E hr h=>?_)
 ·obtain ⟨n,rfl,hn,k⟩:=h
  refine ⟨_,(zah (zaq (pe_c Gby_figures (zaa (pv 0) (zaa zad zae))))),?rd⟩
  exact ⟨_,rfl,n,rfl,hn,k⟩
def ziy (C:Addr)(H:Hp)(a:Addr)(ws:List V)(hd:Str)(Q:VK):Prop:=∀ (p:Addr) (H':Hp),H p=none→(∃ dx,H' a=some (.ins C dx [("head",.str hd),("held",.ref p)]))→H' p=some (.lst ws)→zkS a H H'→Q .non H'
inductive spMk1H (C:Addr)(hd:Str)(vs:List V)(H:Hp)(Q:VK)(u3_:XK):Prop
 | mk (a:_) (dx:_) (v:Int) (z0_:vs=[.ref a,.int v]) (z1_:0≤v) (z2_:v≤255) (z3_:H a=some (.ins C dx [])) (z4_:ziy C H a [.int v] hd Q)
inductive spMkSH (C:Addr)(vs:List V)(H:Hp)(Q:VK)(u3_:XK):Prop
 | mk (a:_) (dx:_) (n:Nat) (v:Int) (z0_:vs=[.ref a,.int (n:Int),.int v]) (z1_:1≤n) (z2_:n≤4096) (z3_:0≤v) (z4_:v≤255) (z5_:H a=some (.ins C dx [])) (z6_:ziy C H a (List.replicate n (.int v)) "store" Q)
inductive spMkFH (C:Addr)(vs:List V)(H:Hp)(Q:VK)(u3_:XK):Prop
 | mk (a:_) (dx:_) (l:_) (ws:List Nat) (z0_:vs=[.ref a,.ref l]) (z1_:H l=some (.lst (vN ws))) (z2_:1≤ws.length) (z3_:ws.length≤4096) (z4_:(∀ w∈ws,w≤255)) (z5_:H a=some (.ins C dx [])) (z6_:ziy C H a (vN ws) "fixed" Q)
def za4:Nat→Str
 | 0 => "store"
 | 1 => "fixed"
 | 2 => "latch"
 | 3 => "meter"
 | _ => "pipe"
def khead (kd n:Nat):Str:=if kd=4 then phead n else za4 kd
def kext (kd n:Nat):List (Str×V):=if kd=4 then [("room",.int (n:Int))] else []
def ksize (kd:Nat)(ws:List Nat):Nat:=if kd=4 then 2 else ws.length
structure Kd (kd n:Nat)(ws:List Nat):Prop where
 k5:kd<5
 w5:∀ v∈ws,v≤255
 ln:ws.length≤4096
 l1:kd≠4→1≤ws.length
 l3:kd=3→ws.length=1
 pi:kd=4→ws.length≤n∧1≤n
 n2:n≤255
structure Chp (cs:Nat→Addr)(H:Hp)(x p:Addr)(kd n:Nat)(ws:List Nat):Prop where
 ex:∃ dx,H x=some (.ins (cs kd) dx (("head",.str (khead kd n)) :: ("held",.ref p) :: kext kd n))
 ls:H p=some (.lst (vN ws))
theorem Chp.same {cs:Nat→Addr}{H H':Hp}{x p:Addr}{kd n:Nat}{ws:List Nat}(o:Chp cs H x p kd n ws)(s:Same H H'):Chp cs H' x p kd n ws:=by
 obtain ⟨⟨dx,e⟩,l⟩:=o
 exact ⟨⟨dx,s _ _ e⟩,s _ _ l⟩
theorem zbZ {kd j:Nat}(h:kd<5)(hj:j<5):decide (V.str (za4 kd)=V.str (za4 j))=decide (kd=j):=by
 rcases (show kd=0∨kd=1∨kd=2∨kd=3∨kd=4 by omega) with rfl | rfl | rfl | rfl | rfl <;> rcases (show j=0∨j=1∨j=2∨j=3∨j=4 by omega) with rfl | rfl | rfl | rfl | rfl <;> decide
def csOf (a b c d e:Addr):Nat→Addr
 | 0=>a
 | 1=>b
 | 2=>c
 | 3=>d
 | _=>e
abbrev zbz:Stmt:=zbi (top 30) 1
theorem zdR:FnScope ["self"] ["self"] (zai zbz):=sck rfl rfl rfl (by decide +kernel)
theorem zaZ {f C:Addr}{fd:FuncData}(F:Fun K "__len__" "Chip.__len__" zbz f fd)(T:Blt mg)(c:ClsOk K C):FnOk P w K mg base CX0 1 f fd ["self"] (spLen C List.length):=by
 refine F.ok zdR (by walk_at "l") (fun cdv A outer s H vs Q E hr h=>?_)
 ·obtain ⟨a,p,ws,ext,rfl,o,k⟩:=h
  refine ⟨_,(zah (zaq (zal zan (by rfl) T.len PySem.boot_len (zaa (pe_fld (pv 0) rfl) zae)))),?rd⟩
  obtain ⟨⟨dx,hd,e⟩,l,nn⟩:=o
  exact ⟨_,rfl,a,C,dx,_,_,rfl,e,c.cl,c.held,rfl,p,ws,rfl,.inl (SqL.of l),k⟩
abbrev zby:Stmt:=zbi (top 35) 1
theorem zdQ:FnScope ["self"] ["self"] (zai zby):=sck rfl rfl rfl (by decide +kernel)
theorem zdS {f C:Addr}{fd:FuncData}(F:Fun K "__len__" "Pipe.__len__" zby f fd)(T:Blt mg)(c:ClsOk K C):FnOk P w K mg base CX0 1 f fd ["self"] (spLen C two):=by
 refine F.ok zdQ (by walk_at "l") (fun cdv A outer s H vs Q E hr h=>?_)
 ·obtain ⟨a,p,ws,ext,rfl,o,k⟩:=h
  refine ⟨_,(zah (zaq zad)),?rd⟩
  exact k
abbrev zba:Stmt:=zbi (top 31) 0
theorem zcV:FnScope ["self","cells","word"] ["self","cells","word"] (zai zba):=sck rfl rfl rfl (by decide +kernel)
theorem zc0 {f C:Addr}{fd:FuncData}{dV:Value}(F:FunD K "__init__" "Store.__init__" zba dV f fd)(T:Blt mg)(N:Nums mg)(c:ClsOk K C)(Gis_number:Cal P w K mg base 1 "is_number" ["thing","last"] spIsNum)(Gis_word:Cal P w K mg base 2 "is_word" ["thing"] spIsWord)(GCChip___init__:Clm P w K mg base 1 "Chip" "__init__" (spInit K)):FnOk P w K mg base CX0 3 f fd ["self","cells","word"] (spMkSH C):=by
 refine F.ok zcV (by walk_at "l") (fun cdv A outer s H vs Q E hr h=>?_)
 ·obtain ⟨a,dx,n,v,rfl,h0,h1,h2,h3,ha,k⟩:=h
  refine ⟨_,(zaf (zaG (PW.pt (zcf (zaX (zaP (pe_c Gis_number (zaa (pv 1) (zaa (zbm rfl N.MOST_CELLS) zae))))) (zcf (zau zhN (pv 1) zad (zav _)) (zbF (zaX (zaP (pe_c Gis_word (zaa (pv 2) zae)))))))) (zah za6) zap)
   (zah (zaA (zeZ GCChip___init__ (hrm hr) rfl (zaa (pv 0) (zaa zaE (zaa (zak zjP (zaw (zaa (pv 2) zae)) (pv 1)) zae))))))),?rd⟩
  refine ⟨_,rfl,(n:Int),4096,rfl,_,rfl,?_⟩
  rw [Xap (show (0:Int)≤(n:Int)∧(n:Int)≤4096 by omega)]
  refine iteF ⟨_,rfl,_,_,rfl,rfl,_,rfl,?_⟩
  rw [Xas (show ¬ (n:Int)<1 by omega)]
  refine iteF ⟨_,rfl,v,rfl,_,rfl,zh1 ⟨h2,h3⟩ ?_⟩
  refine ⟨_,rfl,_,rfl,by show 1≤sizeLine;decide,fun l hl=>?_⟩
  have en:((n:Int)).toNat=n:=by omega
  refine ⟨_,rfl,l,_,_,rfl,rfl,zab,by omega,by omega,?_,fun p hp=>?_⟩
  ·rw [en];show 1 * n≤sizeLine;exact Xav (by omega) (show 4096≤sizeLine by decide)
  rw [en,show (List.replicate n [V.int v]).flatten=List.replicate n (V.int v) from zht n _]
  have nl:l≠a:=fun z=>by rw [z,ha] at hl;cases hl
  have hpl:p≠l:=fun z=>by rw [z,zab] at hp;cases hp
  have hp0:H p=none:=by rw [zag hpl] at hp;exact hp
  have ne:p≠a:=fun z=>by rw [z,ha] at hp0;cases hp0
  refine ⟨a,C,dx,p,_,rfl,by rw [zag (Ne.symm ne),zag (Ne.symm nl)];exact ha,c,fun H' e1 e2=>?_⟩
  refine k p H' hp0 ⟨dx,e1⟩ (by rw [e2 p ne];exact zab) fun b o hb e=>?_
  rw [e2 b hb,zag (zaj e hp0),zag (zaj e hl)];exact e
abbrev zbd:Stmt:=zbi (top 32) 0
theorem scFixed___init__:FnScope ["self","words","held"] ["self","words"] (zai zbd):=sck rfl rfl rfl (by decide +kernel)
theorem zc3 {f C:Addr}{fd:FuncData}(F:Fun K "__init__" "Fixed.__init__" zbd f fd)(T:Blt mg)(N:Nums mg)(c:ClsOk K C)(Gis_word:Cal P w K mg base 2 "is_word" ["thing"] spIsWord)(GCChip___init__:Clm P w K mg base 1 "Chip" "__init__" (spInit K)):FnOk P w K mg base CX0 3 f fd ["self","words"] (spMkFH C):=by
 refine F.ok scFixed___init__ (by walk_at "l") (fun cdv A outer s H vs Q E hr h=>?_)
 ·obtain ⟨a,dx,l,ws,rfl,hl,h1,h2,h3,ha,k⟩:=h
  refine' ⟨_,(zaf (ps_L 2 scFixed___init__.nd (za1 zcS (by rfl) T.list zdO (zaa (pv 1) zae)))
   (zaf (zaG (PW.pt (zcf (zaX (ziU zgT zgT zad (zal zan (by rfl) T.len PySem.boot_len (zaa (pv 2) zae)) (zbm rfl N.MOST_CELLS))) (zbF (zaX (zaP (zal (zdL rfl) (by rfl) T.all ziq (zaa ?c1 zae))))))) (zah za6) zap)
   (zah (zaA (zeZ GCChip___init__ (hrm hr) rfl (zaa (pv 0) (zaa zaE (zaa (pv 2) zae)))))))),?rd⟩
  (case c1=>exact (zch (Nc:=["word"]) [none] rfl (zaQ (by rfl)) (zbA (pv 2)) (fun _ _ _ _ _=>(pg_L 0 (show (["word"]:List Str).Nodup by decide +kernel))) (fun _ _ _ _ _=>zd1) (fun _ _ _ _ _=>(pe_c Gis_word (zaa (pv 0) zae)))))
  refine ⟨_,rfl,l,_,rfl,.inl (SqL.of hl),fun p hp=>?_⟩
  have nl:p≠a:=fun z=>by rw [z,ha] at hp;cases hp
  refine ⟨_,rfl,p,_,rfl,.inl (SqL.of zab),_,_,rfl,rfl,_,rfl,?_⟩
  rw [zaz,Xap (show (1:Int)≤(ws.length:Int) by omega)]
  refine iteT ⟨_,_,rfl,rfl,_,rfl,?_⟩
  rw [Xap (show (ws.length:Int)≤4096 by omega)]
  refine iteF ⟨_,rfl,p,rfl,⟨_,SqL.of zab⟩,?_⟩
  refine zbR (K:=K) (a:=p) (xs:=vN ws) (fun j rs σ H1=>∃ v1,σ=[v1]∧rs=List.replicate j (V.bl true)∧H1=upd H p (.lst (vN ws))) (by rw [zaz];exact Xav h2 (by decide)) ⟨none,rfl,rfl,rfl⟩ ?_ ?_ ?_
  ·rintro j rs σ H1 hj ⟨v1,rfl,rfl,rfl⟩
   exact ⟨SqL.of zab,by rw [XbB];exact Xaf _⟩
  ·rintro j x rs σ H1 ex ⟨v1,rfl,rfl,rfl⟩
   obtain ⟨b,hb,rfl⟩:=vN_get ex
   have:=h3 b (Xau hb)
   refine ⟨_,rfl,(b:Int),rfl,?_⟩
   rw [Xap (show (0:Int)≤(b:Int)∧(b:Int)≤255 by omega)]
   exact ⟨_,rfl,List.replicate_succ'.symm,rfl⟩
  ·rintro rs σ H1 ⟨v1,rfl,rfl,rfl⟩ D hD
   refine ⟨D,List.replicate (vN ws).length true,rfl,SqL.of (by rw [List.map_replicate];exact zab),_,rfl,?_⟩
   rw [show (List.replicate (vN ws).length true).all id=true by simp]
   refine iteF ⟨_,rfl,_,rfl,a,C,dx,p,_,rfl,?_,c,fun H' e1 e2=>?_⟩
   ·exact zac hD _ _ (zac hp _ _ ha)
   ·refine k p H' hp ⟨dx,e1⟩ (by rw [e2 p nl];exact zac hD _ _ zab) fun b o hb e=>?_
    rw [e2 b hb];exact zac hD _ _ (zac hp _ _ e)
abbrev zbc:Stmt:=zbi (top 33) 0
theorem zcX:FnScope ["self","word"] ["self","word"] (zai zbc):=sck rfl rfl rfl (by decide +kernel)
theorem zc2 {f C:Addr}{fd:FuncData}{dV:Value}(F:FunD K "__init__" "Latch.__init__" zbc dV f fd)(T:Blt mg)(c:ClsOk K C)(Gis_word:Cal P w K mg base 2 "is_word" ["thing"] spIsWord)(GCChip___init__:Clm P w K mg base 1 "Chip" "__init__" (spInit K)):FnOk P w K mg base CX0 3 f fd ["self","word"] (spMk1H C "latch"):=by
 refine F.ok zcX (by walk_at "l") (fun cdv A outer s H vs Q E hr h=>?_)
 ·obtain ⟨a,dx,v,rfl,h0,h1,ha,k⟩:=h
  refine ⟨_,(zaf (zaG (zaX (zaP (pe_c Gis_word (zaa (pv 1) zae)))) (zah za6) zap)
   (zah (zaA (zeZ GCChip___init__ (hrm hr) rfl (zaa (pv 0) (zaa zaE (zaa (zaw (zaa (pv 1) zae)) zae))))))),?rd⟩
  refine ⟨_,rfl,v,rfl,_,rfl,zh1 ⟨h0,h1⟩ ?_⟩
  refine ⟨_,rfl,_,rfl,by show 1≤sizeLine;decide,fun p hp=>?_⟩
  have ne:p≠a:=fun z=>by rw [z,ha] at hp;cases hp
  refine ⟨a,C,dx,p,_,rfl,by rw [zag (Ne.symm ne)];exact ha,c,fun H' e1 e2=>?_⟩
  refine k p H' hp ⟨dx,e1⟩ (by rw [e2 p ne];exact zab) fun b o hb e=>?_
  rw [e2 b hb,zag (zaj e hp)];exact e
abbrev zbb:Stmt:=zbi (top 34) 0
theorem zcW:FnScope ["self","word"] ["self","word"] (zai zbb):=sck rfl rfl rfl (by decide +kernel)
theorem zc1 {f C:Addr}{fd:FuncData}{dV:Value}(F:FunD K "__init__" "Meter.__init__" zbb dV f fd)(T:Blt mg)(c:ClsOk K C)(Gis_word:Cal P w K mg base 2 "is_word" ["thing"] spIsWord)(GCChip___init__:Clm P w K mg base 1 "Chip" "__init__" (spInit K)):FnOk P w K mg base CX0 3 f fd ["self","word"] (spMk1H C "meter"):=by
 refine F.ok zcW (by walk_at "l") (fun cdv A outer s H vs Q E hr h=>?_)
 ·obtain ⟨a,dx,v,rfl,h0,h1,ha,k⟩:=h
  refine ⟨_,(zaf (zaG (zaX (zaP (pe_c Gis_word (zaa (pv 1) zae)))) (zah za6) zap)
   (zah (zaA (zeZ GCChip___init__ (hrm hr) rfl (zaa (pv 0) (zaa zaE (zaa (zaw (zaa (pv 1) zae)) zae))))))),?rd⟩
  refine ⟨_,rfl,v,rfl,_,rfl,zh1 ⟨h0,h1⟩ ?_⟩
  refine ⟨_,rfl,_,rfl,by show 1≤sizeLine;decide,fun p hp=>?_⟩
  have ne:p≠a:=fun z=>by rw [z,ha] at hp;cases hp
  refine ⟨a,C,dx,p,_,rfl,by rw [zag (Ne.symm ne)];exact ha,c,fun H' e1 e2=>?_⟩
  refine k p H' hp ⟨dx,e1⟩ (by rw [e2 p ne];exact zab) fun b o hb e=>?_
  rw [e2 b hb,zag (zaj e hp)];exact e
abbrev zbq:Stmt:=zbi (top 35) 0
theorem zdp:FnScope ["self","room"] ["self","room"] (zai zbq):=sck rfl rfl rfl (by decide +kernel)
theorem zdB {f C:Addr}{fd:FuncData}{dV:Value}(F:FunD K "__init__" "Pipe.__init__" zbq dV f fd)(T:Blt mg)(N:Nums mg)(c:ClsOk K C)(Gis_number:Cal P w K mg base 1 "is_number" ["thing","last"] spIsNum)(Gtwo_figures:Cal P w K mg base 2 "two_figures" ["word"] sp2fig)(GCChip___init__:Clm P w K mg base 1 "Chip" "__init__" (spInit K)):FnOk P w K mg base CX0 3 f fd ["self","room"] (spMkP C):=by
 refine F.ok zdp (by walk_at "l") (fun cdv A outer s H vs Q E hr h=>?_)
 ·obtain ⟨a,dx,r,rfl,h0,h1,ha,k⟩:=h
  refine ⟨_,(zaf (zaG (PW.pt (zcf (zaX (zaP (pe_c Gis_number (zaa (pv 1) (zaa (zbm rfl N.MOST_ROOM) zae))))) (zbF (zau zhN (pv 1) zad (zav _))))) (zah za6) zap)
   (zaf (zaA (zeZ GCChip___init__ (hrm hr) rfl (zaa (pv 0) (zaa (pe_fs2 zaE (pe_c Gtwo_figures (zaa (pv 1) zae))) (zaa (zaw zae) zae)))))
   (zah (zb4 (pv 0) (pv 1) rfl)))),?rd⟩
  refine ⟨_,rfl,(r:Int),255,rfl,_,rfl,?_⟩
  rw [Xap (show (0:Int)≤(r:Int)∧(r:Int)≤255 by omega)]
  refine iteF ⟨_,rfl,_,_,rfl,rfl,_,rfl,?_⟩
  rw [Xas (show ¬ (r:Int)<1 by omega)]
  refine iteF ⟨_,rfl,_,rfl,by show 5≤1000;decide,_,rfl,r,rfl,h1,_,rfl,by show 1+1≤1000;decide,?_⟩
  refine ⟨by show 0≤sizeLine;decide,fun p hp=>?_⟩
  have ne:p≠a:=fun z=>by rw [z,ha] at hp;cases hp
  refine ⟨a,C,dx,p,_,rfl,by rw [zag (Ne.symm ne)];exact ha,c,fun H' e1 e2=>?_⟩
  refine ⟨_,rfl,_,rfl,a,C,dx,_,rfl,e1,c.cl,c.room,by show 2<1000;decide,?_⟩
  refine k p _ hp ⟨⟨dx,zab⟩,by rw [zag ne,e2 p ne];exact zab⟩ fun b o hb e=>?_
  rw [zag hb,e2 b hb,zag (zaj e hp)];exact e
abbrev zbe:Stmt:=zbi (top 12) 0
theorem zcY:FnScope ["self","address","first","second","words"] ["self","address","first","second","words"] (zai zbe):=sck rfl rfl rfl (by decide +kernel)
def clF (x i j:Nat)(p:Addr):List (Str×V):=[("address",.int (x:Int)),("first",.int (i:Int)),("second",.int (j:Int)),("words",.ref p)]
inductive spClI (C:Addr)(vs:List V)(H:Hp)(Q:VK)(u3_:XK):Prop
 | mk (e p:Addr) (x i j:Nat) (l:List (Int×Int)) (z0_:vs=[.ref e,.int (x:Int),.int (i:Int),.int (j:Int),.ref p]) (z1_:x<2 ^ 100) (z2_:i<2 ^ 100) (z3_:j<2 ^ 100) (z4_:H e=some (.ext (xFr e C none))) (z5_:PrsAt H p l) (z6_:l.length≤8) (z7_:(∀ q∈l,q.1.natAbs<10 ^ 12∧q.2.natAbs<10 ^ 12)) (z8_:∀ (dx:Addr) (H':Hp),H dx=none→dx≠e→H' e=some (.ext (xFr e C (some dx)))→H' dx=some (.ext (xDc dx (clF x i j p)))→(∀ b o,b≠e→H b=some o→H' b=some o)→Q .non H')
theorem zc4 {f C fI:Addr}{fd:FuncData}(F:Fun K "__init__" "Clash.__init__" zbe f fd)(T:Blt mg)(GSBusError:SupI K mg "BusError")(c:ExcI K C fI)(t1:W.takerIn K C "address" = some none)(t2:W.takerIn K C "first" = some none)(t3:W.takerIn K C "second" = some none)(t4:W.takerIn K C "words" = some none):FnOk P w K mg base CX0 1 f fd ["self","address","first","second","words"] (spClI C):=by
 refine F.ok zcY (by walk_at "l") (fun cdv A outer s H vs Q E hr h=>?_)
 ·obtain ⟨e,p,x,i,j,l,rfl,hx,hi,hj,ee,hp,hl,hb,k⟩:=h
  have sm:∀ {n:Nat},n<2 ^ 100→((n:Int)).natAbs<2 ^ 1000:=fun {n} h=>by
   rw [Int.natAbs_natCast];exact Xai h (XaW (by decide) (by decide))
  refine ⟨_,(zaf (zaA (zhG GSBusError rfl (zaa (pv 0) (zaa (zjO ⟨_,_,_,rfl⟩ (zeW zaE (zgn (pv 2) (zeW zaE (zgn (pv 3) (zeW zaE (zgn (pv 1) (zeW zaE (pj_prs hr.gd hr.units (pv 4) zjM))))))))) zae))))
   (zaf (zgm rfl (pv 0) (pv 1) rfl)
   (zaf (zeo (pv 0) (pv 2) rfl)
   (zaf (zeo (pv 0) (pv 3) rfl)
   (zah (zeo (pv 0) (pv 4) rfl)))))),?rd⟩
  refine ⟨_,rfl,_,rfl,(by decide:(5:Nat)≤1000),_,rfl,(i:Int),rfl,sm hi,_,rfl,(by decide:(5:Nat)≤1000),_,rfl,(j:Int),rfl,sm hj,_,rfl,(by decide:(10:Nat)≤1000),_,rfl,(x:Int),rfl,sm hx,_,rfl,(by decide:(4:Nat)≤1000),_,rfl,p,l,rfl,hp,hl,hb,fun z=>?_⟩
  refine ⟨e,C,fI,none,_,rfl,ee,c,?_⟩
  refine ⟨_,rfl,_,rfl,e,C,fI,rfl,ee,c,t1,fun dx hdx ne=>?_⟩
  have e1:upd (upd H e (.ext (xFr e C (some dx)))) dx (.ext (xDc dx [("address",.int (x:Int))])) e=some (.ext (xFr e C (some dx))):=by rw [zag (Ne.symm ne)];exact zab
  refine ⟨_,rfl,_,rfl,e,C,fI,dx,_,rfl,e1,ne,zab,(by decide:(1:Nat)<100),c,t2,?_⟩
  rw [zfB]
  refine ⟨_,rfl,_,rfl,e,C,fI,dx,_,rfl,by rw [zag (Ne.symm ne)];exact zab,ne,zab,(by decide:(2:Nat)<100),c,t3,?_⟩
  rw [zfB]
  refine ⟨_,rfl,_,rfl,e,C,fI,dx,_,rfl,by rw [zag (Ne.symm ne)];exact zab,ne,zab,(by decide:(3:Nat)<100),c,t4,?_⟩
  rw [zfB]
  refine k dx _ hdx ne (by rw [zag (Ne.symm ne)];exact zab) zab fun b o hb eb=>?_
  rw [zag (zaj eb hdx),zag hb]
  exact eb
theorem zfj {f:Addr}(h:W.isFn K (.ref f)=true):∃ oI,K.lookup f=some oI∧oI.cls = .type "function" := by
 have h:W.typeIn K (.ref f)=some (.type "function"):=beq_iff_eq.mp h
 unfold W.typeIn at h
 obtain ⟨oI,h1,h2⟩:=Xaw.mp h
 exact ⟨oI,h1,h2⟩
abbrev zdf:Stmt:=top 58
theorem scrow_fits:FnScope ["row","chips","inner","chip","latch"] ["row","chips"] (zai zdf):=sck rfl rfl rfl (by decide +kernel)
def lenK (kd:Nat):List V→Nat:=if kd=4 then two else List.length
theorem Chp.ob {cs:Nat→Addr}{H:Hp}{x p:Addr}{kd n:Nat}{ws:List Nat}(o:Chp cs H x p kd n ws):Ob (cs kd) H x p (vN ws) (kext kd n):=by
 obtain ⟨dx,e⟩:=o.ex
 refine ⟨⟨dx,_,e⟩,o.ls,?_⟩
 unfold kext
 split
 ·exact .inr ⟨_,rfl⟩
 ·exact .inl rfl
structure Dt where
 m:Nat
 x:Nat→Addr
 p:Nat→Addr
 kd:Nat→Nat
 n:Nat→Nat
 sz:Nat→Nat
structure Chs (cs:Nat→Addr)(D:Dt)(Y:Hp)(us:Nat→List Nat):Prop where
 o:∀ i,i<D.m→Chp cs Y (D.x i) (D.p i) (D.kd i) (D.n i) (us i)
 k:∀ i,i<D.m→Kd (D.kd i) (D.n i) (us i)
 h1:∀ i,i<D.m→D.kd i=2∨D.kd i=3→(us i).length=1
 z:∀ i,i<D.m→ksize (D.kd i) (us i)=D.sz i
 inj:∀ i j,i<D.m→j<D.m→D.p i=D.p j→i=j
 m1:D.m≤200
theorem Chs.same {cs:Nat→Addr}{D:Dt}{Y Z:Hp}{us:Nat→List Nat}(S:Chs cs D Y us)(s:Same Y Z):Chs cs D Z us:=⟨fun i h=>(S.o i h).same s,S.k,S.h1,S.z,S.inj,S.m1⟩
def chL (D:Dt):List V:=(List.range D.m).map fun i=>.ref (D.x i)
theorem zij (D:Dt):(chL D).length=D.m:=by unfold chL;rw [Xae,List.length_range]
theorem zj4 {D:Dt}{i:Nat}(h:i<D.m):(chL D)[i]? = some (.ref (D.x i)):=by unfold chL;rw [Xan,List.getElem?_range h];rfl
def Fit (D:Dt)(r:Rw):Prop:=r.c<D.m∧2 ^ ones r.i≤D.sz r.c∧∀ c a b,r.l=some (c,a,b)→c<D.m∧D.kd c=2
inductive spFits (cs:Nat→Addr)(vs:List V)(H:Hp)(Q:VK)(u3_:XK):Prop
 | mk (t L:Addr) (r:Rw) (D:Dt) (us:Nat→List Nat) (z0_:vs=[.ref t,.ref L]) (z1_:RwAt H t r) (z2_:r.i<2 ^ 16) (z3_:H L=some (.lst (chL D))) (z4_:Chs cs D H us) (z5_:Fit D r) (z6_:∀ H',Same H H'→Q (.bl true) H')
theorem zgV {f:Addr}{cs:Nat→Addr}{fd:FuncData}(F:Fun K "row_fits" "row_fits" zdf f fd)(T:Blt mg)(Gones_of:Cal P w K mg base 2 "ones_of" ["mask"] spOnes)(GLatch:mg "Latch" = some (.ref (cs 2)))(kk:W.kitOne K (.ref (cs 2)) (.ref (cs 2))=some true)(TL:∀ {H:Hp} {a dx:Addr} {fs:List (Str×V)},H a=some (.ins (cs 2) dx fs)→TyOf K H (.ref a) (.ref (cs 2)))
  (ML:∀ kd,kd<5→Mth P w K mg base 1 (cs kd) "__len__" [] (fun vs _=>vs) (spLen (cs kd) (lenK kd))):FnOk P w K mg base CX0 3 f fd ["row","chips"] (spFits cs):=by
 refine F.ok scrow_fits (by walk_at "l") (fun cdv A outer s H vs Q E hr h=>?_)
 ·obtain ⟨t,L,r,D,us,rfl,⟨lt,et,hlt⟩,hi,eL,S,⟨f1,f2,f3⟩,k⟩:=h
  refine ⟨_,(zaf (zcR (zaV (zei (K:=K) rfl) (pv 0) (zaT zad) zcg) (zbv rfl (zao (pg_L 2 scrow_fits.nd) (zao (pg_L 3 scrow_fits.nd) (zao (pg_L 4 scrow_fits.nd) zaY)))))
   (zaf (zaG (PW.pt (zcf (zau op_ge (pv 3) (zal zan (by rfl) T.len PySem.boot_len (zaa (pv 1) zae)) (zav _)) (zbF (zau ze0 (zak zd3 zad (pe_c Gones_of (zaa (pv 2) zae))) (zkt 1 ⟨rfl,rfl,rfl,rfl,rfl⟩ (hrm hr) rfl T.len (pe_x zam (pv 1) (pv 3))) (zav _))))) (zah (zaq zcJ)) zap)
   (zah (zaq (ziW (zhI (zdx (pv 4))) (zbh (zbn (za3 zhN (pe_x zar (pv 4) zad) (zal zan (by rfl) T.len PySem.boot_len (zaa (pv 1) zae)) (zav _)) (zbh (zal (zju (K:=K) rfl) (by rfl) T.isinstance zaN (zaa (pe_x zam (pv 1) (pe_x zar (pv 4) zad)) (zaa (ziY rfl GLatch) zae))))))))))),?rd⟩
  have ec:cutV [V.int (r.m:Int),.int (r.w:Int),.int (r.i:Int),.int (r.c:Int),lt] (some 2) none=[.int (r.i:Int),.int (r.c:Int),lt]:=rfl
  have hsz:∀ i,i<D.m→D.sz i≤5000:=fun i h=>by
   rw [← S.z i h]
   unfold ksize
   split
   ·decide
   ·have:=(S.k i h).ln;omega
  refine ⟨_,rfl,2,rfl,t,_,rfl,SqT.of et,(fun e=>absurd (congrArg List.length e) (by rw [ec];simp)),fun tp htp=>?_⟩
  rw [ec]
  have s1:=zac (H:=H) (o:=HO.tup [.int (r.i:Int),.int (r.c:Int),lt]) htp
  refine ⟨tp,_,rfl,SqT.of zab,rfl,_,_,rfl,_,_,rfl,_,_,rfl,rfl,?_⟩
  refine ⟨_,rfl,_,rfl,L,_,rfl,.inl (SqL.of (s1 _ _ eL)),_,_,rfl,rfl,_,rfl,?_⟩
  rw [zij,Xas (show ¬ (D.m:Int)≤(r.c:Int) by omega)]
  refine iteF ⟨_,rfl,r.i,rfl,Xai hi (by decide),fun H2 s2=>?_⟩
  have S2:=S.same (s1.trans s2)
  have h64:ones r.i≤64:=by
   have:=hsz _ f1
   by_cases hc:ones r.i≤64
   ·exact hc
   ·have:2 ^ 64≤2 ^ ones r.i:=XaW (by decide) (by omega)
    have:(5000:Nat)<2 ^ 64:=by decide
    omega
  obtain ⟨dx,ex⟩:=(S2.o _ f1).ex
  have k5:=(S2.k _ f1).k5
  have hlen:lenK (D.kd r.c) (vN (us r.c))=D.sz r.c:=by
   rw [← S.z _ f1]
   unfold lenK ksize
   split
   ·rfl
   ·exact zaz _
  refine ⟨_,_,rfl,rfl,⟨by omega,by omega,by decide⟩,_,rfl,_,rfl,L,_,_,_,rfl,rfl,SqL.of (s2 _ _ (s1 _ _ eL)),zaJ (zj4 f1),?_⟩
  refine ⟨_,cs (D.kd r.c),dx,_,_,_,rfl,ex,ML _ k5,_,_,_,_,rfl,(S2.o _ f1).ob,?_⟩
  rw [hlen]
  have hz:=hsz _ f1
  refine ⟨_,rfl,by omega,by omega,_,_,rfl,rfl,_,rfl,?_⟩
  have e1:(1:Int) * 2 ^ ((ones r.i:Nat):Int).toNat=((2 ^ ones r.i:Nat):Int):=by rw [Int.one_mul,Xat];norm_cast
  rw [Xas (show ¬ ((D.sz r.c:Nat):Int)<(1:Int) * 2 ^ ((ones r.i:Nat):Int).toNat by rw [e1];omega)]
  refine iteF ?_
  refine zay ?_
  try dsimp only
  have k:=k H2 (s1.trans s2)
  cases hl:r.l with
  | none =>
   rw [hl] at hlt
   obtain rfl:lt = .non:=hlt
   exact ⟨_,rfl,_,rfl,iteT k⟩
  | some o =>
   obtain ⟨c,a,b⟩:=o
   rw [hl] at hlt
   obtain ⟨u,rfl,eu⟩:=hlt
   obtain ⟨g1,g2⟩:=f3 c a b hl
   have eu2:=s2 _ _ (s1 _ _ eu)
   have eL2:=s2 _ _ (s1 _ _ eL)
   obtain ⟨dy,ey⟩:=(S2.o _ g1).ex
   rw [g2] at ey
   refine ⟨_,rfl,_,rfl,iteF ⟨_,rfl,u,_,_,_,rfl,rfl,SqT.of eu2,rfl,_,rfl,L,_,rfl,.inl (SqL.of eL2),_,_,rfl,rfl,_,rfl,?_⟩⟩
   rw [zij,Xap (show (c:Int)<(D.m:Int) by omega)]
   refine iteT ⟨_,rfl,_,rfl,u,_,_,_,rfl,rfl,SqT.of eu2,rfl,L,_,_,_,rfl,rfl,SqL.of eL2,zaJ (zj4 g1),_,_,_,true,rfl,TL ey,kk,k⟩
structure RwsFor (D:Dt)(m:Nat)(Y:Hp)(R:Addr)(ws:List (Addr×Rw)):Prop where
 e:Y R=some (.tup (refs ws))
 r:RwsAt2 m Y ws
 f:∀ z∈ws,Fit D z.2
 ln:ws.length≤60
theorem RwsFor.same {D:Dt}{m:Nat}{Y Z:Hp}{R:Addr}{ws:List (Addr×Rw)}(h:RwsFor D m Y R ws)(s:Same Y Z):RwsFor D m Z R ws:=⟨s _ _ h.e,h.r.same s,h.f,h.ln⟩
structure ClsBd (K:W.Frag)(C:Addr):Prop where
 cls:Cls K C
 bits:NoAttr K C "bits"
 rows:NoAttr K C "rows"
 chips:NoAttr K C "chips"
 floating:NoAttr K C "floating"
 latches:NoAttr K C "latches"
 watches:NoAttr K C "watches"
 next_watch:NoAttr K C "next_watch"
abbrev zcz:Stmt:=top 59
theorem sccheck_map:FnScope ["bits","rows","chips","number","row"] ["bits","rows","chips"] (zai zcz):=sck rfl rfl rfl (by decide +kernel)
inductive spChkMap (cs:Nat→Addr)(vs:List V)(H:Hp)(Q:VK)(u3_:XK):Prop
 | mk (m:Nat) (R L:Addr) (D:Dt) (us:Nat→List Nat) (ws:List (Addr×Rw)) (z0_:vs=[.int (m:Int),.ref R,.ref L]) (z1_:1≤m) (z2_:m≤16) (z3_:RwsFor D m H R ws) (z4_:H L=some (.lst (chL D))) (z5_:Chs cs D H us) (z6_:∀ H',Same H H'→Q .non H')
theorem zfU {f:Addr}{cs:Nat→Addr}{fd:FuncData}(F:Fun K "check_map" "check_map" zcz f fd)(T:Blt mg)(N:Nums mg)(Gis_number:Cal P w K mg base 1 "is_number" ["thing","last"] spIsNum)(Gis_map:Cal P w K mg base 5 "is_map" ["bits","thing"] spMapV)(Grow_fits:Cal P w K mg base 3 "row_fits" ["row","chips"] (spFits cs)):FnOk P w K mg base CX0 6 f fd ["bits","rows","chips"] (spChkMap cs):=by
 refine F.ok sccheck_map (by walk_at "l") (fun cdv A outer s H vs Q E hr h=>?_)
 ·obtain ⟨m,R,L,D,us,ws,rfl,h1,h2,hR,eL,S,k⟩:=h
  refine ⟨_,(zaf (zaG (PW.pt (zcf (zaX (zaP (pe_c Gis_number (zaa (pv 0) (zaa (zbm rfl N.MOST_BITS) zae))))) (zbF (zau zhN (pv 0) zad (zav _))))) (zah za6) zap)
   (zaf (zaG (zaX (zaP (pe_c Gis_map (zaa (pv 0) (zaa (pv 1) zae))))) (zah za6) zap)
   (zah (zbg PassesOwn.never rfl (zep rfl T.enumerate (zaa (pv 1) zae)) (zbv rfl (zao (pg_L 3 sccheck_map.nd) (zao (pg_L 4 sccheck_map.nd) zaY)))
   (zah (zaG (zaX (zaP (pe_c Grow_fits (zaa (pv 4) (zaa (pv 2) zae))))) (zah za6) zap)))))),?rd⟩
  refine ⟨_,rfl,_,_,rfl,_,rfl,?_⟩
  rw [Xap (show 0≤(m:Int)∧(m:Int)≤16 by omega)]
  refine iteF ⟨_,rfl,_,_,rfl,rfl,_,rfl,?_⟩
  rw [Xas (show ¬ (m:Int)<1 by omega)]
  refine iteF (zay ?_)
  try dsimp only
  refine ⟨_,rfl,_,rfl,m,R,ws,rfl,hR.e,hR.r,Xav hR.ln (by decide),h2,fun H1 s1=>⟨_,rfl,iteF (zay ?_)⟩⟩
  try dsimp only
  refine ⟨_,rfl,R,rfl,⟨_,SqT.of (s1 _ _ hR.e)⟩,?_⟩
  refine zdI (K:=K) (a:=R) (xs:=refs ws) (fun i σ X=>∃ (v3 v4:Option V),σ=[some (.int (m:Int)),some (.ref R),some (.ref L),v3,v4]∧Same H X) ⟨_,_,rfl,s1⟩ ?_ ?_ ?_
  ·rintro i σ X _ ⟨_,_,_,sX⟩
   exact SqT.of (sX _ _ hR.e)
  ·rintro i y U σ X hy hU ⟨v3,v4,rfl,sX⟩
   obtain ⟨z,hz,rfl⟩:=zc7 hy
   have hm:=Xau hz
   have sU:=sX.trans (zac (o:=.tup [.int (i:Int),.ref z.1]) hU)
   refine zgx ?_
   refine ⟨_,rfl,_,rfl,z.1,L,z.2,D,us,rfl,(hR.r z hm).1.same sU,Xai (hR.r z hm).2.i0 (XaW (by decide) h2),sU _ _ eL,S.same sU,hR.f z hm,fun H2 s2=>⟨_,rfl,iteF ⟨_,_,rfl,sU.trans s2⟩⟩⟩
  ·rintro σ X ⟨_,_,_,sX⟩
   exact k X sX
abbrev za2:Stmt:=zbi (top 10) 0
theorem zcA:FnScope ["self","word"] ["self","word"] (zai za2):=sck rfl rfl rfl (by decide +kernel)
inductive spNwI (C:Addr)(vs:List V)(H:Hp)(Q:VK)(u3_:XK):Prop
 | mk (e:Addr) (x:Int) (z0_:vs=[.ref e,.int x]) (z1_:x.natAbs<2 ^ 100) (z2_:H e=some (.ext (xFr e C none))) (z3_:∀ (dx:Addr) (H':Hp),H dx=none→dx≠e→H' e=some (.ext (xFr e C (some dx)))→H' dx=some (.ext (xDc dx [("word",.int x)]))→(∀ b o,b≠e→H b=some o→H' b=some o)→Q .non H')
theorem zcL {f C fI:Addr}{fd:FuncData}(F:Fun K "__init__" "NoWord.__init__" za2 f fd)(T:Blt mg)(GSBusError:SupI K mg "BusError")(c:ExcI K C fI)(t1:W.takerIn K C "word" = some none):FnOk P w K mg base CX0 1 f fd ["self","word"] (spNwI C):=by
 refine F.ok zcA (by walk_at "l") (fun cdv A outer s H vs Q E hr h=>?_)
 ·obtain ⟨e,x,rfl,hx,ee,k⟩:=h
  refine ⟨_,(zaf (zaA (zhG GSBusError rfl (zaa (pv 0) (zaa (zjO ⟨_,_,_,rfl⟩ (zeW zaE (zgn (pv 1) zjM))) zae))))
   (zah (zgm rfl (pv 0) (pv 1) rfl))),?rd⟩
  refine ⟨_,rfl,_,rfl,(by decide:(9:Nat)≤1000),_,rfl,x,rfl,Xai hx (XaW (by decide) (by decide)),fun z=>?_⟩
  refine ⟨e,C,fI,none,_,rfl,ee,c,?_⟩
  refine ⟨_,rfl,_,rfl,e,C,fI,rfl,ee,c,t1,fun dx hdx ne=>?_⟩
  refine k dx _ hdx ne (by rw [zag (Ne.symm ne)];exact zab) zab fun b o hb eb=>?_
  rw [zag (zaj eb hdx),zag hb]
  exact eb
abbrev zbL:Stmt:=top 60
theorem sccheck_clash:FnScope ["rows","clash","address","first","second","words"] ["rows"] (zai zbL):=sck rfl rfl rfl (by decide +kernel)
theorem zi9:∀ {o p:Option (Nat×Nat×Nat)},zjz o→zjz p→∀ q∈lwL o p,q.1.natAbs<10 ^ 12∧q.2.natAbs<10 ^ 12
 | none,none,_,_,q,hq=>by cases hq
 | some (c,a,b),none,⟨h1,h2,h3⟩,_,q,hq=>by
  have:=zgi h3 h2
  rw [show lwL (some (c,a,b)) none=[((c:Int),(b:Int))] from rfl,Xac] at hq
  subst hq
  exact ⟨by show (c:Int).natAbs<_;omega,by show (b:Int).natAbs<_;omega⟩
 | none,some (c,a,b),_,⟨h1,h2,h3⟩,q,hq=>by
  have:=zgi h3 h2
  rw [show lwL none (some (c,a,b))=[((c:Int),(b:Int))] from rfl,Xac] at hq
  subst hq
  exact ⟨by show (c:Int).natAbs<_;omega,by show (b:Int).natAbs<_;omega⟩
 | some (c,a,b),some (d,x,y),⟨h1,h2,h3⟩,⟨g1,g2,g3⟩,q,hq=>by
  have hb:=zgi h3 h2
  have hy:=zgi g3 g2
  have ho:=or_256 hb hy
  have hq:q∈(if c=d then [((c:Int),((b ||| y:Nat):Int))] else srt2 [((c:Int),(b:Int)),((d:Int),(y:Int))]):=hq
  split at hq
  ·rw [Xac] at hq
   subst hq
   exact ⟨by show (c:Int).natAbs<_;omega,by show (((b ||| y:Nat):Int)).natAbs<_;omega⟩
  ·have hq':q=((c:Int),(b:Int))∨q=((d:Int),(y:Int)):=by
    have hq:q∈(if (d:Int)<(c:Int) then [((d:Int),(y:Int)),((c:Int),(b:Int))] else [((c:Int),(b:Int)),((d:Int),(y:Int))]):=hq
    split at hq
    ·rcases Xal.mp hq with h | h
     ·exact .inr h
     ·exact .inl (Xac.mp h)
    ·rcases Xal.mp hq with h | h
     ·exact .inl h
     ·exact .inr (Xac.mp h)
   rcases hq' with rfl | rfl
   ·exact ⟨by show (c:Int).natAbs<_;omega,by show (b:Int).natAbs<_;omega⟩
   ·exact ⟨by show (d:Int).natAbs<_;omega,by show (y:Int).natAbs<_;omega⟩
theorem zh5 {K:W.Frag}{i j k l:Nat}{T:Addr}{x y z u:V}{σ:St}{H:Hp}{Q:St→Hp→Prop}(e:H T=some (.tup [x,y,z,u]))(h:Q ((((σ.set i (some x)).set j (some y)).set k (some z)).set l (some u)) H) :
  gTup K 4 (gCons (za7 i) (gCons (za7 j) (gCons (za7 k) (gCons (za7 l) gNil)))) (.ref T) σ H Q:=
 ⟨T,[x,y,z,u],rfl,SqT.of e,rfl,x,[y,z,u],rfl,y,[z,u],rfl,z,[u],rfl,u,[],rfl,rfl,h⟩
def rsOf (ws:List (Addr×Rw)):List Rw:=ws.map (·.2)
inductive spChkX (CT:Addr)(vs:List V)(H:Hp)(Q:VK)(E:XK):Prop
 | mk (m:Nat) (R:Addr) (D:Dt) (ws:List (Addr×Rw)) (z0_:vs=[.ref R]) (z1_:RwsFor D m H R ws) (z2_:m≤16) (z3_:((∀ i j x,¬ cand (rsOf ws) i j x)→∀ H',Same H H'→Q .non H')) (z4_:∀ x i j r q,IsDue (rsOf ws) x i j→(rsOf ws)[i]? = some r→(rsOf ws)[j]? = some q→∀ (dx p:Addr) (H':Hp),H' dx=some (.ext (xDc dx (clF x i j p)))→PrsAt H' p (lwL r.l q.l)→Same H H'→E (.ref CT) (some dx) H')
theorem zev {f CT:Addr}{fd:FuncData}(F:Fun K "check_clash" "check_clash" zbL f fd)(T:Blt mg)(Gclash_of:Cal P w K mg base 4 "clash_of" ["rows"] spClashOf)(GI_Clash:XIni P w K mg base 1 "Clash" CT (spClI CT)):FnOk P w K mg base (CX1 P w) 5 f fd ["rows"] (spChkX CT):=by
 refine F.okX sccheck_clash (by walk_at "l") (fun cdv A outer s H vs Q E hr h=>?_)
 ·obtain ⟨m,R,D,ws,rfl,hR,hm,kn,kc⟩:=h
  refine ⟨_,(zaf (PS.nox (ps_L 1 sccheck_clash.nd (pe_c Gclash_of (zaa (pv 0) zae))))
   (zah (zaG (PT.nox (zb3 (zcK (pv 1)))) (zaf (PS.nox (zcR (pv 1) (zbv rfl (zao (pg_L 2 sccheck_clash.nd) (zao (pg_L 3 sccheck_clash.nd) (zao (pg_L 4 sccheck_clash.nd) (zao (pg_L 5 sccheck_clash.nd) zaY)))))))
   (zah (zeU (E:=E) GI_Clash (hrm hr) rfl rfl rfl (PA.nox (zaa (pv 2) (zaa (pv 3) (zaa (pv 4) (zaa (pv 5) zae))))) (fun pins σ H2 s2 ea od I e n hE=>zeM I e n hE)))) zap))),?rd⟩
  refine ⟨_,rfl,R,ws.map (·.1),ws.map (·.2),rfl,?_,by rw [Xae,Xae],by rw [Xae];have:=hR.ln;omega,fun j a r ha hr'=>?_,fun hn H1 s1=>?_,fun x i j r q hx h1 h2 tp wp H1 ht et hp s1=>?_⟩
  ·rw [Xby];exact hR.e
  ·rw [Xan] at ha hr'
   obtain ⟨z,hz,rfl⟩:=Xaw.mp ha
   rw [hz] at hr'
   cases hr'
   exact (hR.r z (Xau hz)).1
  ·exact ⟨_,rfl,_,rfl,iteF (kn (zgy hn) H1 s1)⟩
  ·have due:=zgA hx
   have ok:∀ {k:Nat} {r:Rw},(ws.map (·.2))[k]? = some r→RwOk m r∧k<60:=fun {k r} hk=>by
    rw [Xan] at hk
    obtain ⟨z,hz,rfl⟩:=Xaw.mp hk
    exact ⟨(hR.r z (Xau hz)).2,by have:=(Xag.mp hz).1;have:=hR.ln;omega⟩
   obtain ⟨ok1,li⟩:=ok h1
   obtain ⟨ok2,lj⟩:=ok h2
   have hx16:x<2 ^ 100:=by
    obtain ⟨_,r',q',e1,e2,_,e3⟩:=due.1
    rw [h1] at e1
    rw [h2] at e2
    cases e1
    cases e2
    rw [e3]
    exact Xai (Nat.or_lt_two_pow ok1.w0 ok2.w0) (XaW (by decide) (by omega))
   refine ⟨_,rfl,_,rfl,iteT ⟨_,rfl,zh5 et ?_⟩⟩
   refine ⟨_,rfl,_,rfl,_,rfl,_,rfl,(by decide:(4:Nat)≤1000),fun e he=>?_⟩
   have sE:=zac (o:=.ext (xFr e CT none)) he
   refine ⟨e,wp,x,i,j,lwL r.l q.l,rfl,hx16,by omega,by omega,zab,hp.same sE,by have:=zjT r.l q.l;omega,zi9 ok1.l0 ok2.l0,fun dx H2 hdx ne e1 e2 fr=>⟨rfl,some dx,e1,?_⟩⟩
   have s2:Same H1 (unt H2 e):=fun b o eb=>by
    have hb:b≠e:=zaj eb he
    rw [zdW hb]
    exact fr b o hb (by rw [zag hb];exact eb)
   exact kc x i j r q due h1 h2 dx wp _ (by rw [zdW ne];exact e2) (hp.same s2) (s1.trans s2)
abbrev zb9:Stmt:=top 26
theorem zeT:FnScope ["word"] ["word"] (zai zb9):=sck rfl rfl rfl (by decide +kernel)
inductive spChkWX (CT:Addr)(vs:List V)(H:Hp)(Q:VK)(E:XK):Prop
 | mk (x:Int) (z0_:vs=[.int x]) (z1_:x.natAbs<2 ^ 100) (z2_:((0≤x∧x≤255∧Q .non H)∨((¬ (0≤x∧x≤255))∧∀ (dx:Addr) (H':Hp),H' dx=some (.ext (xDc dx [("word",.int x)]))→Same H H'→E (.ref CT) (some dx) H')))
theorem ze2 {f CT:Addr}{fd:FuncData}(F:Fun K "check_word" "check_word" zb9 f fd)(T:Blt mg)(Gis_word:Cal P w K mg base 2 "is_word" ["thing"] spIsWord)(GI_NoWord:XIni P w K mg base 1 "NoWord" CT (spNwI CT)):FnOk P w K mg base (CX1 P w) 3 f fd ["word"] (spChkWX CT):=by
 refine F.okX zeT (by walk_at "l") (fun cdv A outer s H vs Q E hr h=>?_)
 ·obtain ⟨x,rfl,hx,k⟩:=h
  refine ⟨_,(zah (zaG (PT.nox (zaX (zaP (pe_c Gis_word (zaa (pv 0) zae))))) (zah (zeU (E:=E) GI_NoWord (hrm hr) rfl rfl rfl (PA.nox (zaa (pv 0) zae)) (fun pins σ H2 s2 ea od I e n hE=>zeM I e n hE))) zap)),?rd⟩
  refine ⟨_,rfl,x,rfl,_,rfl,?_⟩
  rcases k with ⟨h1,h2,k⟩ | ⟨hn,k⟩
  ·rw [Xap ⟨h1,h2⟩]
   exact iteF k
  ·rw [Xas hn]
   refine iteT ⟨_,rfl,(by decide:(1:Nat)≤1000),fun e he=>?_⟩
   refine ⟨e,x,rfl,hx,zab,fun dx H2 hdx ne e1 e2 fr=>⟨rfl,some dx,e1,?_⟩⟩
   refine k dx _ (by rw [zdW ne];exact e2) fun b o eb=>?_
   have hb:b≠e:=zaj eb he
   rw [zdW hb]
   exact fr b o hb (by rw [zag hb];exact eb)
abbrev zbf:Stmt:=zbi (top 62) 0
theorem zcZ:FnScope ["self","bits","rows","chips","floating"] ["self","bits","rows","chips","floating"] (zai zbf):=sck rfl rfl rfl (by decide +kernel)
def lcs (ws:List (Addr×Rw)):List Nat:=ws.filterMap fun z=>z.2.l.map (·.1)
set_option tactic.hygienic true in
theorem zjq (ys:List Int):(dd ys).Nodup:=by
 have g:∀ (l S:List Int),S.Nodup→(l.foldl (fun S n=>if n∈S then S else S ++ [n]) S).Nodup:=by
  intro l
  induction l with
  | nil=>intro S h;exact h
  | cons a l ih =>
   intro S h
   rw [List.foldl_cons]
   refine ih _ ?_
   split
   ·exact h
   ·rename_i ha
    rw [Xbb]
    exact ⟨h,by simp,fun x hx y hy=>by rw [Xac] at hy;subst hy;exact fun z=>ha (z ▸ hx)⟩
 exact g ys [] List.nodup_nil
theorem zjc {ws:List (Addr×Rw)}{j:Nat}{z:Addr×Rw}(h:ws[j]? = some z):lcs (ws.take (j+1))=lcs (ws.take j) ++ (z.2.l.map (·.1)).toList:=by
 unfold lcs
 rw [List.take_succ,h,List.filterMap_append]
 congr 1
inductive spInitX (C CT CW:Addr)(cs:Nat→Addr)(vs:List V)(H:Hp)(Q:VK)(E:XK):Prop
 | mk (b db R L:Addr) (m:Nat) (fl:Int) (D:Dt) (us:Nat→List Nat) (ws:List (Addr×Rw)) (z0_:vs=[.ref b,.int (m:Int),.ref R,.ref L,.int fl]) (z1_:H b=some (.ins C db [])) (z2_:1≤m) (z3_:m≤16) (z4_:fl.natAbs<2 ^ 100) (z5_:RwsFor D m H R ws) (z6_:H L=some (.lst (chL D))) (z7_:Chs cs D H us) (z8_:((∀ i j x,¬ cand (rsOf ws) i j x)→((0≤fl∧fl≤255)→∀ H':Hp,(∀ a o,a≠b→H a=some o→H' a=some o)→Q .non H')∧((¬ (0≤fl∧fl≤255))→∀ (dx:Addr) (H':Hp),H' dx=some (.ext (xDc dx [("word",.int fl)]))→Same H H'→E (.ref CW) (some dx) H'))) (z9_:∀ x i j r q,IsDue (rsOf ws) x i j→(rsOf ws)[i]? = some r→(rsOf ws)[j]? = some q→∀ (dx p:Addr) (H':Hp),H' dx=some (.ext (xDc dx (clF x i j p)))→PrsAt H' p (lwL r.l q.l)→Same H H'→E (.ref CT) (some dx) H')
theorem zc5 {f:Addr}{C CT CW:Addr}{cs:Nat→Addr}{fd:FuncData}{dV:Value}(F:FunD K "__init__" "Board.__init__" zbf dV f fd)(T:Blt mg)(GBsorted:mg "sorted" = none)(cl:ClsBd K C)(Gcheck_map:Cal P w K mg base 6 "check_map" ["bits","rows","chips"] (spChkMap cs))(GXcheck_clash:CalX P w K mg base 5 "check_clash" ["rows"] (spChkX CT))(GXcheck_word:CalX P w K mg base 3 "check_word" ["word"] (spChkWX CW)):FnOk P w K mg base (CX1 P w) 7 f fd ["self","bits","rows","chips","floating"] (spInitX C CT CW cs):=by
 refine F.okX zcZ (by walk_at "l") (fun cdv A outer s H vs Q E hr h=>?_)
 ·obtain ⟨b,db,R,L,m,fl,D,us,ws,rfl,eb,h1,h2,hf,hR,eL,S,kn,kc⟩:=h
  refine' ⟨_,(zaf (PS.nox (zaA (pe_c Gcheck_map (zaa (pv 1) (zaa (pv 2) (zaa (pv 3) zae))))))
   (zaf (zaA (zhJ GXcheck_clash (hrm hr) rfl (Passes.s zge) (zaa (pv 2) zae)))
   (zaf (zaA (zhJ GXcheck_word (hrm hr) rfl (Passes.s zge) (zaa (pv 4) zae)))
   (zaf (PS.nox (zb4 (pv 0) (pv 1) rfl))
   (zaf (PS.nox (zb4 (pv 0) (pv 2) rfl))
   (zaf (PS.nox (zb4 (pv 0) (za1 zcS (by rfl) T.list zdO (zaa (pv 3) zae)) rfl))
   (zaf (PS.nox (zb4 (pv 0) (pv 4) rfl))
   (zaf (PS.nox (zb4 (pv 0) (zal (zfo rfl) (by rfl) GBsorted zdN (zaa ?c1 zae)) rfl))
   (zaf (PS.nox (zb4 (pv 0) zer rfl))
   (zah (PS.nox (zb4 (pv 0) zad rfl)))))))))))),?rd⟩
  (case c1=>exact (zgS (Nc:=["row"]) [none] rfl (zaQ (by rfl)) (zhE (pv 2)) (fun _ _ _ _ _=>(pg_L 0 (show (["row"]:List Str).Nodup by decide +kernel))) (fun _ _ _ _ _=>(zgo (zb3 (zcK (pe_x (zey (K:=K) rfl) (pv 0) zad))))) (fun _ _ _ _ _=>(pe_x (zey (K:=K) rfl) (pe_x (zey (K:=K) rfl) (pv 0) zad) zad))))
  refine ⟨_,rfl,_,rfl,_,rfl,m,R,L,D,us,ws,rfl,h1,h2,hR,eL,S,fun H1 s1=>?_⟩
  refine ⟨_,rfl,m,R,D,ws,rfl,hR.same s1,h2,fun hnc H2 s2=>?_,fun x i j r q hd g1 g2 dx p H2 e1 e2 s2=>kc x i j r q hd g1 g2 dx p H2 e1 e2 (s1.trans s2)⟩
  obtain ⟨k,kw⟩:=kn hnc
  have s12:=s1.trans s2
  refine ⟨_,rfl,fl,rfl,hf,?_⟩
  by_cases hw:0≤fl∧fl≤255
  rotate_left
  ·exact .inr ⟨hw,fun dx H3 e3 s3=>kw hw dx H3 e3 (s12.trans s3)⟩
  have k:=k hw
  refine .inl ⟨hw.1,hw.2,?_⟩
  refine ⟨_,rfl,_,rfl,b,C,db,_,rfl,s12 _ _ eb,cl.cls,cl.bits,by show 0<1000;decide,?_⟩
  refine ⟨_,rfl,_,rfl,b,C,db,_,rfl,zab,cl.cls,cl.rows,by show 1<1000;decide,?_⟩
  have nLb:L≠b:=fun z=>by rw [z,eb] at eL;cases eL
  refine ⟨_,rfl,L,chL D,rfl,.inl (SqL.of (by rw [zag nLb,zag nLb];exact s12 _ _ eL)),fun l hl=>?_⟩
  have nlb:l≠b:=fun z=>by rw [z,zab] at hl;cases hl
  refine ⟨_,rfl,b,C,db,_,rfl,by rw [zag (Ne.symm nlb)];exact zab,cl.cls,cl.chips,by show 2<1000;decide,?_⟩
  refine ⟨_,rfl,_,rfl,b,C,db,_,rfl,zab,cl.cls,cl.floating,by show 3<1000;decide,?_⟩
  have hl2:H2 l=none:=by rw [zag nlb,zag nlb] at hl;exact hl
  refine zgb (fun Y=>Y b=some (.ins C db [("bits",.int (m:Int)),("rows",.ref R),("chips",.ref l),("floating",.int fl)])∧Y l=some (.lst (chL D))∧∀ a o,a≠b→H2 a=some o→Y a=some o) ⟨zab,by rw [zag nlb,zag nlb];exact zab,fun a o ha ea=>by rw [zag ha,zag ha,zag (zaj ea hl2),zag ha,zag ha];exact ea⟩ ?_
  rintro Y ⟨yb,yl,fr⟩
  have nRb:R≠b:=fun z=>by have:=hR.e;rw [z,eb] at this;cases this
  have yR:=fr _ _ nRb (s12 _ _ hR.e)
  refine ⟨_,rfl,R,rfl,⟨_,SqT.of yR⟩,?_⟩
  refine zih (K:=K) (xs:=refs ws) (fun j ys σ H1=>∃ v0,σ=[v0]∧ys=(lcs (ws.take j)).map (fun (n:Nat)=>(n:Int))∧ys.length≤j∧H1=Y) (by rw [zat];have:=hR.ln;omega) ⟨none,rfl,rfl,Xaf _,rfl⟩ ?_ ?_ ?_
  ·rintro j ys σ H1 hj ⟨v0,rfl,_,hl',rfl⟩
   exact ⟨SqT.of yR,hl'⟩
  ·rintro j y ys σ H1 hy ⟨v0,rfl,hys,hl',rfl⟩
   obtain ⟨z,hz,rfl⟩:=zc7 hy
   have hm:=Xau hz
   obtain ⟨lt,et,hlt⟩:=(hR.r z hm).1
   have yt:=fr _ _ (fun e=>by rw [e,eb] at et;cases et) (s12 _ _ et)
   rw [zjc hz]
   cases hl:z.2.l with
   | none =>
    rw [hl] at hlt
    obtain rfl:lt = .non:=hlt
    exact ⟨_,rfl,z.1,_,_,_,rfl,rfl,SqT.of yt,rfl,_,rfl,iteF ⟨_,rfl,by rw [hys];simp,by omega,rfl⟩⟩
   | some o =>
    obtain ⟨c,a,b'⟩:=o
    rw [hl] at hlt
    obtain ⟨u,rfl,eu⟩:=hlt
    have yu:=fr _ _ (fun e=>by rw [e,eb] at eu;cases eu) (s12 _ _ eu)
    refine ⟨_,rfl,z.1,_,_,_,rfl,rfl,SqT.of yt,rfl,_,rfl,iteT ⟨_,rfl,z.1,_,_,_,rfl,rfl,SqT.of yt,rfl,u,_,_,_,rfl,rfl,SqT.of yu,rfl,(c:Int),rfl,_,rfl,by rw [hys];simp,by rw [Xao];simp;omega,rfl⟩⟩
  ·rintro ys σ H1 ⟨v0,rfl,hys,hl',rfl⟩ d hd
   rw [zat,XaY (Xaf _)] at hys
   have hln:=hR.ln
   have hdl:=zj2 ys
   rw [zat] at hl'
   have ndb:d≠b:=fun e=>by rw [e,yb] at hd;cases hd
   refine ⟨d,dd ys,rfl,zab,by omega,fun la ns hla pm _=>?_⟩
   have hns:∀ n∈ns,∃ c:Nat,n=(c:Int)∧c∈lcs ws:=fun n hn=>by
    have:=mem_dd.mp (pm.mem_iff.mp hn)
    rw [hys,XaJ] at this
    obtain ⟨c,hc,e⟩:=this
    exact ⟨c,e.symm,hc⟩
   obtain ⟨keys,hk⟩:∃ keys:List Nat,ns=keys.map fun (n:Nat)=>(n:Int):=⟨ns.map Int.toNat,by
    rw [Xby]
    conv=>lhs;rw [← List.map_id ns]
    refine List.map_congr_left fun n hn=>?_
    obtain ⟨c,e,_⟩:=hns n hn
    show n=((n.toNat:Nat):Int)
    omega⟩
   have knd:keys.Nodup:=by
    have h1:ns.Nodup:=pm.nodup_iff.mpr (zjq ys)
    rw [hk] at h1
    exact (List.pairwise_map.mp h1).imp fun h e=>h (by rw [e])
   have kmem:∀ c,c∈keys↔c∈lcs ws:=fun c=>by
    constructor
    ·intro hc
     obtain ⟨c',e,hc'⟩:=hns (c:Int) (by rw [hk];exact Xbp hc)
     rw [show c=c' by omega];exact hc'
    ·intro hc
     have:(c:Int)∈ns:=pm.mem_iff.mpr (mem_dd.mpr (by rw [hys];exact Xbp hc))
     rw [hk,XaJ] at this
     obtain ⟨c',hc',e⟩:=this
     rw [show c=c' by omega];exact hc'
   have nlab:la≠b:=fun e=>by rw [e,zag (Ne.symm ndb),yb] at hla;cases hla
   have nlad:la≠d:=fun e=>by rw [e,zab] at hla;cases hla
   have yla:H1 la=none:=by rw [zag nlad] at hla;exact hla
   have eV:ns.map V.int=vN keys:=by rw [hk,Xby];rfl
   rw [eV]
   refine ⟨_,rfl,b,C,db,_,rfl,by rw [zag (Ne.symm nlab),zag (Ne.symm ndb)];exact yb,cl.cls,cl.latches,by show 4<1000;decide,?_⟩
   refine zgb (fun Z=>Z b=some (.ins C db [("bits",.int (m:Int)),("rows",.ref R),("chips",.ref l),("floating",.int fl),("latches",.ref la)])∧Z la=some (.lst (vN keys))∧∀ a o,a≠b→H1 a=some o→Z a=some o) ⟨zab,by rw [zag nlab];exact zab,fun a o ha ea=>by rw [zag ha,zag (zaj ea yla),zag (zaj ea hd)];exact ea⟩ ?_
   rintro Z ⟨zb,zla,frZ⟩ wd hwd
   have nwb:wd≠b:=fun e=>by rw [e,zb] at hwd;cases hwd
   refine ⟨_,rfl,b,C,db,_,rfl,by rw [zag (Ne.symm nwb)];exact zb,cl.cls,cl.watches,by show 5<1000;decide,?_⟩
   refine ⟨_,rfl,b,C,db,_,rfl,zab,cl.cls,cl.next_watch,by show 6<1000;decide,?_⟩
   refine k _ fun a o ha ea=>?_
   have ez:=frZ a o ha (fr a o ha (s12 _ _ ea))
   rw [zag ha,zag ha,zag (zaj ez hwd)]
   exact ez
abbrev zcc:Stmt:=top 64
theorem sc_law_draws:FnScope ["cell","count","row","rest","base","more","k","stir"] ["cell","count"] (zai zcc):=sck rfl rfl rfl (by decide +kernel)
inductive spDraws (vs:List V)(H:Hp)(Q:VK)(u3_:XK):Prop
 | mk (c:Int) (n:Nat) (z0_:vs=[.int c,.int (n:Int)]) (z1_:n≤200) (z2_:∀ (p:Addr) (H':Hp) (row:List Nat),H p=none→H' p=some (.lst (vN row))→row.length=n→(∀ v∈row,v<2 ^ 31)→Same H H'→Q (.ref p) H')
theorem ze5 {f:Addr}{fd:FuncData}(F:Fun K "_law_draws" "_law_draws" zcc f fd)(T:Blt mg):FnOk P w K mg base CX0 1 f fd ["cell","count"] spDraws:=by
 refine F.ok sc_law_draws (by walk_at "l") (fun cdv A outer s H vs Q E hr h=>?_)
 ·obtain ⟨c,n,rfl,hn,k⟩:=h
  refine ⟨_,(zaf (ps_L 2 sc_law_draws.nd (zaw zae))
   (zaf (ps_L 3 sc_law_draws.nd (zak zb5 (pv 0) (zak zgq zad zad)))
   (zaf (ps_L 4 sc_law_draws.nd (zak zaM (zak zax (pv 0) zad) zad))
   (zaf (ps_L 5 sc_law_draws.nd (zak zax (pv 0) zad))
   (zaf (zbg PassesOwn.never rfl (zbu rfl T.range (zaa (pv 1) zae)) (pg_L 6 sc_law_draws.nd)
   (zaf (ps_L 7 sc_law_draws.nd (zak zax (zak zbN (pv 4) (zak zaM (zak zbN zad (pv 6)) zad)) zad))
   (zaf (ps_L 7 sc_law_draws.nd (zak zax (zak zaM (zak zgq (pv 7) zad) (zak zgq (zak zaM (pv 6) zad) zad)) zad))
   (zaf (ps_L 7 sc_law_draws.nd (zak zaB (zak zax (zak zgq (zak zaM (pv 7) (pv 5)) zad) zad) zad))
   (zaf (zaG (zau ze0 (pv 3) zad (zav _)) (zaf (ps_L 7 sc_law_draws.nd (zak zax (pv 3) zad))
   (zah (ps_L 3 sc_law_draws.nd (zak zaB (pv 3) zad)))) zap)
   (zah (zaA (zb0 PySem.F.plainAttrs_list PySem.F.slot_list_append PySem.F.type_list_append zaC (pv 2) (zaa (pv 7) zae)))))))))
   (zah (zaq (pv 2)))))))),?rd⟩
  refine ⟨by show 0≤sizeLine;decide,fun l hl=>?_⟩
  refine ⟨_,rfl,_,_,rfl,rfl,⟨by decide,by decide,by decide⟩,_,_,rfl,rfl,?_⟩
  refine ⟨_,rfl,_,_,rfl,rfl,(show (0:Int)<1000000007 by decide),_,_,rfl,rfl,?_⟩
  refine ⟨_,rfl,_,_,rfl,rfl,(show (0:Int)<999983 by decide),?_⟩
  refine ⟨_,rfl,_,rfl,by omega,by omega,?_⟩
  have b0:=XbD c (show (1000000007:Int)≠0 by decide)
  have b1:=Xbi c (show (0:Int)<1000000007 by decide)
  have m0:=XbD c (show (999983:Int)≠0 by decide)
  have m1:=Xbi c (show (0:Int)<999983 by decide)
  rw [Xat]
  refine zbQ (n:=n) (fun i σ X=>∃ (v6 v7:Option V) (rest:Int) (row:List Nat),σ=[some (.int c),some (.int (n:Int)),some (.ref l),some (.int rest),some (.int (c % 1000000007+1)),some (.int (c % 999983)),v6,v7]∧X l=some (.lst (vN row))∧row.length=i∧(∀ v∈row,v<2 ^ 31)∧Same H X) ⟨none,none,_,[],rfl,zab,rfl,(fun v hv=>by cases hv),zac hl⟩ ?_ ?_
  ·rintro i σ X hi ⟨v6,v7,rest,row,rfl,eX,hlen,hrow,sX⟩
   refine ⟨_,rfl,_,rfl,_,_,rfl,rfl,zcp (by decide) (by omega),_,_,rfl,rfl,_,_,rfl,rfl,zcp (by omega) (by omega),_,_,rfl,rfl,(show (0:Int)<2147483647 by decide),?_⟩
   generalize hs1:(c % 1000000007+1) * (2 * (0+(i:Int))+3) % 2147483647=st1
   have s10:0≤st1:=by rw [← hs1];exact XbD _ (by decide)
   have s11:st1<2147483647:=by rw [← hs1];exact Xbi _ (by decide)
   refine ⟨_,rfl,_,_,rfl,rfl,⟨by decide,by decide,by omega⟩,_,rfl,_,_,rfl,rfl,_,_,rfl,rfl,⟨by decide,by decide,by omega⟩,_,_,rfl,rfl,_,_,rfl,rfl,(show (0:Int)<2147483629 by decide),?_⟩
   show za7 7 (V.int ((st1 ^ (5:Int).toNat+(0+(i:Int)+1) ^ (3:Int).toNat) % 2147483629)) _ _ _
   generalize hs2:(st1 ^ (5:Int).toNat+(0+(i:Int)+1) ^ (3:Int).toNat) % 2147483629=st2
   have s20:0≤st2:=by rw [← hs2];exact XbD _ (by decide)
   have s21:st2<2147483629:=by rw [← hs2];exact Xbi _ (by decide)
   refine ⟨_,rfl,_,rfl,_,_,rfl,rfl,_,_,rfl,rfl,⟨by decide,by decide,by omega⟩,_,_,rfl,rfl,(show (0:Int)<2147483587 by decide),_,_,rfl,rfl,(show (0:Int)<16∧(16:Int).natAbs.log2<9000 by decide),?_⟩
   show za7 7 (V.int ((st2+c % 999983) ^ (3:Int).toNat % 2147483587 / 16)) _ _ _
   generalize hs3:(st2+c % 999983) ^ (3:Int).toNat % 2147483587=st3
   have s30:0≤st3:=by rw [← hs3];exact XbD _ (by decide)
   have s31:st3<2147483587:=by rw [← hs3];exact Xbi _ (by decide)
   have app:∀ v:Int,0≤v→v<2147483587→∃ row':List Nat,upd X l (.lst (vN row ++ [V.int v])) l=some (.lst (vN row'))∧row'.length=i+1∧(∀ u∈row',u<2 ^ 31)∧Same H (upd X l (.lst (vN row ++ [V.int v]))):=fun v h0 h1=>by
    obtain ⟨u,rfl⟩:=Int.eq_ofNat_of_zero_le h0
    refine ⟨row ++ [u],by rw [zab,zdd],by rw [Xao,hlen];rfl,fun z hz=>?_,fun b o e=>by rw [zag (zaj e hl)];exact sX b o e⟩
    rcases XaF.mp hz with hz | hz
    ·exact hrow z hz
    ·rw [Xac] at hz;omega
   have hsz:(vN row).length<sizeLine:=by rw [zaz,hlen];exact zdj (by omega)
   refine ⟨_,rfl,_,_,rfl,rfl,_,rfl,ite2 (fun h1=>?_) (fun h1=>zay ?_)⟩
   ·refine ⟨_,rfl,_,_,rfl,rfl,(show (0:Int)<1000003 by decide),?_⟩
    refine ⟨_,rfl,_,_,rfl,rfl,(show (0:Int)<1000003∧(1000003:Int).natAbs.log2<9000 by decide),?_⟩
    have r0:=XbD rest (show (1000003:Int)≠0 by decide)
    have r1:=Xbi rest (show (0:Int)<1000003 by decide)
    obtain ⟨row',g1,g2,g3,g4⟩:=app (rest % 1000003) r0 (by omega)
    exact ⟨_,rfl,.inl ⟨rfl,_,SqL.of eX⟩,_,rfl,l,_,_,rfl,rfl,eX,hsz,_,_,_,row',rfl,g1,g2,g3,g4⟩
   ·dsimp only
    obtain ⟨row',g1,g2,g3,g4⟩:=app (st3 / 16) (by omega) (by omega)
    exact ⟨_,rfl,.inl ⟨rfl,_,SqL.of eX⟩,_,rfl,l,_,_,rfl,rfl,eX,hsz,_,_,_,row',rfl,g1,g2,g3,g4⟩
  ·rintro σ X ⟨v6,v7,rest,row,rfl,eX,hlen,hrow,sX⟩
   exact ⟨_,rfl,k l X row hl eX hlen hrow sX⟩
abbrev zcE:Stmt:=top 65
theorem sc_law_ones:FnScope ["mask","found","bit"] ["mask"] (zai zcE):=sck rfl rfl rfl (by decide +kernel)
theorem zjE (m i:Nat):sgl (m % 2 ^ (i+1))=sgl (m % 2 ^ i) ++ (if m &&& 2 ^ i=0 then [] else [2 ^ i]):=by
 rw [← zdD,← zdD,show zb2 m (i+1)=zb2 m i ++ [m / 2 ^ i % 2] from zea i m]
 have e:m &&& 2 ^ i=2 ^ i * (m / 2 ^ i % 2):=by
  apply Nat.eq_of_testBit_eq
  intro j
  rw [XaD,Xbq]
  rcases (show m / 2 ^ i % 2=0∨m / 2 ^ i % 2=1 by omega) with h | h
  ·rw [h,Nat.mul_zero,Nat.zero_testBit]
   by_cases e:i=j
   ·subst e
    rw [Nat.testBit_eq_decide_div_mod_eq,h];rfl
   ·rw [Xas e,Bool.and_false]
  ·rw [h,Nat.mul_one,Xbq]
   by_cases e:i=j
   ·subst e
    rw [Nat.testBit_eq_decide_div_mod_eq,h];simp
   ·rw [Xas e,Bool.and_false]
 rw [e]
 rcases (show m / 2 ^ i % 2=0∨m / 2 ^ i % 2=1 by omega) with h | h
 ·rw [h,if_pos (by omega),Xa7,ze8]
 ·rw [h,if_neg (by have:=XbE i;omega),zeR _ (zft i m),zcT]
inductive spOnesL (vs:List V)(H:Hp)(Q:VK)(u3_:XK):Prop
 | mk (n:Nat) (z0_:vs=[.int (n:Int)]) (z1_:n<2 ^ 32) (z2_:∀ (p:Addr) (H':Hp),H p=none→H' p=some (.lst (vN (sgl n)))→Same H H'→Q (.ref p) H')
theorem zfX {f:Addr}{fd:FuncData}(F:Fun K "_law_ones" "_law_ones" zcE f fd)(T:Blt mg):FnOk P w K mg base CX0 1 f fd ["mask"] spOnesL:=by
 refine F.ok sc_law_ones (by walk_at "l") (fun cdv A outer s H vs Q E hr h=>?_)
 ·obtain ⟨n,rfl,hn,k⟩:=h
  refine ⟨_,(zaf (ps_L 1 sc_law_ones.nd (zaw zae))
   (zaf (ps_L 2 sc_law_ones.nd zad)
   (zaf (zen PassesOwn.never (zau zgT (pv 2) (pv 0) (zav _)) (zaf (zaG (zau ze0 (zak zaW (pv 0) (pv 2)) zad (zav _)) (zah (zaA (zb0 PySem.F.plainAttrs_list PySem.F.slot_list_append PySem.F.type_list_append zaC (pv 1) (zaa (pv 2) zae)))) zap)
   (zah (zjL (i:=2) sc_law_ones.nd rfl (Or.inl rfl) (pv 2) zh2))))
   (zah (zaq (pv 1)))))),?rd⟩
  refine ⟨by show 0≤sizeLine;decide,fun l hl=>?_⟩
  refine zec (fun σ X=>∃ (i:Nat),σ=[some (.int (n:Int)),some (.ref l),some (.int ((2 ^ i:Nat):Int))]∧i≤33∧X l=some (.lst (vN (sgl (n % 2 ^ i))))∧Same H X) (fun σ _=>match σ with | [_,_,some (.int b)]=>(2 * n+2 - b.toNat) | _=>0)
   ⟨0,rfl,by decide,by rw [Nat.pow_zero,Nat.mod_one,zc6];exact zab,zac hl⟩ ?_ ?_
  ·rintro σ X ⟨i,rfl,hi,eX,sX⟩
   have hsz:(vN (sgl (n % 2 ^ i))).length<sizeLine:=by
    rw [zaz,zbV]
    have:=zfR 64 (n % 2 ^ i) (XaL (Nat.mod_le _ _) (Xai hn (by decide)))
    exact zdj (by omega)
   have hp:=XbE i
   refine ⟨_,rfl,_,rfl,_,_,rfl,rfl,_,rfl,ite2 (fun h1=>?_) (fun h1=>?_)⟩
   ·have h1:2 ^ i≤n:=by have:=XaQ h1;omega
    have hi32:i<32:=by
     by_cases h:i<32
     ·exact h
     ·have:2 ^ 32≤2 ^ i:=XaW (by decide) (by omega)
      omega
    have st:=zjE n i
    have e2:((2 ^ i:Nat):Int)+((2 ^ i:Nat):Int)=((2 ^ (i+1):Nat):Int):=by rw [Xbl];omega
    have e3:Builtin.bitAnd (n:Int) ((2 ^ i:Nat):Int)=((n &&& 2 ^ i:Nat):Int):=band _ _
    have hms:2 * n+2 - (((2 ^ i:Nat):Int)+((2 ^ i:Nat):Int)).toNat<2 * n+2 - ((2 ^ i:Nat):Int).toNat:=by rw [Xat,e2,Xat,Xbl];omega
    refine ⟨_,rfl,_,rfl,_,_,rfl,rfl,_,_,rfl,rfl,_,rfl,ite2 (fun h2=>?_) (fun h2=>zay ?_)⟩
    ·have h2:¬ n &&& 2 ^ i=0:=fun z=>by
      have h2:=XaQ h2
      rw [e3,z] at h2
      exact absurd h2 (by decide)
     rw [if_neg h2] at st
     refine ⟨_,rfl,.inl ⟨rfl,_,SqL.of eX⟩,_,rfl,l,_,_,rfl,rfl,eX,hsz,?_⟩
     refine ⟨_,rfl,_,rfl,_,_,rfl,rfl,⟨⟨i+1,?_,by omega,by rw [zab,st,zdd],fun b o e=>by rw [zag (zaj e hl)];exact sX b o e⟩,hms⟩⟩
     rw [← e2];rfl
    ·have h2:n &&& 2 ^ i=0:=by
      by_cases z:n &&& 2 ^ i=0
      ·exact z
      ·exact absurd (Xap (show (0:Int)<Builtin.bitAnd (n:Int) ((2 ^ i:Nat):Int) by rw [e3];omega)) h2
     rw [if_pos h2,Xa7] at st
     try dsimp only
     refine ⟨_,rfl,_,rfl,_,_,rfl,rfl,⟨⟨i+1,?_,by omega,by rw [st];exact eX,sX⟩,hms⟩⟩
     rw [← e2];rfl
   ·have h1:n<2 ^ i:=by
     by_cases z:2 ^ i≤n
     ·exact absurd (Xap (show ((2 ^ i:Nat):Int)≤(n:Int) by omega)) h1
     ·omega
    rw [Nat.mod_eq_of_lt h1] at eX
    exact ⟨_,rfl,k l X hl eX sX⟩
  ·rintro σ X Q1 Q2 hq h
   obtain ⟨v,e,v2,e',i,j,e1,e2,c,e3,h⟩:=h
   exact ⟨v,e,v2,e',i,j,e1,e2,c,e3,hq _ _ h⟩
abbrev zcC:Stmt:=top 79
theorem zfK:FnScope ["found","due"] ["found","due"] (zai zcC):=sck rfl rfl rfl (by decide +kernel)
inductive spSameL (n:Nat)(vs:List V)(H:Hp)(Q:VK)(u3_:XK):Prop
 | mk (v:_) (w:_) (z0_:vs=[v,w]) (z1_:((v = .non∧w = .non)∨Lk H n v w)) (z2_:∀ H',Same H H'→Q (.bl true) H')
theorem zbB {f:Addr}{fd:FuncData}{m n:Nat}{sp:Sp}(F:Fun K "_law_same" "_law_same" zcC f fd)(T:Blt mg)(G_law_same:Cal P w K mg base n "_law_same" ["found","due"] sp)(hsp:∀ k,m=k+1→sp=spSameL k):FnOk P w K mg base CX0 (n+1) f fd ["found","due"] (spSameL m):=by
 refine F.ok zfK (by walk_at "l") (fun cdv A outer s H vs Q E hr h=>?_)
 ·obtain ⟨v,w,rfl,hL,k⟩:=h
  refine' ⟨_,(zaf (zaG (zb3 (zdx (pv 1))) (zah (zaq (zhI (zdx (pv 0))))) zap)
   (zaf (zaG (zaP (zal (zaH "bool" (K:=K) rfl) (by rfl) T.isinstance zaN (zaa (pv 1) (zaa (zaL rfl T.bool zeE zel) zae)))) (zah (zaq (zbn (zal (zaH "bool" (K:=K) rfl) (by rfl) T.isinstance zaN (zaa (pv 0) (zaa (zaL rfl T.bool zeE zel) zae))) (zbh (za3 zbG (pv 0) (pv 1) (zav _)))))) zap)
   (zaf (zaG (PW.pt (zcf (zaP (zal (zaH "tuple" (K:=K) rfl) (by rfl) T.isinstance zaN (zaa (pv 1) (zaa (zaL rfl T.tuple za0 zbX) zae)))) (zbF (zaP (zal (zaH "list" (K:=K) rfl) (by rfl) T.isinstance zaN (zaa (pv 1) (zaa (zaL rfl T.list zdO zfL) zae))))))) (zaf (zaG (PW.pt (zcf (zau zfP (zal (zaH "tuple" (K:=K) rfl) (by rfl) T.isinstance zaN (zaa (pv 1) (zaa (zaL rfl T.tuple za0 zbX) zae))) (zal (zaH "tuple" (K:=K) rfl) (by rfl) T.isinstance zaN (zaa (pv 0) (zaa (zaL rfl T.tuple za0 zbX) zae))) (zav _)) (zbF (zau zfP (zal (zaH "list" (K:=K) rfl) (by rfl) T.isinstance zaN (zaa (pv 1) (zaa (zaL rfl T.list zdO zfL) zae))) (zal (zaH "list" (K:=K) rfl) (by rfl) T.isinstance zaN (zaa (pv 0) (zaa (zaL rfl T.list zdO zfL) zae))) (zav _))))) (zah (zaq zcJ)) zap)
   (zah (zaq (zbn (za3 zbG (zal zan (by rfl) T.len PySem.boot_len (zaa (pv 0) zae)) (zal zan (by rfl) T.len PySem.boot_len (zaa (pv 1) zae)) (zav _)) (zbh (zal (zdL rfl) (by rfl) T.all ziq (zaa ?c1 zae))))))) zap)
   (zaf (zaG (zaP (zal (zaH "str" (K:=K) rfl) (by rfl) T.isinstance zaN (zaa (pv 1) (zaa (zaL rfl T.str zj5 zjH) zae)))) (zah (zaq (zbn (zal (zaH "str" (K:=K) rfl) (by rfl) T.isinstance zaN (zaa (pv 0) (zaa (zaL rfl T.str zj5 zjH) zae))) (zbh (za3 zbG (pv 0) (pv 1) (zav _)))))) zap)
   (zah (zaq (zbn (zal (zaH "int" (K:=K) rfl) (by rfl) T.isinstance zaN (zaa (pv 0) (zaa (zaL rfl T.int zgF zjI) zae))) (zbn (zjN (zal (zaH "bool" (K:=K) rfl) (by rfl) T.isinstance zaN (zaa (pv 0) (zaa (zaL rfl T.bool zeE zel) zae)))) (zbh (za3 zbG (pv 0) (pv 1) (zav _))))))))))),?rd⟩
  (case c1=>exact (zch (Nc:=["one","other"]) [none,none] rfl (zaQ (by rfl)) (zkp rfl T.zip (zaa (pv 0) (zaa (pv 1) zae))) (fun _ _ _ _ _=>(zkq 2 (K:=K) rfl rfl (zao (pg_L 0 (show (["one","other"]:List Str).Nodup by decide +kernel)) (zao (pg_L 1 (show (["one","other"]:List Str).Nodup by decide +kernel)) zaY)))) (fun _ _ _ _ _=>zd1) (fun _ _ _ _ _=>(pe_c G_law_same (zaa (pv 0) (zaa (pv 1) zae))))))
  rcases hL with ⟨rfl,rfl⟩ | hL
  ·exact ⟨_,rfl,_,rfl,iteT ⟨_,rfl,k H (Same.refl _)⟩⟩
  cases hL with
  | int i =>
   refine ⟨_,rfl,_,rfl,iteF (zay ?_)⟩
   try dsimp only
   refine ⟨_,rfl,_,_,_,rfl,.int i,rfl,false,rfl,iteF (zay ?_)⟩
   try dsimp only
   refine ⟨_,rfl,_,_,_,rfl,.int i,rfl,false,rfl,iteF ⟨_,rfl,_,_,_,rfl,.int i,rfl,false,rfl,iteF (zay ?_)⟩⟩
   try dsimp only
   refine ⟨_,rfl,_,_,_,rfl,.int i,rfl,false,rfl,iteF (zay ?_)⟩
   try dsimp only
   refine ⟨_,rfl,_,_,_,rfl,.int i,rfl,true,rfl,iteT ⟨_,rfl,_,_,_,rfl,.int i,rfl,false,rfl,true,rfl,iteT ⟨_,rfl,_,rfl,rfl,?_⟩⟩⟩
   rw [Xap rfl]
   exact k H (Same.refl _)
  | @seq m' t a b xs ys ha hb hl hz h =>
   have ty:∀ {q:Addr} {us:List V},SqX t H q us→TyOf K H (.ref q) (.type (sqC t)):=fun {q us} e=>ty_seq e
   have kb:W.kitOne K (.type (sqC t)) (.type "bool")=some false:=by cases t <;> rfl
   have kt:W.kitOne K (.type (sqC t)) (.type "tuple")=some t:=by cases t <;> rfl
   have kl:W.kitOne K (.type (sqC t)) (.type "list")=some (!t):=by cases t <;> rfl
   refine ⟨_,rfl,_,rfl,iteF (zay ?_)⟩
   try dsimp only
   refine ⟨_,rfl,_,_,_,rfl,ty hb,kb,false,rfl,iteF (zay ?_)⟩
   try dsimp only
   have sq:∀ {q:Addr} {us:List V},SqX t H q us→SqL K H q us∨SqT K H q us:=fun {q us} e=>by
    cases t with
    | true=>exact .inr (SqT.of e)
    | false=>exact .inl (SqL.of e)
   cases t
   all_goals
    first
    | (refine ⟨_,rfl,_,_,_,rfl,ty hb,kt,true,rfl,iteT ?_⟩)
    | (refine ⟨_,rfl,_,_,_,rfl,ty hb,kt,false,rfl,iteF ⟨_,rfl,_,_,_,rfl,ty hb,kl,true,rfl,iteT ?_⟩⟩)
    refine ⟨_,rfl,_,_,_,rfl,ty hb,kt,_,rfl,_,_,_,rfl,ty ha,kt,rfl,_,rfl,zh1 rfl ?_⟩
    refine ⟨_,rfl,_,_,_,rfl,ty hb,kl,_,rfl,_,_,_,rfl,ty ha,kl,rfl,_,rfl,zh1 rfl (zay ?_)⟩
    try dsimp only
    refine ⟨_,rfl,a,xs,rfl,sq ha,_,rfl,b,ys,rfl,sq hb,rfl,_,rfl,?_⟩
    rw [Xap (show V.int (xs.length:Int)=V.int (ys.length:Int) by rw [hl])]
    refine iteT ?_
    obtain rfl:=hsp m' rfl
    refine ⟨_,rfl,_,rfl,_,a,b,xs,ys,rfl,ha,hb,?_⟩
    refine zig (xs:=xs) (ys:=ys) (fun j rs σ H1=>∃ v1 v2,σ=[v1,v2]∧rs=List.replicate j (V.bl true)∧Same H H1) hl hz ⟨none,none,rfl,rfl,fun _ _ z=>z⟩ ?_ ?_ ?_
    ·rintro j rs σ H1 hj ⟨v1,v2,rfl,rfl,s1⟩
     exact ⟨s1 _ _ ha,s1 _ _ hb,by rw [XbB];exact Xaf _⟩
    ·rintro j x y U rs σ H1 ex ey hU ⟨v1,v2,rfl,rfl,s1⟩
     refine zgx ?_
     have s2:=s1.trans (zac (o:=.tup [x,y]) hU)
     refine ⟨_,rfl,_,rfl,x,y,rfl,.inr ((h j x y ex ey).same s2),fun H3 s3=>?_⟩
     exact ⟨_,_,rfl,List.replicate_succ'.symm,s2.trans s3⟩
    ·rintro rs σ H1 ⟨v1,v2,rfl,rfl,s1⟩ D hD
     refine ⟨D,List.replicate xs.length true,rfl,SqL.of (by rw [List.map_replicate];exact zab),?_⟩
     rw [show (List.replicate xs.length true).all id=true by simp]
     exact k _ (s1.trans (zac hD))
structure MdB (H:Hp)(m row:Addr)(kd n:Nat)(ws:List Nat):Prop where
 at_:H m=some (.lst [.str (za4 kd),.ref row,.int (n:Int)])
 ls:H row=some (.lst (vN ws))
theorem MdB.same {H H':Hp}{m row:Addr}{kd n:Nat}{ws:List Nat}(d:MdB H m row kd n ws)(s:Same H H'):MdB H' m row kd n ws:=⟨s _ _ d.at_,s _ _ d.ls⟩
theorem zhK:∀ a b:Nat,a &&& b=0→a ||| b=a+b:=by
 intro a
 induction a using Nat.strongRecOn with
 | _ a ih =>
  intro b h
  by_cases ha:a=0
  ·subst ha;simp
  ·have h2:(a / 2) &&& (b / 2)=0:=by rw [← Nat.and_div_two,h]
   have e1:(a ||| b) / 2=a / 2+b / 2:=(Nat.or_div_two (a:=a) (b:=b)).trans (ih (a / 2) (by omega) (b / 2) h2)
   have e2:(a ||| b) % 2=(a % 2 ||| b % 2):=Nat.or_mod_two_pow (n:=1)
   have e3:(a &&& b) % 2=(a % 2 &&& b % 2):=Nat.and_mod_two_pow (n:=1)
   rw [h] at e3
   have e4:a % 2 ||| b % 2=a % 2+b % 2:=by
    rcases (show a % 2=0∨a % 2=1 by omega) with x | x <;> rcases (show b % 2=0∨b % 2=1 by omega) with y | y <;> rw [x,y] at e3 ⊢ <;> first | rfl | (exact absurd e3 (by decide))
   omega
theorem zi3 (i:Nat):ones (2 ^ i)=1:=by
 induction i with
 | zero=>rw [show 2 ^ 0=2 * 0+1 from rfl,zco,zcn]
 | succ i ih=>rw [Xbl,Nat.mul_comm,zbw,ih]
theorem zfQ {i p:Nat}(h:i.testBit p=false):ones (i ||| 2 ^ p)=ones i+1:=by
 have hd:i &&& 2 ^ p=0:=Nat.eq_of_testBit_eq fun j=>by
  rw [XaD,Xbq,Nat.zero_testBit]
  by_cases e:p=j
  ·subst e;rw [h];rfl
  ·rw [Xas e,Bool.and_false]
 rw [zhK _ _ hd,zjp _ _ hd,zi3]
def Few (n m r:Nat):Prop:=r &&& n=r∧ones r≤m
inductive spFew (vs:List V)(H:Hp)(Q:VK)(u3_:XK):Prop
 | mk (n m:Nat) (z0_:vs=[.int (n:Int),.int (m:Int)]) (z1_:n<2 ^ 32) (z2_:∀ (r:Nat) (H':Hp),Few n m r→Same H H'→Q (.int (r:Int)) H')
theorem zdb (n:Nat):∀ i k,∃ r,((sgl (n % 2 ^ i)).take k).sum=r∧r &&& n=r∧r<2 ^ i∧ones r≤k
 | 0,k=>⟨0,by rw [Nat.pow_zero,Nat.mod_one,zc6];simp,by simp,by simp,by rw [zcn];omega⟩
 | i+1,k=>by
  have hp:2 ^ (i+1)=2 * 2 ^ i:=by rw [Xbl];omega
  have h0:=XbE i
  rw [zjE]
  by_cases hb:n &&& 2 ^ i=0
  ·rw [if_pos hb,Xa7]
   obtain ⟨r,h1,h2,h3,h4⟩:=zdb n i k
   exact ⟨r,h1,h2,by omega,h4⟩
  ·rw [if_neg hb]
   by_cases hk:k≤(sgl (n % 2 ^ i)).length
   ·rw [List.take_append_of_le_length hk]
    obtain ⟨r,h1,h2,h3,h4⟩:=zdb n i k
    exact ⟨r,h1,h2,by omega,h4⟩
   ·obtain ⟨r,h1,h2,h3,h4⟩:=zdb n i (sgl (n % 2 ^ i)).length
    rw [List.take_length] at h1
    have hf:r.testBit i=false:=Nat.testBit_lt_two_pow h3
    have hd:r &&& 2 ^ i=0:=Nat.eq_of_testBit_eq fun j=>by
     rw [XaD,Xbq,Nat.zero_testBit]
     by_cases e:i=j
     ·subst e;rw [hf];rfl
     ·rw [Xas e,Bool.and_false]
    have hbt:n.testBit i=true:=by
     cases h:n.testBit i with
     | true=>rfl
     | false =>
      refine absurd (Nat.eq_of_testBit_eq fun j=>?_) hb
      rw [XaD,Xbq,Nat.zero_testBit]
      by_cases e:i=j
      ·subst e;rw [h];rfl
      ·rw [Xas e,Bool.and_false]
    refine ⟨r ||| 2 ^ i,?_,?_,?_,?_⟩
    ·rw [XaY (by rw [Xao];simp;omega),List.sum_append,h1,zhK _ _ hd];simp
    ·refine Nat.eq_of_testBit_eq fun j=>?_
     have:=congrArg (fun x=>Nat.testBit x j) h2
     simp only [XaD] at this
     rw [XaD,Nat.testBit_or,Xbq]
     by_cases e:i=j
     ·subst e;rw [hbt];simp
     ·rw [Xas e,Bool.or_false];exact this
    ·rw [zhK _ _ hd];omega
    ·rw [zfQ hf];omega
theorem few_is {n:Nat}(hn:n<2 ^ 32)(k:Nat):Few n k ((sgl n).take k).sum:=by
 obtain ⟨r,h1,h2,_,h4⟩:=zdb n 32 k
 rw [Nat.mod_eq_of_lt hn] at h1
 rw [h1]
 exact ⟨h2,h4⟩
structure Cm where
 x:Addr
 p:Addr
 m:Addr
 r:Addr
 kd:Nat
 n:Nat
 us:List Nat
structure CmOk (cs:Nat→Addr)(X:Hp)(c:Cm):Prop where
 ch:Chp cs X c.x c.p c.kd c.n c.us
 md:MdB X c.m c.r c.kd c.n c.us
 k:Kd c.kd c.n c.us
 h1:c.kd=2∨c.kd=3→c.us.length=1
 ne:c.p≠c.r
theorem CmOk.same {cs:Nat→Addr}{X Y:Hp}{c:Cm}(h:CmOk cs X c)(s:Same X Y):CmOk cs Y c:=⟨h.ch.same s,h.md.same s,h.k,h.h1,h.ne⟩
structure CMs (cs:Nat→Addr)(X:Hp)(cl:List Cm):Prop where
 o:∀ c∈cl,CmOk cs X c
 nd:((cl.map (·.p)) ++ (cl.map (·.r))).Nodup
theorem CMs.same {cs:Nat→Addr}{X Y:Hp}{cl:List Cm}(h:CMs cs X cl)(s:Same X Y):CMs cs Y cl:=⟨fun c hc=>(h.o c hc).same s,h.nd⟩
theorem CMs.add {cs:Nat→Addr}{X Y:Hp}{cl:List Cm}{c:Cm}(h:CMs cs X cl)(s:Same X Y)(hp:X c.p=none)(hr:X c.r=none)(ho:CmOk cs Y c):CMs cs Y (cl ++ [c]):=by
 have fp:∀ d∈cl,d.p≠c.p∧d.p≠c.r∧d.r≠c.p∧d.r≠c.r:=fun d hd=>by
  have e1:=(h.o d hd).ch.ls
  have e2:=(h.o d hd).md.ls
  exact ⟨(fun z=>by rw [z,hp] at e1;cases e1),(fun z=>by rw [z,hr] at e1;cases e1),(fun z=>by rw [z,hp] at e2;cases e2),(fun z=>by rw [z,hr] at e2;cases e2)⟩
 refine ⟨fun d hd=>?_,?_⟩
 ·rcases XaF.mp hd with hd | hd
  ·exact (h.same s).o d hd
  ·rw [Xac.mp hd];exact ho
 ·obtain ⟨n1,n2,n3⟩:=Xbb.mp h.nd
  rw [XaC,XaC]
  refine Xbb.mpr ⟨Xbb.mpr ⟨n1,by simp,fun a ha b hb=>?_⟩,Xbb.mpr ⟨n2,by simp,fun a ha b hb=>?_⟩,fun a ha b hb=>?_⟩
  ·obtain ⟨d,hd,rfl⟩:=XaJ.mp ha
   have hb:b=c.p:=by simpa using hb
   rw [hb];exact (fp d hd).1
  ·obtain ⟨d,hd,rfl⟩:=XaJ.mp ha
   have hb:b=c.r:=by simpa using hb
   rw [hb];exact (fp d hd).2.2.2
  ·rcases XaF.mp ha with ha | ha <;> rcases XaF.mp hb with hb | hb
   ·exact n3 a ha b hb
   ·obtain ⟨d,hd,rfl⟩:=XaJ.mp ha
    have hb:b=c.r:=by simpa using hb
    rw [hb];exact (fp d hd).2.1
   ·obtain ⟨d,hd,rfl⟩:=XaJ.mp hb
    have ha:a=c.p:=by simpa using ha
    rw [ha];exact Ne.symm (fp d hd).2.2.1
   ·have ha:a=c.p:=by simpa using ha
    have hb:b=c.r:=by simpa using hb
    rw [ha,hb];exact ho.ne
theorem CMs.updL {cs:Nat→Addr}{X:Hp}{cl:List Cm}{L:Addr}{o:HO}(h:CMs cs X cl)(hL:∀ c∈cl,c.x≠L∧c.p≠L∧c.m≠L∧c.r≠L):CMs cs (upd X L o) cl:=by
 refine ⟨fun c hc=>?_,h.nd⟩
 obtain ⟨a1,a2,a3,a4⟩:=hL c hc
 have ok:=h.o c hc
 obtain ⟨dx,e⟩:=ok.ch.ex
 exact ⟨⟨⟨dx,by rw [zag a1];exact e⟩,by rw [zag a2];exact ok.ch.ls⟩,⟨by rw [zag a3];exact ok.md.at_,by rw [zag a4];exact ok.md.ls⟩,ok.k,ok.h1,ok.ne⟩
def dfCm:Cm:=⟨0,0,0,0,0,0,[]⟩
def dtC (cl:List Cm):Dt:=⟨cl.length,fun i=>(cl.getD i dfCm).x,fun i=>(cl.getD i dfCm).p,fun i=>(cl.getD i dfCm).kd,fun i=>(cl.getD i dfCm).n,fun i=>ksize (cl.getD i dfCm).kd (cl.getD i dfCm).us⟩
def usC (cl:List Cm)(i:Nat):List Nat:=(cl.getD i dfCm).us
theorem zbS {cl:List Cm}{i:Nat}(h:i<cl.length):cl.getD i dfCm∈cl∧cl[i]? = some (cl.getD i dfCm):=by
 rw [XaK,Xak h]
 exact ⟨Xbf _,rfl⟩
theorem nd_at {l:List Addr}(h:l.Nodup){i j:Nat}{a:Addr}(h1:l[i]? = some a)(h2:l[j]? = some a):i=j:=by
 obtain ⟨l1,e1⟩:=Xag.mp h1
 obtain ⟨l2,e2⟩:=Xag.mp h2
 exact (List.getElem_inj h).mp (e1.trans e2.symm)
theorem CMs.chs {cs:Nat→Addr}{X:Hp}{cl:List Cm}(h:CMs cs X cl)(hl:cl.length≤200):Chs cs (dtC cl) X (usC cl):=by
 refine ⟨fun i hi=>(h.o _ (zbS hi).1).ch,fun i hi=>(h.o _ (zbS hi).1).k,fun i hi=>(h.o _ (zbS hi).1).h1,fun i hi=>rfl,fun i j hi hj e=>?_,hl⟩
 have h1:(cl.map (·.p))[i]? = some (cl.getD i dfCm).p:=by rw [Xan,(zbS hi).2];rfl
 have h2:(cl.map (·.p))[j]? = some (cl.getD j dfCm).p:=by rw [Xan,(zbS hj).2];rfl
 rw [← show (cl.getD i dfCm).p=(cl.getD j dfCm).p from e] at h2
 exact nd_at (Xbb.mp h.nd).1 h1 h2
theorem chL_cm (cl:List Cm):chL (dtC cl)=cl.map fun c=>V.ref c.x:=by
 unfold chL
 apply List.ext_getElem?
 intro i
 rw [Xan,Xan]
 by_cases h:i<cl.length
 ·rw [(zbS h).2,List.getElem?_range (show i<(dtC cl).m from h)]
  rfl
 ·rw [XaM (Nat.le_of_not_lt h),XaM (show (List.range (dtC cl).m).length≤i by rw [List.length_range];exact Nat.le_of_not_lt h)]
  rfl
theorem zbO {H2 H':Hp}{x dx:Addr}{C:Addr}(hx:H2 x=none)(hdx:H2 dx=none)(ne:dx≠x)(k:zkS x (upd (upd H2 dx (.own x)) x (.ins C dx [])) H'):Same H2 H':=fun a o e=>by
 have na:a≠x:=zaj e hx
 exact k a o na (by rw [zag na,zag (zaj e hdx)];exact e)
theorem drw {row:List Nat}(n:Nat)(hl:n≤row.length)(hw:∀ v∈row,v<2 ^ 31):∃ dr:Nat→Nat,∀ j:Nat,j<n→atI (vN row) (j:Int)=some (.int (dr j:Int))∧dr j<2 ^ 31:=⟨fun j=>row.getD j 0,fun j hj=>by
 have hj':j<row.length:=by omega
 have e:row.getD j 0=row[j]:=by rw [XaK,Xak hj'];rfl
 show _=some (V.int ((row.getD j 0:Nat):Int))∧row.getD j 0<2 ^ 31
 rw [e]
 exact ⟨zaJ (by unfold vN;rw [Xan,Xak hj'];rfl),hw _ (Xbf _)⟩⟩
abbrev zdu:Stmt:=top 73
theorem zgO:FnScope ["number","most"] ["number","most"] (zai zdu):=sck rfl rfl rfl (by decide +kernel)
theorem zg0 {f:Addr}{fd:FuncData}(F:Fun K "_law_few" "_law_few" zdu f fd)(T:Blt mg)(G_law_ones:Cal P w K mg base 1 "_law_ones" ["mask"] spOnesL):FnOk P w K mg base CX0 2 f fd ["number","most"] spFew:=by
 refine F.ok zgO (by walk_at "l") (fun cdv A outer s H vs Q E hr h=>?_)
 ·obtain ⟨n,m,rfl,hn,k⟩:=h
  refine ⟨_,(zah (zaq (zal (zim rfl) (by rfl) T.sum PyProof.Rows.boot_sum (zaa (zaV zb8 (pe_c G_law_ones (zaa (pv 0) zae)) zcg (zaT (pv 1))) zae)))),?rd⟩
  refine ⟨_,rfl,n,rfl,hn,fun p H1 hp ep s1=>?_⟩
  have ec:cutV (vN (sgl n)) none (some (m:Int))=(((sgl n).take m).map fun (a:Nat)=>(a:Int)).map V.int:=by
   unfold cutV
   rw [HT.sIx_nat,HT.sIx_none,zaz,Nat.sub_zero,List.drop_zero]
   unfold vN
   rw [List.map_take,List.map_take,Xby]
   by_cases h:m≤(sgl n).length
   ·rw [XbT h];rfl
   ·rw [Nat.min_eq_right (by omega),XaY (by rw [Xae];exact Xaf _),XaY (by rw [Xae];omega)];rfl
  have sm:∀ l:List Nat,(l.map fun (a:Nat)=>(a:Int)).sum=((l.sum:Nat):Int):=fun l=>by
   induction l with
   | nil=>rfl
   | cons a l ih=>rw [XaS,List.sum_cons,List.sum_cons,ih];omega
  refine ⟨_,rfl,m,rfl,p,_,rfl,SqL.of ep,fun q hq=>?_⟩
  rw [ec]
  refine ⟨q,_,rfl,SqL.of zab,?_⟩
  rw [sm]
  exact k _ _ (few_is hn m) (s1.trans (zac hq))
abbrev zcB:Stmt:=top 69
theorem zfJ:FnScope ["model"] ["model"] (zai zcB):=sck rfl rfl rfl (by decide +kernel)
inductive spSz34 (vs:List V)(H:Hp)(Q:VK)(u3_:XK):Prop
 | mk (m r:Addr) (kd n:Nat) (us:List Nat) (z0_:vs=[.ref m]) (z1_:MdB H m r kd n us) (z2_:kd<5) (z3_:Q (.int (ksize kd us:Int)) H)
theorem zfV {f:Addr}{fd:FuncData}(F:Fun K "_law_size" "_law_size" zcB f fd)(T:Blt mg):FnOk P w K mg base CX0 1 f fd ["model"] spSz34:=by
 refine F.ok zfJ (by walk_at "l") (fun cdv A outer s H vs Q E hr h=>?_)
 ·obtain ⟨m,r,kd,n,us,rfl,hM,hk,k⟩:=h
  refine ⟨_,(zaf (zaG (zau zbG (pe_x zam (pv 0) zad) zaE (zav _)) (zah (zaq zad)) zap)
   (zah (zaq (zal zan (by rfl) T.len PySem.boot_len (zaa (pe_x zam (pv 0) zad) zae))))),?rd⟩
  refine ⟨_,rfl,m,_,_,_,rfl,rfl,SqL.of hM.at_,rfl,rfl,_,rfl,?_⟩
  rw [show decide (V.str (za4 kd)=V.str "pipe")=decide (kd=4) from zbZ (j:=4) hk (by decide)]
  unfold ksize at k
  by_cases e:kd=4
  ·rw [if_pos e] at k
   rw [Xap e]
   exact iteT k
  ·rw [if_neg e] at k
   rw [Xas e]
   refine iteF (zay ?_)
   try dsimp only
   refine ⟨_,rfl,m,_,_,_,rfl,rfl,SqL.of hM.at_,rfl,r,_,rfl,.inl (SqL.of hM.ls),?_⟩
   rw [zaz]
   exact k
abbrev zcH:Stmt:=top 67
theorem sc_law_chip:FnScope ["one","other","kind","word","cells","words","room"] ["one","other"] (zai zcH):=sck rfl rfl rfl (by decide +kernel)
inductive spChip34 (cs:Nat→Addr)(vs:List V)(H:Hp)(Q:VK)(u3_:XK):Prop
 | mk (one other:Nat) (z0_:vs=[.int (one:Int),.int (other:Int)]) (z1_:one<2 ^ 31) (z2_:other<2 ^ 31) (z3_:∀ (t:Addr) (c:Cm) (H':Hp),H t=none→H' t=some (.tup [.ref c.x,.ref c.m])→H c.p=none→H c.r=none→H c.m=none→CmOk cs H' c→Same H H'→Q (.ref t) H')
theorem zf0 {f:Addr}{cs:Nat→Addr}{fd:FuncData}(F:Fun K "_law_chip" "_law_chip" zcH f fd)(T:Blt mg)
  (GMFixed_1:Mak P w K mg base 3 "Fixed" (cs 1) [] (dP []) (spMkFH (cs 1))) (GMPipe_1:Mak P w K mg base 3 "Pipe" (cs 4) [] (dP []) (spMkP (cs 4))) (GMLatch_1:Mak P w K mg base 3 "Latch" (cs 2) [] (dP []) (spMk1H (cs 2) "latch")) (GMMeter_1:Mak P w K mg base 3 "Meter" (cs 3) [] (dP []) (spMk1H (cs 3) "meter")) (GMStore_2:Mak P w K mg base 3 "Store" (cs 0) [] (dP []) (spMkSH (cs 0))):FnOk P w K mg base CX0 5 f fd ["one","other"] (spChip34 cs):=by
 refine F.ok sc_law_chip (by walk_at "l") (fun cdv A outer s H vs Q E hr h=>?_)
 ·obtain ⟨one,other,rfl,h1,h2,k⟩:=h
  refine ⟨_,(zaf (@ps_L _ _ _ _ _ _ 2 sc_law_chip.nd (@pe_x _ _ _ _ _ _ _ zam (@zaw _ _ _ _ (@zaa _ _ _ _ _ (@zaE _ _ _ _) (@zaa _ _ _ _ _ (@zaE _ _ _ _) (@zaa _ _ _ _ _ (@zaE _ _ _ _) (@zaa _ _ _ _ _ (@zaE _ _ _ _) (@zaa _ _ _ _ _ (@zaE _ _ _ _) (@zaa _ _ _ _ _ (@zaE _ _ _ _) (@zaa _ _ _ _ _ (@zaE _ _ _ _) (@zae _) (by rfl)) (by rfl)) (by rfl)) (by rfl)) (by rfl)) (by rfl)) (by rfl))) (@zak _ _ _ _ _ _ _ _ zax (@pv _ 0 _ _ (by rfl) (by walk_at "o") (by decide) (by decide)) (@zad _ _ _ _)) (by exact fun _ _=>rfl)) (by rfl) (by exact Or.inl rfl) (by rfl) (by walk_at "p"))
   (zaf (@ps_L _ _ _ _ _ _ 3 sc_law_chip.nd (@zak _ _ _ _ _ _ _ _ zax (@pv _ 1 _ _ (by rfl) (by walk_at "o") (by decide) (by decide)) (@zad _ _ _ _)) (by rfl) (by exact Or.inl rfl) (by rfl) (by walk_at "p"))
   (zaf (@zaG _ _ _ _ _ _ _ _ (@zau _ _ _ _ _ _ _ _ zbG (@pv _ 2 _ _ (by rfl) (by walk_at "o") (by decide) (by decide)) (@zaE _ _ _ _) (zav _)) (@zaf _ _ _ _ _ (@ps_L _ _ _ _ _ _ 4 sc_law_chip.nd (@pe_x _ _ _ _ _ _ _ zam (@zaw _ _ _ _ (@zaa _ _ _ _ _ (@zak _ _ _ _ _ _ _ _ zaM (@zad _ _ _ _) (@zak _ _ _ _ _ _ _ _ zax (@zak _ _ _ _ _ _ _ _ zaB (@pv _ 0 _ _ (by rfl) (by walk_at "o") (by decide) (by decide)) (@zad _ _ _ _)) (@zad _ _ _ _))) (@zaa _ _ _ _ _ (@zad _ _ _ _) (@zaa _ _ _ _ _ (@zad _ _ _ _) (@zaa _ _ _ _ _ (@zad _ _ _ _) (@zae _) (by rfl)) (by rfl)) (by rfl)) (by rfl))) (@zak _ _ _ _ _ _ _ _ zax (@zak _ _ _ _ _ _ _ _ zaB (@pv _ 0 _ _ (by rfl) (by walk_at "o") (by decide) (by decide)) (@zad _ _ _ _)) (@zad _ _ _ _)) (by exact fun _ _=>rfl)) (by rfl) (by exact Or.inl rfl) (by rfl) (by walk_at "p")) (@zah _ _ _ (@zaq _ _ _ _ (@zaK _ _ _ _ _ (@zaa _ _ _ _ _ (@zeY _ _ _ _ _ _ _ _ _ _ _ GMStore_2 (hrm hr) rfl (@zaa _ _ _ _ _ (@pv _ 4 _ _ (by rfl) (by walk_at "o") (by decide) (by decide)) (@zaa _ _ _ _ _ (@pv _ 3 _ _ (by rfl) (by walk_at "o") (by decide) (by decide)) (@zae _) (by rfl)) (by rfl)) (by decide) (by rfl) (by rfl)) (@zaa _ _ _ _ _ (@zaw _ _ _ _ (@zaa _ _ _ _ _ (@pv _ 2 _ _ (by rfl) (by walk_at "o") (by decide) (by decide)) (@zaa _ _ _ _ _ (@zak _ _ _ _ _ _ _ _ zjP (@zaw _ _ _ _ (@zaa _ _ _ _ _ (@pv _ 3 _ _ (by rfl) (by walk_at "o") (by decide) (by decide)) (@zae _) (by rfl))) (@pv _ 4 _ _ (by rfl) (by walk_at "o") (by decide) (by decide))) (@zaa _ _ _ _ _ (@zad _ _ _ _) (@zae _) (by rfl)) (by rfl)) (by rfl))) (@zae _) (by rfl)) (by rfl)))))) (@zap _))
   (zaf (@zaG _ _ _ _ _ _ _ _ (@zau _ _ _ _ _ _ _ _ zbG (@pv _ 2 _ _ (by rfl) (by walk_at "o") (by decide) (by decide)) (@zaE _ _ _ _) (zav _)) (@zaf _ _ _ _ _ (@zdZ _ (["k","other"]) _ _ _ _ _ _ _ _ _ _ (5) _ _ _ [none,some 1] sc_law_chip.nd rfl rfl rfl (zaQ (by rfl)) (@zbu _ _ _ _ _ _ rfl T.range (@zaa _ _ _ _ _ (@zak _ _ _ _ _ _ _ _ zaM (@zad _ _ _ _) (@zak _ _ _ _ _ _ _ _ zax (@zak _ _ _ _ _ _ _ _ zaB (@pv _ 0 _ _ (by rfl) (by walk_at "o") (by decide) (by decide)) (@zad _ _ _ _)) (@zad _ _ _ _))) (@zae _) (by rfl)) (by rfl)) (fun _ _ _ _ _=>(@pg_L _ _ _ 0 (show (["k","other"]:List Str).Nodup by decide +kernel) (by rfl) (by exact Or.inl rfl) (by walk_at "p"))) (fun _ _ _ _ _=>(@zd1 _)) (fun _ _ _ _ _=>(@zak _ _ _ _ _ _ _ _ zax (@zak _ _ _ _ _ _ _ _ zaM (@zak _ _ _ _ _ _ _ _ zaB (@pv _ 1 _ _ (by rfl) (by walk_at "o") (by decide) (by decide)) (@zak _ _ _ _ _ _ _ _ zaM (@zad _ _ _ _) (@pv _ 0 _ _ (by rfl) (by walk_at "o") (by decide) (by decide)))) (@zak _ _ _ _ _ _ _ _ zbN (@zad _ _ _ _) (@pv _ 0 _ _ (by rfl) (by walk_at "o") (by decide) (by decide)))) (@zad _ _ _ _))) (by rfl) (by intro _;rfl)) (@zah _ _ _ (@zaq _ _ _ _ (@zaK _ _ _ _ _ (@zaa _ _ _ _ _ (@zeY _ _ _ _ _ _ _ _ _ _ _ GMFixed_1 (hrm hr) rfl (@zaa _ _ _ _ _ (@pv _ 5 _ _ (by rfl) (by walk_at "o") (by decide) (by decide)) (@zae _) (by rfl)) (by decide) (by rfl) (by rfl)) (@zaa _ _ _ _ _ (@zaw _ _ _ _ (@zaa _ _ _ _ _ (@pv _ 2 _ _ (by rfl) (by walk_at "o") (by decide) (by decide)) (@zaa _ _ _ _ _ (@pv _ 5 _ _ (by rfl) (by walk_at "o") (by decide) (by decide)) (@zaa _ _ _ _ _ (@zad _ _ _ _) (@zae _) (by rfl)) (by rfl)) (by rfl))) (@zae _) (by rfl)) (by rfl)))))) (@zap _))
   (zaf (@zaG _ _ _ _ _ _ _ _ (@zau _ _ _ _ _ _ _ _ zbG (@pv _ 2 _ _ (by rfl) (by walk_at "o") (by decide) (by decide)) (@zaE _ _ _ _) (zav _)) (@zah _ _ _ (@zaq _ _ _ _ (@zaK _ _ _ _ _ (@zaa _ _ _ _ _ (@zeY _ _ _ _ _ _ _ _ _ _ _ GMLatch_1 (hrm hr) rfl (@zaa _ _ _ _ _ (@pv _ 3 _ _ (by rfl) (by walk_at "o") (by decide) (by decide)) (@zae _) (by rfl)) (by decide) (by rfl) (by rfl)) (@zaa _ _ _ _ _ (@zaw _ _ _ _ (@zaa _ _ _ _ _ (@pv _ 2 _ _ (by rfl) (by walk_at "o") (by decide) (by decide)) (@zaa _ _ _ _ _ (@zaw _ _ _ _ (@zaa _ _ _ _ _ (@pv _ 3 _ _ (by rfl) (by walk_at "o") (by decide) (by decide)) (@zae _) (by rfl))) (@zaa _ _ _ _ _ (@zad _ _ _ _) (@zae _) (by rfl)) (by rfl)) (by rfl))) (@zae _) (by rfl)) (by rfl))))) (@zap _))
   (zaf (@zaG _ _ _ _ _ _ _ _ (@zau _ _ _ _ _ _ _ _ zbG (@pv _ 2 _ _ (by rfl) (by walk_at "o") (by decide) (by decide)) (@zaE _ _ _ _) (zav _)) (@zah _ _ _ (@zaq _ _ _ _ (@zaK _ _ _ _ _ (@zaa _ _ _ _ _ (@zeY _ _ _ _ _ _ _ _ _ _ _ GMMeter_1 (hrm hr) rfl (@zaa _ _ _ _ _ (@pv _ 3 _ _ (by rfl) (by walk_at "o") (by decide) (by decide)) (@zae _) (by rfl)) (by decide) (by rfl) (by rfl)) (@zaa _ _ _ _ _ (@zaw _ _ _ _ (@zaa _ _ _ _ _ (@pv _ 2 _ _ (by rfl) (by walk_at "o") (by decide) (by decide)) (@zaa _ _ _ _ _ (@zaw _ _ _ _ (@zaa _ _ _ _ _ (@pv _ 3 _ _ (by rfl) (by walk_at "o") (by decide) (by decide)) (@zae _) (by rfl))) (@zaa _ _ _ _ _ (@zad _ _ _ _) (@zae _) (by rfl)) (by rfl)) (by rfl))) (@zae _) (by rfl)) (by rfl))))) (@zap _))
   (zaf (@ps_L _ _ _ _ _ _ 6 sc_law_chip.nd (@pe_x _ _ _ _ _ _ _ zam (@zaw _ _ _ _ (@zaa _ _ _ _ _ (@zak _ _ _ _ _ _ _ _ zaM (@zad _ _ _ _) (@zak _ _ _ _ _ _ _ _ zax (@zak _ _ _ _ _ _ _ _ zaB (@pv _ 0 _ _ (by rfl) (by walk_at "o") (by decide) (by decide)) (@zad _ _ _ _)) (@zad _ _ _ _))) (@zaa _ _ _ _ _ (@zad _ _ _ _) (@zae _) (by rfl)) (by rfl))) (@za1 _ _ _ _ _ _ _ _ _ zfs (by rfl) T.int zgF (@zaa _ _ _ _ _ (@za3 _ _ _ _ _ _ _ _ zbG (@zak _ _ _ _ _ _ _ _ zax (@zak _ _ _ _ _ _ _ _ zaB (@pv _ 0 _ _ (by rfl) (by walk_at "o") (by decide) (by decide)) (@zad _ _ _ _)) (@zad _ _ _ _)) (@zad _ _ _ _) (zav _)) (@zae _) (by rfl)) (by decide) (by decide) (by rfl) (by rfl)) (by exact fun _ _=>rfl)) (by rfl) (by exact Or.inl rfl) (by rfl) (by walk_at "p"))
   (zah (@zaq _ _ _ _ (@zaK _ _ _ _ _ (@zaa _ _ _ _ _ (@zeY _ _ _ _ _ _ _ _ _ _ _ GMPipe_1 (hrm hr) rfl (@zaa _ _ _ _ _ (@pv _ 6 _ _ (by rfl) (by walk_at "o") (by decide) (by decide)) (@zae _) (by rfl)) (by decide) (by rfl) (by rfl)) (@zaa _ _ _ _ _ (@zaw _ _ _ _ (@zaa _ _ _ _ _ (@pv _ 2 _ _ (by rfl) (by walk_at "o") (by decide) (by decide)) (@zaa _ _ _ _ _ (@zaw _ _ _ _ (@zae _)) (@zaa _ _ _ _ _ (@pv _ 6 _ _ (by rfl) (by walk_at "o") (by decide) (by decide)) (@zae _) (by rfl)) (by rfl)) (by rfl))) (@zae _) (by rfl)) (by rfl)))))))))))),?rd⟩
  have hv:other % 256≤255:=by omega
  have ev:(other:Int) % 256=((other % 256:Nat):Int):=by omega
  refine zas (fun σ X=>σ=L2.start ["one","other","kind","word","cells","words","room"] [V.int (one:Int),V.int (other:Int)]∧X=H) (fun σ X=>∃ kd:Nat,kd<5∧σ=[some (.int (one:Int)),some (.int (other:Int)),some (.str (za4 kd)),none,none,none,none]∧Same H X) ?_ ?_ _ _ ⟨rfl,rfl⟩
  ·rintro σ X ⟨rfl,rfl⟩ N hN
   refine ⟨by show 7≤sizeLine;decide,fun l hl=>⟨_,rfl,_,_,rfl,rfl,(show (0:Int)<7 by decide),?_⟩⟩
   obtain ⟨kd,hkd,ek⟩:∃ kd:Nat,kd<5∧atI [V.str "store",V.str "fixed",V.str "latch",V.str "meter",V.str "pipe",V.str "latch",V.str "store"] ((one:Int) % 7)=some (.str (za4 kd)):=by
    rw [show (one:Int) % 7=((one % 7:Nat):Int) by omega]
    rcases (show one % 7=0∨one % 7=1∨one % 7=2∨one % 7=3∨one % 7=4∨one % 7=5∨one % 7=6 by omega) with h | h | h | h | h | h | h <;> rw [h]
    ·exact ⟨0,by decide,rfl⟩
    ·exact ⟨1,by decide,rfl⟩
    ·exact ⟨2,by decide,rfl⟩
    ·exact ⟨3,by decide,rfl⟩
    ·exact ⟨4,by decide,rfl⟩
    ·exact ⟨2,by decide,rfl⟩
    ·exact ⟨0,by decide,rfl⟩
   exact ⟨l,_,_,_,rfl,rfl,SqL.of zab,ek,hN _ _ ⟨kd,hkd,rfl,zac hl⟩⟩
  rintro σ X ⟨kd,hkd,rfl,sX⟩
  refine zas (fun σ Y=>σ=[some (.int (one:Int)),some (.int (other:Int)),some (.str (za4 kd)),none,none,none,none]∧Y=X) (fun σ Y=>σ=[some (.int (one:Int)),some (.int (other:Int)),some (.str (za4 kd)),some (.int ((other % 256:Nat):Int)),none,none,none]∧Y=X) ?_ ?_ _ _ ⟨rfl,rfl⟩
  ·rintro σ Y ⟨rfl,rfl⟩ N hN
   refine ⟨_,rfl,_,_,rfl,rfl,(show (0:Int)<256 by decide),hN _ _ ⟨?_,rfl⟩⟩
   try dsimp only
   rw [ev]
   rfl
  rintro σ Y ⟨rfl,rfl⟩
  generalize other % 256=v at *
  have same_p:∀ {Z:Hp} {x dx p:Addr} {C:Addr},Z x=none→Z dx=none→dx≠x→upd (upd Z dx (.own x)) x (.ins C dx []) p=none→Z p=none:=fun {Z x dx p C} hx hdx ne h=>zdr ((zac (o:=.own x) hdx).trans (zac (o:=.ins C dx []) (by rw [zag (Ne.symm ne)];exact hx))) h
  have fin:∀ (x p r:Addr) (kd n:Nat) (us:List Nat) (Z:Hp),Same H Z→H p=none→H r=none→Chp cs Z x p kd n us→Z r=some (.lst (vN us))→Kd kd n us→(kd=2∨kd=3→us.length=1)→p≠r→3≤sizeLine∧∀ a,Z a=none→2≤sizeLine∧∀ t,upd Z a (.lst [.str (za4 kd),.ref r,.int (n:Int)]) t=none→Q (.ref t) (upd (upd Z a (.lst [.str (za4 kd),.ref r,.int (n:Int)])) t (.tup [.ref x,.ref a])):=fun x p r kd n us Z sZ hp hr' hc er hk h1' hne=>by
   refine ⟨by decide,fun a ha=>⟨by decide,fun t ht=>?_⟩⟩
   have sa:=zac (o:=.lst [V.str (za4 kd),.ref r,.int (n:Int)]) ha
   have st:=zac (o:=.tup [.ref x,.ref a]) ht
   exact k t ⟨x,p,a,r,kd,n,us⟩ _ (sZ.trans sa |>.free ht) zab hp hr' (sZ.free ha) ⟨hc.same (sa.trans st),⟨st _ _ zab,st _ _ (sa _ _ er)⟩,hk,h1',hne⟩ ((sZ.trans sa).trans st)
  
  refine zas (fun σ Z=>σ=[some (.int (one:Int)),some (.int (other:Int)),some (.str (za4 kd)),some (.int (v:Int)),none,none,none]∧Z=Y) (fun σ Z=>σ=[some (.int (one:Int)),some (.int (other:Int)),some (.str (za4 kd)),some (.int (v:Int)),none,none,none]∧Z=Y∧kd≠0) ?_ ?_ _ _ ⟨rfl,rfl⟩
  ·rintro σ Z ⟨rfl,rfl⟩ N hN
   refine ⟨_,rfl,rfl,_,rfl,?_⟩
   rw [show decide (V.str (za4 kd)=V.str "store")=decide (kd=0) from zbZ (j:=0) hkd (by decide)]
   by_cases e:kd=0
   ·subst e
    rw [Xap rfl]
    refine iteT ⟨_,rfl,_,_,rfl,rfl,⟨by decide,by decide +kernel⟩,_,_,rfl,rfl,(show (0:Int)<40 by decide),_,_,rfl,rfl,by show 4≤sizeLine;decide,fun l hl=>⟨_,rfl,_,_,rfl,rfl,⟨by decide,by decide +kernel⟩,_,_,rfl,rfl,(show (0:Int)<4 by decide),?_⟩⟩
    obtain ⟨cn,c1,c2,ec⟩:∃ cn:Nat,1≤cn∧cn≤300∧atI [V.int ((1:Int)+(one:Int) / 7 % 40),V.int 2,V.int 64,V.int 300] ((one:Int) / 280 % 4)=some (.int (cn:Int)):=by
     rw [show (one:Int) / 280 % 4=((one / 280 % 4:Nat):Int) by omega]
     rcases (show one / 280 % 4=0∨one / 280 % 4=1∨one / 280 % 4=2∨one / 280 % 4=3 by omega) with h | h | h | h <;> rw [h]
     ·exact ⟨1+one / 7 % 40,by omega,by omega,by show some (V.int ((1:Int)+(one:Int) / 7 % 40))=_;rw [show (1:Int)+(one:Int) / 7 % 40=((1+one / 7 % 40:Nat):Int) by omega]⟩
     ·exact ⟨2,by decide,by decide,rfl⟩
     ·exact ⟨64,by decide,by decide,rfl⟩
     ·exact ⟨300,by decide,by decide,rfl⟩
    refine ⟨l,_,_,_,rfl,rfl,SqL.of zab,ec,?_⟩
    have sl:=sX.trans (zac (o:=.lst [V.int ((1:Int)+(one:Int) / 7 % 40),V.int 2,V.int 64,V.int 300]) hl)
    refine ⟨_,rfl,_,rfl,fun x dx hx hdx ne=>⟨x,dx,cn,(v:Int),rfl,c1,by omega,by omega,by omega,zab,fun p Z1 hp ex el kp=>⟨rfl,?_⟩⟩⟩
    have sm:=zbO hx hdx ne kp
    have hp1:=same_p hx hdx ne hp
    refine ⟨_,rfl,_,rfl,by show 1≤sizeLine;decide,fun g hg=>⟨_,rfl,g,_,_,rfl,rfl,zab,by omega,by omega,?_,fun r hr'=>?_⟩⟩
    ·rw [Xat];exact Xav (show 1 * cn≤300 by omega) (by decide)
    have sg:=zac (o:=.lst [V.int (v:Int)]) hg
    have er:(List.replicate ((cn:Int)).toNat [V.int (v:Int)]).flatten=vN (List.replicate cn v):=by rw [Xat];exact ziP cn v
    rw [er]
    have sr:=zac (o:=.lst (vN (List.replicate cn v))) hr'
    have elv:Z1 p=some (.lst (vN (List.replicate cn v))):=by rw [el];unfold vN;rw [List.map_replicate]
    refine fin x p r 0 0 (List.replicate cn v) _ (sl.trans sm |>.trans sg |>.trans sr) (sl.free hp1) ((sl.trans sm).trans sg |>.free hr') ⟨?_,(sg.trans sr) _ _ elv⟩ zab ⟨by decide,fun w hw=>by rw [List.eq_of_mem_replicate hw];exact hv,by rw [XbB];omega,fun _=>by rw [XbB];exact c1,(fun h=>absurd h (by decide)),(fun h=>absurd h (by decide)),by decide⟩ (fun h=>by rcases h with h | h <;> cases h) ?_
    ·obtain ⟨d0,e0⟩:=ex
     exact ⟨d0,(sg.trans sr) _ _ e0⟩
    ·intro z
     have:=sg _ _ elv
     rw [z,hr'] at this;cases this
   ·rw [Xas e]
    exact iteF (hN _ _ ⟨rfl,rfl,e⟩)
  rintro σ Z ⟨rfl,rfl,e0⟩
  
  refine zas (fun σ Y=>σ=[some (.int (one:Int)),some (.int (other:Int)),some (.str (za4 kd)),some (.int (v:Int)),none,none,none]∧Y=Z) (fun σ Y=>σ=[some (.int (one:Int)),some (.int (other:Int)),some (.str (za4 kd)),some (.int (v:Int)),none,none,none]∧Y=Z∧kd≠1) ?_ ?_ _ _ ⟨rfl,rfl⟩
  ·rintro σ Y ⟨rfl,rfl⟩ N hN
   refine ⟨_,rfl,rfl,_,rfl,?_⟩
   rw [show decide (V.str (za4 kd)=V.str "fixed")=decide (kd=1) from zbZ (j:=1) hkd (by decide)]
   by_cases e:kd=1
   ·subst e
    rw [Xap rfl]
    refine iteT ⟨_,rfl,_,_,rfl,rfl,⟨by decide,by decide +kernel⟩,_,_,rfl,rfl,(show (0:Int)<20 by decide),_,_,rfl,rfl,_,rfl,by omega,by omega,?_⟩
    rw [show ((1:Int)+(one:Int) / 7 % 20).toNat=1+one / 7 % 20 by omega]
    generalize hc:1+one / 7 % 20=cn
    have c1:1≤cn∧cn≤20:=by omega
    refine zd8 (n:=cn) (fun i ys σ X'=>∃ (v0:Option V) (l:List Nat),σ=[v0,some (.int (other:Int))]∧ys=vN l∧l.length=i∧(∀ w∈l,w≤255)∧X'=Y) (Xav c1.2 (by decide)) ⟨none,[],rfl,rfl,rfl,(fun _ h=>nomatch h),rfl⟩ ?_ ?_ ?_
    ·rintro i ys σ X' ⟨v0,l,rfl,rfl,hl,_⟩
     rw [zaz,hl];exact Xaf _
    ·rintro i ys σ X' hi ⟨v0,l,rfl,rfl,hl,hw,rfl⟩
     rw [Int.zero_add]
     refine ⟨_,rfl,_,rfl,_,_,rfl,rfl,_,_,rfl,rfl,⟨by omega,log_ok (by omega) (by omega)⟩,_,rfl,_,_,rfl,rfl,zcp (by decide) (by omega),_,_,rfl,rfl,_,_,rfl,rfl,(show (0:Int)<256 by decide),?_⟩
     refine ⟨_,l ++ [((other / (1+i)+7 * i) % 256:Nat)],rfl,?_,by simp [hl],fun w hw'=>?_,rfl⟩
     ·rw [zdd]
      congr 2
     ·rcases XaF.mp hw' with h | h
      ·exact hw w h
      ·rw [Xac.mp h];omega
    ·rintro ys σ X' ⟨v0,l,rfl,rfl,hl,hw,rfl⟩ r hr'
     have sr:=sX.trans (zac (o:=.lst (vN l)) hr')
     refine ⟨_,rfl,fun x dx hx hdx ne=>⟨x,dx,r,l,rfl,?_,by omega,by omega,hw,zab,fun p Z1 hp ex el kp=>⟨rfl,?_⟩⟩⟩
     ·rw [zag (fun z=>by rw [← z,zab] at hx;cases hx),zag (fun z=>by rw [← z,zab] at hdx;cases hdx)];exact zab
     have sm:=zbO hx hdx ne kp
     have hp1:=same_p hx hdx ne hp
     have er:=sm _ _ (zab (H:=X') (a:=r) (o:=.lst (vN l)))
     refine ⟨_,rfl,_,rfl,fin x p r 1 0 l Z1 (sr.trans sm) (sr.free hp1) (sX.free hr') ⟨ex,el⟩ er ⟨by decide,hw,by omega,fun _=>by omega,(fun h=>absurd h (by decide)),(fun h=>absurd h (by decide)),by decide⟩ (fun h=>by rcases h with h | h <;> cases h) ?_⟩
     intro z
     rw [z,zab] at hp1;cases hp1
   ·rw [Xas e]
    exact iteF (hN _ _ ⟨rfl,rfl,e⟩)
  rintro σ Y ⟨rfl,rfl,e1⟩
  refine zas (fun σ Z=>σ=[some (.int (one:Int)),some (.int (other:Int)),some (.str (za4 kd)),some (.int (v:Int)),none,none,none]∧Z=Y) (fun σ Z=>σ=[some (.int (one:Int)),some (.int (other:Int)),some (.str (za4 kd)),some (.int (v:Int)),none,none,none]∧Z=Y∧kd≠2) ?_ ?_ _ _ ⟨rfl,rfl⟩
  ·rintro σ Z ⟨rfl,rfl⟩ N hN
   refine ⟨_,rfl,rfl,_,rfl,?_⟩
   rw [show decide (V.str (za4 kd)=V.str "latch")=decide (kd=2) from zbZ (j:=2) hkd (by decide)]
   by_cases e:kd=2
   ·subst e
    rw [Xap rfl]
    refine iteT ⟨_,rfl,fun x dx hx hdx ne=>⟨x,dx,(v:Int),rfl,by omega,by omega,zab,fun p Z1 hp ex el kp=>⟨rfl,?_⟩⟩⟩
    have sm:=zbO hx hdx ne kp
    have hp1:=same_p hx hdx ne hp
    refine ⟨_,rfl,_,rfl,by show 1≤sizeLine;decide,fun r hr'=>?_⟩
    have sr:=zac (o:=.lst [V.int (v:Int)]) hr'
    refine fin x p r 2 0 [v] _ ((sX.trans sm).trans sr) (sX.free hp1) ((sX.trans sm).free hr') ⟨?_,sr _ _ el⟩ zab ⟨by decide,fun w hw=>by rw [Xac] at hw;omega,by show 1≤4096;decide,fun _=>Xaf _,fun _=>rfl,(fun h=>absurd h (by decide)),by decide⟩ (fun _=>rfl) ?_
    ·obtain ⟨d0,e0⟩:=ex
     exact ⟨d0,sr _ _ e0⟩
    ·intro z
     rw [z,hr'] at el;cases el
   ·rw [Xas e]
    exact iteF (hN _ _ ⟨rfl,rfl,e⟩)
  rintro σ Y' ⟨rfl,rfl,e2⟩
  refine zas (fun σ Z=>σ=[some (.int (one:Int)),some (.int (other:Int)),some (.str (za4 kd)),some (.int (v:Int)),none,none,none]∧Z=Y') (fun σ Z=>σ=[some (.int (one:Int)),some (.int (other:Int)),some (.str (za4 kd)),some (.int (v:Int)),none,none,none]∧Z=Y'∧kd≠3) ?_ ?_ _ _ ⟨rfl,rfl⟩
  ·rintro σ Z ⟨rfl,rfl⟩ N hN
   refine ⟨_,rfl,rfl,_,rfl,?_⟩
   rw [show decide (V.str (za4 kd)=V.str "meter")=decide (kd=3) from zbZ (j:=3) hkd (by decide)]
   by_cases e:kd=3
   ·subst e
    rw [Xap rfl]
    refine iteT ⟨_,rfl,fun x dx hx hdx ne=>⟨x,dx,(v:Int),rfl,by omega,by omega,zab,fun p Z1 hp ex el kp=>⟨rfl,?_⟩⟩⟩
    have sm:=zbO hx hdx ne kp
    have hp1:=same_p hx hdx ne hp
    refine ⟨_,rfl,_,rfl,by show 1≤sizeLine;decide,fun r hr'=>?_⟩
    have sr:=zac (o:=.lst [V.int (v:Int)]) hr'
    refine fin x p r 3 0 [v] _ ((sX.trans sm).trans sr) (sX.free hp1) ((sX.trans sm).free hr') ⟨?_,sr _ _ el⟩ zab ⟨by decide,fun w hw=>by rw [Xac] at hw;omega,by show 1≤4096;decide,fun _=>Xaf _,fun _=>rfl,(fun h=>absurd h (by decide)),by decide⟩ (fun _=>rfl) ?_
    ·obtain ⟨d0,e0⟩:=ex
     exact ⟨d0,sr _ _ e0⟩
    ·intro z
     rw [z,hr'] at el;cases el
   ·rw [Xas e]
    exact iteF (hN _ _ ⟨rfl,rfl,e⟩)
  rintro σ Z ⟨rfl,rfl,e3⟩
  obtain rfl:kd=4:=by omega
  refine ⟨_,rfl,_,_,rfl,rfl,⟨by decide,by decide +kernel⟩,_,_,rfl,rfl,(show (0:Int)<9 by decide),_,_,rfl,rfl,by show 2≤sizeLine;decide,fun l hl=>⟨_,rfl,_,_,rfl,rfl,⟨by decide,by decide +kernel⟩,_,_,rfl,rfl,(show (0:Int)<8 by decide),rfl,.inr ⟨_,rfl,?_⟩⟩⟩
  obtain ⟨rm,c1,c2,ec⟩:∃ rm:Nat,1≤rm∧rm≤255∧atI [V.int ((1:Int)+(one:Int) / 7 % 9),V.int 255] (if decide (V.int ((one:Int) / 63 % 8)=V.int 3)=true then 1 else 0)=some (.int (rm:Int)):=by
   by_cases h:decide (V.int ((one:Int) / 63 % 8)=V.int 3)=true
   ·rw [if_pos h];exact ⟨255,by decide,by decide,rfl⟩
   ·rw [if_neg h]
    exact ⟨1+one / 7 % 9,by omega,by omega,by show some (V.int ((1:Int)+(one:Int) / 7 % 9))=_;rw [show (1:Int)+(one:Int) / 7 % 9=((1+one / 7 % 9:Nat):Int) by omega]⟩
  have sl:=sX.trans (zac (o:=.lst [V.int ((1:Int)+(one:Int) / 7 % 9),V.int 255]) hl)
  refine ⟨l,_,_,_,rfl,rfl,SqL.of zab,ec,?_⟩
  refine ⟨_,rfl,fun x dx hx hdx ne=>⟨x,dx,rm,rfl,c1,c2,zab,fun p Z1 hp ob kp=>⟨rfl,?_⟩⟩⟩
  have sm:=zbO hx hdx ne kp
  have hp1:=same_p hx hdx ne hp
  refine ⟨_,rfl,by show 0≤sizeLine;decide,fun r hr'=>⟨_,rfl,?_⟩⟩
  have sr:=zac (o:=.lst []) hr'
  refine fin x p r 4 rm [] _ ((sl.trans sm).trans sr) (sl.free hp1) ((sl.trans sm).free hr') ⟨?_,sr _ _ ob.ls⟩ zab ⟨by decide,(fun w hw=>nomatch hw),by decide,(fun h=>absurd rfl h),(fun h=>absurd h (by decide)),fun _=>⟨Nat.zero_le _,c1⟩,c2⟩ (fun h=>by rcases h with h | h <;> cases h) ?_
  ·obtain ⟨d0,e0⟩:=ob.ex
   exact ⟨d0,sr _ _ e0⟩
  ·intro z
   have:=ob.ls
   rw [z,hr'] at this;cases this
abbrev zcd:Stmt:=top 68
theorem sc_law_chips:FnScope ["row","chips","models","k","chip","model"] ["row"] (zai zcd):=sck rfl rfl rfl (by decide +kernel)
inductive spChips34 (cs:Nat→Addr)(vs:List V)(H:Hp)(Q:VK)(u3_:XK):Prop
 | mk (L:Addr) (row:List Nat) (c:Nat) (z0_:vs=[.ref L]) (z1_:H L=some (.lst (vN row))) (z2_:row.length=2 * c) (z3_:1≤c) (z4_:c≤9) (z5_:(∀ v∈row,v<2 ^ 31)) (z6_:∀ (t CL ML:Addr) (cl:List Cm) (H':Hp),H t=none→H CL=none→H ML=none→CL≠ML→H' t=some (.tup [.ref CL,.ref ML])→H' CL=some (.lst (cl.map fun c=>.ref c.x))→H' ML=some (.lst (cl.map fun c=>.ref c.m))→cl.length=c→CMs cs H' cl→(∀ c∈cl,H c.p=none∧H c.r=none∧c.p≠CL∧c.p≠ML∧c.r≠CL∧c.r≠ML)→Same H H'→Q (.ref t) H')
theorem ze6 {f:Addr}{cs:Nat→Addr}{fd:FuncData}(F:Fun K "_law_chips" "_law_chips" zcd f fd)(T:Blt mg)(G_law_chip:Cal P w K mg base 5 "_law_chip" ["one","other"] (spChip34 cs)):FnOk P w K mg base CX0 6 f fd ["row"] (spChips34 cs):=by
 refine F.ok sc_law_chips (by walk_at "l") (fun cdv A outer s H vs Q E hr h=>?_)
 ·obtain ⟨L,row,c,rfl,eL,hl,c1,c9,hw,k⟩:=h
  refine ⟨_,(zaf (ps_L 1 sc_law_chips.nd (zaw zae))
   (zaf (ps_L 2 sc_law_chips.nd (zaw zae))
   (zaf (zbg PassesOwn.never rfl (zeX rfl T.range (zaa zad (zaa (zak zb5 (zal zan (by rfl) T.len PySem.boot_len (zaa (pv 0) zae)) zad) (zaa zad zae)))) (pg_L 3 sc_law_chips.nd)
   (zaf (zcR (pe_c G_law_chip (zaa (pe_x zam (pv 0) (pv 3)) (zaa (pe_x zam (pv 0) (zak zaM (pv 3) zad)) zae))) (zbv rfl (zao (pg_L 4 sc_law_chips.nd) (zao (pg_L 5 sc_law_chips.nd) zaY))))
   (zaf (zaA (zb0 PySem.F.plainAttrs_list PySem.F.slot_list_append PySem.F.type_list_append zaC (pv 1) (zaa (pv 4) zae)))
   (zah (zaA (zb0 PySem.F.plainAttrs_list PySem.F.slot_list_append PySem.F.type_list_append zaC (pv 2) (zaa (pv 5) zae)))))))
   (zah (zaq (zaK (zaa (pv 1) (zaa (pv 2) zae)))))))),?rd⟩
  refine ⟨by show 0≤sizeLine;decide,fun CL hCL=>⟨by show 0≤sizeLine;decide,fun ML hML=>?_⟩⟩
  have s1:=zac (o:=.lst []) hCL
  have s2:=s1.trans (zac (o:=.lst []) hML)
  have nCM:CL≠ML:=fun z=>by rw [← z,zab] at hML;cases hML
  have hMH:H ML=none:=s1.free hML
  have nLC:L≠CL:=zaj eL hCL
  have nLM:L≠ML:=zaj eL hMH
  obtain ⟨r1,r2,r3⟩:=zgk (j:=2 * c - 1) (st:=2) (n:=c) (by omega) (by decide) (by decide) (by omega)
  have ej:(((vN row).length:Nat):Int) - 1=((2 * c - 1:Nat):Int):=by rw [zaz,hl];omega
  rw [← ej] at r1 r2 r3
  refine ⟨_,rfl,L,_,rfl,.inl (SqL.of (s2 _ _ eL)),_,_,rfl,rfl,0,_,2,c,rfl,by decide,r1,r2,r3,?_⟩
  refine zd5 (n:=c) (fun i σ X=>∃ (v:Option V×Option V×Option V) (cl:List Cm),σ=[some (.ref L),some (.ref CL),some (.ref ML),v.1,v.2.1,v.2.2]∧X CL=some (.lst (cl.map fun c=>.ref c.x))∧X ML=some (.lst (cl.map fun c=>.ref c.m))∧cl.length=i∧CMs cs X cl∧(∀ c∈cl,H c.p=none∧H c.r=none∧c.p≠CL∧c.p≠ML∧c.r≠CL∧c.r≠ML∧c.x≠CL∧c.x≠ML∧c.m≠CL∧c.m≠ML)∧Same H X) ⟨(_,_,_),[],rfl,zac hML _ _ zab,zab,rfl,⟨(fun _ h=>nomatch h),List.nodup_nil⟩,(fun _ h=>nomatch h),s2⟩ ?_ ?_
  ·rintro i σ X hi ⟨v,cl,rfl,hh⟩
   have eC:=hh.1
   have eM:=hh.2.1
   have hlen:=hh.2.2.1
   have hC:=hh.2.2.2.1
   have hF:=hh.2.2.2.2.1
   have sX:=hh.2.2.2.2.2
   obtain ⟨dr,hdr⟩:=drw (row:=row) (2 * c) (by omega) hw
   have eX:=sX _ _ eL
   have e1:(0:Int)+(i:Int) * 2=((2 * i:Nat):Int):=by omega
   rw [e1]
   have eb':atI (vN row) (((2 * i:Nat):Int)+1)=some (.int (dr (2 * i+1):Int)):=by rw [show ((2 * i:Nat):Int)+1=((2 * i+1:Nat):Int) by omega];exact (hdr _ (by omega)).1
   refine ⟨_,rfl,_,rfl,L,_,_,_,rfl,rfl,SqL.of eX,(hdr (2 * i) (by omega)).1,_,rfl,_,rfl,_,_,rfl,rfl,L,_,_,_,rfl,rfl,SqL.of eX,eb',?_⟩
   refine ⟨dr (2 * i),dr (2 * i+1),rfl,(hdr _ (by omega)).2,(hdr _ (by omega)).2,fun t cm X1 ht et hp hr' hm ok s1=>zjX et ?_⟩
   have hC1:=hC.add s1 hp hr' ok
   have eC1:=s1 _ _ eC
   have eM1:=s1 _ _ eM
   have nx:∀ {q:Addr} {l:List V},X1 q=some (.lst l)→cm.x≠q:=fun {q l} h z=>by
    obtain ⟨dx,e⟩:=ok.ch.ex;rw [z,h] at e;cases e
   have nn:∀ {q z:Addr} {o:HO},X q=some o→X z=none→z≠q:=fun {q z o} h1 h2 e=>by rw [e,h1] at h2;cases h2
   have hF1:∀ c∈cl ++ [cm],H c.p=none∧H c.r=none∧c.p≠CL∧c.p≠ML∧c.r≠CL∧c.r≠ML∧c.x≠CL∧c.x≠ML∧c.m≠CL∧c.m≠ML:=fun c hc=>by
    rcases XaF.mp hc with hc | hc
    ·exact hF c hc
    ·rw [Xac.mp hc]
     exact ⟨sX.free hp,sX.free hr',nn eC hp,nn eM hp,nn eC hr',nn eM hr',nx eC1,nx eM1,nn eC hm,nn eM hm⟩
   try dsimp only [za7,List.set]
   refine ⟨_,rfl,.inl ⟨rfl,_,SqL.of eC1⟩,_,rfl,CL,_,_,rfl,rfl,eC1,?_,?_⟩
   ·rw [Xae];exact XaL (show cl.length≤9 by omega) (by decide)
   have eM2:upd X1 CL (.lst ((cl.map fun c=>V.ref c.x) ++ [.ref cm.x])) ML=some (.lst (cl.map fun c=>.ref c.m)):=by rw [zag (Ne.symm nCM)];exact eM1
   refine ⟨_,rfl,.inl ⟨rfl,_,SqL.of eM2⟩,_,rfl,ML,_,_,rfl,rfl,eM2,?_,?_⟩
   ·rw [Xae];exact XaL (show cl.length≤9 by omega) (by decide)
   refine ⟨(_,_,_),cl ++ [cm],rfl,?_,?_,by simp [hlen],?_,hF1,fun z o ez=>?_⟩
   ·rw [zag nCM,zab,XaC];rfl
   ·rw [zab,XaC];rfl
   ·exact (hC1.updL fun c hc=>let f:=hF1 c hc;⟨f.2.2.2.2.2.2.1,f.2.2.1,f.2.2.2.2.2.2.2.2.1,f.2.2.2.2.1⟩).updL fun c hc=>let f:=hF1 c hc;⟨f.2.2.2.2.2.2.2.1,f.2.2.2.1,f.2.2.2.2.2.2.2.2.2,f.2.2.2.2.2.1⟩
   ·rw [zag (zaj ez hMH),zag (zaj ez hCL)];exact s1 _ _ (sX _ _ ez)
  ·rintro σ X ⟨v,cl,rfl,eC,eM,hlen,hC,hF,sX⟩
   refine ⟨_,rfl,_,rfl,by show 2≤sizeLine;decide,fun t ht=>?_⟩
   have st:=zac (o:=.tup [.ref CL,.ref ML]) ht
   exact k t CL ML cl _ (sX.free ht) hCL hMH nCM zab (st _ _ eC) (st _ _ eM) hlen (hC.same st) (fun c hc=>let f:=hF c hc;⟨f.1,f.2.1,f.2.2.1,f.2.2.2.1,f.2.2.2.2.1,f.2.2.2.2.2.1⟩) (sX.trans st)
abbrev zds:Stmt:=top 74
theorem sc_law_row:FnScope ["r","bits","models","top","high","mask","chip","most","inner","latches","latch","asked"] ["r","bits","models"] (zai zds):=sck rfl rfl rfl (by decide +kernel)
theorem andnot (a b:Nat):a - (a &&& b)=a ^^^ (a &&& b):=by
 have h:=or_is a (a &&& b)
 have h1:a ||| (a &&& b)=a:=by apply Nat.eq_of_testBit_eq;intro i;simp;cases a.testBit i <;> simp
 have h2:a &&& (a &&& b)=a &&& b:=by apply Nat.eq_of_testBit_eq;intro i;simp
 rw [h1,h2] at h
 omega
theorem left_of {T mask A i:Nat}(hm:T &&& mask=mask)(hA:A &&& (T - mask)=A)(hi:i &&& A=i):i≤T∧i &&& mask=0:=by
 have e:T - mask=T ^^^ (T &&& mask):=by rw [← andnot,hm]
 have h1:i≤A:=by rw [← hi];exact Xbr
 have h2:A≤T - mask:=by rw [← hA];exact Xbr
 refine ⟨by omega,?_⟩
 apply Nat.eq_of_testBit_eq
 intro j
 have b1:=congrArg (fun x=>Nat.testBit x j) hi
 have b2:=congrArg (fun x=>Nat.testBit x j) hA
 rw [e] at b2
 simp only [XaD,Nat.testBit_xor,Nat.zero_testBit] at b1 b2 ⊢
 revert b1 b2
 cases i.testBit j <;> cases A.testBit j <;> cases mask.testBit j <;> cases T.testBit j <;> simp
theorem zkR {x m:Nat}:x &&& (2 ^ m - 1)<2 ^ m:=by
 have h:=XbE m
 have h2:x &&& (2 ^ m - 1)≤2 ^ m - 1:=Xbr
 omega
theorem zkc {mask m:Nat}(h:mask<2 ^ m):(2 ^ m - 1) &&& mask=mask:=by
 rw [Nat.and_comm,Nat.and_two_pow_sub_one_eq_mod,Nat.mod_eq_of_lt h]
theorem zgR {ns:List Nat}{a k:Nat}(hl:ns.length=k)(hk:0<k):∃ u∈ns,atI (vN ns) ((a:Int) % (k:Int))=some (.int (u:Int)):=by
 have h:a % k<ns.length:=by rw [hl];exact Xbc _ hk
 refine ⟨ns[a % k],Xbf _,?_⟩
 rw [show (a:Int) % (k:Int)=((a % k:Nat):Int) by norm_cast]
 refine zaJ ?_
 unfold vN
 rw [Xan,Xak h]
 rfl
theorem zje {cs:Nat→Addr}{H:Hp}{cl:List Cm}{ML:Addr}{Q:List V→Hp→Prop}(eM:H ML=some (.lst (cl.map fun c=>.ref c.m)))(hC:CMs cs H cl)(c9:cl.length≤9)(k:∀ l:List Nat,l.length≤9→(∀ x∈l,x<cl.length∧(cl.getD x dfCm).kd=2)→Q (vN l) H) :
  zgd (Itr 0 cl.length) (za7 0) (zkd (tOp rEq (tOp (rIxL K) (tOp (rIxL K) (tVar 1) (tVar 0)) (tC (.int 0))) (tC (.str "latch")))) (tVar 0) Q [none,some (.ref ML)] H:=by
 refine zd8 (n:=cl.length) (fun j ys σ Y=>∃ (v0:Option V) (l:List Nat),σ=[v0,some (.ref ML)]∧ys=vN l∧l.length≤j∧(∀ x∈l,x<cl.length∧(cl.getD x dfCm).kd=2)∧Y=H) (Xav c9 (by decide)) ⟨none,[],rfl,rfl,Xaf _,(fun x h=>nomatch h),rfl⟩ ?_ ?_ ?_
 ·rintro j ys σ Y ⟨_,l,_,rfl,hl,_⟩
  rw [zaz];exact hl
 ·rintro j ys σ Y hj ⟨v0,l,rfl,rfl,hl,hx,rfl⟩
  rw [Int.zero_add]
  have okj:=hC.o _ (zbS hj).1
  have hat:atI (cl.map fun c=>V.ref c.m) (j:Int)=some (.ref (cl.getD j dfCm).m):=zaJ (by rw [Xan,(zbS hj).2];rfl)
  have kn:decide (V.str (za4 (cl.getD j dfCm).kd)=V.str "latch")=decide ((cl.getD j dfCm).kd=2):=zbZ (j:=2) okj.k.k5 (by decide)
  refine ⟨_,rfl,_,rfl,ML,_,_,_,rfl,rfl,SqL.of eM,hat,(cl.getD j dfCm).m,_,_,_,rfl,rfl,SqL.of okj.md.at_,rfl,rfl,_,rfl,?_⟩
  rw [kn]
  by_cases h2:(cl.getD j dfCm).kd=2
  ·rw [Xap h2]
   refine iteT ⟨_,rfl,_,l ++ [j],rfl,by rw [zdd],by rw [Xao];simp;omega,fun x h=>?_,rfl⟩
   rcases XaF.mp h with h | h
   ·exact hx x h
   ·obtain rfl:=Xac.mp h;exact ⟨hj,h2⟩
  ·rw [Xas h2]
   exact iteF ⟨_,l,rfl,rfl,by omega,hx,rfl⟩
 ·rintro ys σ Y ⟨v0,l,rfl,rfl,hl,hx,rfl⟩
  exact k l (by omega) hx
inductive spRow34 (cs:Nat→Addr)(vs:List V)(H:Hp)(Q:VK)(u3_:XK):Prop
 | mk (L ML:Addr) (row:List Nat) (m:Nat) (cl:List Cm) (z0_:vs=[.ref L,.int (m:Int),.ref ML]) (z1_:H L=some (.lst (vN row))) (z2_:row.length=8) (z3_:(∀ v∈row,v<2 ^ 31)) (z4_:1≤m) (z5_:m≤16) (z6_:H ML=some (.lst (cl.map fun c=>.ref c.m))) (z7_:1≤cl.length) (z8_:cl.length≤9) (z9_:CMs cs H cl) (z10_:∀ (t:Addr) (r:Rw) (H':Hp),H t=none→RwAt H' t r→RwOk m r→Fit (dtC cl) r→Same H H'→Q (.ref t) H')
set_option tactic.hygienic true in
theorem zgY {f:Addr}{cs:Nat→Addr}{fd:FuncData}(F:Fun K "_law_row" "_law_row" zds f fd)(T:Blt mg)(G_law_few:Cal P w K mg base 2 "_law_few" ["number","most"] spFew)(G_law_size:Cal P w K mg base 1 "_law_size" ["model"] spSz34):FnOk P w K mg base CX0 3 f fd ["r","bits","models"] (spRow34 cs):=by
 refine F.ok sc_law_row (by walk_at "l") (fun cdv A outer s H vs Q E hr h=>?_)
 ·obtain ⟨L,ML,row,m,cl,rfl,eL,hl,hw,m1,m2,eM,c1,c9,hC,k⟩:=h
  refine ⟨_,(zaf (@ps_L _ _ _ _ _ _ 3 sc_law_row.nd (@zak _ _ _ _ _ _ _ _ zb5 (@zak _ _ _ _ _ _ _ _ zd3 (@zad _ _ _ _) (@pv _ 1 _ _ (by rfl) (by walk_at "o") (by decide) (by decide))) (@zad _ _ _ _)) (by rfl) (by exact Or.inl rfl) (by rfl) (by walk_at "p"))
   (zaf (@ps_L _ _ _ _ _ _ 4 sc_law_row.nd (@zak _ _ _ _ _ _ _ _ zaM (@zak _ _ _ _ _ _ _ _ zb5 (@pv _ 3 _ _ (by rfl) (by walk_at "o") (by decide) (by decide)) (@zak _ _ _ _ _ _ _ _ zd3 (@zad _ _ _ _) (@zak _ _ _ _ _ _ _ _ zax (@zak _ _ _ _ _ _ _ _ zaB (@pe_x _ _ _ _ _ _ _ zam (@pv _ 0 _ _ (by rfl) (by walk_at "o") (by decide) (by decide)) (@zad _ _ _ _) (by exact fun _ _=>rfl)) (@zad _ _ _ _)) (@pv _ 1 _ _ (by rfl) (by walk_at "o") (by decide) (by decide))))) (@zad _ _ _ _)) (by rfl) (by exact Or.inl rfl) (by rfl) (by walk_at "p"))
   (zaf (@ps_L _ _ _ _ _ _ 5 sc_law_row.nd (@zak _ _ _ _ _ _ _ _ zaW (@pe_x _ _ _ _ _ _ _ zam (@zaw _ _ _ _ (@zaa _ _ _ _ _ (@pe_x _ _ _ _ _ _ _ zam (@pv _ 0 _ _ (by rfl) (by walk_at "o") (by decide) (by decide)) (@zad _ _ _ _) (by exact fun _ _=>rfl)) (@zaa _ _ _ _ _ (@zak _ _ _ _ _ _ _ _ zhM (@pe_x _ _ _ _ _ _ _ zam (@pv _ 0 _ _ (by rfl) (by walk_at "o") (by decide) (by decide)) (@zad _ _ _ _) (by exact fun _ _=>rfl)) (@pe_x _ _ _ _ _ _ _ zam (@pv _ 0 _ _ (by rfl) (by walk_at "o") (by decide) (by decide)) (@zad _ _ _ _) (by exact fun _ _=>rfl))) (@zaa _ _ _ _ _ (@zak _ _ _ _ _ _ _ _ zaW (@pe_x _ _ _ _ _ _ _ zam (@pv _ 0 _ _ (by rfl) (by walk_at "o") (by decide) (by decide)) (@zad _ _ _ _) (by exact fun _ _=>rfl)) (@pe_x _ _ _ _ _ _ _ zam (@pv _ 0 _ _ (by rfl) (by walk_at "o") (by decide) (by decide)) (@zad _ _ _ _) (by exact fun _ _=>rfl))) (@zaa _ _ _ _ _ (@pv _ 4 _ _ (by rfl) (by walk_at "o") (by decide) (by decide)) (@zaa _ _ _ _ _ (@pe_c _ _ _ _ _ _ _ _ _ _ G_law_few (@zaa _ _ _ _ _ (@zak _ _ _ _ _ _ _ _ zaW (@pe_x _ _ _ _ _ _ _ zam (@pv _ 0 _ _ (by rfl) (by walk_at "o") (by decide) (by decide)) (@zad _ _ _ _) (by exact fun _ _=>rfl)) (@pv _ 3 _ _ (by rfl) (by walk_at "o") (by decide) (by decide))) (@zaa _ _ _ _ _ (@zak _ _ _ _ _ _ _ _ zax (@pe_x _ _ _ _ _ _ _ zam (@pv _ 0 _ _ (by rfl) (by walk_at "o") (by decide) (by decide)) (@zad _ _ _ _) (by exact fun _ _=>rfl)) (@zad _ _ _ _)) (@zae _) (by rfl)) (by rfl)) (by exact hrm ( by assumption )) (by rfl) (by decide) (by rfl) (by rfl)) (@zae _) (by rfl)) (by rfl)) (by rfl)) (by rfl)) (by rfl))) (@zak _ _ _ _ _ _ _ _ zax (@pe_x _ _ _ _ _ _ _ zam (@pv _ 0 _ _ (by rfl) (by walk_at "o") (by decide) (by decide)) (@zad _ _ _ _) (by exact fun _ _=>rfl)) (@zad _ _ _ _)) (by exact fun _ _=>rfl)) (@pv _ 3 _ _ (by rfl) (by walk_at "o") (by decide) (by decide))) (by rfl) (by exact Or.inl rfl) (by rfl) (by walk_at "p"))
   (zaf (@ps_L _ _ _ _ _ _ 6 sc_law_row.nd (@zak _ _ _ _ _ _ _ _ zax (@pe_x _ _ _ _ _ _ _ zam (@pv _ 0 _ _ (by rfl) (by walk_at "o") (by decide) (by decide)) (@zad _ _ _ _) (by exact fun _ _=>rfl)) (@zal _ _ _ _ _ _ _ _ _ zan (by rfl) T.len PySem.boot_len (@zaa _ _ _ _ _ (@pv _ 2 _ _ (by rfl) (by walk_at "o") (by decide) (by decide)) (@zae _) (by rfl)) (by decide) (by decide) (by rfl) (by rfl))) (by rfl) (by exact Or.inl rfl) (by rfl) (by walk_at "p"))
   (zaf (@ps_L _ _ _ _ _ _ 7 sc_law_row.nd (@zad _ _ _ _) (by rfl) (by exact Or.inl rfl) (by rfl) (by walk_at "p"))
   (zaf (@zen _ _ _ _ _ _ PassesOwn.never (@zau _ _ _ _ _ _ _ _ zgT (@zak _ _ _ _ _ _ _ _ zd3 (@zad _ _ _ _) (@pv _ 7 _ _ (by rfl) (by walk_at "o") (by decide) (by decide))) (@pe_c _ _ _ _ _ _ _ _ _ _ G_law_size (@zaa _ _ _ _ _ (@pe_x _ _ _ _ _ _ _ zam (@pv _ 2 _ _ (by rfl) (by walk_at "o") (by decide) (by decide)) (@pv _ 6 _ _ (by rfl) (by walk_at "o") (by decide) (by decide)) (by exact fun _ _=>rfl)) (@zae _) (by rfl)) (by exact hrm ( by assumption )) (by rfl) (by decide) (by rfl) (by rfl)) (zav _)) (@zah _ _ _ (@zjL _ _ (7) _ _ _ _ _ _ sc_law_row.nd rfl (Or.inl rfl) (@zad _ _ _ _) zh2 (by walk_at "p"))))
   (zaf (@ps_L _ _ _ _ _ _ 8 sc_law_row.nd (@pe_c _ _ _ _ _ _ _ _ _ _ G_law_few (@zaa _ _ _ _ _ (@pe_x _ _ _ _ _ _ _ zam (@zaw _ _ _ _ (@zaa _ _ _ _ _ (@zak _ _ _ _ _ _ _ _ zb5 (@pv _ 3 _ _ (by rfl) (by walk_at "o") (by decide) (by decide)) (@pv _ 5 _ _ (by rfl) (by walk_at "o") (by decide) (by decide))) (@zaa _ _ _ _ _ (@zak _ _ _ _ _ _ _ _ zaW (@pe_x _ _ _ _ _ _ _ zam (@pv _ 0 _ _ (by rfl) (by walk_at "o") (by decide) (by decide)) (@zad _ _ _ _) (by exact fun _ _=>rfl)) (@zak _ _ _ _ _ _ _ _ zb5 (@pv _ 3 _ _ (by rfl) (by walk_at "o") (by decide) (by decide)) (@pv _ 5 _ _ (by rfl) (by walk_at "o") (by decide) (by decide)))) (@zae _) (by rfl)) (by rfl))) (@zak _ _ _ _ _ _ _ _ zax (@pe_x _ _ _ _ _ _ _ zam (@pv _ 0 _ _ (by rfl) (by walk_at "o") (by decide) (by decide)) (@zad _ _ _ _) (by exact fun _ _=>rfl)) (@zad _ _ _ _)) (by exact fun _ _=>rfl)) (@zaa _ _ _ _ _ (@pe_x _ _ _ _ _ _ _ zam (@zaw _ _ _ _ (@zaa _ _ _ _ _ (@pv _ 7 _ _ (by rfl) (by walk_at "o") (by decide) (by decide)) (@zaa _ _ _ _ _ (@zak _ _ _ _ _ _ _ _ zax (@zak _ _ _ _ _ _ _ _ zaB (@pe_x _ _ _ _ _ _ _ zam (@pv _ 0 _ _ (by rfl) (by walk_at "o") (by decide) (by decide)) (@zad _ _ _ _) (by exact fun _ _=>rfl)) (@zad _ _ _ _)) (@zak _ _ _ _ _ _ _ _ zaM (@pv _ 7 _ _ (by rfl) (by walk_at "o") (by decide) (by decide)) (@zad _ _ _ _))) (@zae _) (by rfl)) (by rfl))) (@zak _ _ _ _ _ _ _ _ zax (@zak _ _ _ _ _ _ _ _ zaB (@pe_x _ _ _ _ _ _ _ zam (@pv _ 0 _ _ (by rfl) (by walk_at "o") (by decide) (by decide)) (@zad _ _ _ _) (by exact fun _ _=>rfl)) (@zad _ _ _ _)) (@zad _ _ _ _)) (by exact fun _ _=>rfl)) (@zae _) (by rfl)) (by rfl)) (by exact hrm ( by assumption )) (by rfl) (by decide) (by rfl) (by rfl)) (by rfl) (by exact Or.inl rfl) (by rfl) (by walk_at "p"))
   (zaf (@zdZ _ (["k","models"]) _ _ _ _ _ _ _ _ _ _ (9) _ _ _ [none,some 2] sc_law_row.nd rfl rfl rfl (zaQ (by rfl)) (@zbu _ _ _ _ _ _ rfl T.range (@zaa _ _ _ _ _ (@zal _ _ _ _ _ _ _ _ _ zan (by rfl) T.len PySem.boot_len (@zaa _ _ _ _ _ (@pv _ 2 _ _ (by rfl) (by walk_at "o") (by decide) (by decide)) (@zae _) (by rfl)) (by decide) (by decide) (by rfl) (by rfl)) (@zae _) (by rfl)) (by rfl)) (fun _ _ _ _ _=>(@pg_L _ _ _ 0 (show (["k","models"]:List Str).Nodup by decide +kernel) (by rfl) (by exact Or.inl rfl) (by walk_at "p"))) (fun _ _ _ _ _=>(@zgo _ _ _ (@zau _ _ _ _ _ _ _ _ zbG (@pe_x _ _ _ _ _ _ _ (zgu (K:=K) rfl) (@pe_x _ _ _ _ _ _ _ (zgu (K:=K) rfl) (@pv _ 1 _ _ (by rfl) (by walk_at "o") (by decide) (by decide)) (@pv _ 0 _ _ (by rfl) (by walk_at "o") (by decide) (by decide)) (by exact fun _ _=>rfl)) (@zad _ _ _ _) (by exact fun _ _=>rfl)) (@zaE _ _ _ _) (zav _)))) (fun _ _ _ _ _=>(@pv _ 0 _ _ (by rfl) (by walk_at "o") (by decide) (by decide))) (by rfl) (by intro _;rfl))
   (zaf (@ps_L _ _ _ _ _ _ 10 sc_law_row.nd (@zdw _ _ _) (by rfl) (by exact Or.inl rfl) (by rfl) (by walk_at "p"))
   (zaf (@zaG _ _ _ _ _ _ _ _ (@PW.pt _ _ _ (@zjJ _ _ _ _ _ _ _ (@zau _ _ _ _ _ _ _ _ (zkw (XbH (zcN hr)) (K:=K) rfl) (@pv _ 9 _ _ (by rfl) (by walk_at "o") (by decide) (by decide)) (@zaw _ _ _ _ (@zae _)) (zav _)) (@zhx _ _ _ _ (@zau _ _ _ _ _ _ _ _ ze0 (@zak _ _ _ _ _ _ _ _ zax (@pe_x _ _ _ _ _ _ _ zam (@pv _ 0 _ _ (by rfl) (by walk_at "o") (by decide) (by decide)) (@zad _ _ _ _) (by exact fun _ _=>rfl)) (@zad _ _ _ _)) (@zad _ _ _ _) (zav _))))) (@zaf _ _ _ _ _ (@ps_L _ _ _ _ _ _ 11 sc_law_row.nd (@zak _ _ _ _ _ _ _ _ zax (@pe_x _ _ _ _ _ _ _ zam (@zaw _ _ _ _ (@zaa _ _ _ _ _ (@zak _ _ _ _ _ _ _ _ zaB (@pe_x _ _ _ _ _ _ _ zam (@pv _ 0 _ _ (by rfl) (by walk_at "o") (by decide) (by decide)) (@zad _ _ _ _) (by exact fun _ _=>rfl)) (@zad _ _ _ _)) (@zaa _ _ _ _ _ (@zak _ _ _ _ _ _ _ _ zd3 (@zad _ _ _ _) (@zak _ _ _ _ _ _ _ _ zax (@zak _ _ _ _ _ _ _ _ zaB (@pe_x _ _ _ _ _ _ _ zam (@pv _ 0 _ _ (by rfl) (by walk_at "o") (by decide) (by decide)) (@zad _ _ _ _) (by exact fun _ _=>rfl)) (@zad _ _ _ _)) (@zad _ _ _ _))) (@zaa _ _ _ _ _ (@zad _ _ _ _) (@zae _) (by rfl)) (by rfl)) (by rfl))) (@zak _ _ _ _ _ _ _ _ zax (@pe_x _ _ _ _ _ _ _ zam (@pv _ 0 _ _ (by rfl) (by walk_at "o") (by decide) (by decide)) (@zad _ _ _ _) (by exact fun _ _=>rfl)) (@zad _ _ _ _)) (by exact fun _ _=>rfl)) (@zad _ _ _ _)) (by rfl) (by exact Or.inl rfl) (by rfl) (by walk_at "p")) (@zah _ _ _ (@ps_L _ _ _ _ _ _ 10 sc_law_row.nd (@zaK _ _ _ _ _ (@zaa _ _ _ _ _ (@pe_x _ _ _ _ _ _ _ zam (@pv _ 9 _ _ (by rfl) (by walk_at "o") (by decide) (by decide)) (@zak _ _ _ _ _ _ _ _ zax (@zak _ _ _ _ _ _ _ _ zaB (@pe_x _ _ _ _ _ _ _ zam (@pv _ 0 _ _ (by rfl) (by walk_at "o") (by decide) (by decide)) (@zad _ _ _ _) (by exact fun _ _=>rfl)) (@zad _ _ _ _)) (@zal _ _ _ _ _ _ _ _ _ zan (by rfl) T.len PySem.boot_len (@zaa _ _ _ _ _ (@pv _ 9 _ _ (by rfl) (by walk_at "o") (by decide) (by decide)) (@zae _) (by rfl)) (by decide) (by decide) (by rfl) (by rfl))) (by exact fun _ _=>rfl)) (@zaa _ _ _ _ _ (@pv _ 11 _ _ (by rfl) (by walk_at "o") (by decide) (by decide)) (@zaa _ _ _ _ _ (@zak _ _ _ _ _ _ _ _ zaW (@zak _ _ _ _ _ _ _ _ zaB (@pe_x _ _ _ _ _ _ _ zam (@pv _ 0 _ _ (by rfl) (by walk_at "o") (by decide) (by decide)) (@zad _ _ _ _) (by exact fun _ _=>rfl)) (@zad _ _ _ _)) (@pv _ 11 _ _ (by rfl) (by walk_at "o") (by decide) (by decide))) (@zae _) (by rfl)) (by rfl)) (by rfl))) (by rfl) (by exact Or.inl rfl) (by rfl) (by walk_at "p")))) (@zap _))
   (zah (@zaq _ _ _ _ (@zaK _ _ _ _ _ (@zaa _ _ _ _ _ (@pv _ 5 _ _ (by rfl) (by walk_at "o") (by decide) (by decide)) (@zaa _ _ _ _ _ (@zak _ _ _ _ _ _ _ _ zaW (@pe_x _ _ _ _ _ _ _ zam (@pv _ 0 _ _ (by rfl) (by walk_at "o") (by decide) (by decide)) (@zad _ _ _ _) (by exact fun _ _=>rfl)) (@pv _ 5 _ _ (by rfl) (by walk_at "o") (by decide) (by decide))) (@zaa _ _ _ _ _ (@pv _ 8 _ _ (by rfl) (by walk_at "o") (by decide) (by decide)) (@zaa _ _ _ _ _ (@pv _ 6 _ _ (by rfl) (by walk_at "o") (by decide) (by decide)) (@zaa _ _ _ _ _ (@pv _ 10 _ _ (by rfl) (by walk_at "o") (by decide) (by decide)) (@zae _) (by rfl)) (by rfl)) (by rfl)) (by rfl)) (by rfl))))))))))))))),?rd⟩
  have e1:(1:Int) * 2 ^ ((m:Nat):Int).toNat=((2 ^ m:Nat):Int):=by rw [Int.one_mul,Xat];norm_cast
  have h0m:0<2 ^ m:=XbE m
  have h2m:2 ^ m≤2 ^ 16:=XaW (by decide) m2
  obtain ⟨dr,hdr⟩:=drw (row:=row) 8 (by omega) hw
  have y0:atI (vN row) 0=some (.int (dr 0:Int)):=(hdr 0 (by decide)).1
  have y1:atI (vN row) 1=some (.int (dr 1:Int)):=(hdr 1 (by decide)).1
  have y2:atI (vN row) 2=some (.int (dr 2:Int)):=(hdr 2 (by decide)).1
  have y3:atI (vN row) 3=some (.int (dr 3:Int)):=(hdr 3 (by decide)).1
  have y4:atI (vN row) 4=some (.int (dr 4:Int)):=(hdr 4 (by decide)).1
  have y5:atI (vN row) 5=some (.int (dr 5:Int)):=(hdr 5 (by decide)).1
  have y6:atI (vN row) 6=some (.int (dr 6:Int)):=(hdr 6 (by decide)).1
  have y7:atI (vN row) 7=some (.int (dr 7:Int)):=(hdr 7 (by decide)).1
  have ix:∀ {X:Hp},Same H X→SqL K X L (vN row):=fun s=>SqL.of (s _ _ eL)
  generalize hT:2 ^ m - 1=T
  
  refine zas (fun σ X=>σ=L2.start ["r","bits","models","top","high","mask","chip","most","inner","latches","latch","asked"] [V.ref L,V.int (m:Int),V.ref ML]∧X=H) (fun σ X=>σ=[some (.ref L),some (.int (m:Int)),some (.ref ML),some (.int (T:Int)),none,none,none,none,none,none,none,none]∧X=H) ?_ ?_ _ _ ⟨rfl,rfl⟩
  ·rintro σ X ⟨rfl,rfl⟩ N hN
   refine ⟨_,rfl,_,_,rfl,rfl,⟨by omega,by omega,by decide⟩,_,_,rfl,rfl,hN _ _ ⟨?_,rfl⟩⟩
   try dsimp only
   rw [e1,show ((2 ^ m:Nat):Int) - 1=(T:Int) by omega]
   rfl
  rintro σ X ⟨rfl,rfl⟩
  
  refine zas (fun σ Y=>σ=[some (.ref L),some (.int (m:Int)),some (.ref ML),some (.int (T:Int)),none,none,none,none,none,none,none,none]∧Y=X) (fun σ Y=>∃ hh:Nat,hh≤2 ^ 31∧σ=[some (.ref L),some (.int (m:Int)),some (.ref ML),some (.int (T:Int)),some (.int (hh:Int)),none,none,none,none,none,none,none]∧Y=X) ?_ ?_ _ _ ⟨rfl,rfl⟩
  ·rintro σ Y ⟨rfl,rfl⟩ N hN
   refine ⟨_,rfl,_,rfl,L,_,_,_,rfl,rfl,ix (Same.refl _),y0,_,_,rfl,rfl,⟨by decide,by decide +kernel⟩,_,rfl,_,_,rfl,rfl,(by show (0:Int)<(m:Int);omega),_,_,rfl,rfl,⟨?_,?_,by decide⟩,_,_,rfl,rfl,_,_,rfl,rfl,?_⟩
   ·exact XbD _ (by omega)
   ·have:=Xbi ((dr 0:Int) / 16) (show (0:Int)<(m:Int) by omega);omega
   have ek:(dr 0:Int) / 16 % (m:Int)=((dr 0 / 16 % m:Nat):Int):=by norm_cast
   have hk:dr 0 / 16 % m<m:=Xbc _ (by omega)
   have hk2:2 ^ (dr 0 / 16 % m)≤T:=by
    have:2 ^ (dr 0 / 16 % m)≤2 ^ (m - 1):=XaW (by decide) (by omega)
    have e:2 ^ m=2 * 2 ^ (m - 1):=by rw [← Nat.pow_succ'];congr 1;omega
    have:=XbE (m - 1)
    omega
   refine hN _ _ ⟨T - 2 ^ (dr 0 / 16 % m)+1,?_,?_,rfl⟩
   ·have:=Nat.sub_le T (2 ^ (dr 0 / 16 % m));have:(2:Nat) ^ 16=65536:=by decide
    have:(2:Nat) ^ 31=2147483648:=by decide
    omega
   try dsimp only
   rw [ek,show (1:Int) * 2 ^ ((dr 0 / 16 % m:Nat):Int).toNat=((2 ^ (dr 0 / 16 % m):Nat):Int) by rw [Int.one_mul,Xat];norm_cast]
   rw [show (T:Int) - ((2 ^ (dr 0 / 16 % m):Nat):Int)+1=((T - 2 ^ (dr 0 / 16 % m)+1:Nat):Int) by omega]
   rfl
  rintro σ Y ⟨hh,hh1,rfl,rfl⟩
  
  refine zas (fun σ X=>σ=[some (.ref L),some (.int (m:Int)),some (.ref ML),some (.int (T:Int)),some (.int (hh:Int)),none,none,none,none,none,none,none]∧X=Y) (fun σ X=>∃ mask:Nat,mask<2 ^ m∧σ=[some (.ref L),some (.int (m:Int)),some (.ref ML),some (.int (T:Int)),some (.int (hh:Int)),some (.int (mask:Int)),none,none,none,none,none,none]∧Same Y X) ?_ ?_ _ _ ⟨rfl,rfl⟩
  ·rintro σ X ⟨rfl,rfl⟩ N hN
   have i0:=ix (Same.refl X)
   refine ⟨_,rfl,L,_,_,_,rfl,rfl,i0,y0,_,rfl,L,_,_,_,rfl,rfl,i0,y0,_,rfl,L,_,_,_,rfl,rfl,i0,y1,_,_,rfl,rfl,_,rfl,L,_,_,_,rfl,rfl,i0,y0,_,rfl,L,_,_,_,rfl,rfl,i0,y1,_,_,rfl,rfl,_,rfl,_,rfl,L,_,_,_,rfl,rfl,i0,y0,_,rfl,_,_,rfl,rfl,_,rfl,L,_,_,_,rfl,rfl,i0,y1,_,_,rfl,rfl,(show (0:Int)<4 by decide),?_⟩
   refine ⟨dr 0 &&& T,dr 1 % 4,?_,?_,fun r H1 hr s1=>⟨by show 5≤sizeLine;decide,fun p hp=>?_⟩⟩
   ·show [V.int (Builtin.bitAnd (dr 0:Int) (T:Int)),V.int ((dr 1:Int) % 4)]=_
    rw [band,show (dr 1:Int) % 4=((dr 1 % 4:Nat):Int) by omega]
   ·exact XaL Nat.and_le_left (Xbx (hdr 0 (by decide)).2 (by decide))
   obtain ⟨u,_,eu⟩:=zgR (ns:=[dr 0,dr 0 ||| dr 1,dr 0 &&& dr 1,hh,r]) (a:=dr 2) (k:=5) rfl (by decide)
   refine ⟨_,rfl,L,_,_,_,rfl,rfl,ix (s1.trans (zac hp)),y2,_,_,rfl,rfl,(show (0:Int)<5 by decide),p,_,_,.int (u:Int),rfl,rfl,SqL.of zab,?_,_,rfl,_,_,rfl,rfl,?_⟩
   ·show atI [V.int (dr 0:Int),V.int (Builtin.bitOr (dr 0:Int) (dr 1:Int)),V.int (Builtin.bitAnd (dr 0:Int) (dr 1:Int)),V.int (hh:Int),V.int (r:Int)] ((dr 2:Int) % 5)=_
    rw [bor,band]
    exact eu
   refine hN _ _ ⟨u &&& T,by rw [← hT];exact zkR,?_,s1.trans (zac hp)⟩
   try dsimp only
   rw [band]
   rfl
  rintro σ X ⟨mask,hmask,rfl,sX⟩
  
  refine zas (fun σ Z=>σ=[some (.ref L),some (.int (m:Int)),some (.ref ML),some (.int (T:Int)),some (.int (hh:Int)),some (.int (mask:Int)),none,none,none,none,none,none]∧Z=X) (fun σ Z=>σ=[some (.ref L),some (.int (m:Int)),some (.ref ML),some (.int (T:Int)),some (.int (hh:Int)),some (.int (mask:Int)),some (.int ((dr 3 % cl.length:Nat):Int)),none,none,none,none,none]∧Z=X) ?_ ?_ _ _ ⟨rfl,rfl⟩
  ·rintro σ Z ⟨rfl,rfl⟩ N hN
   refine ⟨_,rfl,L,_,_,_,rfl,rfl,ix sX,y3,_,rfl,ML,_,rfl,.inl (SqL.of (sX _ _ eM)),_,_,rfl,rfl,?_,hN _ _ ⟨?_,rfl⟩⟩
   ·rw [Xae];omega
   try dsimp only
   rw [Xae,show (dr 3:Int) % (cl.length:Int)=((dr 3 % cl.length:Nat):Int) by norm_cast]
   rfl
  rintro σ Z ⟨rfl,rfl⟩
  have hch:dr 3 % cl.length<cl.length:=Xbc _ (by omega)
  generalize dr 3 % cl.length=ch at hch ⊢
  refine zas (fun σ Y=>σ=[some (.ref L),some (.int (m:Int)),some (.ref ML),some (.int (T:Int)),some (.int (hh:Int)),some (.int (mask:Int)),some (.int (ch:Int)),none,none,none,none,none]∧Y=Z) (fun σ Y=>σ=[some (.ref L),some (.int (m:Int)),some (.ref ML),some (.int (T:Int)),some (.int (hh:Int)),some (.int (mask:Int)),some (.int (ch:Int)),some (.int (0:Int)),none,none,none,none]∧Y=Z) ?_ ?_ _ _ ⟨rfl,rfl⟩
  ·rintro σ Y ⟨rfl,rfl⟩ N hN
   exact hN _ _ ⟨rfl,rfl⟩
  rintro σ Y ⟨rfl,rfl⟩
  
  refine zas (fun σ X=>σ=[some (.ref L),some (.int (m:Int)),some (.ref ML),some (.int (T:Int)),some (.int (hh:Int)),some (.int (mask:Int)),some (.int (ch:Int)),some (.int (0:Int)),none,none,none,none]∧X=Y) (fun σ X=>∃ mo:Nat,2 ^ mo≤ksize (cl.getD ch dfCm).kd (cl.getD ch dfCm).us∧mo≤16∧σ=[some (.ref L),some (.int (m:Int)),some (.ref ML),some (.int (T:Int)),some (.int (hh:Int)),some (.int (mask:Int)),some (.int (ch:Int)),some (.int (mo:Int)),none,none,none,none]∧X=Y) ?_ ?_ _ _ ⟨rfl,rfl⟩
  ·rintro σ X ⟨rfl,rfl⟩ N hN
   have okc:=hC.o _ (zbS hch).1
   have eMX:=sX _ _ eM
   have hat:atI (cl.map fun c=>V.ref c.m) (ch:Int)=some (.ref (cl.getD ch dfCm).m):=zaJ (by rw [Xan,(zbS hch).2];rfl)
   have kz1:1≤ksize (cl.getD ch dfCm).kd (cl.getD ch dfCm).us∧ksize (cl.getD ch dfCm).kd (cl.getD ch dfCm).us≤4096:=by
    have kk:=okc.k
    unfold ksize
    split
    ·exact ⟨by decide,by decide⟩
    ·rename_i h;exact ⟨kk.l1 h,kk.ln⟩
   have okX:=okc.same sX
   refine zec (fun σ W=>∃ mo:Nat,2 ^ mo≤ksize (cl.getD ch dfCm).kd (cl.getD ch dfCm).us∧σ=[some (.ref L),some (.int (m:Int)),some (.ref ML),some (.int (T:Int)),some (.int (hh:Int)),some (.int (mask:Int)),some (.int (ch:Int)),some (.int (mo:Int)),none,none,none,none]∧W=X) (fun σ _=>match σ with | [_,_,_,_,_,_,_,some (.int b),_,_,_,_]=>13 - b.toNat | _=>0) ⟨0,kz1.1,rfl,rfl⟩ ?_ ?_
   ·rintro σ W ⟨mo,hmo,rfl,rfl⟩
    have mo12:mo<13:=by
     by_cases h:mo<13
     ·exact h
     ·have:2 ^ 13≤2 ^ mo:=XaW (by decide) (by omega)
      omega
    have e2:(2:Int) * 2 ^ ((mo:Nat):Int).toNat=((2 ^ (mo+1):Nat):Int):=by rw [Xat,Xbl];push_cast;omega
    refine ⟨_,rfl,_,_,rfl,rfl,⟨by omega,by omega,by decide⟩,_,rfl,_,rfl,ML,_,_,_,rfl,rfl,SqL.of eMX,hat,_,_,_,_,_,rfl,okX.md,okX.k.k5,_,_,rfl,rfl,_,rfl,ite2 (fun h1=>?_) (fun h1=>?_)⟩
    ·have h1:2 ^ (mo+1)≤ksize (cl.getD ch dfCm).kd (cl.getD ch dfCm).us:=by
      have:=XaQ h1;rw [e2] at this;omega
     refine ⟨_,rfl,_,_,rfl,rfl,⟨mo+1,h1,?_,rfl⟩,?_⟩
     ·rfl
     ·show 13 - ((mo:Int)+1).toNat<13 - ((mo:Nat):Int).toNat
      omega
    ·exact hN _ _ ⟨mo,hmo,by omega,rfl,rfl⟩
   ·rintro σ W Q1 Q2 hq h
    obtain ⟨v,e,i,j,ei,ej,c,v2,e2,v3,e3,a,b,c1_,d,f1,f2,f3,f4,m1_,r1,kd1,n1,us1,g1,g2,g3,i2,j2,g4,g5,b2,g6,h⟩:=h
    exact ⟨v,e,i,j,ei,ej,c,v2,e2,v3,e3,a,b,c1_,d,f1,f2,f3,f4,m1_,r1,kd1,n1,us1,g1,g2,g3,i2,j2,g4,g5,b2,g6,hq _ _ h⟩
  rintro σ X ⟨mo,hmo,hmo16,rfl,rfl⟩
  have hTm:T &&& mask=mask:=by rw [← hT];exact zkc hmask
  have hmT:mask≤T:=by omega
  
  refine zas (fun σ Y=>σ=[some (.ref L),some (.int (m:Int)),some (.ref ML),some (.int (T:Int)),some (.int (hh:Int)),some (.int (mask:Int)),some (.int (ch:Int)),some (.int (mo:Int)),none,none,none,none]∧Y=X) (fun σ Y=>∃ inn:Nat,inn≤T∧inn &&& mask=0∧ones inn≤mo∧σ=[some (.ref L),some (.int (m:Int)),some (.ref ML),some (.int (T:Int)),some (.int (hh:Int)),some (.int (mask:Int)),some (.int (ch:Int)),some (.int (mo:Int)),some (.int (inn:Int)),none,none,none]∧Same X Y) ?_ ?_ _ _ ⟨rfl,rfl⟩
  ·rintro σ Y ⟨rfl,rfl⟩ N hN
   have eTm:(T:Int) - (mask:Int)=((T - mask:Nat):Int):=by omega
   refine ⟨_,rfl,_,rfl,_,_,rfl,rfl,_,rfl,L,_,_,_,rfl,rfl,ix sX,y4,_,rfl,_,rfl,_,_,rfl,rfl,_,_,rfl,rfl,by show 2≤sizeLine;decide,fun p hp=>?_⟩
   have sp:=sX.trans (zac (o:=.lst [V.int ((T:Int) - (mask:Int)),V.int (Builtin.bitAnd (dr 4:Int) ((T:Int) - (mask:Int)))]) hp)
   obtain ⟨u,hu,eu⟩:=zgR (ns:=[T - mask,dr 4 &&& (T - mask)]) (a:=dr 5) (k:=2) rfl (by decide)
   have hu':u &&& (T - mask)=u:=by
    rcases Xal.mp hu with rfl | hu
    ·exact Nat.and_self _
    ·rw [Xac.mp hu,Nat.and_assoc,Nat.and_self]
   refine ⟨_,rfl,L,_,_,_,rfl,rfl,ix sp,y5,_,_,rfl,rfl,(show (0:Int)<2 by decide),p,_,_,.int (u:Int),rfl,rfl,SqL.of zab,?_,?_⟩
   ·show atI [V.int ((T:Int) - (mask:Int)),V.int (Builtin.bitAnd (dr 4:Int) ((T:Int) - (mask:Int)))] ((dr 5:Int) % 2)=_
    rw [eTm,band]
    exact eu
   refine ⟨_,rfl,_,rfl,L,_,_,_,rfl,rfl,ix sp,y4,_,_,rfl,rfl,⟨by decide,by decide +kernel⟩,_,rfl,_,_,rfl,rfl,_,_,rfl,rfl,(show (0:Int)<(mo:Int)+1 by omega),by show 2≤sizeLine;decide,fun p2 hp2=>?_⟩
   have sp2:=sp.trans (zac (o:=.lst [V.int (mo:Int),V.int ((dr 4:Int) / 64 % ((mo:Int)+1))]) hp2)
   obtain ⟨u2,hu2,eu2⟩:=zgR (ns:=[mo,dr 4 / 64 % (mo+1)]) (a:=dr 5 / 2) (k:=2) rfl (by decide)
   have hu2':u2≤mo:=by
    rcases Xal.mp hu2 with rfl | hu
    ·exact Xaf _
    ·rw [Xac.mp hu];have:=Xbc (dr 4 / 64) (show 0<mo+1 by omega);omega
   refine ⟨_,rfl,L,_,_,_,rfl,rfl,ix sp2,y5,_,_,rfl,rfl,⟨by decide,by decide +kernel⟩,_,_,rfl,rfl,(show (0:Int)<2 by decide),p2,_,_,.int (u2:Int),rfl,rfl,SqL.of zab,?_,?_⟩
   ·show atI [V.int (mo:Int),V.int ((dr 4:Int) / 64 % ((mo:Int)+1))] ((dr 5:Int) / 2 % 2)=_
    rw [show (dr 4:Int) / 64 % ((mo:Int)+1)=((dr 4 / 64 % (mo+1):Nat):Int) by push_cast;rfl,show (dr 5:Int) / 2=((dr 5 / 2:Nat):Int) by omega]
    exact eu2
   refine ⟨u,u2,rfl,?_,fun r H1 hr s1=>?_⟩
   ·have:u≤T - mask:=by rw [← hu'];exact Xbr
    have:(2:Nat) ^ 16=65536:=by decide
    have:(2:Nat) ^ 32=4294967296:=by decide
    omega
   obtain ⟨l1,l2⟩:=left_of hTm hu' hr.1
   exact hN _ _ ⟨r,l1,l2,Xav hr.2 hu2',rfl,((zac hp).trans (zac hp2)).trans s1⟩
  rintro σ Y ⟨inn,hiT,him,hio,rfl,sXY⟩
  have sY:=sX.trans sXY
  
  refine zas (fun σ X=>σ=[some (.ref L),some (.int (m:Int)),some (.ref ML),some (.int (T:Int)),some (.int (hh:Int)),some (.int (mask:Int)),some (.int (ch:Int)),some (.int (mo:Int)),some (.int (inn:Int)),none,none,none]∧X=Y) (fun σ X=>∃ (LL:Addr) (l:List Nat),σ=[some (.ref L),some (.int (m:Int)),some (.ref ML),some (.int (T:Int)),some (.int (hh:Int)),some (.int (mask:Int)),some (.int (ch:Int)),some (.int (mo:Int)),some (.int (inn:Int)),some (.ref LL),none,none]∧X LL=some (.lst (vN l))∧l.length≤9∧(∀ x∈l,x<cl.length∧(cl.getD x dfCm).kd=2)∧Same Y X) ?_ ?_ _ _ ⟨rfl,rfl⟩
  ·rintro σ X ⟨rfl,rfl⟩ N hN
   have eMX:=sY _ _ eM
   refine ⟨_,rfl,ML,_,rfl,.inl (SqL.of eMX),_,rfl,by rw [Xae];omega,by rw [Xae];omega,?_⟩
   rw [Xae,Xat]
   exact zje eMX (hC.same sY) c9 fun l hl hx LL hLL=>hN _ _ ⟨LL,l,rfl,zab,hl,hx,zac hLL⟩
  rintro σ X ⟨LL,l,rfl,eLL,hl9,hlx,sYX⟩
  have sX2:=sY.trans sYX
  clear sX sXY sY sYX
  refine zas (fun σ Y=>σ=[some (.ref L),some (.int (m:Int)),some (.ref ML),some (.int (T:Int)),some (.int (hh:Int)),some (.int (mask:Int)),some (.int (ch:Int)),some (.int (mo:Int)),some (.int (inn:Int)),some (.ref LL),none,none]∧Y=X) (fun σ Y=>σ=[some (.ref L),some (.int (m:Int)),some (.ref ML),some (.int (T:Int)),some (.int (hh:Int)),some (.int (mask:Int)),some (.int (ch:Int)),some (.int (mo:Int)),some (.int (inn:Int)),some (.ref LL),some .non,none]∧Y=X) ?_ ?_ _ _ ⟨rfl,rfl⟩
  ·rintro σ Y ⟨rfl,rfl⟩ N hN
   exact hN _ _ ⟨rfl,rfl⟩
  rintro σ Y ⟨rfl,rfl⟩
  
  refine zas (fun σ X=>σ=[some (.ref L),some (.int (m:Int)),some (.ref ML),some (.int (T:Int)),some (.int (hh:Int)),some (.int (mask:Int)),some (.int (ch:Int)),some (.int (mo:Int)),some (.int (inn:Int)),some (.ref LL),some .non,none]∧X=Y) (fun σ X=>∃ (lo:Option (Nat×Nat×Nat)) (lv:V) (v11:Option V),LatV X lv lo∧zjz lo∧(∀ c a b,lo=some (c,a,b)→c<cl.length∧(cl.getD c dfCm).kd=2)∧σ=[some (.ref L),some (.int (m:Int)),some (.ref ML),some (.int (T:Int)),some (.int (hh:Int)),some (.int (mask:Int)),some (.int (ch:Int)),some (.int (mo:Int)),some (.int (inn:Int)),some (.ref LL),some lv,v11]∧Same Y X) ?_ ?_ _ _ ⟨rfl,rfl⟩
  ·rintro σ X ⟨rfl,rfl⟩ N hN
   refine ⟨_,rfl,by show 0≤sizeLine;decide,fun e he=>⟨LL,e,_,rfl,rfl,SqL.of (zac he _ _ eLL),SqL.of zab,_,rfl,ite2 (fun h1=>?_) (fun h1=>?_)⟩⟩
   ·have se:=sX2.trans (zac (o:=.lst []) he)
    have sne:=zac (o:=.lst []) he
    have l1:1≤l.length:=by
     cases l with
     | nil=>exact absurd h1 (by decide)
     | cons _ _=>simp
    have eL2:=sne _ _ eLL
    generalize upd X e (.lst [])=Z at *
    refine ⟨_,rfl,L,_,_,_,rfl,rfl,ix se,y6,_,_,rfl,rfl,(show (0:Int)<3 by decide),_,_,rfl,rfl,_,rfl,ite2 (fun h2=>?_) (fun h2=>?_)⟩
    ·refine ⟨_,rfl,L,_,_,_,rfl,rfl,ix se,y6,_,_,rfl,rfl,⟨by decide,by decide +kernel⟩,_,rfl,L,_,_,_,rfl,rfl,ix se,y6,_,_,rfl,rfl,⟨by decide,by decide +kernel⟩,_,_,rfl,rfl,(show (0:Int)<8 by decide),_,_,rfl,rfl,⟨by omega,by omega,by decide⟩,by show 3≤sizeLine;decide,fun p hp=>?_⟩
     have e6:(dr 6:Int) / 3=((dr 6 / 3:Nat):Int):=by omega
     have e68:(1:Int) * 2 ^ ((dr 6:Int) / 3 % 8).toNat=((2 ^ (dr 6 / 3 % 8):Nat):Int):=by rw [show (dr 6:Int) / 3 % 8=((dr 6 / 3 % 8:Nat):Int) by omega,Int.one_mul,Xat];norm_cast
     obtain ⟨u,_,eu⟩:=zgR (ns:=[dr 6 / 3,2 ^ (dr 6 / 3 % 8),3]) (a:=dr 7) (k:=3) rfl (by decide)
     have snp:=sne.trans (zac (o:=.lst [V.int ((dr 6:Int) / 3),V.int ((1:Int) * 2 ^ ((dr 6:Int) / 3 % 8).toNat),V.int 3]) hp)
     have sp:=sX2.trans snp
     have eL3:=zac (o:=.lst [V.int ((dr 6:Int) / 3),V.int ((1:Int) * 2 ^ ((dr 6:Int) / 3 % 8).toNat),V.int 3]) hp _ _ eL2
     refine ⟨_,rfl,L,_,_,_,rfl,rfl,ix sp,y7,_,_,rfl,rfl,(show (0:Int)<3 by decide),p,_,_,.int (u:Int),rfl,rfl,SqL.of zab,?_,_,_,rfl,rfl,(show (0:Int)<256 by decide),?_⟩
     ·show atI [V.int ((dr 6:Int) / 3),V.int ((1:Int) * 2 ^ ((dr 6:Int) / 3 % 8).toNat),V.int 3] ((dr 7:Int) % 3)=_
      rw [e68,e6]
      exact eu
     try dsimp only [za7,List.set]
     rw [show (u:Int) % 256=((u % 256:Nat):Int) by omega]
     have hll:(0:Int)<((vN l).length:Int):=by rw [zaz];omega
     obtain ⟨x,hx,ex⟩:=zgR (ns:=l) (a:=dr 7 / 3) (k:=l.length) rfl (by omega)
     refine ⟨_,rfl,_,rfl,L,_,_,_,rfl,rfl,ix sp,y7,_,_,rfl,rfl,⟨by decide,by decide +kernel⟩,_,rfl,LL,_,rfl,.inl (SqL.of eL3),_,_,rfl,rfl,hll,LL,_,_,.int (x:Int),rfl,rfl,SqL.of eL3,?_,?_⟩
     ·rw [zaz,show (dr 7:Int) / 3=((dr 7 / 3:Nat):Int) by omega];exact ex
     refine ⟨_,rfl,_,rfl,L,_,_,_,rfl,rfl,ix sp,y7,_,_,rfl,rfl,⟨by decide,by decide +kernel⟩,_,rfl,_,_,rfl,rfl,by show 3≤sizeLine;decide,fun q hq=>?_⟩
     obtain ⟨hx1,hx2⟩:=hlx x hx
     refine hN _ _ ⟨some (x,u % 256,dr 7 / 30 &&& (u % 256)),.ref q,_,⟨q,rfl,?_⟩,⟨by omega,by omega,by rw [Nat.and_assoc,Nat.and_self]⟩,fun c a b h=>?_,rfl,snp.trans (zac hq)⟩
     ·rw [zab]
      try dsimp only
      rw [show (dr 7:Int) / 30=((dr 7 / 30:Nat):Int) by omega,band]
     ·obtain ⟨rfl,rfl⟩:=Prod.mk.inj (Option.some.inj h) |>.imp_right (fun h=>(Prod.mk.inj h).1)
      exact ⟨hx1,hx2⟩
    ·exact zay (hN _ _ ⟨none,.non,_,rfl,trivial,(fun _ _ _ h=>nomatch h),rfl,sne⟩)
   ·exact iteF (zay (hN _ _ ⟨none,.non,_,rfl,trivial,(fun _ _ _ h=>nomatch h),rfl,zac he⟩))
  rintro σ X ⟨lo,lv,v11,hlv,hlo,hlc,rfl,sYX⟩
  refine ⟨_,rfl,_,rfl,L,_,_,_,rfl,rfl,ix (sX2.trans sYX),y1,_,rfl,_,_,rfl,rfl,_,rfl,_,rfl,_,rfl,by show 5≤sizeLine;decide,fun t ht=>?_⟩
  have st:=(sX2.trans sYX).trans (zac (o:=.tup [V.int (mask:Int),V.int (Builtin.bitAnd (dr 1:Int) (mask:Int)),V.int (inn:Int),V.int (ch:Int),lv]) ht)
  refine k t ⟨mask,dr 1 &&& mask,inn,ch,lo⟩ _ ((sX2.trans sYX).free ht) ⟨lv,?_,?_⟩ ⟨hmask,XaL Xbr hmask,by rw [Nat.and_assoc,Nat.and_self],by show inn<2 ^ m;omega,him,by show ch<100;omega,hlo⟩ ⟨hch,?_,hlc⟩ st
  ·rw [zab]
   try dsimp only
   rw [band]
  ·exact LatV.same hlv (zac ht)
  ·exact Xav (XaW (by decide) hio) hmo
abbrev zcD:Stmt:=top 75
theorem sc_law_pair:FnScope ["one","other","words","latch","told","chip","first","last"] ["one","other"] (zai zcD):=sck rfl rfl rfl (by decide +kernel)
theorem zhn {L:List (Int×Int)}{ns:List Int}(hl:L.length≤2)(hp:ns.Perm (L.map (·.1)))(hs:ns.Pairwise (·≤·)):ns=(srt2 L).map (·.1):=by
 match L,hl with
 | [],_=>exact hp.eq_nil
 | [x],_=>exact List.perm_singleton.mp hp
 | [x,y],_ =>
  have hl2:=hp.length_eq
  match ns,hl2,hp,hs with
  | [a,b],_,hp,hs =>
   have hab:a≤b:=by simpa using hs
   have hc:(a=x.1∧b=y.1)∨(a=y.1∧b=x.1):=by
    have h1:a∈[x.1,y.1]:=hp.mem_iff.mp (by simp)
    rcases (by simpa using h1:a=x.1∨a=y.1) with rfl | rfl
    ·exact .inl ⟨rfl,by simpa using hp⟩
    ·have h2:[y.1,b].Perm [y.1,x.1]:=hp.trans (List.Perm.swap _ _ _)
     exact .inr ⟨rfl,by simpa using h2⟩
   show [a,b]=((if y.1<x.1 then [y,x] else [x,y]:List (Int×Int))).map (·.1)
   by_cases h:y.1<x.1
   ·rw [if_pos h]
    rcases hc with ⟨rfl,rfl⟩ | ⟨rfl,rfl⟩
    ·omega
    ·rfl
   ·rw [if_neg h]
    rcases hc with ⟨rfl,rfl⟩ | ⟨rfl,rfl⟩
    ·rfl
    ·have:x.1=y.1:=by omega
     show [y.1,x.1]=[x.1,y.1]
     rw [this]
theorem ziG {L:List (Int×Int)}{q:Int×Int}(h:q∈srt2 L):q∈L:=by
 unfold srt2 at h
 split at h
 ·split at h
  ·simp at h ⊢;exact h.symm
  ·exact h
 ·exact h
theorem nd_key {L:List (Int×Int)}{p q:Int×Int}(h:(L.map (·.1)).Nodup)(hp:p∈L)(hq:q∈L)(e:p.1=q.1):p=q:=by
 induction L with
 | nil=>cases hp
 | cons x L ih =>
  rw [XaS,XbA] at h
  rcases Xal.mp hp with rfl | hp'
  ·rcases Xal.mp hq with rfl | hq'
   ·rfl
   ·exact absurd (e ▸ Xbp hq') h.1
  ·rcases Xal.mp hq with rfl | hq'
   ·exact absurd (e ▸ Xbp hp') h.1
   ·exact ih h.2 hp' hq'
inductive spPairS (vs:List V)(H:Hp)(Q:VK)(u3_:XK):Prop
 | mk (t u:Addr) (r q:Rw) (z0_:vs=[.ref t,.ref u]) (z1_:RwAt H t r) (z2_:RwAt H u q) (z3_:(zbk r q=false→∀ H',Same H H'→Q .non H')) (z4_:(zbk r q=true→∀ (p pw:Addr) (H':Hp),H' p=some (.tup [.int ((r.w ||| q.w:Nat):Int),.ref pw])→PrsAt H' pw (lwL r.l q.l)→Same H H'→Q (.ref p) H'))
structure Grp (X:Hp)(d:Addr)(g:List (Nat×Addr×List V)):Prop where
 e:X d=some (.dK (g.map fun y=>((Sum.inl (y.1:Int):Key),V.ref y.2.1)))
 l:∀ y∈g,X y.2.1=some (.lst y.2.2)
 nd:(g.map (·.1)).Nodup
 na:(g.map (·.2.1)).Nodup
def gOne (A:Addr)(lt:V):Option (Nat×Nat×Nat)→List (Nat×Addr×List V)
 | none=>[]
 | some (c,_,_)=>[(c,A,[lt])]
def gTwo (A B:Addr)(lt lu:V):Option (Nat×Nat×Nat)→Option (Nat×Nat×Nat)→List (Nat×Addr×List V)
 | none,o=>gOne B lu o
 | some (c,_,_),none=>[(c,A,[lt])]
 | some (c,_,_),some (d,_,_)=>if c=d then [(c,A,[lt,lu])] else [(c,A,[lt]),(d,B,[lu])]
def Gi (lt lu:V)(o p:Option (Nat×Nat×Nat))(i:Nat)(g:List (Nat×Addr×List V)):Prop:=match i with
 | 0=>g=[]
 | 1=>∃ A,g=gOne A lt o
 | _=>∃ A B,g=gTwo A B lt lu o p
theorem zhj:∀ {g:List (Nat×Addr×List V)} {y:Nat×Addr×List V},(g.map (·.1)).Nodup→y∈g→valV (g.map fun y=>((Sum.inl (y.1:Int):Key),V.ref y.2.1)) (Sum.inl (y.1:Int))=some (V.ref y.2.1)
 | [],_,_,h=>by cases h
 | z :: g,y,hn,h=>by
  rw [XaS,XbA] at hn
  rw [XaS]
  by_cases e:z.1=y.1
  ·rcases Xal.mp h with rfl | h
   ·exact zaO rfl
   ·exact absurd (XaJ.mpr ⟨y,h,e.symm⟩) hn.1
  ·rw [zaR (fun q=>e (by have:=Sum.inl.inj q;omega))]
   rcases Xal.mp h with rfl | h
   ·exact absurd rfl e
   ·exact zhj hn.2 h
theorem zfW {f:Addr}{fd:FuncData}(F:Fun K "_law_pair" "_law_pair" zcD f fd)(T:Blt mg)(GBsorted:mg "sorted" = none):FnOk P w K mg base CX0 1 f fd ["one","other"] spPairS:=by
 refine F.ok sc_law_pair (by walk_at "l") (fun cdv A outer s H vs Q E hr h=>?_)
 ·obtain ⟨t,u,r,q,rfl,⟨lt,et,hlt⟩,⟨lu,eu,hlu⟩,k1,k2⟩:=h
  refine ⟨_,(zaf (zaG (zau ze0 (zak zaW (zak zaW (zak zhL (pe_x zar (pv 0) zad) (pe_x zar (pv 1) zad)) (pe_x zar (pv 0) zad)) (pe_x zar (pv 1) zad)) zad (zav _)) (zah (zaq zdw)) zap)
   (zaf (ps_L 2 sc_law_pair.nd zer)
   (zaf (zbg PassesOwn.never rfl (zbA (zaw (zaa (pe_x zar (pv 0) zad) (zaa (pe_x zar (pv 1) zad) zae)))) (pg_L 3 sc_law_pair.nd)
   (zah (zaG (zb3 (zcK (pv 3))) (zaf (zaA (zb0 PySem.F.plainAttrs_dict PySem.F.slot_dict_setdefault PySem.F.type_dict_setdefault zex (pv 2) (zaa (pe_x zar (pv 3) zad) (zaa (zaw zae) zae))))
   (zah (zaA (zb0 PySem.F.plainAttrs_list PySem.F.slot_list_append PySem.F.type_list_append zaC (zfN (zcN hr) (pv 2) (pe_x zar (pv 3) zad) (fun _ _=>rfl)) (zaa (pv 3) zae))))) zap)))
   (zaf (ps_L 4 sc_law_pair.nd (zaw zae))
   (zaf (zbg PassesOwn.never rfl (zbA (zal (zfq rfl) (by rfl) GBsorted zdN (zaa (pv 2) zae))) (pg_L 5 sc_law_pair.nd)
   (zaf (ps_L 6 sc_law_pair.nd (pe_x zam (zfN (zcN hr) (pv 2) (pv 5) (fun _ _=>rfl)) zad))
   (zaf (ps_L 7 sc_law_pair.nd (pe_x zam (zfN (zcN hr) (pv 2) (pv 5) (fun _ _=>rfl)) (pe_un zjA zad)))
   (zaf (zaG (zau ze0 (zak zaW (zak zaW (zak zhL (pe_x zar (pv 6) zad) (pe_x zar (pv 7) zad)) (pe_x zar (pv 6) zad)) (pe_x zar (pv 7) zad)) zad (zav _)) (zah (zaq zdw)) zap)
   (zah (zaA (zb0 PySem.F.plainAttrs_list PySem.F.slot_list_append PySem.F.type_list_append zaC (pv 4) (zaa (zaK (zaa (pv 5) (zaa (zak zhM (pe_x zar (pv 6) zad) (pe_x zar (pv 7) zad)) zae))) zae))))))))
   (zah (zaq (zaK (zaa (zak zhM (pe_x zar (pv 0) zad) (pe_x zar (pv 1) zad)) (zaa (za1 za8 (by rfl) T.tuple za0 (zaa (pv 4) zae)) zae)))))))))),?rd⟩
  have eA:decide ((0:Int)<Builtin.bitAnd (Builtin.bitAnd (Builtin.bitXor (r.w:Int) (q.w:Int)) (r.m:Int)) (q.m:Int)) = !agr r.m r.w q.m q.w:=by
   rw [bxor,band,band]
   unfold agr
   by_cases h:(r.w ^^^ q.w) &&& r.m &&& q.m=0
   ·rw [Xap h,h];rfl
   ·rw [Xas h];exact Xap (by omega)
  refine ⟨_,rfl,t,_,_,_,rfl,rfl,SqT.of et,rfl,_,rfl,u,_,_,_,rfl,rfl,SqT.of eu,rfl,_,_,rfl,rfl,_,rfl,t,_,_,_,rfl,rfl,SqT.of et,rfl,_,_,rfl,rfl,_,rfl,u,_,_,_,rfl,rfl,SqT.of eu,rfl,_,_,rfl,rfl,_,_,rfl,rfl,_,rfl,?_⟩
  rw [eA]
  cases hA:agr r.m r.w q.m q.w with
  | false=>exact iteT (k1 (by unfold zbk;rw [hA,Bool.false_and]) H (Same.refl _))
  | true =>
   refine iteF (zay ?_)
   try dsimp only
   have hcl:zbk r q=latA r.l q.l:=by unfold zbk;rw [hA,Bool.true_and]
   intro d hd
   have s1:=zac (H:=H) (o:=HO.dK []) hd
   refine ⟨_,rfl,t,_,_,_,rfl,rfl,SqT.of (s1 _ _ et),rfl,_,rfl,u,_,_,_,rfl,rfl,SqT.of (s1 _ _ eu),rfl,by show 2≤sizeLine;decide,fun L hL=>⟨L,rfl,⟨_,SqL.of zab⟩,?_⟩⟩
   have s2:=s1.trans (zac (o:=.lst [lt,lu]) hL)
   refine zda (K:=K) (xs:=[lt,lu]) (fun i σ X=>∃ (v3:Option V) (g:List (Nat×Addr×List V)),σ=[some (.ref t),some (.ref u),some (.ref d),v3,none,none,none,none]∧X L=some (.lst [lt,lu])∧Same H X∧Grp X d g∧(∀ y∈g,H y.2.1=none∧y.2.1≠L)∧Gi lt lu r.l q.l i g) ⟨none,[],rfl,zab,s2,⟨zac hL _ _ zab,(fun y hy=>by cases hy),List.nodup_nil,List.nodup_nil⟩,(fun y hy=>by cases hy),rfl⟩ ?_ ?_ ?_
   ·rintro i σ X _ ⟨_,_,_,e,_⟩
    exact SqL.of e
   ·rintro i x σ X hx ⟨v3,g,rfl,eL,sX,G,gN,gi⟩
    obtain ⟨o,ho,hnone,hnew,hold⟩:∃ o,LatV H x o∧(o=none→Gi lt lu r.l q.l (i+1) g)∧(∀ c a b N,o=some (c,a,b)→c ∉ g.map (·.1)→Gi lt lu r.l q.l (i+1) (g ++ [(c,N,[x])]))∧(∀ c a b,o=some (c,a,b)→c∈g.map (·.1)→∃ A,g=[(c,A,[lt])]∧Gi lt lu r.l q.l (i+1) [(c,A,[lt,x])]):=by
     rcases (show i=0∨i=1 by have:=(Xag.mp hx).1;simp at this;omega) with rfl | rfl
     ·cases hx
      obtain rfl:g=[]:=gi
      refine ⟨r.l,hlt,fun e=>⟨d,by rw [e];rfl⟩,fun c a b N e _=>⟨N,by rw [e];rfl⟩,fun c a b e hc=>by cases hc⟩
     ·cases hx
      obtain ⟨A,rfl⟩:=gi
      refine ⟨q.l,hlu,fun e=>⟨A,A,?_⟩,fun c a b N e hc=>⟨A,N,?_⟩,fun c a b e hc=>?_⟩
      ·rw [e]
       cases r.l with
       | none=>rfl
       | some o=>rfl
      ·rw [e]
       cases hr:r.l with
       | none=>rfl
       | some o =>
        obtain ⟨c',a',b'⟩:=o
        rw [hr] at hc
        have hne:c'≠c:=fun z=>hc (by rw [← z];exact Xac.mpr rfl)
        show _=if c'=c then _ else _
        rw [if_neg hne];rfl
      ·cases hr:r.l with
       | none=>rw [hr] at hc;cases hc
       | some o =>
        obtain ⟨c',a',b'⟩:=o
        rw [hr] at hc
        obtain rfl:c=c':=Xac.mp hc
        refine ⟨A,rfl,A,A,?_⟩
        rw [e]
        show _=if c=c then _ else _
        rw [if_pos rfl]
    have hdg:∀ y∈g,y.2.1≠d:=fun y hy e=>by have:=G.l y hy;rw [e,G.e] at this;cases this
    cases ho':o with
    | none =>
     rw [ho'] at ho
     obtain rfl:x = .non:=ho
     exact ⟨_,rfl,_,rfl,iteF (zay ⟨_,g,rfl,eL,sX,G,gN,hnone ho'⟩)⟩
    | some o1 =>
     obtain ⟨c,a,b⟩:=o1
     rw [ho'] at ho
     obtain ⟨uu,rfl,euu⟩:=ho
     have eu1:=sX _ _ euu
     refine ⟨_,rfl,_,rfl,iteT ?_⟩
     refine ⟨_,rfl,.inr (.inr (.inl ⟨rfl,.inl ⟨_,G.e⟩⟩)),_,rfl,uu,_,_,_,rfl,rfl,SqT.of eu1,rfl,by show 0≤sizeLine;decide,fun N hN=>?_⟩
     have sN:=zac (H:=X) (o:=HO.lst []) hN
     have nNL:L≠N:=fun e=>by rw [e,hN] at eL;cases eL
     have nNd:d≠N:=fun e=>by have:=G.e;rw [e,hN] at this;cases this
     have ndL:L≠d:=fun e=>by have:=G.e;rw [← e,eL] at this;cases this
     have hNn:H N=none:=by cases h:H N with | none=>rfl | some o=>have:=sX _ _ h;rw [hN] at this;cases this
     have hgl:g.length≤1:=by
      rcases (show i=0∨i=1 by have:=(Xag.mp hx).1;simp at this;omega) with rfl | rfl
      ·obtain rfl:g=[]:=gi
       exact Nat.zero_le _
      ·obtain ⟨A,rfl⟩:=gi
       cases r.l with
       | none=>exact Nat.zero_le _
       | some o=>exact Xaf _
     by_cases hc:c∈g.map (·.1)
     ·obtain ⟨A1,rfl,gi'⟩:=hold c a b ho' hc
      have hA1:=gN _ (Xac.mpr rfl)
      have nA1:A1≠d:=hdg _ (Xac.mpr rfl)
      have hv:valV [((Sum.inl (c:Int):Key),V.ref A1)] (Sum.inl (c:Int))=some (V.ref A1):=zaO rfl
      refine ⟨d,_,Sum.inl (c:Int),.ref N,rfl,rfl,sN _ _ G.e,by simp,fun v' hv'=>?_,fun hn=>?_⟩
      ·have eA1:=sN _ _ (G.l _ (Xac.mpr rfl))
       refine ⟨_,rfl,_,rfl,uu,_,_,_,rfl,rfl,SqT.of (sN _ _ eu1),rfl,d,.ref A1,rfl,(by rw [← hv];exact DGet.k (k:=Sum.inl (c:Int)) (sN _ _ G.e)),.inl ⟨rfl,_,SqL.of eA1⟩,_,rfl,A1,_,_,rfl,rfl,eA1,by show 1<sizeLine;decide,?_⟩
       refine ⟨_,[(c,A1,[lt,.ref uu])],rfl,by rw [zag (Ne.symm hA1.2),zag nNL];exact eL,fun b' o' e=>by rw [zag (zaj e hA1.1)];exact sN _ _ (sX _ _ e),⟨by rw [zag (Ne.symm nA1),zag nNd];exact G.e,fun y hy=>?_,by simp,by simp⟩,fun y hy=>?_,gi'⟩
       ·obtain rfl:=Xac.mp hy
        exact zab
       ·obtain rfl:=Xac.mp hy
        exact hA1
      ·exact absurd (hv.symm.trans hn) (by simp)
     ·have hv:valV (g.map fun y=>((Sum.inl (y.1:Int):Key),V.ref y.2.1)) (Sum.inl (c:Int))=none:=by
       cases h:valV (g.map fun y=>((Sum.inl (y.1:Int):Key),V.ref y.2.1)) (Sum.inl (c:Int)) with
       | none=>rfl
       | some v =>
        have:=zkb h
        rw [Xby,XaJ] at this
        obtain ⟨y,hy,e⟩:=this
        have e:(y.1:Int)=(c:Int):=Sum.inl.inj e
        exact absurd (XaJ.mpr ⟨y,hy,show y.1=c by omega⟩) hc
      have ep:putK (g.map fun y=>((Sum.inl (y.1:Int):Key),V.ref y.2.1)) (Sum.inl (c:Int)) (.ref N)=(g ++ [(c,N,[V.ref uu])]:List (Nat×Addr×List V)).map fun y=>((Sum.inl (y.1:Int):Key),V.ref y.2.1):=by
       unfold putK
       rw [zbU,hv,XaC]
       rfl
      refine ⟨d,_,Sum.inl (c:Int),.ref N,rfl,rfl,sN _ _ G.e,by rw [Xae];omega,fun v' hv'=>absurd (hv.symm.trans hv') (by simp),fun _=>?_⟩
      have hv2:valV ((g ++ [(c,N,[V.ref uu])]:List (Nat×Addr×List V)).map fun y=>((Sum.inl (y.1:Int):Key),V.ref y.2.1)) (Sum.inl (c:Int))=some (.ref N):=by rw [← ep,ziD,if_pos rfl]
      rw [ep]
      have nud:uu≠d:=fun e=>by have:=G.e;rw [← e,eu1] at this;cases this
      refine ⟨_,rfl,_,rfl,uu,_,_,_,rfl,rfl,SqT.of (by rw [zag nud];exact sN _ _ eu1),rfl,d,.ref N,rfl,(by rw [← hv2];exact DGet.k (k:=Sum.inl (c:Int)) zab),.inl ⟨rfl,_,SqL.of (by rw [zag (Ne.symm nNd)];exact zab)⟩,_,rfl,N,[],_,rfl,rfl,by rw [zag (Ne.symm nNd)];exact zab,by show 0<sizeLine;decide,?_⟩
      have hNg:∀ y∈g,y.2.1≠N:=fun y hy e=>by have:=G.l y hy;rw [e,hN] at this;cases this
      refine ⟨_,g ++ [(c,N,[.ref uu])],rfl,by rw [zag nNL,zag ndL,zag nNL];exact eL,fun b' o' e=>by rw [zag (zaj e hNn),zag (zaj e hd)];exact sN _ _ (sX _ _ e),⟨by rw [zag nNd];exact zab,fun y hy=>?_,?_,?_⟩,fun y hy=>?_,hnew c a b N ho' hc⟩
      ·rcases XaF.mp hy with hy | hy
       ·rw [zag (hNg y hy),zag (hdg y hy),zag (hNg y hy)];exact G.l y hy
       ·obtain rfl:=Xac.mp hy
        exact zab
      ·rw [XaC,Xbb]
       exact ⟨G.nd,by simp,fun z hz z' hz'=>by obtain rfl:=Xac.mp hz';exact fun e=>hc (e ▸ hz)⟩
      ·rw [XaC,Xbb]
       refine ⟨G.na,by simp,fun z hz z' hz'=>?_⟩
       obtain rfl:=Xac.mp hz'
       obtain ⟨y,hy,rfl⟩:=XaJ.mp hz
       exact hNg y hy
      ·rcases XaF.mp hy with hy | hy
       ·exact gN y hy
       ·obtain rfl:=Xac.mp hy
        exact ⟨hNn,Ne.symm nNL⟩
   ·rintro σ X ⟨v3,g,rfl,eL,sX,G,gN,gi⟩
    obtain ⟨A,B,hgi⟩:=gi
    
    have hgood:∀ y∈g,∃ (u1 u2:Addr) (c1 a1 b1 c2 a2 b2:Nat),y.2.2[0]? = some (V.ref u1)∧atI y.2.2 (-1)=some (V.ref u2)∧H u1=some (.tup [.int (c1:Int),.int (a1:Int),.int (b1:Int)])∧H u2=some (.tup [.int (c2:Int),.int (a2:Int),.int (b2:Int)])∧(zbk r q=true→agr a1 b1 a2 b2=true)∧(zbk r q=false→agr a1 b1 a2 b2=false)∧((y.1:Int),((b1 ||| b2:Nat):Int))∈knN (dPut (dOne r.l) q.l):=by
     have self:∀ a b:Nat,agr a b a b=true:=fun a b=>by unfold agr;rw [Nat.xor_self];simp
     rw [hgi]
     intro y hy
     cases hr:r.l with
     | none =>
      cases hq:q.l with
      | none=>rw [hr,hq] at hy;cases hy
      | some o =>
       obtain ⟨c,a,b⟩:=o
       rw [hr,hq] at hy
       rw [hq] at hlu
       obtain ⟨u1,rfl,e1⟩:=hlu
       obtain rfl:=Xac.mp hy
       exact ⟨u1,u1,c,a,b,c,a,b,rfl,zcu [] _,e1,e1,fun _=>self a b,(fun h=>by rw [hcl,hr,hq] at h;cases h),by rw [Nat.or_self];exact XaA⟩
     | some o =>
      obtain ⟨c,a,b⟩:=o
      rw [hr] at hlt
      obtain ⟨u1,rfl,e1⟩:=hlt
      cases hq:q.l with
      | none =>
       rw [hr,hq] at hy
       obtain rfl:=Xac.mp hy
       exact ⟨u1,u1,c,a,b,c,a,b,rfl,zcu [] _,e1,e1,fun _=>self a b,(fun h=>by rw [hcl,hr,hq] at h;cases h),by rw [Nat.or_self];exact XaA⟩
      | some o2 =>
       obtain ⟨d',x,y'⟩:=o2
       rw [hr,hq] at hy
       rw [hq] at hlu
       obtain ⟨u2,rfl,e2⟩:=hlu
       have hlA:zbk r q=if c=d' then agr a b x y' else true:=by rw [hcl,hr,hq];rfl
       by_cases hcd:c=d'
       ·rw [show gTwo A B (V.ref u1) (V.ref u2) (some (c,a,b)) (some (d',x,y'))=[(c,A,[.ref u1,.ref u2])] from if_pos hcd] at hy
        obtain rfl:=Xac.mp hy
        rw [if_pos hcd] at hlA
        exact ⟨u1,u2,c,a,b,d',x,y',rfl,zcu [V.ref u1] _,e1,e2,(fun h=>by rw [← hlA];exact h),(fun h=>by rw [← hlA];exact h),by rw [show dPut (dOne (some (c,a,b))) (some (d',x,y'))=[(d',b ||| y')] from if_pos hcd,← hcd];exact XaA⟩
       ·rw [if_neg hcd] at hlA
        have hdp:dPut (dOne (some (c,a,b))) (some (d',x,y'))=[(c,b),(d',y')]:=if_neg hcd
        rw [show gTwo A B (V.ref u1) (V.ref u2) (some (c,a,b)) (some (d',x,y'))=[(c,A,[.ref u1]),(d',B,[.ref u2])] from if_neg hcd] at hy
        rcases Xal.mp hy with rfl | hy
        ·exact ⟨u1,u1,c,a,b,c,a,b,rfl,zcu [] _,e1,e1,fun _=>self a b,(fun h=>by rw [hlA] at h;cases h),by rw [Nat.or_self,hdp];exact XaA⟩
        ·obtain rfl:=Xac.mp hy
         exact ⟨u2,u2,d',x,y',d',x,y',rfl,zcu [] _,e2,e2,fun _=>self x y',(fun h=>by rw [hlA] at h;cases h),by rw [Nat.or_self,hdp];exact XaB _ XaA⟩
    have hne:zbk r q=false→g≠[]:=fun h e=>by
     rw [e] at hgi
     rw [hcl] at h
     cases hr:r.l with
     | none=>rw [hr] at h;cases h
     | some o =>
      cases hq:q.l with
      | none=>rw [hr,hq] at h;cases h
      | some o2 =>
       rw [hr,hq] at hgi
       have hgi:([]:List (Nat×Addr×List V))=if o.1=o2.1 then _ else _:=hgi
       split at hgi <;> cases hgi
    have hg2:g.length≤2:=by
     rw [hgi]
     cases r.l with
     | none=>cases q.l with
      | none=>exact Nat.zero_le _
      | some o=>show 1≤2;decide
     | some o=>cases q.l with
      | none=>show 1≤2;decide
      | some o2 =>
       show (if o.1=o2.1 then _ else _:List (Nat×Addr×List V)).length≤2
       split <;> simp
    have hkeys:(g.map fun y=>(y.1:Int))=(knN (dPut (dOne r.l) q.l)).map (·.1):=by
     rw [hgi]
     cases r.l with
     | none=>cases q.l with
      | none=>rfl
      | some o=>rfl
     | some o=>cases q.l with
      | none=>rfl
      | some o2 =>
       by_cases e:o.1=o2.1
       ·rw [show gTwo A B lt lu (some o) (some o2)=[(o.1,A,[lt,lu])] from if_pos e,show dPut (dOne (some o)) (some o2)=[(o2.1,o.2.2 ||| o2.2.2)] from if_pos e,e];rfl
       ·rw [show gTwo A B lt lu (some o) (some o2)=[(o.1,A,[lt]),(o2.1,B,[lu])] from if_neg e,show dPut (dOne (some o)) (some o2)=[(o.1,o.2.2),(o2.1,o2.2.2)] from if_neg e];rfl
    have hlw:=zkD r.l q.l
    have hL2:=zgB r.l q.l
    have hnd:=zd7 r.l q.l
    generalize knN (dPut (dOne r.l) q.l)=LL at *
    refine ⟨by show 0≤sizeLine;decide,fun TL hTL=>?_⟩
    have sT:=zac (H:=X) (o:=HO.lst []) hTL
    have nTd:TL≠d:=fun e=>by have:=G.e;rw [← e,hTL] at this;cases this
    have hTn:H TL=none:=sX.free hTL
    refine ⟨_,rfl,d,_,g.map fun y=>(y.1:Int),rfl,sT _ _ G.e,by rw [Xby,Xby];rfl,by rw [Xae];omega,fun l ns hl pm psr=>⟨l,rfl,⟨_,SqL.of zab⟩,?_⟩⟩
    have hns:=zhn hL2 (hkeys ▸ pm) psr
    have sl:=sT.trans (zac (o:=.lst (ns.map V.int)) hl)
    have nlT:TL≠l:=fun e=>by rw [← e,zab] at hl;cases hl
    have hpl:ns.length=g.length:=by rw [pm.length_eq,Xae]
    refine zda (K:=K) (xs:=ns.map V.int) (fun i σ Y=>∃ (v5 v6 v7:Option V) (ts:List Addr),σ=[some (.ref t),some (.ref u),some (.ref d),v3,some (.ref TL),v5,v6,v7]∧(zbk r q=true∨i=0)∧Y TL=some (.lst (ts.map V.ref))∧(ts.length=i∧∀ (j:Nat) (tt:Addr) (q':Int×Int),ts[j]? = some tt→(srt2 LL)[j]? = some q'→Y tt=some (.tup [.int q'.1,.int q'.2]))∧∀ a o,a≠TL→upd (upd X TL (.lst [])) l (.lst (ns.map V.int)) a=some o→Y a=some o) ⟨none,none,none,[],rfl,.inr rfl,by rw [zag nlT];exact zab,⟨rfl,fun j tt q' e=>by simp at e⟩,fun a o _ e=>e⟩ ?_ ?_ ?_
    ·rintro i σ Y _ ⟨_,_,_,_,_,_,_,_,fr⟩
     exact SqL.of (fr _ _ (Ne.symm nlT) zab)
    ·rintro i x σ Y hx ⟨v5,v6,v7,ts,rfl,hci,eT,htl,fr⟩
     rw [Xan] at hx
     obtain ⟨n,hn,rfl⟩:=Xaw.mp hx
     obtain ⟨y,hy,rfl⟩:=XaJ.mp (pm.mem_iff.mp (Xau hn))
     obtain ⟨u1,u2,c1,a1,b1,c2,a2,b2,g1,g2,g3,g4,g5,g6,g7⟩:=hgood y hy
     have frH:∀ a o,H a=some o→Y a=some o:=fun a o e=>fr a o (zaj e hTn) (sl _ _ (sX _ _ e))
     have eD:Y d=some (.dK (g.map fun y=>((Sum.inl (y.1:Int):Key),V.ref y.2.1))):=fr _ _ (Ne.symm nTd) (sl _ _ G.e)
     have eY:Y y.2.1=some (.lst y.2.2):=fr _ _ (fun e=>by have:=G.l y hy;rw [e,hTL] at this;cases this) (sl _ _ (G.l y hy))
     have hv:valV (g.map fun y=>((Sum.inl (y.1:Int):Key),V.ref y.2.1)) (Sum.inl (y.1:Int))=some (V.ref y.2.1):=zhj G.nd hy
     have eA2:decide ((0:Int)<Builtin.bitAnd (Builtin.bitAnd (Builtin.bitXor (b1:Int) (b2:Int)) (a1:Int)) (a2:Int)) = !agr a1 b1 a2 b2:=by
      rw [bxor,band,band]
      unfold agr
      by_cases h:(b1 ^^^ b2) &&& a1 &&& a2=0
      ·rw [Xap h,h];rfl
      ·rw [Xas h];exact Xap (by omega)
     refine ⟨_,rfl,_,rfl,d,_,rfl,(by rw [← hv];exact DGet.k (k:=Sum.inl (y.1:Int)) eD),y.2.1,_,_,_,rfl,rfl,SqL.of eY,(zaJ (j:=0) g1:atI _ ((0:Nat):Int)=_),?_⟩
     refine ⟨_,rfl,_,rfl,d,_,rfl,(by rw [← hv];exact DGet.k (k:=Sum.inl (y.1:Int)) eD),?_⟩
     refine ⟨1,rfl,y.2.1,_,_,_,rfl,rfl,SqL.of eY,g2,?_⟩
     have h3:=frH _ _ g3
     have h4:=frH _ _ g4
     refine ⟨_,rfl,u1,_,_,_,rfl,rfl,SqT.of h3,rfl,_,rfl,u2,_,_,_,rfl,rfl,SqT.of h4,rfl,_,_,rfl,rfl,_,rfl,u1,_,_,_,rfl,rfl,SqT.of h3,rfl,_,_,rfl,rfl,_,rfl,u2,_,_,_,rfl,rfl,SqT.of h4,rfl,_,_,rfl,rfl,_,_,rfl,rfl,_,rfl,?_⟩
     rw [eA2]
     cases hA2:agr a1 b1 a2 b2 with
     | false =>
      refine iteT (k1 ?_ Y frH)
      cases h:zbk r q with
      | false=>rfl
      | true=>rw [g5 h] at hA2;cases hA2
     | true =>
      have hct:zbk r q=true:=by
       cases h:zbk r q with
       | true=>rfl
       | false=>rw [g6 h] at hA2;cases hA2
      have hil:i<ns.length:=(Xag.mp hn).1
      refine iteF (zay ?_)
      try dsimp only
      refine ⟨_,rfl,.inl ⟨rfl,_,SqL.of eT⟩,_,rfl,_,rfl,u1,_,_,_,rfl,rfl,SqT.of h3,rfl,_,rfl,u2,_,_,_,rfl,rfl,SqT.of h4,rfl,_,_,rfl,rfl,by show 2≤sizeLine;decide,fun tp htp=>?_⟩
      have sp:=zac (H:=Y) (o:=HO.tup [.int (y.1:Int),.int (Builtin.bitOr (b1:Int) (b2:Int))]) htp
      have hsl:ns.length≤2:=by omega
      refine ⟨TL,ts.map V.ref,_,rfl,rfl,sp _ _ eT,by rw [sizeLine_eq,Xae];omega,?_⟩
      have nTp:tp≠TL:=fun z=>by rw [z,eT] at htp;cases htp
      refine ⟨_,_,_,ts ++ [tp],rfl,.inl hct,by rw [zab,XaC];rfl,⟨by rw [Xao,htl.1];rfl,fun j t' q2 e1 e2=>?_⟩,fun a o ha e=>by rw [zag ha];exact sp _ _ (fr a o ha e)⟩
      by_cases hj:j<ts.length
      ·rw [Xbj hj] at e1
       have e3:=htl.2 j t' q2 e1 e2
       rw [zag (fun z=>by rw [z,eT] at e3;cases e3)]
       exact sp _ _ e3
      ·rw [XbF (by omega)] at e1
       have hj0:j - ts.length=0:=by
        cases hjj:j - ts.length with
        | zero=>rfl
        | succ n=>rw [hjj] at e1;simp at e1
       rw [hj0] at e1
       have e1:tp=t':=by simpa using e1
       have hji:j=i:=by omega
       have hq2:q2=((y.1:Int),((b1 ||| b2:Nat):Int)):=by
        have hm:=ziG (Xau e2)
        have hk:q2.1=(y.1:Int):=by
         have h5:=hn
         rw [hns,Xan,← hji,e2] at h5
         exact Option.some.inj h5
        exact nd_key hnd hm g7 hk
       rw [← e1,zag nTp,zab,hq2,bor]
    ·rintro σ Y ⟨v5,v6,v7,ts,rfl,hci,eT,htl,fr⟩
     have frH:∀ a o,H a=some o→Y a=some o:=fun a o e=>fr a o (zaj e hTn) (sl _ _ (sX _ _ e))
     have hct:zbk r q=true:=by
      cases h:zbk r q with
      | true=>rfl
      | false =>
       rcases hci with e | e
       ·rw [h] at e;cases e
       ·rw [Xae,hpl] at e
        exact absurd (List.length_eq_zero_iff.mp e) (hne h)
     refine ⟨_,rfl,t,_,_,_,rfl,rfl,SqT.of (frH _ _ et),rfl,_,rfl,u,_,_,_,rfl,rfl,SqT.of (frH _ _ eu),rfl,_,_,rfl,rfl,_,rfl,TL,ts.map V.ref,rfl,.inl ⟨SqL.of eT,fun tp htp=>⟨by show 2≤sizeLine;decide,fun p hp=>?_⟩⟩⟩
     have stp:=zac (H:=Y) (o:=.tup (ts.map V.ref)) htp
     have spp:=stp.trans (zac (o:=.tup [V.int (Builtin.bitOr (r.w:Int) (q.w:Int)),V.ref tp]) hp)
     refine k2 hct p tp _ (by rw [zab,bor]) ?_ ((show Same H Y from frH).trans spp)
     rw [← hlw]
     exact ⟨ts,zac hp _ _ zab,by rw [htl.1,Xae,hns,Xae],fun j t' q' e1 e2=>spp _ _ (htl.2 j t' q' e1 e2)⟩
abbrev zdt:Stmt:=top 76
theorem sc_law_map:FnScope ["row","bits","models","rows","k","one"] ["row","bits","models"] (zai zdt):=sck rfl rfl rfl (by decide +kernel)
theorem zgD {row:List Nat}{a n:Nat}(h:a+n≤row.length):cutV (vN row) (some (a:Int)) (some ((a+n:Nat):Int))=vN ((row.drop a).take n):=by
 unfold cutV
 rw [HT.sIx_nat,HT.sIx_nat,zaz,XbT (by omega),XbT (by omega),show a+n - a=n by omega]
 unfold vN
 rw [List.map_take,List.map_drop]
inductive spMap33 (cs:Nat→Addr)(vs:List V)(H:Hp)(Q:VK)(u3_:XK):Prop
 | mk (L ML:Addr) (row:List Nat) (c m:Nat) (cl:List Cm) (z0_:vs=[.ref L,.int (m:Int),.ref ML]) (z1_:H L=some (.lst (vN row))) (z2_:row.length=8 * c) (z3_:c≤6) (z4_:(∀ v∈row,v<2 ^ 31)) (z5_:1≤m) (z6_:m≤16) (z7_:H ML=some (.lst (cl.map fun c=>.ref c.m))) (z8_:1≤cl.length) (z9_:cl.length≤9) (z10_:CMs cs H cl) (z11_:∀ (R:Addr) (H':Hp),Same H H'→Q (.ref R) H')
theorem zgZ {f:Addr}{cs:Nat→Addr}{fd:FuncData}(F:Fun K "_law_map" "_law_map" zdt f fd)(T:Blt mg)(G_law_row:Cal P w K mg base 3 "_law_row" ["r","bits","models"] (spRow34 cs))(G_law_pair:Cal P w K mg base 1 "_law_pair" ["one","other"] spPairS):FnOk P w K mg base CX0 4 f fd ["row","bits","models"] (spMap33 cs):=by
 refine F.ok sc_law_map (by walk_at "l") (fun cdv A outer s H vs Q E hr h=>?_)
 ·obtain ⟨L,ML,row,c,m,cl,rfl,eL,hl,c6,hw,m1,m2,eM,c1,c9,hC,k⟩:=h
  refine' ⟨_,(zaf (ps_L 3 sc_law_map.nd (zaw zae))
   (zaf (zbg PassesOwn.never rfl (zeX rfl T.range (zaa zad (zaa (zak zb5 (zal zan (by rfl) T.len PySem.boot_len (zaa (pv 0) zae)) zad) (zaa zad zae)))) (pg_L 4 sc_law_map.nd)
   (zaf (zhy (i:=5) sc_law_map.nd rfl (Or.inr rfl) (pe_c G_law_row (zaa (zaV zb8 (pv 0) (zaT (pv 4)) (zaT (zak zaM (pv 4) zad))) (zaa (pv 1) (zaa (pv 2) zae)))))
   (zah (zaG (zau (zhO (XbH (zcN hr)) (K:=K) rfl) ?c1 (zaw zae) (zav _)) (zah (zaA (zb0 PySem.F.plainAttrs_list PySem.F.slot_list_append PySem.F.type_list_append zaC (pv 3) (zaa (pv 5) zae)))) zap))))
   (zah (zaq (za1 za8 (by rfl) T.tuple za0 (zaa (pv 3) zae)))))),?rd⟩
  (case c1=>exact (zch (Nc:=["other","one"]) [none,some 5] rfl (zaQ (by rfl)) (zbA (pv 3)) (fun _ _ _ _ _=>(pg_L 0 (show (["other","one"]:List Str).Nodup by decide +kernel))) (fun _ _ _ _ _=>(zgo (zb3 (zcK (pe_c G_law_pair (zaa (pv 1) (zaa (pv 0) zae))))))) (fun _ _ _ _ _=>(pv 0))))
  refine ⟨by show 0≤sizeLine;decide,fun RL hRL=>?_⟩
  have s1:=zac (o:=.lst []) hRL
  obtain ⟨r1,r2,r3⟩:Builtin.Range.small 0 (((vN row).length:Int) - 7) 8=true∧Builtin.divisionGoesByPylong ((((vN row).length:Int) - 7) - 0) 8=false∧Builtin.Range.rangeSize 0 (((vN row).length:Int) - 7) 8=(c:Int):=by
   by_cases h0:c=0
   ·rw [zaz,hl,h0];exact ⟨by decide,by decide,by decide⟩
   ·rw [zaz,hl,show ((8 * c:Nat):Int) - 7=((8 * c - 7:Nat):Int) by omega]
    exact zgk (j:=8 * c - 7) (st:=8) (n:=c) (by omega) (by decide) (by decide) (by omega)
  refine ⟨_,rfl,L,_,rfl,.inl (SqL.of (s1 _ _ eL)),_,_,rfl,rfl,0,_,8,c,rfl,by decide,r1,r2,r3,?_⟩
  refine zd5 (n:=c) (fun i σ X=>∃ (v:Option V×Option V) (ws:List (Addr×Rw)),σ=[some (.ref L),some (.int (m:Int)),some (.ref ML),some (.ref RL),v.1,v.2]∧X RL=some (.lst (refs ws))∧RwsAt2 m X ws∧ws.length≤i∧Same H X) ⟨(_,_),[],rfl,zab,(fun _ h=>nomatch h),Xaf _,s1⟩ ?_ ?_
  ·rintro i σ X hi ⟨v,ws,rfl,hh⟩
   have eRL:=hh.1
   have hat2:=hh.2.1
   have hlen:=hh.2.2.1
   have sX:=hh.2.2.2
   rw [show (0:Int)+(i:Int) * 8=((8 * i:Nat):Int) by omega]
   have e8:((8 * i:Nat):Int)+8=((8 * i+8:Nat):Int):=by omega
   refine ⟨_,rfl,_,rfl,((8 * i:Nat):Int),rfl,_,rfl,_,_,rfl,rfl,((8 * i+8:Nat):Int),congrArg V.int e8,L,_,rfl,SqL.of (sX _ _ eL),fun g hg=>?_⟩
   rw [zgD (by omega)]
   have sg:=zac (o:=.lst (vN ((row.drop (8 * i)).take 8))) hg
   refine ⟨_,rfl,_,rfl,g,ML,_,m,cl,rfl,zab,by rw [XaR,Xa3];omega,(fun v hv=>hw v (Xbm (XbK hv))),m1,m2,(sX.trans sg) _ _ eM,c1,c9,hC.same (sX.trans sg),fun ta rN Z hta raN okN fitN s2=>?_⟩
   have sZ:=sg.trans s2
   try dsimp only [za7,List.set]
   have eRZ:=sZ _ _ eRL
   refine ⟨_,rfl,RL,rfl,⟨_,SqL.of eRZ⟩,?_⟩
   refine zbR (K:=K) (xs:=refs ws) (fun j ys σ U=>∃ v0,σ=[v0,some (.ref ta)]∧ys.length≤j∧Same Z U) (by rw [zat,sizeLine_eq];omega) ⟨none,rfl,Xaf _,Same.refl _⟩ ?_ ?_ ?_
   ·rintro j ys σ U _ ⟨_,_,hl,sU⟩
    exact ⟨SqL.of (sU _ _ eRZ),hl⟩
   ·rintro j x ys σ U hx ⟨v0,rfl,hl,sU⟩
    obtain ⟨z,hz,rfl⟩:=zc7 hx
    have rz:=hat2 z (Xau hz)
    have raz:=(rz.1.same sZ).same sU
    refine ⟨_,rfl,_,rfl,ta,z.1,rN,z.2,rfl,raN.same sU,raz,fun hc U1 s1=>⟨_,rfl,iteF ?_⟩,fun hc p pw U1 _ _ s1=>⟨_,rfl,iteT ⟨_,rfl,?_⟩⟩⟩
    ·exact ⟨_,rfl,by omega,sU.trans s1⟩
    ·exact ⟨_,rfl,by rw [Xao];simp;omega,sU.trans s1⟩
   ·rintro ys σ U ⟨v0,rfl,hl,sU⟩ Dc hDc
    refine ⟨by show 0≤sizeLine;decide,fun e0 he0=>?_⟩
    have y1:=(sZ.trans sU).trans ((zac (o:=.lst ys) hDc).trans (zac (o:=.lst []) he0))
    refine ⟨Dc,e0,ys,rfl,rfl,SqL.of (zac he0 _ _ zab),SqL.of zab,_,rfl,ite2 (fun h1=>?_) (fun h1=>zay ?_)⟩
    ·have eR2:=y1 _ _ eRL
     refine ⟨_,rfl,.inl ⟨rfl,_,SqL.of eR2⟩,_,rfl,RL,_,_,rfl,rfl,eR2,by rw [zat,sizeLine_eq];omega,?_⟩
     refine ⟨(_,_),ws ++ [(ta,rN)],rfl,?_,fun z hz=>?_,by rw [Xao];simp;omega,fun a q' e=>by rw [zag (zaj e hRL)];exact y1 _ _ (sX _ _ e)⟩
     ·rw [zab];unfold refs;rw [XaC];rfl
     ·rcases XaF.mp hz with hz | hz
      ·exact ⟨((hat2 z hz).1.same y1).updL eR2,(hat2 z hz).2⟩
      ·obtain rfl:=Xac.mp hz
       exact ⟨((raN.same sU).same ((zac hDc).trans (zac he0))).updL eR2,okN⟩
    ·exact ⟨(_,_),ws,rfl,y1 _ _ eRL,hat2.same y1,by omega,sX.trans y1⟩
  ·rintro σ X ⟨v,ws,rfl,eRL,hat2,hlen,sX⟩
   refine ⟨_,rfl,RL,refs ws,rfl,.inl ⟨SqL.of eRL,fun R hR=>?_⟩⟩
   exact k R _ (sX.trans (zac hR))
abbrev zce:Stmt:=top 78
theorem sc_law_board:FnScope ["row","bits","chips","models","rows"] ["row"] (zai zce):=sck rfl rfl rfl (by decide +kernel)
structure Bo33 (cs:Nat→Addr)(H:Hp)(CL ML:Addr)(m:Nat)(cl:List Cm)(X:Hp):Prop where
 m1:1≤m
 m2:m≤16
 eC:X CL=some (.lst (cl.map fun c=>.ref c.x))
 eM:X ML=some (.lst (cl.map fun c=>.ref c.m))
 c1:1≤cl.length
 c9:cl.length≤9
 C:CMs cs X cl
 s:Same H X
inductive spBoard33 (cs:Nat→Addr)(vs:List V)(H:Hp)(Q:VK)(u3_:XK):Prop
 | mk (L:Addr) (row:List Nat) (z0_:vs=[.ref L]) (z1_:H L=some (.lst (vN row))) (z2_:row.length=84) (z3_:(∀ v∈row,v<2 ^ 31)) (z4_:(∀ v,row[1]? = some v→v<63)) (z5_:∀ (t R CL ML:Addr) (m:Nat) (cl:List Cm) (H':Hp),H' t=some (.tup [.int (m:Int),.ref R,.ref CL,.ref ML])→Bo33 cs H CL ML m cl H'→Q (.ref t) H')
theorem ze7 {f:Addr}{cs:Nat→Addr}{fd:FuncData}(F:Fun K "_law_board" "_law_board" zce f fd)(T:Blt mg)(G_law_chips:Cal P w K mg base 6 "_law_chips" ["row"] (spChips34 cs))(G_law_map:Cal P w K mg base 4 "_law_map" ["row","bits","models"] (spMap33 cs)):FnOk P w K mg base CX0 7 f fd ["row"] (spBoard33 cs):=by
 refine F.ok sc_law_board (by walk_at "l") (fun cdv A outer s H vs Q E hr h=>?_)
 ·obtain ⟨L,row,rfl,eL,hl,hw,h63,k⟩:=h
  refine ⟨_,(zaf (ps_L 1 sc_law_board.nd (pe_x zam (zaw (zaa zad (zaa (zak zaM zad (zak zax (zak zaB (pe_x zam (pv 0) zad) zad) zad)) (zaa zad (zaa (zak zaM zad (zak zax (zak zaB (pe_x zam (pv 0) zad) zad) zad)) zae))))) (zak zax (pe_x zam (pv 0) zad) zad)))
   (zaf (zaG (zau zbG (zak zax (zak zaB (pe_x zam (pv 0) zad) zad) zad) zad (zav _)) (zah za6) zap)
   (zaf (zcR (pe_c G_law_chips (zaa (zaV zb8 (pv 0) (zaT zad) (zaT (zak zaM zad (zak zbN zad (zak zaM zad (zak zax (pe_x zam (pv 0) zad) zad)))))) zae)) (zbv rfl (zao (pg_L 2 sc_law_board.nd) (zao (pg_L 3 sc_law_board.nd) zaY))))
   (zaf (ps_L 4 sc_law_board.nd (pe_c G_law_map (zaa (zaV zb8 (pv 0) (zaT zad) (zaT (zak zaM zad (zak zbN zad (zak zax (zak zaB (pe_x zam (pv 0) zad) zad) zad))))) (zaa (pv 1) (zaa (pv 3) zae)))))
   (zah (zaq (zaK (zaa (pv 1) (zaa (pv 4) (zaa (pv 2) (zaa (pv 3) zae))))))))))),?rd⟩
  obtain ⟨dr,hdr⟩:=drw (row:=row) 84 (by omega) hw
  have y0:atI (vN row) 0=some (.int (dr 0:Int)):=(hdr 0 (by decide)).1
  have y1:atI (vN row) 1=some (.int (dr 1:Int)):=(hdr 1 (by decide)).1
  have d63:dr 1<63:=by
   obtain ⟨v,hv⟩:∃ v,row[1]? = some v:=⟨_,Xak (by omega)⟩
   have e:=y1
   have e2:atI (vN row) 1=some (.int (v:Int)):=zaJ (j:=1) (by unfold vN;rw [Xan,hv];rfl)
   rw [e2] at e
   have e3:(v:Int)=(dr 1:Int):=by injection Option.some.inj e
   have:=h63 v hv
   omega
  
  refine zas (fun σ X=>σ=L2.start ["row","bits","chips","models","rows"] [V.ref L]∧X=H) (fun σ X=>∃ m:Nat,1≤m∧m≤16∧σ=[some (.ref L),some (.int (m:Int)),none,none,none]∧Same H X) ?_ ?_ _ _ ⟨rfl,rfl⟩
  ·rintro σ X ⟨rfl,rfl⟩ N hN
   have i0:SqL K X L (vN row):=SqL.of eL
   refine ⟨_,rfl,L,_,_,_,rfl,rfl,i0,y0,_,_,rfl,rfl,⟨by decide,by decide +kernel⟩,_,_,rfl,rfl,(show (0:Int)<16 by decide),_,_,rfl,rfl,_,rfl,L,_,_,_,rfl,rfl,i0,y0,_,_,rfl,rfl,⟨by decide,by decide +kernel⟩,_,_,rfl,rfl,(show (0:Int)<6 by decide),_,_,rfl,rfl,by show 4≤sizeLine;decide,fun p hp=>?_⟩
   have sp:=zac (o:=.lst [V.int 16,V.int ((1:Int)+(dr 0:Int) / 4 % 16),V.int 8,V.int ((4:Int)+(dr 0:Int) / 4 % 6)]) hp
   obtain ⟨u,hu,eu⟩:=zgR (ns:=[16,1+dr 0 / 4 % 16,8,4+dr 0 / 4 % 6]) (a:=dr 0) (k:=4) rfl (by decide)
   refine ⟨_,rfl,L,_,_,_,rfl,rfl,SqL.of (sp _ _ eL),y0,_,_,rfl,rfl,(show (0:Int)<4 by decide),p,_,_,.int (u:Int),rfl,rfl,SqL.of zab,?_,?_⟩
   ·show atI [V.int 16,V.int ((1:Int)+(dr 0:Int) / 4 % 16),V.int 8,V.int ((4:Int)+(dr 0:Int) / 4 % 6)] ((dr 0:Int) % 4)=_
    rw [show (1:Int)+(dr 0:Int) / 4 % 16=((1+dr 0 / 4 % 16:Nat):Int) by omega,show (4:Int)+(dr 0:Int) / 4 % 6=((4+dr 0 / 4 % 6:Nat):Int) by omega]
    exact eu
   have hu2:1≤u∧u≤16:=by
    simp only [Xal,Xbd,or_false] at hu
    omega
   exact hN _ _ ⟨u,hu2.1,hu2.2,rfl,sp⟩
  rintro σ X ⟨m,m1,m2,rfl,sX⟩
  
  refine zas (fun σ Y=>σ=[some (.ref L),some (.int (m:Int)),none,none,none]∧Y=X) (fun σ Y=>σ=[some (.ref L),some (.int (m:Int)),none,none,none]∧Y=X) ?_ ?_ _ _ ⟨rfl,rfl⟩
  ·rintro σ Y ⟨rfl,rfl⟩ N hN
   refine ⟨_,rfl,L,_,_,_,rfl,rfl,SqL.of (sX _ _ eL),y1,_,_,rfl,rfl,⟨by decide,by decide +kernel⟩,_,_,rfl,rfl,(show (0:Int)<12 by decide),rfl,_,rfl,ite2 (fun h1=>?_) (fun h1=>zay (hN _ _ ⟨rfl,rfl⟩))⟩
   exfalso
   have h1:=XaQ h1
   have h1:(dr 1:Int) / 63 % 12=5:=by injection h1
   have:=d63
   omega
  rintro σ Y ⟨rfl,rfl⟩
  have c1:dr 1 % 9<9:=Xbc _ (by decide)
  have c2:dr 1 / 9 % 7<7:=Xbc _ (by decide)
  have e1:(2:Int)+2 * (1+(dr 1:Int) % 9)=((2+2 * (1+dr 1 % 9):Nat):Int):=by omega
  have e2:(20:Int)+8 * ((dr 1:Int) / 9 % 7)=((20+8 * (dr 1 / 9 % 7):Nat):Int):=by omega
  refine ⟨_,rfl,(2:Nat),rfl,_,rfl,L,_,_,_,rfl,rfl,SqL.of (sX _ _ eL),y1,_,_,rfl,rfl,(show (0:Int)<9 by decide),_,_,rfl,rfl,_,_,rfl,rfl,?_,_,_,rfl,rfl,((2+2 * (1+dr 1 % 9):Nat):Int),congrArg V.int e1,L,_,rfl,SqL.of (sX _ _ eL),fun g hg=>?_⟩
  ·exact zcp (by decide) (by omega)
  rw [zgD (by omega)]
  have sg:=zac (o:=.lst (vN ((row.drop 2).take (2 * (1+dr 1 % 9))))) hg
  refine ⟨g,_,1+dr 1 % 9,rfl,zab,by rw [XaR,Xa3];omega,by omega,by omega,(fun v hv=>hw v (Xbm (XbK hv))),fun t CL ML cl Z ht hCL hML nCM et eC eM hlen hC hfr s2=>zjX et ?_⟩
  try dsimp only [za7,List.set]
  have sZ:=sX.trans (sg.trans s2)
  refine ⟨_,rfl,(20:Nat),rfl,_,rfl,L,_,_,_,rfl,rfl,SqL.of (sZ _ _ eL),y1,_,_,rfl,rfl,⟨by decide,by decide +kernel⟩,_,_,rfl,rfl,(show (0:Int)<7 by decide),_,_,rfl,rfl,?_,_,_,rfl,rfl,((20+8 * (dr 1 / 9 % 7):Nat):Int),congrArg V.int e2,L,_,rfl,SqL.of (sZ _ _ eL),fun g2 hg2=>?_⟩
  ·exact zcp (by decide) (by omega)
  rw [zgD (by omega)]
  have sg2:=zac (o:=.lst (vN ((row.drop 20).take (8 * (dr 1 / 9 % 7))))) hg2
  refine ⟨_,rfl,_,rfl,g2,ML,_,dr 1 / 9 % 7,m,cl,rfl,zab,by rw [XaR,Xa3];omega,by omega,(fun v hv=>hw v (Xbm (XbK hv))),m1,m2,sg2 _ _ eM,by omega,by omega,hC.same sg2,fun R W s3=>?_⟩
  refine ⟨_,rfl,_,rfl,_,rfl,_,rfl,by show 4≤sizeLine;decide,fun t2 ht2=>?_⟩
  have sW:=sg2.trans s3
  have st:=zac (o:=.tup [.int (m:Int),.ref R,.ref CL,.ref ML]) ht2
  exact k t2 R CL ML m cl _ zab ⟨m1,m2,st _ _ (sW _ _ eC),st _ _ (sW _ _ eM),by omega,by omega,hC.same (sW.trans st),sZ.trans (sW.trans st)⟩
abbrev zdv:Stmt:=top 80
theorem sc_law_due:FnScope ["rows","found","one","other","pair","least","meeting","address","words","first"] ["rows"] (zai zdv):=sck rfl rfl rfl (by decide +kernel)
structure Fe where
 t:Addr
 x:Nat
 i:Nat
 j:Nat
 p:Addr
structure FeAt (rs:List Rw)(X:Hp)(e:Fe):Prop where
 c:cand rs e.i e.j e.x
 pr:∀ r q,rs[e.i]? = some r→rs[e.j]? = some q→PrsAt X e.p (lwL r.l q.l)
theorem FeAt.same {rs:List Rw}{X Y:Hp}{e:Fe}(h:FeAt rs X e)(s:Same X Y):FeAt rs Y e:=⟨h.c,fun r q h1 h2=>(h.pr r q h1 h2).same s⟩
theorem PrsAt.updL {X:Hp}{p L:Addr}{l:List (Int×Int)}{xs ys:List V}(h:PrsAt X p l)(e:X L=some (.lst xs)):PrsAt (upd X L (.lst ys)) p l:=by
 obtain ⟨ts,e1,hl,ht⟩:=h
 exact ⟨ts,by rw [zag (fun z=>by rw [z,e] at e1;cases e1)];exact e1,hl,fun j t q a b=>by rw [zag (fun z=>by have:=ht j t q a b;rw [z,e] at this;cases this)];exact ht j t q a b⟩
theorem FeAt.updL {rs:List Rw}{X:Hp}{e:Fe}{L:Addr}{xs ys:List V}(h:FeAt rs X e)(eL:X L=some (.lst xs)):FeAt rs (upd X L (.lst ys)) e:=⟨h.c,fun r q h1 h2=>(h.pr r q h1 h2).updL eL⟩
def fT (e:Fe):List V:=[.int (e.x:Int),.int (e.i:Int),.int (e.j:Int),.ref e.p]
def mT (e:Fe):List V:=[.int (e.i:Int),.int (e.j:Int),.ref e.p]
structure FsAt (rs:List Rw)(g:Fe→List V)(X:Hp)(L:Addr)(es:List Fe):Prop where
 e:X L=some (.lst (es.map fun e=>.ref e.t))
 t:∀ e∈es,X e.t=some (.tup (g e))
 a:∀ e∈es,FeAt rs X e
theorem FsAt.same {rs:List Rw}{g:Fe→List V}{X Y:Hp}{L:Addr}{es:List Fe}(h:FsAt rs g X L es)(s:Same X Y):FsAt rs g Y L es:=⟨s _ _ h.e,fun e he=>s _ _ (h.t e he),fun e he=>(h.a e he).same s⟩
theorem FsAt.add {rs:List Rw}{g:Fe→List V}{X:Hp}{L:Addr}{es:List Fe}{e:Fe}(h:FsAt rs g X L es)(et:X e.t=some (.tup (g e)))(ea:FeAt rs X e):FsAt rs g (upd X L (.lst ((es.map fun e=>V.ref e.t) ++ [.ref e.t]))) L (es ++ [e]):=by
 have tp:∀ {a:Addr} {o:List V},X a=some (.tup o)→upd X L (.lst ((es.map fun e=>V.ref e.t) ++ [.ref e.t])) a=some (.tup o):=fun {a o} z=>by rw [zag (fun y=>by rw [y,h.e] at z;cases z)];exact z
 refine ⟨by rw [zab,XaC];rfl,fun d hd=>?_,fun d hd=>?_⟩ <;> rcases XaF.mp hd with hd | hd
 ·exact tp (h.t d hd)
 ·rw [Xac.mp hd];exact tp et
 ·exact (h.a d hd).updL h.e
 ·rw [Xac.mp hd];exact ea.updL h.e
theorem zik {rs:List Rw}{i j x y:Nat}(h:cand rs i j x)(g:cand rs i j y):x=y:=by
 obtain ⟨_,r,q,e1,e2,_,rfl⟩:=h
 obtain ⟨_,r',q',f1,f2,_,rfl⟩:=g
 rw [e1] at f1;cases f1
 rw [e2] at f2;cases f2
 rfl
inductive spDue33 (vs:List V)(H:Hp)(Q:VK)(u3_:XK):Prop
 | mk (m:Nat) (R:Addr) (ws:List (Addr×Rw)) (z0_:vs=[.ref R]) (z1_:H R=some (.tup (refs ws))) (z2_:ws.length≤9) (z3_:RwsAt2 m H ws) (z4_:((∀ i j x,¬ cand (rsOf ws) i j x)→∀ H',Same H H'→Q .non H')) (z5_:∀ x i j r q,IsDue (rsOf ws) x i j→(rsOf ws)[i]? = some r→(rsOf ws)[j]? = some q→∀ (t p:Addr) (H':Hp),H' t=some (.tup [.int (x:Int),.int (i:Int),.int (j:Int),.ref p])→PrsAt H' p (lwL r.l q.l)→Same H H'→Q (.ref t) H')
theorem zg1 {f:Addr}{fd:FuncData}(F:Fun K "_law_due" "_law_due" zdv f fd)(T:Blt mg)(G_law_pair:Cal P w K mg base 1 "_law_pair" ["one","other"] spPairS):FnOk P w K mg base CX0 2 f fd ["rows"] spDue33:=by
 refine F.ok sc_law_due (by walk_at "l") (fun cdv A outer s H vs Q E hr h=>?_)
 ·obtain ⟨m,R,ws,rfl,eR,hl,hR,kn,kc⟩:=h
  refine' ⟨_,(zaf (@ps_L _ _ _ _ _ _ 1 sc_law_due.nd (@zaw _ _ _ _ (@zae _)) (by rfl) (by exact Or.inl rfl) (by rfl) (by walk_at "p"))
   (zaf (@zbg _ _ _ _ _ _ _ _ PassesOwn.never rfl (@zbu _ _ _ _ _ _ rfl T.range (@zaa _ _ _ _ _ (@zal _ _ _ _ _ _ _ _ _ zan (by rfl) T.len PySem.boot_len (@zaa _ _ _ _ _ (@pv _ 0 _ _ (by rfl) (by walk_at "o") (by decide) (by decide)) (@zae _) (by rfl)) (by decide) (by decide) (by rfl) (by rfl)) (@zae _) (by rfl)) (by rfl)) (@pg_L _ _ _ 2 sc_law_due.nd (by rfl) (by exact Or.inl rfl) (by walk_at "p")) (@zah _ _ _ (@zbg _ _ _ _ _ _ _ _ PassesOwn.never rfl (@zhF _ _ _ _ _ _ _ rfl T.range (@zaa _ _ _ _ _ (@zak _ _ _ _ _ _ _ _ zaM (@pv _ 2 _ _ (by rfl) (by walk_at "o") (by decide) (by decide)) (@zad _ _ _ _)) (@zaa _ _ _ _ _ (@zal _ _ _ _ _ _ _ _ _ zan (by rfl) T.len PySem.boot_len (@zaa _ _ _ _ _ (@pv _ 0 _ _ (by rfl) (by walk_at "o") (by decide) (by decide)) (@zae _) (by rfl)) (by decide) (by decide) (by rfl) (by rfl)) (@zae _) (by rfl)) (by rfl)) (by rfl) (by rfl)) (@pg_L _ _ _ 3 sc_law_due.nd (by rfl) (by exact Or.inl rfl) (by walk_at "p")) (@zaf _ _ _ _ _ (@ps_L _ _ _ _ _ _ 4 sc_law_due.nd (@pe_c _ _ _ _ _ _ _ _ _ _ G_law_pair (@zaa _ _ _ _ _ (@pe_x _ _ _ _ _ _ _ zar (@pv _ 0 _ _ (by rfl) (by walk_at "o") (by decide) (by decide)) (@pv _ 2 _ _ (by rfl) (by walk_at "o") (by decide) (by decide)) (by exact fun _ _=>rfl)) (@zaa _ _ _ _ _ (@pe_x _ _ _ _ _ _ _ zar (@pv _ 0 _ _ (by rfl) (by walk_at "o") (by decide) (by decide)) (@pv _ 3 _ _ (by rfl) (by walk_at "o") (by decide) (by decide)) (by exact fun _ _=>rfl)) (@zae _) (by rfl)) (by rfl)) (by exact hrm (by assumption)) (by rfl) (by decide) (by rfl) (by rfl)) (by rfl) (by exact Or.inl rfl) (by rfl) (by walk_at "p")) (@zah _ _ _ (@zaG _ _ _ _ _ _ _ _ (@zb3 _ _ _ _ _ _ (@zcK _ _ _ _ _ (@pv _ 4 _ _ (by rfl) (by walk_at "o") (by decide) (by decide))) (by first | exact zc9 _ (by decide) (by decide) | rfl)) (@zah _ _ _ (@zaA _ _ _ _ (@zb0 _ _ _ _ _ _ _ _ _ _ _ _ PySem.F.plainAttrs_list PySem.F.slot_list_append PySem.F.type_list_append zaC (@pv _ 1 _ _ (by rfl) (by walk_at "o") (by decide) (by decide)) (@zaa _ _ _ _ _ (@zaK _ _ _ _ _ (@zaa _ _ _ _ _ (@pe_x _ _ _ _ _ _ _ zar (@pv _ 4 _ _ (by rfl) (by walk_at "o") (by decide) (by decide)) (@zad _ _ _ _) (by exact fun _ _=>rfl)) (@zaa _ _ _ _ _ (@pv _ 2 _ _ (by rfl) (by walk_at "o") (by decide) (by decide)) (@zaa _ _ _ _ _ (@pv _ 3 _ _ (by rfl) (by walk_at "o") (by decide) (by decide)) (@zaa _ _ _ _ _ (@pe_x _ _ _ _ _ _ _ zar (@pv _ 4 _ _ (by rfl) (by walk_at "o") (by decide) (by decide)) (@zad _ _ _ _) (by exact fun _ _=>rfl)) (@zae _) (by rfl)) (by rfl)) (by rfl)) (by rfl))) (@zae _) (by rfl)) (by rfl) (by rfl) (by rfl) (by rfl) (by rfl)) (by rfl))) (@zap _)))) (by intro _;rfl))) (by intro _;rfl))
   (zaf (@zaG _ _ _ _ _ _ _ _ (@zau _ _ _ _ _ _ _ _ (zhO (XbH (zcN hr)) (K:=K) rfl) (@pv _ 1 _ _ (by rfl) (by walk_at "o") (by decide) (by decide)) (@zaw _ _ _ _ (@zae _)) (zav _)) (@zah _ _ _ (@zaq _ _ _ _ (@zdw _ _ _))) (@zap _))
   (zaf (ps_L 5 sc_law_due.nd (zal (zin rfl) (by rfl) T.min PyProof.Rows.boot_min (zaa ?c3 zae)))
   (zaf (@ps_L _ _ _ _ _ _ 6 sc_law_due.nd (@zaw _ _ _ _ (@zae _)) (by rfl) (by exact Or.inl rfl) (by rfl) (by walk_at "p"))
   (zaf (@zbg _ _ _ _ _ _ _ _ PassesOwn.never rfl (@zbA _ _ _ _ (@pv _ 1 _ _ (by rfl) (by walk_at "o") (by decide) (by decide))) (@zbv _ _ _ _ _ _ rfl (@zao _ _ _ _ _ (@pg_L _ _ _ 7 sc_law_due.nd (by rfl) (by exact Or.inl rfl) (by walk_at "p")) (@zao _ _ _ _ _ (@pg_L _ _ _ 2 sc_law_due.nd (by rfl) (by exact Or.inl rfl) (by walk_at "p")) (@zao _ _ _ _ _ (@pg_L _ _ _ 3 sc_law_due.nd (by rfl) (by exact Or.inl rfl) (by walk_at "p")) (@zao _ _ _ _ _ (@pg_L _ _ _ 8 sc_law_due.nd (by rfl) (by exact Or.inl rfl) (by walk_at "p")) (@zaY _) (by rfl)) (by rfl)) (by rfl)) (by rfl)) (by rfl) (by rfl)) (@zah _ _ _ (@zaG _ _ _ _ _ _ _ _ (@PW.pt _ _ _ (@zjJ _ _ _ _ _ _ _ (@zau _ _ _ _ _ _ _ _ zbG (@zak _ _ _ _ _ _ _ _ zaW (@pv _ 5 _ _ (by rfl) (by walk_at "o") (by decide) (by decide)) (@pe_x _ _ _ _ _ _ _ zar (@pe_x _ _ _ _ _ _ _ zar (@pv _ 0 _ _ (by rfl) (by walk_at "o") (by decide) (by decide)) (@pv _ 2 _ _ (by rfl) (by walk_at "o") (by decide) (by decide)) (by exact fun _ _=>rfl)) (@zad _ _ _ _) (by exact fun _ _=>rfl))) (@pe_x _ _ _ _ _ _ _ zar (@pe_x _ _ _ _ _ _ _ zar (@pv _ 0 _ _ (by rfl) (by walk_at "o") (by decide) (by decide)) (@pv _ 2 _ _ (by rfl) (by walk_at "o") (by decide) (by decide)) (by exact fun _ _=>rfl)) (@zad _ _ _ _) (by exact fun _ _=>rfl)) (zav _)) (@zhx _ _ _ _ (@zau _ _ _ _ _ _ _ _ zbG (@zak _ _ _ _ _ _ _ _ zaW (@pv _ 5 _ _ (by rfl) (by walk_at "o") (by decide) (by decide)) (@pe_x _ _ _ _ _ _ _ zar (@pe_x _ _ _ _ _ _ _ zar (@pv _ 0 _ _ (by rfl) (by walk_at "o") (by decide) (by decide)) (@pv _ 3 _ _ (by rfl) (by walk_at "o") (by decide) (by decide)) (by exact fun _ _=>rfl)) (@zad _ _ _ _) (by exact fun _ _=>rfl))) (@pe_x _ _ _ _ _ _ _ zar (@pe_x _ _ _ _ _ _ _ zar (@pv _ 0 _ _ (by rfl) (by walk_at "o") (by decide) (by decide)) (@pv _ 3 _ _ (by rfl) (by walk_at "o") (by decide) (by decide)) (by exact fun _ _=>rfl)) (@zad _ _ _ _) (by exact fun _ _=>rfl)) (zav _))))) (@zah _ _ _ (@zaA _ _ _ _ (@zb0 _ _ _ _ _ _ _ _ _ _ _ _ PySem.F.plainAttrs_list PySem.F.slot_list_append PySem.F.type_list_append zaC (@pv _ 6 _ _ (by rfl) (by walk_at "o") (by decide) (by decide)) (@zaa _ _ _ _ _ (@zaK _ _ _ _ _ (@zaa _ _ _ _ _ (@pv _ 2 _ _ (by rfl) (by walk_at "o") (by decide) (by decide)) (@zaa _ _ _ _ _ (@pv _ 3 _ _ (by rfl) (by walk_at "o") (by decide) (by decide)) (@zaa _ _ _ _ _ (@pv _ 8 _ _ (by rfl) (by walk_at "o") (by decide) (by decide)) (@zae _) (by rfl)) (by rfl)) (by rfl))) (@zae _) (by rfl)) (by rfl) (by rfl) (by rfl) (by rfl) (by rfl)) (by rfl))) (@zap _))) (by intro _;rfl))
   (zaf (zhy (i:=9) sc_law_due.nd rfl (Or.inr rfl) (zal (zfr rfl (zcN hr)) (by rfl) T.min PyProof.Rows.boot_min (zaa ?c2 zae)))
   (zah (zaq (zak (zi2 (K:=K) rfl) (zaK (zaa (pv 5) zae)) (pe_x zam ?c1 zad))))))))))),?rd⟩
  (case c1=>exact (zch (Nc:=["pair","first"]) [none,some 9] rfl (zaQ (by rfl)) (zbA (pv 6)) (fun _ _ _ _ _=>(pg_L 0 (show (["pair","first"]:List Str).Nodup by decide +kernel))) (fun _ _ _ _ _=>(zgo (zau (zkx (XbH (zcN hr)) (K:=K) rfl) (zaV (zei (K:=K) rfl) (pv 0) zcg (zaT zad)) (pv 1) (zav _)))) (fun _ _ _ _ _=>(pv 0))))
  (case c2=>exact (zch (Nc:=["pair"]) [none] rfl (zaQ (by rfl)) (zbA (pv 6)) (fun _ _ _ _ _=>(pg_L 0 (show (["pair"]:List Str).Nodup by decide +kernel))) (fun _ _ _ _ _=>zd1) (fun _ _ _ _ _=>(zaV (zei (K:=K) rfl) (pv 0) zcg (zaT zad)))))
  (case c3=>exact (zch (Nc:=["pair"]) [none] rfl (zaQ (by rfl)) (zbA (pv 1)) (fun _ _ _ _ _=>(pg_L 0 (show (["pair"]:List Str).Nodup by decide +kernel))) (fun _ _ _ _ _=>zd1) (fun _ _ _ _ _=>(pe_x (zey (K:=K) rfl) (pv 0) zad))))
  have hrs:(rsOf ws).length=ws.length:=Xae ..
  have hws:∀ {k:Nat},k<ws.length→∃ z,ws[k]? = some z∧(rsOf ws)[k]? = some z.2∧RwAt H z.1 z.2∧RwOk m z.2:=fun {k} hk=>by
   have hz:ws[k]? = some ws[k]:=Xak hk
   exact ⟨_,hz,by unfold rsOf;rw [Xan,hz];rfl,hR _ (Xau hz)⟩
  have hcl:∀ {i j x:Nat},cand (rsOf ws) i j x→i<j∧j<ws.length:=fun {i j x} h=>⟨h.1,by obtain ⟨_,r,q,_,e2,_⟩:=h;have:=(Xag.mp e2).1;omega⟩
  
  refine zas (fun σ X=>σ=L2.start ["rows","found","one","other","pair","least","meeting","address","words","first"] [V.ref R]∧X=H) (fun σ X=>∃ fa,σ=[some (.ref R),some (.ref fa),none,none,none,none,none,none,none,none]∧H fa=none∧X fa=some (.lst [])∧Same H X) ?_ ?_ _ _ ⟨rfl,rfl⟩
  ·rintro σ X ⟨rfl,rfl⟩ N hN
   exact ⟨by show 0≤sizeLine;decide,fun fa hfa=>hN _ _ ⟨fa,rfl,hfa,zab,zac hfa⟩⟩
  rintro σ X ⟨fa,rfl,hfa,efa,sX⟩
  refine zas (fun σ Y=>σ=[some (.ref R),some (.ref fa),none,none,none,none,none,none,none,none]∧Y=X) (fun σ Y=>∃ (v2 v3 v4:Option V) (es:List Fe),σ=[some (.ref R),some (.ref fa),v2,v3,v4,none,none,none,none,none]∧FsAt (rsOf ws) fT Y fa es∧(∀ i j x,cand (rsOf ws) i j x→∃ e∈es,e.i=i∧e.j=j)∧es.length≤81∧Same H Y) ?_ ?_ _ _ ⟨rfl,rfl⟩
  ·rintro σ Y ⟨rfl,rfl⟩ N hN
   refine ⟨_,rfl,R,_,rfl,.inr (SqT.of (sX _ _ eR)),_,rfl,by omega,by rw [zat];omega,?_⟩
   rw [Xat,zat]
   refine zbQ (n:=ws.length) (fun a σ Z=>∃ (v2 v3 v4:Option V) (es:List Fe),σ=[some (.ref R),some (.ref fa),v2,v3,v4,none,none,none,none,none]∧FsAt (rsOf ws) fT Z fa es∧(∀ i j x,cand (rsOf ws) i j x→i<a→∃ e∈es,e.i=i∧e.j=j)∧es.length≤a * 9∧Same H Z) ⟨_,_,_,[],rfl,⟨efa,(fun _ h=>nomatch h),(fun _ h=>nomatch h)⟩,(fun i j x _ h=>absurd h (XbS _)),Xaf _,sX⟩ ?_ ?_
   ·rintro a σ Z ha ⟨v2,v3,v4,es,rfl,hF,hc,hn,sZ⟩
    rw [Int.zero_add]
    refine ⟨_,rfl,_,_,rfl,rfl,_,rfl,R,_,rfl,.inr (SqT.of (sZ _ _ eR)),_,_,rfl,⟨by omega,by omega,by rw [zat];omega,by rw [zat];omega⟩,?_⟩
    rw [zat,show ((ws.length:Int) - ((a:Int)+1)).toNat=ws.length - (a+1) by omega]
    refine zbQ (n:=ws.length - (a+1)) (fun b σ Z=>∃ (v3 v4:Option V) (es:List Fe),σ=[some (.ref R),some (.ref fa),some (.int (a:Int)),v3,v4,none,none,none,none,none]∧FsAt (rsOf ws) fT Z fa es∧(∀ i j x,cand (rsOf ws) i j x→i<a∨(i=a∧j<a+1+b)→∃ e∈es,e.i=i∧e.j=j)∧es.length≤a * 9+b∧Same H Z) ⟨_,_,es,rfl,hF,(fun i j x h g=>hc i j x h (by have:=h.1;omega)),hn,sZ⟩ ?_ ?_
    ·rintro b σ Z hb ⟨v3,v4,es,rfl,hF,hc,hn,sZ⟩
     rw [show (a:Int)+1+(b:Int)=((a+1+b:Nat):Int) by omega]
     obtain ⟨y,hy,ry,ay,oy⟩:=hws ha
     obtain ⟨z,hz,rz,az,oz⟩:=hws (show a+1+b<ws.length by omega)
     have eZ:=sZ _ _ eR
     refine ⟨_,rfl,_,rfl,R,_,_,_,rfl,rfl,SqT.of eZ,zaJ (zbM hy),_,rfl,_,rfl,R,_,_,_,rfl,rfl,SqT.of eZ,zaJ (zbM hz),y.1,z.1,y.2,z.2,rfl,ay.same sZ,az.same sZ,fun hcf W sW=>?_,fun hct p pw W ep epw sW=>?_⟩
     ·refine ⟨_,rfl,_,rfl,iteF (zay ⟨_,_,es,rfl,hF.same sW,fun i j x h g=>?_,by omega,sZ.trans sW⟩)⟩
      by_cases hj:i<a∨(i=a∧j<a+1+b)
      ·exact hc i j x h hj
      ·exfalso
       obtain ⟨rfl,rfl⟩:i=a∧j=a+1+b:=by omega
       obtain ⟨_,r,q,e1,e2,h3,_⟩:=h
       rw [ry] at e1;cases e1
       rw [rz] at e2;cases e2
       rw [hcf] at h3;cases h3
     ·have hFW:=hF.same sW
      refine ⟨_,rfl,_,rfl,iteT ?_⟩
      refine ⟨_,rfl,.inl ⟨rfl,_,SqL.of hFW.e⟩,_,rfl,p,_,_,_,rfl,rfl,SqT.of ep,rfl,_,rfl,_,rfl,_,rfl,p,_,_,_,rfl,rfl,SqT.of ep,rfl,by show 4≤sizeLine;decide,fun T2 hT2=>?_⟩
      have s3:=zac (o:=.tup [.int ((y.2.w ||| z.2.w:Nat):Int),.int (a:Int),.int ((a+1+b:Nat):Int),.ref pw]) hT2
      have hF3:=hFW.same s3
      refine ⟨fa,_,_,rfl,rfl,hF3.e,by rw [Xae,sizeLine_eq];omega,?_⟩
      refine ⟨_,_,es ++ [⟨T2,y.2.w ||| z.2.w,a,a+1+b,pw⟩],rfl,hF3.add (e:=⟨T2,y.2.w ||| z.2.w,a,a+1+b,pw⟩) zab ⟨⟨by show a<a+1+b;omega,y.2,z.2,ry,rz,hct,rfl⟩,fun r q h1 h2=>?_⟩,fun i j x h g=>?_,by rw [Xao];simp;omega,fun c o e=>by rw [zag (zaj e hfa)];exact s3 _ _ (sW _ _ (sZ _ _ e))⟩
      ·have h1:(rsOf ws)[a]? = some r:=h1
       have h2:(rsOf ws)[a+1+b]? = some q:=h2
       rw [ry] at h1;cases h1
       rw [rz] at h2;cases h2
       exact epw.same s3
      ·by_cases hj:i<a∨(i=a∧j<a+1+b)
       ·obtain ⟨e,he,h1,h2⟩:=hc i j x h hj
        exact ⟨e,XaV _ he,h1,h2⟩
       ·exact ⟨_,Xax _ XaA,by show a=i;omega,by show a+1+b=j;omega⟩
    ·rintro σ Z ⟨v3,v4,es,rfl,hF,hc,hn,sZ⟩
     exact ⟨_,_,_,es,rfl,hF,fun i j x h g=>hc i j x h (by have:=hcl h;omega),by omega,sZ⟩
   ·rintro σ Z ⟨v2,v3,v4,es,rfl,hF,hc,hn,sZ⟩
    exact hN _ _ ⟨_,_,_,es,rfl,hF,fun i j x h=>hc i j x h (by have:=hcl h;omega),by omega,sZ⟩
  rintro σ Y ⟨v2,v3,v4,es,rfl,hF,hc,hn,sY⟩
  clear sX efa
  
  refine zas (fun σ Z=>σ=[some (.ref R),some (.ref fa),v2,v3,v4,none,none,none,none,none]∧Z=Y) (fun σ Z=>σ=[some (.ref R),some (.ref fa),v2,v3,v4,none,none,none,none,none]∧es≠[]∧Same Y Z) ?_ ?_ _ _ ⟨rfl,rfl⟩
  ·rintro σ Z ⟨rfl,rfl⟩ N hN
   refine ⟨_,rfl,by show 0≤sizeLine;decide,fun e he=>⟨fa,e,_,rfl,rfl,SqL.of (zac he _ _ hF.e),SqL.of zab,_,rfl,ite2 (fun h1=>?_) (fun h1=>?_)⟩⟩
   ·have hes:es=[]:=List.map_eq_nil_iff.mp (List.isEmpty_iff.mp h1)
    refine kn (fun i j x h=>?_) _ (sY.trans (zac he))
    obtain ⟨e,he,_⟩:=hc i j x h
    rw [hes] at he;cases he
   ·exact zay (hN _ _ ⟨rfl,fun z=>h1 (by rw [z];rfl),zac he⟩)
  rintro σ Z ⟨rfl,hes,sYZ⟩
  have hF:=hF.same sYZ
  have sZ:=sY.trans sYZ
  clear sY sYZ
  
  refine zas (fun σ Y=>σ=[some (.ref R),some (.ref fa),v2,v3,v4,none,none,none,none,none]∧Y=Z) (fun σ Y=>∃ lx:Nat,σ=[some (.ref R),some (.ref fa),v2,v3,v4,some (.int (lx:Int)),none,none,none,none]∧(∃ e∈es,e.x=lx)∧(∀ e∈es,lx≤e.x)∧Same Z Y) ?_ ?_ _ _ ⟨rfl,rfl⟩
  ·rintro σ Y ⟨rfl,rfl⟩ N hN
   refine ⟨_,rfl,fa,rfl,⟨_,SqL.of hF.e⟩,?_⟩
   refine zbR (K:=K) (a:=fa) (xs:=es.map fun e=>V.ref e.t) (fun i ys σ U=>∃ v0,σ=[v0]∧ys=((es.take i).map fun e=>(e.x:Int)).map V.int∧U=Y) (by rw [Xae,sizeLine_eq];omega) ⟨none,rfl,rfl,rfl⟩ ?_ ?_ ?_
   ·rintro i ys σ U _ ⟨v0,rfl,rfl,rfl⟩
    exact ⟨SqL.of hF.e,by rw [Xae,Xae,XaR];omega⟩
   ·rintro i x ys σ U hx ⟨v0,rfl,rfl,rfl⟩
    rw [Xan] at hx
    obtain ⟨e,he,rfl⟩:=Xaw.mp hx
    refine ⟨_,rfl,e.t,_,_,_,rfl,rfl,SqT.of (hF.t e (Xau he)),rfl,_,rfl,?_,rfl⟩
    rw [List.take_succ,he,XaC,XaC];rfl
   ·rintro ys σ U ⟨v0,rfl,rfl,rfl⟩ M hM
    rw [Xae,XaY (Xaf _)] at *
    refine ⟨M,es.map (fun e=>(e.x:Int)),rfl,zab,by rw [Xae];exact List.length_pos_iff.mpr hes,fun mm h1 h2=>?_⟩
    obtain ⟨e,he,rfl⟩:=XaJ.mp h1
    exact hN _ _ ⟨e.x,rfl,⟨e,he,rfl⟩,fun d hd=>by have:=h2 _ (Xbp hd);omega,zac hM⟩
  rintro σ Y ⟨lx,rfl,⟨e0,he0,hx0⟩,hmin,sZY⟩
  have hF:=hF.same sZY
  have sY:=sZ.trans sZY
  clear sZ sZY
  
  refine zas (fun σ X=>σ=[some (.ref R),some (.ref fa),v2,v3,v4,some (.int (lx:Int)),none,none,none,none]∧X=Y) (fun σ X=>∃ ma,σ=[some (.ref R),some (.ref fa),v2,v3,v4,some (.int (lx:Int)),some (.ref ma),none,none,none]∧Y ma=none∧X ma=some (.lst [])∧Same Y X) ?_ ?_ _ _ ⟨rfl,rfl⟩
  ·rintro σ X ⟨rfl,rfl⟩ N hN
   exact ⟨by show 0≤sizeLine;decide,fun ma hma=>hN _ _ ⟨ma,rfl,hma,zab,zac hma⟩⟩
  rintro σ X ⟨ma,rfl,hma,ema,sYX⟩
  refine zas (fun σ Z=>σ=[some (.ref R),some (.ref fa),v2,v3,v4,some (.int (lx:Int)),some (.ref ma),none,none,none]∧Z=X) (fun σ Z=>∃ (v2 v3 v7 v8:Option V) (ms:List Fe),σ=[some (.ref R),some (.ref fa),v2,v3,v4,some (.int (lx:Int)),some (.ref ma),v7,v8,none]∧FsAt (rsOf ws) mT Z ma ms∧(∀ e∈ms,e.x=lx)∧(∀ e∈es,e.x=lx→∃ d∈ms,d.i=e.i∧d.j=e.j)∧ms.length≤81∧Same Y Z) ?_ ?_ _ _ ⟨rfl,rfl⟩
  ·rintro σ Z ⟨rfl,rfl⟩ N hN
   refine ⟨_,rfl,fa,rfl,⟨_,SqL.of (sYX _ _ hF.e)⟩,?_⟩
   refine zda (K:=K) (a:=fa) (xs:=es.map fun e=>V.ref e.t) (fun k σ W=>∃ (v2 v3 v7 v8:Option V) (ms:List Fe),σ=[some (.ref R),some (.ref fa),v2,v3,v4,some (.int (lx:Int)),some (.ref ma),v7,v8,none]∧FsAt (rsOf ws) mT W ma ms∧(∀ e∈ms,e.x=lx)∧(∀ (n:Nat) (e:Fe),n<k→es[n]? = some e→e.x=lx→∃ d∈ms,d.i=e.i∧d.j=e.j)∧ms.length≤k∧Same Y W) ⟨_,_,_,_,[],rfl,⟨ema,(fun _ h=>nomatch h),(fun _ h=>nomatch h)⟩,(fun _ h=>nomatch h),(fun n e h=>absurd h (XbS _)),Xaf _,sYX⟩ (fun k σ W _ ⟨_,_,_,_,_,_,_,_,_,_,sW⟩=>SqL.of (sW _ _ hF.e)) ?_ ?_
   ·rintro k v σ W hv ⟨v2,v3,v7,v8,ms,rfl,hM,hx,hk,hn',sW⟩
    have hkl:=(Xag.mp hv).1
    rw [Xae] at hkl
    rw [Xan] at hv
    obtain ⟨e,he,rfl⟩:=Xaw.mp hv
    have hem:=Xau he
    have ea:=(hF.same sW).a e hem
    obtain ⟨hij,r,q,er,eq,hct,hxe⟩:=ea.c
    obtain ⟨y,hy,ry,ay,oy⟩:=hws (show e.i<ws.length by have:=hcl ea.c;omega)
    obtain ⟨z,hz,rz,az,oz⟩:=hws (show e.j<ws.length by have:=hcl ea.c;omega)
    rw [ry] at er;cases er
    rw [rz] at eq;cases eq
    have sHW:=sY.trans sW
    obtain ⟨ly,ey,hly⟩:=ay.same sHW
    obtain ⟨lz,ez,hlz⟩:=az.same sHW
    have eW:=sHW _ _ eR
    obtain ⟨f1,f2⟩:=zjy oy.wm oz.wm (clash_parts.mp hct).1
    have both:met y.2 lx=true→met z.2 lx=true→e.x=lx:=fun m1 m2=>by
     have g1:lx &&& y.2.m=y.2.w:=XaQ m1
     have g2:lx &&& z.2.m=z.2.w:=XaQ m2
     have h1:e.x≤lx:=by rw [hxe,or_of g1 g2];exact Nat.and_le_left
     have h2:=hmin e hem
     omega
    have keep:¬ e.x=lx→∀ (n:Nat) (d:Fe),n<k+1→es[n]? = some d→d.x=lx→∃ d'∈ms,d'.i=d.i∧d'.j=d.j:=fun hne n d hn1 hd hdx=>by
     by_cases h:n<k
     ·exact hk n d h hd hdx
     ·obtain rfl:n=k:=by omega
      rw [he] at hd;cases hd
      exact absurd hdx hne
    refine zh5 (sW _ _ (hF.t e hem)) ?_
    try dsimp only [za7,List.set]
    refine ⟨_,rfl,_,rfl,_,rfl,R,_,_,_,rfl,rfl,SqT.of eW,zaJ (zbM hy),y.1,_,_,_,rfl,rfl,SqT.of ey,rfl,_,_,rfl,rfl,_,rfl,_,rfl,R,_,_,_,rfl,rfl,SqT.of eW,zaJ (zbM hy),y.1,_,_,_,rfl,rfl,SqT.of ey,rfl,rfl,_,rfl,?_⟩
    rw [zjS]
    cases m1:met y.2 lx with
    | false =>
     refine iteF (iteF (zay ⟨_,_,_,_,ms,rfl,hM,hx,keep fun hne=>?_,by omega,sW⟩))
     rw [show met y.2 lx=true by rw [← hne,hxe];exact Xap f1] at m1;cases m1
    | true =>
     refine iteT ⟨_,rfl,_,rfl,_,rfl,R,_,_,_,rfl,rfl,SqT.of eW,zaJ (zbM hz),z.1,_,_,_,rfl,rfl,SqT.of ez,rfl,_,_,rfl,rfl,_,rfl,_,rfl,R,_,_,_,rfl,rfl,SqT.of eW,zaJ (zbM hz),z.1,_,_,_,rfl,rfl,SqT.of ez,rfl,rfl,_,rfl,?_⟩
     rw [zjS]
     cases m2:met z.2 lx with
     | false =>
      refine iteF (zay ⟨_,_,_,_,ms,rfl,hM,hx,keep fun hne=>?_,by omega,sW⟩)
      rw [show met z.2 lx=true by rw [← hne,hxe];exact Xap f2] at m2;cases m2
     | true =>
      have hel:=both m1 m2
      refine iteT ⟨_,rfl,.inl ⟨rfl,_,SqL.of hM.e⟩,_,rfl,_,rfl,_,rfl,by show 3≤sizeLine;decide,fun T2 hT2=>?_⟩
      have s3:=zac (o:=.tup (mT e)) hT2
      have hM3:=hM.same s3
      refine ⟨ma,_,_,rfl,rfl,hM3.e,by rw [Xae,sizeLine_eq];omega,?_⟩
      refine ⟨_,_,_,_,ms ++ [Fe.mk T2 e.x e.i e.j e.p],rfl,hM3.add (e:=Fe.mk T2 e.x e.i e.j e.p) zab ((show FeAt (rsOf ws) W ⟨T2,e.x,e.i,e.j,e.p⟩ from ⟨ea.c,ea.pr⟩).same s3),fun d hd=>?_,fun n d hn1 hd hdx=>?_,by rw [Xao];simp;omega,fun c o ec=>by rw [zag (zaj ec hma)];exact s3 _ _ (sW _ _ ec)⟩
      ·rcases XaF.mp hd with hd | hd
       ·exact hx d hd
       ·rw [Xac.mp hd];exact hel
      ·by_cases h:n<k
       ·obtain ⟨d',h1,h2⟩:=hk n d h hd hdx
        exact ⟨d',XaV _ h1,h2⟩
       ·obtain rfl:n=k:=by omega
        rw [he] at hd;cases hd
        exact ⟨_,Xax _ XaA,rfl,rfl⟩
   ·rintro σ W ⟨v2,v3,v7,v8,ms,rfl,hM,hx,hk,hn',sW⟩
    rw [Xae] at hk hn'
    refine hN _ _ ⟨v2,v3,v7,v8,ms,rfl,hM,hx,fun e he hxe=>?_,by omega,sW⟩
    obtain ⟨n,hn1⟩:=XbC.mp he
    exact hk n e (Xag.mp hn1).1 hn1 hxe
  rintro σ Z ⟨v2,v3,v7,v8,ms,rfl,hM,hmx,hmk,hmn,sYZ⟩
  have sZ:=sY.trans sYZ
  clear sYX ema
  have hms:0<ms.length:=by
   obtain ⟨d,hd,_⟩:=hmk e0 he0 hx0
   exact List.length_pos_of_mem hd
  have cutE:∀ e:Fe,cutV (mT e) none (some 2)=[.int (e.i:Int),.int (e.j:Int)]:=fun e=>rfl
  
  refine zas (fun σ U=>σ=[some (.ref R),some (.ref fa),v2,v3,v4,some (.int (lx:Int)),some (.ref ma),v7,v8,none]∧U=Z) (fun σ U=>∃ (ft:Addr) (i j:Nat),σ=[some (.ref R),some (.ref fa),v2,v3,v4,some (.int (lx:Int)),some (.ref ma),v7,v8,some (.ref ft)]∧U ft=some (.tup [.int (i:Int),.int (j:Int)])∧(∃ e∈ms,e.i=i∧e.j=j)∧(∀ e∈ms,i<e.i∨(i=e.i∧j≤e.j))∧Same Z U) ?_ ?_ _ _ ⟨rfl,rfl⟩
  ·rintro σ U ⟨rfl,rfl⟩ N hN
   refine ⟨_,rfl,ma,rfl,⟨_,SqL.of hM.e⟩,?_⟩
   refine zbR (K:=K) (a:=ma) (xs:=ms.map fun e=>V.ref e.t) (fun i ys σ W=>∃ (v0:Option V) (ts:List Addr),σ=[v0]∧ys=ts.map V.ref∧FndAt W ts (((ms.take i).map fun e=>(e.i,e.j)).map pr2)∧Same U W) (by rw [Xae,sizeLine_eq];omega) ⟨none,[],rfl,rfl,⟨rfl,fun i t ns e1=>by simp at e1⟩,Same.refl _⟩ ?_ ?_ ?_
   ·rintro i ys σ W _ ⟨v0,ts,rfl,rfl,hT,sW⟩
    exact ⟨SqL.of (sW _ _ hM.e),by rw [Xae,hT.1,Xae,Xae,XaR];omega⟩
   ·rintro i x ys σ W hx ⟨v0,ts,rfl,rfl,hT,sW⟩
    rw [Xan] at hx
    obtain ⟨e,he,rfl⟩:=Xaw.mp hx
    refine ⟨_,rfl,2,rfl,e.t,_,rfl,SqT.of (sW _ _ (hM.t e (Xau he))),(fun z=>?_),fun u hu=>?_⟩
    ·rw [cutE] at z;exact absurd (congrArg List.length z) (by show ¬ (2=3);decide)
    rw [cutE]
    have su:=zac (o:=.tup [.int (e.i:Int),.int (e.j:Int)]) hu
    refine ⟨_,ts ++ [u],rfl,by rw [XaC];rfl,⟨?_,fun n t ns e1 e2=>?_⟩,sW.trans su⟩
    ·rw [Xao,hT.1,List.take_succ,he];simp
    ·rw [List.take_succ,he,XaC,XaC] at e2
     by_cases h:n<ts.length
     ·rw [Xbj h] at e1
      rw [Xbj (by rw [← hT.1];exact h)] at e2
      exact su _ _ (hT.2 n t ns e1 e2)
     ·rw [XbF (by omega)] at e1
      rw [XbF (by rw [← hT.1];omega),← hT.1] at e2
      have h0:n - ts.length=0:=by
       cases hjj:n - ts.length with
       | zero=>rfl
       | succ n=>rw [hjj] at e1;simp at e1
      rw [h0] at e1 e2
      cases e1
      cases e2
      exact zab
   ·rintro ys σ W ⟨v0,ts,rfl,rfl,hT,sW⟩ M hM'
    rw [Xae,XaY (Xaf _)] at hT
    have sM:=zac (o:=.lst (ts.map V.ref)) hM'
    have htl:ts.length=ms.length:=by rw [hT.1,Xae,Xae]
    refine ⟨M,ts,(ms.map fun e=>(e.i,e.j)).map pr2,rfl,zab,by omega,hT.1,fun n t ns e1 e2=>sM _ _ (hT.2 n t ns e1 e2),fun t ht=>?_⟩
    rw [hT.1] at ht
    obtain ⟨ns,hns⟩:∃ ns,((ms.map fun e=>(e.i,e.j)).map pr2)[argBest (fun a b=>HT.lexLt (((ms.map fun e=>(e.i,e.j)).map pr2).getD a []) (((ms.map fun e=>(e.i,e.j)).map pr2).getD b [])) (((ms.map fun e=>(e.i,e.j)).map pr2).length - 1)]? = some ns:=⟨_,Xak (Nat.lt_of_lt_of_eq (Xag.mp ht).1 hT.1)⟩
    have et:=hT.2 _ _ _ ht hns
    obtain ⟨i,j,rfl,hmem,hlo⟩:=zit hns
    obtain ⟨e,he,hee⟩:=XaJ.mp hmem
    refine hN _ _ ⟨t,i,j,rfl,sM _ _ et,⟨e,he,congrArg Prod.fst hee,congrArg Prod.snd hee⟩,fun d hd=>hlo _ (Xbp (f:=fun e:Fe=>(e.i,e.j)) hd),sW.trans sM⟩
  rintro σ U ⟨ft,i,j,rfl,eft,⟨e1,he1,hi1,hj1⟩,hfirst,sZU⟩
  have hMU:=hM.same sZU
  have sU:=sZ.trans sZU
  have due:IsDue (rsOf ws) lx i j:=by
   refine ⟨by rw [← hi1,← hj1,← hmx e1 he1];exact (hM.a e1 he1).c,fun k l y hcand=>?_⟩
   obtain ⟨d,hd,h1,h2⟩:=hc k l y hcand
   have hdy:d.x=y:=zik (h1 ▸ h2 ▸ (hF.a d hd).c) hcand
   unfold zjb
   have h3:=hmin d hd
   rcases (show lx<y∨lx=y by omega) with h | h
   ·exact .inl h
   ·obtain ⟨d',hd',g1,g2⟩:=hmk d hd (by omega)
    have:=hfirst d' hd'
    omega
  refine ⟨_,rfl,by show 1≤sizeLine;decide,fun q0 hq0=>?_⟩
  have s0:=zac (o:=.tup [.int (lx:Int)]) hq0
  have hM0:=hMU.same s0
  refine ⟨_,rfl,ma,rfl,⟨_,SqL.of hM0.e⟩,?_⟩
  refine zbR (K:=K) (a:=ma) (xs:=ms.map fun e=>V.ref e.t) (fun n ys σ W=>∃ (v0:Option V) (ks:List Fe),σ=[v0,some (.ref ft)]∧ys=(ks.map fun e=>V.ref e.t)∧(∀ e∈ks,e∈ms∧e.i=i∧e.j=j)∧(∀ (a:Nat) (e:Fe),a<n→ms[a]? = some e→e.i=i→e.j=j→ks≠[])∧ks.length≤n∧Same (upd U q0 (.tup [.int (lx:Int)])) W) (by rw [Xae,sizeLine_eq];omega) ⟨none,[],rfl,rfl,(fun _ h=>nomatch h),(fun a e h=>absurd h (XbS _)),Xaf _,Same.refl _⟩ ?_ ?_ ?_
  ·rintro n ys σ W _ ⟨v0,ks,rfl,rfl,_,_,hn',sW⟩
   exact ⟨SqL.of (sW _ _ hM0.e),by rw [Xae];exact hn'⟩
  ·rintro n x ys σ W hx ⟨v0,ks,rfl,rfl,hk1,hk2,hn',sW⟩
   rw [Xan] at hx
   obtain ⟨e,he,rfl⟩:=Xaw.mp hx
   refine ⟨_,rfl,2,rfl,e.t,_,rfl,SqT.of (sW _ _ (hM0.t e (Xau he))),(fun z=>?_),fun u hu=>?_⟩
   ·rw [cutE] at z;exact absurd (congrArg List.length z) (by show ¬ (2=3);decide)
   rw [cutE]
   have su:=zac (o:=.tup [.int (e.i:Int),.int (e.j:Int)]) hu
   refine ⟨_,rfl,u,ft,[(e.i:Int),(e.j:Int)],[(i:Int),(j:Int)],rfl,rfl,SqT.of zab,SqT.of (su _ _ (sW _ _ (s0 _ _ eft))),rfl,_,rfl,ite2 (fun h1=>?_) (fun h1=>?_)⟩
   ·have h1:=XaQ h1
    have hei:e.i=i:=by have:=List.head_eq_of_cons_eq h1;omega
    have hej:e.j=j:=by have:=List.head_eq_of_cons_eq (List.tail_eq_of_cons_eq h1);omega
    exact ⟨_,rfl,_,ks ++ [e],rfl,by rw [XaC];rfl,(fun d hd=>by
     rcases XaF.mp hd with hd | hd
     ·exact hk1 d hd
     ·rw [Xac.mp hd];exact ⟨Xau he,hei,hej⟩),(fun _ _ _ _ _ _=>by simp),by rw [Xao];simp;omega,sW.trans su⟩
   ·refine ⟨_,ks,rfl,rfl,hk1,fun a d ha hd g1 g2=>?_,by omega,sW.trans su⟩
    by_cases h:a<n
    ·exact hk2 a d h hd g1 g2
    ·obtain rfl:a=n:=by omega
     rw [he] at hd;cases hd
     exact absurd (Xap (by rw [g1,g2])) h1
  ·rintro ys σ W ⟨v0,ks,rfl,rfl,hk1,hk2,hn',sW⟩ M hM'
   obtain ⟨a,ha⟩:=XbC.mp he1
   have hks:=hk2 a e1 (by rw [Xae];exact (Xag.mp ha).1) ha hi1 hj1
   obtain ⟨e,rest,rfl⟩:∃ e rest,ks=e :: rest:=by
    cases ks with
    | nil=>exact absurd rfl hks
    | cons e r=>exact ⟨e,r,rfl⟩
   obtain ⟨hem,rfl,rfl⟩:=hk1 e XaA
   have sM:=zac (o:=.lst ((e :: rest).map fun e=>V.ref e.t)) hM'
   have et:=sM _ _ (sW _ _ (hM0.t e hem))
   refine ⟨M,_,_,_,rfl,rfl,SqL.of zab,zaJ (j:=0) rfl,q0,e.t,_,_,rfl,rfl,SqT.of (sM _ _ (sW _ _ zab)),SqT.of et,by show 4≤sizeLine;decide,(fun z=>nomatch z),(fun z=>nomatch z),fun t ht=>?_⟩
   obtain ⟨_,r,q,er,eq,_⟩:=due.1
   have st:=zac (o:=.tup ([V.int (lx:Int)] ++ mT e)) ht
   exact kc lx e.i e.j r q due er eq t e.p _ zab ((((hM0.a e hem).pr r q er eq).same sW).same (sM.trans st)) (sU.trans (s0.trans (sW.trans (sM.trans st))))
abbrev zcb:Stmt:=top 81
theorem sc_law_tried:FnScope ["bits","rows","chips","floating","told","e"] ["bits","rows","chips","floating"] (zai zcb):=sck rfl rfl rfl (by decide +kernel)
inductive spTried33 (C CT CW:Addr)(cs:Nat→Addr)(vs:List V)(H:Hp)(Q:VK)(u3_:XK):Prop
 | mk (R L:Addr) (m:Nat) (fl:Int) (D:Dt) (us:Nat→List Nat) (ws:List (Addr×Rw)) (z0_:vs=[.int (m:Int),.ref R,.ref L,.int fl]) (z1_:1≤m) (z2_:m≤16) (z3_:fl.natAbs<2 ^ 100) (z4_:RwsFor D m H R ws) (z5_:H L=some (.lst (chL D))) (z6_:Chs cs D H us) (z7_:((∀ i j x,¬ cand (rsOf ws) i j x)→∀ (t:Addr) (H':Hp),H' t=some (.tup (if 0≤fl∧fl≤255 then [.str "made",.non] else [.str "word",.bl true]))→Same H H'→Q (.ref t) H')) (z8_:∀ x i j r q,IsDue (rsOf ws) x i j→(rsOf ws)[i]? = some r→(rsOf ws)[j]? = some q→∀ (t u p:Addr) (H':Hp),H' t=some (.tup [.str "clash",.ref u])→H' u=some (.tup [.int (x:Int),.int (i:Int),.int (j:Int),.ref p])→PrsAt H' p (lwL r.l q.l)→Same H H'→Q (.ref t) H')
theorem ze4 {f C CT CW CB:Addr}{cs:Nat→Addr}{fd:FuncData}(F:Fun K "_law_tried" "_law_tried" zcb f fd)(T:Blt mg)(GMXBoard_4:MakX P w K mg base 7 "Board" C [] (dP []) (spInitX C CT CW cs))(GEClash:mg "Clash" = some (.ref CT))(GEBusError:mg "BusError" = some (.ref CB))(GNoWord:mg "NoWord" = some (.ref CW))
  (xm:W.exmOne K (.ref CT) (.ref CT)=some true) (xn:W.exmOne K (.ref CW) (.ref CT)=some false) (xb:W.exmOne K (.ref CW) (.ref CB)=some true) (xk:W.kitOne K (.ref CW) (.ref CW)=some true) (xc:XCls K CT) (hh:W.hasDictIn K CT=true) (xw:XCls K CW)
  (f1:W.findIn K (.ref CT) "address" = some none) (f2:W.findIn K (.ref CT) "first" = some none) (f3:W.findIn K (.ref CT) "second" = some none) (f4:W.findIn K (.ref CT) "words" = some none):FnOk P w K mg base CX0 9 f fd ["bits","rows","chips","floating"] (spTried33 C CT CW cs):=by
 refine F.ok sc_law_tried (by walk_at "l") (fun cdv A outer s H vs Q E hr h=>?_)
 ·obtain ⟨R,L,m,fl,D,us,ws,rfl,h1,h2,hf,hR,eL,S,kn,kc⟩:=h
  refine ⟨_,(zaf (ps_L 4 sc_law_tried.nd (zaK (zaa zaE (zaa zdw zae))))
   (zaf (zkm (fun pins E=>(zah (zaA (zhH GMXBoard_4 (hrm hr) rfl (zd2 rfl) (zaa (pv 0) (zaa (pv 1) (zaa (pv 2) (zaa (pv 3) zae)))))))) (ph_as (j:=5) (fun ea=>(zah (ps_L 4 sc_law_tried.nd (zaK (zaa zaE (zaa (zaK (zaa (zc8 (K:=K) rfl (pv 5) rfl) (zaa (zc8 (K:=K) rfl (pv 5) rfl) (zaa (zc8 (K:=K) rfl (pv 5) rfl) (zaa (zc8 (K:=K) rfl (pv 5) rfl) zae))))) zae)))))) (ph_as (j:=5) (fun ea=>(zah (ps_L 4 sc_law_tried.nd (zaK (zaa zaE (zaa (zal (zdK (K:=K) rfl) (by rfl) T.isinstance zaN (zaa (pv 5) (zaa (zaS rfl GNoWord) zae))) zae)))))) ph_nil sc_law_tried.nd rfl rfl GEBusError (fun ea=>rfl)) sc_law_tried.nd rfl rfl GEClash (fun ea=>rfl)) ⟨rfl,rfl⟩ rfl)
   (zah (zaq (pv 4))))),?rd⟩
  refine ⟨by show 2≤sizeLine;decide,fun t0 ht0=>?_⟩
  have s0:=zac (o:=.tup [.str "made",.non]) ht0
  refine ⟨_,rfl,_,rfl,_,rfl,_,rfl,fun b db hb hdb ne=>?_⟩
  have s1:Same H (upd (upd (upd H t0 (.tup [.str "made",.non])) db (.own b)) b (.ins C db [])):=(s0.trans (zac hdb)).trans (zac (by rw [zag (Ne.symm ne)];exact hb))
  refine ⟨b,db,R,L,m,fl,D,us,ws,rfl,zab,h1,h2,hf,hR.same s1,s1 _ _ eL,S.same s1,fun hn=>⟨fun hw H1 fr=>⟨rfl,?_⟩,fun hw dx H1 e1 s2=>.inr ⟨xn,.inl ⟨xb,fun ea hea=>?_⟩⟩⟩,fun x i j r q hd g1 g2 dx p H1 e1 e2 s2=>.inl ⟨xm,fun ea hea=>?_⟩⟩
  ·have nt:t0≠b:=fun z=>by rw [← z,zab] at hb;cases hb
   have nd:t0≠db:=fun z=>by rw [← z,zab] at hdb;cases hdb
   refine ⟨_,rfl,kn hn t0 H1 (fr _ _ nt ?_) fun a o e=>fr a o (zaj (s0 _ _ e) hb) (s1 _ _ e)⟩
   rw [if_pos hw,zag nt,zag nd];exact zab
  ·have sA:=zac (o:=.ext (xIs ea (.ref CW) (some dx))) hea
   refine ⟨_,rfl,ea,CW,dx,_,_,_,true,rfl,zab,sA _ _ e1,xw,.inl ⟨CW,rfl,rfl⟩,xk,by show 2≤sizeLine;decide,fun t ht=>⟨_,rfl,?_⟩⟩
   exact kn hn t _ (by rw [if_neg hw];exact zab) ((s1.trans s2).trans (sA.trans (zac ht)))
  ·have sA:=zac (o:=.ext (xIs ea (.ref CT) (some dx))) hea
   refine ⟨_,rfl,ea,CT,dx,_,_,rfl,zab,sA _ _ e1,xc,hh,f1,rfl,_,rfl,ea,CT,dx,_,_,rfl,zab,sA _ _ e1,xc,hh,f2,rfl,_,rfl,ea,CT,dx,_,_,rfl,zab,sA _ _ e1,xc,hh,f3,rfl,_,rfl,ea,CT,dx,_,_,rfl,zab,sA _ _ e1,xc,hh,f4,rfl,by show 4≤sizeLine;decide,fun u hu=>⟨by show 2≤sizeLine;decide,fun t ht=>⟨_,rfl,?_⟩⟩⟩
   have sU:=zac (o:=.tup [.int (x:Int),.int (i:Int),.int (j:Int),.ref p]) hu
   have sT:=zac (o:=.tup [.str "clash",.ref u]) ht
   exact kc x i j r q hd g1 g2 t u p _ zab (sT _ _ zab) (e2.same (sA.trans (sU.trans sT))) ((s1.trans s2).trans (sA.trans (sU.trans sT)))
abbrev zcF:Stmt:=top 82
theorem sc_law_kind:FnScope ["bits","rows","chips","floating","told","e","others"] ["bits","rows","chips","floating"] (zai zcF):=sck rfl rfl rfl (by decide +kernel)
inductive spKind33 (C CT CW:Addr)(cs:Nat→Addr)(vs:List V)(H:Hp)(Q:VK)(u3_:XK):Prop
 | mk (R L:Addr) (m:Nat) (fl:Int) (D:Dt) (us:Nat→List Nat) (ws:List (Addr×Rw)) (z0_:vs=[.int (m:Int),.ref R,.ref L,.int fl]) (z1_:1≤m) (z2_:m≤16) (z3_:fl.natAbs<2 ^ 100) (z4_:RwsFor D m H R ws) (z5_:H L=some (.lst (chL D))) (z6_:Chs cs D H us) (z7_:(∃ i j x,cand (rsOf ws) i j x)) (z8_:∀ (t:Addr) (H':Hp),H' t=some (.lst ([true,true,false].map V.bl))→Same H H'→Q (.ref t) H')
theorem zfY {f C CT CW CB c1 c2 c3 c4 c5 c6 c7 c8 c9:Addr}{cs:Nat→Addr}{fd:FuncData}(F:Fun K "_law_kind" "_law_kind" zcF f fd)(T:Blt mg)(GBValueError:mg "ValueError" = none)(GMXBoard_4:MakX P w K mg base 7 "Board" C [] (dP []) (spInitX C CT CW cs))(GClash:mg "Clash" = some (.ref CT))(GEBusError:mg "BusError" = some (.ref CB))
  (GBadRow:mg "BadRow" = some (.ref c1)) (GNoAddress:mg "NoAddress" = some (.ref c2)) (GNoCell:mg "NoCell" = some (.ref c3)) (GNoChip:mg "NoChip" = some (.ref c4)) (GNoMover:mg "NoMover" = some (.ref c5)) (GNoMap:mg "NoMap" = some (.ref c6)) (GNoText:mg "NoText" = some (.ref c7)) (GNoWatch:mg "NoWatch" = some (.ref c8)) (GNoWord:mg "NoWord" = some (.ref CW)) (GTooMany:mg "TooMany" = some (.ref c9))
  (xb:W.exmOne K (.ref CT) (.ref CB)=some true) (xc:XCls K CT) (xv:W.kitOne K (.ref CT) (.type "ValueError")=some true) (xk:W.kitOne K (.ref CT) (.ref CT)=some true) (y1:W.kitAny K (.ref CT) [.ref c1,.ref c2,.ref c3,.ref c4,.ref c5]=some false) (y2:W.kitAny K (.ref CT) [.ref c6,.ref c7,.ref c8,.ref CW,.ref c9]=some false):FnOk P w K mg base CX0 9 f fd ["bits","rows","chips","floating"] (spKind33 C CT CW cs):=by
 refine F.ok sc_law_kind (by walk_at "l") (fun cdv A outer s H vs Q E hr h=>?_)
 ·obtain ⟨R,L,m,fl,D,us,ws,rfl,h1,h2,hf,hR,eL,S,⟨i0,j0,x0,hc0⟩,k⟩:=h
  refine ⟨_,(zaf (ps_L 4 sc_law_kind.nd (zaw zae))
   (zaf (zkn (j:=5) (fun pins E=>(zah (zaA (zhH GMXBoard_4 (hrm hr) rfl (zd2 rfl) (zaa (pv 0) (zaa (pv 1) (zaa (pv 2) (zaa (pv 3) zae)))))))) (fun ea=>(zaf (ps_L 4 sc_law_kind.nd (zaw (zaa (zal (zdK (K:=K) rfl) (by rfl) T.isinstance zaN (zaa (pv 5) (zaa (zaL rfl GBValueError zeF zem) zae))) (zaa (zal (zdK (K:=K) rfl) (by rfl) T.isinstance zaN (zaa (pv 5) (zaa (zaS rfl GClash) zae))) zae))))
   (zaf (ps_L 6 sc_law_kind.nd (zal (zd9 (K:=K) rfl) (by rfl) T.isinstance zaN (zaa (pv 5) (zaa (zaK (zaa (zaS rfl GBadRow) (zaa (zaS rfl GNoAddress) (zaa (zaS rfl GNoCell) (zaa (zaS rfl GNoChip) (zaa (zaS rfl GNoMover) zae)))))) zae))))
   (zah (zaA (pe_bmE (K:=K) rfl PySem.F.plainAttrs_list PySem.F.slot_list_append PySem.F.type_list_append zaC (pv 4) (zaa (ziW (pv 6) (zbh (zal (zd9 (K:=K) rfl) (by rfl) T.isinstance zaN (zaa (pv 5) (zaa (zaK (zaa (zaS rfl GNoMap) (zaa (zaS rfl GNoText) (zaa (zaS rfl GNoWatch) (zaa (zaS rfl GNoWord) (zaa (zaS rfl GTooMany) zae)))))) zae))))) zae))))))) rfl sc_law_kind.nd rfl rfl GEBusError ⟨rfl,rfl⟩ rfl (fun ea=>rfl))
   (zah (zaq (pv 4))))),?rd⟩
  refine ⟨by show 0≤sizeLine;decide,fun t0 ht0=>?_⟩
  have s0:=zac (o:=.lst []) ht0
  refine ⟨_,rfl,_,rfl,_,rfl,_,rfl,fun b db hb hdb ne=>?_⟩
  have s1:Same H (upd (upd (upd H t0 (.lst [])) db (.own b)) b (.ins C db [])):=(s0.trans (zac hdb)).trans (zac (by rw [zag (Ne.symm ne)];exact hb))
  refine ⟨b,db,R,L,m,fl,D,us,ws,rfl,zab,h1,h2,hf,hR.same s1,s1 _ _ eL,S.same s1,(fun hn=>absurd hc0 (hn i0 j0 x0)),fun x i j r q hd g1 g2 dx p H1 e1 e2 s2=>⟨xb,fun ea hea=>?_⟩⟩
  have sA:=zac (o:=.ext (xIs ea (.ref CT) (some dx))) hea
  have ex:=sA _ _ e1
  have sH:=(s1.trans s2).trans sA
  refine zgb (fun B=>Same H B∧B ea=some (.ext (xIs ea (.ref CT) (some dx)))∧B dx=some (.ext (xDc dx (clF x i j p)))) ⟨sH,zab,ex⟩ fun B ⟨sB,eB,xB⟩=>?_
  clear sH sA ex s1 s0 s2
  refine ⟨_,rfl,ea,CT,dx,_,_,_,true,rfl,eB,xB,xc,.inr ⟨"ValueError",rfl,rfl⟩,xv,_,rfl,ea,CT,dx,_,_,_,true,rfl,eB,xB,xc,.inl ⟨CT,rfl,rfl⟩,xk,by show 2≤sizeLine;decide,fun q1 hq1=>?_⟩
  have sq:=zac (o:=.lst [.bl true,.bl true]) hq1
  refine ⟨_,rfl,by show 5≤sizeLine;decide,fun q2 hq2=>?_⟩
  have sq2:=sq.trans (zac (o:=.tup [.ref c1,.ref c2,.ref c3,.ref c4,.ref c5]) hq2)
  refine ⟨ea,CT,dx,q2,_,[c1,c2,c3,c4,c5],false,rfl,sq2 _ _ eB,sq2 _ _ xB,xc,zab,y1,?_⟩
  have eq1:=zac (o:=.tup [.ref c1,.ref c2,.ref c3,.ref c4,.ref c5]) hq2 _ _ (zab (a:=q1) (H:=B) (o:=.lst [.bl true,.bl true]))
  refine ⟨_,rfl,.inl ⟨rfl,_,SqL.of eq1⟩,_,rfl,false,rfl,iteF ⟨_,rfl,by show 5≤sizeLine;decide,fun q3 hq3=>?_⟩⟩
  have s3:=zac (o:=.tup [.ref c6,.ref c7,.ref c8,.ref CW,.ref c9]) hq3
  refine ⟨ea,CT,dx,q3,_,[c6,c7,c8,CW,c9],false,rfl,s3 _ _ (sq2 _ _ eB),s3 _ _ (sq2 _ _ xB),xc,zab,y2,q1,_,_,rfl,rfl,s3 _ _ eq1,by show 2<sizeLine;decide,_,rfl,?_⟩
  exact k q1 _ zab fun a o e=>by rw [zag (zaj (sB _ _ e) hq1)];exact s3 _ _ (sq2 _ _ (sB _ _ e))
abbrev zcG:Stmt:=top 83
theorem sc_law_held:FnScope ["cell","row","bits","rows","chips","models","some","k","one","floating","due","found"] ["cell"] (zai zcG):=sck rfl rfl rfl (by decide +kernel)
theorem due_ex {rs:List Rw}(h:fndL rs rs.length≠[]):∃ x i j r q,IsDue rs x i j∧rs[i]? = some r∧rs[j]? = some q:=by
 have hb:=zga (fun i j=>HT.lexLt ((fndL rs rs.length).getD i []) ((fndL rs rs.length).getD j [])) ((fndL rs rs.length).length - 1)
 have hp:0<(fndL rs rs.length).length:=List.length_pos_iff.mpr h
 obtain ⟨ns,hns⟩:∃ ns,(fndL rs rs.length)[PySem.argBest (fun i j=>HT.lexLt ((fndL rs rs.length).getD i []) ((fndL rs rs.length).getD j [])) ((fndL rs rs.length).length - 1)]? = some ns:=⟨_,Xak (by omega)⟩
 obtain ⟨i,j,x,rfl,hc⟩:=mem_fndL.mp (Xau hns)
 obtain ⟨_,r,q,e1,e2,_⟩:=id hc
 exact ⟨x,i,j,r,q,zgA hns,e1,e2⟩
theorem prs_lk {H:Hp}{a b:Addr}{l:List (Int×Int)}{n:Nat}(hl:l.length≤8)(h:PrsAt H a l)(g:PrsAt H b l):Lk H (n+2) (.ref a) (.ref b):=by
 obtain ⟨ts,e,hl1,ht⟩:=h
 obtain ⟨us,e',hl2,ht'⟩:=g
 refine .seq (t:=true) e e' (by rw [Xae,Xae];omega) (by rw [Xae];exact Xav (show ts.length≤8 by omega) (by decide)) fun i x y ex ey=>?_
 rw [Xan] at ex ey
 obtain ⟨t,h1,rfl⟩:=Xaw.mp ex
 obtain ⟨u,h2,rfl⟩:=Xaw.mp ey
 obtain ⟨q,hq⟩:∃ q,l[i]? = some q:=⟨_,Xak (by have:=(Xag.mp h1).1;omega)⟩
 refine .seq (t:=true) (ht i t q h1 hq) (ht' i u q h2 hq) rfl (by show 2≤sizeLine;decide) fun j x y ex ey=>?_
 rw [ex] at ey
 cases ey
 rcases (show j=0∨j=1 by have:=(Xag.mp ex).1;simp at this;omega) with rfl | rfl
 ·cases ex;exact .int _
 ·cases ex;exact .int _
theorem due_lk {H:Hp}{a b wa wb:Addr}{x i j:Int}{l:List (Int×Int)}(hl:l.length≤8)(ea:H a=some (.tup [.int x,.int i,.int j,.ref wa]))(eb:H b=some (.tup [.int x,.int i,.int j,.ref wb]))(h:PrsAt H wa l)(g:PrsAt H wb l):Lk H 3 (.ref a) (.ref b):=by
 refine .seq (t:=true) ea eb rfl (by show 4≤sizeLine;decide) fun k v w' ev ew=>?_
 rcases (show k=0∨k=1∨k=2∨k=3 by have:=(Xag.mp ev).1;simp at this;omega) with rfl | rfl | rfl | rfl
 ·cases ev;cases ew;exact .int _
 ·cases ev;cases ew;exact .int _
 ·cases ev;cases ew;exact .int _
 ·cases ev;cases ew;exact prs_lk (n:=0) hl h g
structure Som33 (X:Hp)(cl:List Cm)(m:Nat)(sa:Addr)(n:Nat)(Z:Hp)(ws:List (Addr×Rw)):Prop where
 e:Z sa=some (.lst (refs ws))
 r:RwsAt2 m Z ws
 f:∀ z∈ws,Fit (dtC cl) z.2
 l:ws.length=n
 s:Same X Z
theorem Som33.same {X Y Z:Hp}{cl:List Cm}{m n:Nat}{sa:Addr}{ws:List (Addr×Rw)}(h:Som33 X cl m sa n Y ws)(s:Same Y Z):Som33 X cl m sa n Z ws:=⟨s _ _ h.e,h.r.same s,h.f,h.l,h.s.trans s⟩
inductive spHeld33 (vs:List V)(H:Hp)(Q:VK)(u3_:XK):Prop
 | mk (c:Int) (z0_:vs=[.int c]) (z1_:∀ H':Hp,Same H H'→Q (.bl true) H')
set_option tactic.hygienic true in
theorem zfZ {f C CT CW:Addr}{cs:Nat→Addr}{fd:FuncData}(F:Fun K "_law_held" "_law_held" zcG f fd)(T:Blt mg)(G_law_draws:Cal P w K mg base 1 "_law_draws" ["cell","count"] spDraws)(G_law_board:Cal P w K mg base 7 "_law_board" ["row"] (spBoard33 cs))(G_law_row:Cal P w K mg base 3 "_law_row" ["r","bits","models"] (spRow34 cs))(G_law_due:Cal P w K mg base 2 "_law_due" ["rows"] spDue33)
  (G_law_tried:Cal P w K mg base 9 "_law_tried" ["bits","rows","chips","floating"] (spTried33 C CT CW cs)) (G_law_kind:Cal P w K mg base 9 "_law_kind" ["bits","rows","chips","floating"] (spKind33 C CT CW cs)) (G_law_same:Cal P w K mg base 4 "_law_same" ["found","due"] (spSameL 3)):FnOk P w K mg base CX0 10 f fd ["cell"] spHeld33:=by
 refine F.ok sc_law_held (by walk_at "l") (fun cdv A outer s H vs Q E hr h=>?_)
 ·obtain ⟨c,rfl,k⟩:=h
  refine ⟨_,(zaf (@ps_L _ _ _ _ _ _ 1 sc_law_held.nd (@pe_c _ _ _ _ _ _ _ _ _ _ G_law_draws (@zaa _ _ _ _ _ (@pv _ 0 _ _ (by rfl) (by walk_at "o") (by decide) (by decide)) (@zaa _ _ _ _ _ (@zad _ _ _ _) (@zae _) (by rfl)) (by rfl)) (by exact hrm ( by assumption )) (by rfl) (by decide) (by rfl) (by rfl)) (by rfl) (by exact Or.inl rfl) (by rfl) (by walk_at "p"))
   (zaf (@zcR _ _ _ _ _ _ (@pe_c _ _ _ _ _ _ _ _ _ _ G_law_board (@zaa _ _ _ _ _ (@zak _ _ _ _ _ _ _ _ zhP (@zaw _ _ _ _ (@zaa _ _ _ _ _ (@pe_x _ _ _ _ _ _ _ zam (@pv _ 1 _ _ (by rfl) (by walk_at "o") (by decide) (by decide)) (@zad _ _ _ _) (by exact fun _ _=>rfl)) (@zaa _ _ _ _ _ (@zak _ _ _ _ _ _ _ _ zax (@pe_x _ _ _ _ _ _ _ zam (@pv _ 1 _ _ (by rfl) (by walk_at "o") (by decide) (by decide)) (@zad _ _ _ _) (by exact fun _ _=>rfl)) (@zad _ _ _ _)) (@zae _) (by rfl)) (by rfl))) (@zaV _ _ _ _ _ _ _ _ _ _ zb8 (@pv _ 1 _ _ (by rfl) (by walk_at "o") (by decide) (by decide)) (@zaT _ _ _ (@zad _ _ _ _)) (@zcg _))) (@zae _) (by rfl)) (by exact hrm ( by assumption )) (by rfl) (by decide) (by rfl) (by rfl)) (@zbv _ _ _ _ _ _ rfl (@zao _ _ _ _ _ (@pg_L _ _ _ 2 sc_law_held.nd (by rfl) (by exact Or.inl rfl) (by walk_at "p")) (@zao _ _ _ _ _ (@pg_L _ _ _ 3 sc_law_held.nd (by rfl) (by exact Or.inl rfl) (by walk_at "p")) (@zao _ _ _ _ _ (@pg_L _ _ _ 4 sc_law_held.nd (by rfl) (by exact Or.inl rfl) (by walk_at "p")) (@zao _ _ _ _ _ (@pg_L _ _ _ 5 sc_law_held.nd (by rfl) (by exact Or.inl rfl) (by walk_at "p")) (@zaY _) (by rfl)) (by rfl)) (by rfl)) (by rfl)) (by rfl) (by rfl)) (by rfl) (by rfl) (by rfl))
   (zaf (@ps_L _ _ _ _ _ _ 6 sc_law_held.nd (@zaw _ _ _ _ (@zae _)) (by rfl) (by exact Or.inl rfl) (by rfl) (by walk_at "p"))
   (zaf (@zbg _ _ _ _ _ _ _ _ PassesOwn.never rfl (@zbu _ _ _ _ _ _ rfl T.range (@zaa _ _ _ _ _ (@zak _ _ _ _ _ _ _ _ zaM (@zad _ _ _ _) (@zak _ _ _ _ _ _ _ _ zax (@pe_x _ _ _ _ _ _ _ zam (@pv _ 1 _ _ (by rfl) (by walk_at "o") (by decide) (by decide)) (@zad _ _ _ _) (by exact fun _ _=>rfl)) (@zad _ _ _ _))) (@zae _) (by rfl)) (by rfl)) (@pg_L _ _ _ 7 sc_law_held.nd (by rfl) (by exact Or.inl rfl) (by walk_at "p")) (@zah _ _ _ (@zaA _ _ _ _ (@zb0 _ _ _ _ _ _ _ _ _ _ _ _ PySem.F.plainAttrs_list PySem.F.slot_list_append PySem.F.type_list_append zaC (@pv _ 6 _ _ (by rfl) (by walk_at "o") (by decide) (by decide)) (@zaa _ _ _ _ _ (@pe_c _ _ _ _ _ _ _ _ _ _ G_law_row (@zaa _ _ _ _ _ (@zaV _ _ _ _ _ _ _ _ _ _ zb8 (@pv _ 1 _ _ (by rfl) (by walk_at "o") (by decide) (by decide)) (@zaT _ _ _ (@zak _ _ _ _ _ _ _ _ zaM (@zad _ _ _ _) (@zak _ _ _ _ _ _ _ _ zbN (@zad _ _ _ _) (@pv _ 7 _ _ (by rfl) (by walk_at "o") (by decide) (by decide))))) (@zaT _ _ _ (@zak _ _ _ _ _ _ _ _ zaM (@zad _ _ _ _) (@zak _ _ _ _ _ _ _ _ zbN (@zad _ _ _ _) (@pv _ 7 _ _ (by rfl) (by walk_at "o") (by decide) (by decide)))))) (@zaa _ _ _ _ _ (@pv _ 2 _ _ (by rfl) (by walk_at "o") (by decide) (by decide)) (@zaa _ _ _ _ _ (@pv _ 5 _ _ (by rfl) (by walk_at "o") (by decide) (by decide)) (@zae _) (by rfl)) (by rfl)) (by rfl)) (by exact hrm (by assumption)) (by rfl) (by decide) (by rfl) (by rfl)) (@zae _) (by rfl)) (by rfl) (by rfl) (by rfl) (by rfl) (by rfl)) (by rfl))) (by intro _;rfl))
   (zaf (@zaG _ _ _ _ _ _ _ _ (@zau _ _ _ _ _ _ _ _ zbG (@zak _ _ _ _ _ _ _ _ zax (@pe_x _ _ _ _ _ _ _ zam (@pv _ 1 _ _ (by rfl) (by walk_at "o") (by decide) (by decide)) (@zad _ _ _ _) (by exact fun _ _=>rfl)) (@zad _ _ _ _)) (@zad _ _ _ _) (zav _)) (@zah _ _ _ (@zaA _ _ _ _ (@zb0 _ _ _ _ _ _ _ _ _ _ _ _ PySem.F.plainAttrs_list PySem.F.slot_list_append PySem.F.type_list_append zaC (@pv _ 6 _ _ (by rfl) (by walk_at "o") (by decide) (by decide)) (@zaa _ _ _ _ _ (@pe_x _ _ _ _ _ _ _ zam (@pv _ 6 _ _ (by rfl) (by walk_at "o") (by decide) (by decide)) (@zak _ _ _ _ _ _ _ _ zax (@pe_x _ _ _ _ _ _ _ zam (@pv _ 1 _ _ (by rfl) (by walk_at "o") (by decide) (by decide)) (@zad _ _ _ _) (by exact fun _ _=>rfl)) (@zal _ _ _ _ _ _ _ _ _ zan (by rfl) T.len PySem.boot_len (@zaa _ _ _ _ _ (@pv _ 6 _ _ (by rfl) (by walk_at "o") (by decide) (by decide)) (@zae _) (by rfl)) (by decide) (by decide) (by rfl) (by rfl))) (by exact fun _ _=>rfl)) (@zae _) (by rfl)) (by rfl) (by rfl) (by rfl) (by rfl) (by rfl)) (by rfl))) (@zap _))
   (zaf (@zaG _ _ _ _ _ _ _ _ (@zau _ _ _ _ _ _ _ _ zbG (@zak _ _ _ _ _ _ _ _ zax (@pe_x _ _ _ _ _ _ _ zam (@pv _ 1 _ _ (by rfl) (by walk_at "o") (by decide) (by decide)) (@zad _ _ _ _) (by exact fun _ _=>rfl)) (@zad _ _ _ _)) (@zad _ _ _ _) (zav _)) (@zaf _ _ _ _ _ (@ps_L _ _ _ _ _ _ 8 sc_law_held.nd (@pe_x _ _ _ _ _ _ _ zam (@pv _ 6 _ _ (by rfl) (by walk_at "o") (by decide) (by decide)) (@zak _ _ _ _ _ _ _ _ zax (@pe_x _ _ _ _ _ _ _ zam (@pv _ 1 _ _ (by rfl) (by walk_at "o") (by decide) (by decide)) (@zad _ _ _ _) (by exact fun _ _=>rfl)) (@zal _ _ _ _ _ _ _ _ _ zan (by rfl) T.len PySem.boot_len (@zaa _ _ _ _ _ (@pv _ 6 _ _ (by rfl) (by walk_at "o") (by decide) (by decide)) (@zae _) (by rfl)) (by decide) (by decide) (by rfl) (by rfl))) (by exact fun _ _=>rfl)) (by rfl) (by exact Or.inl rfl) (by rfl) (by walk_at "p")) (@zah _ _ _ (@zaA _ _ _ _ (@zb0 _ _ _ _ _ _ _ _ _ _ _ _ PySem.F.plainAttrs_list PySem.F.slot_list_append PySem.F.type_list_append zaC (@pv _ 6 _ _ (by rfl) (by walk_at "o") (by decide) (by decide)) (@zaa _ _ _ _ _ (@zaK _ _ _ _ _ (@zaa _ _ _ _ _ (@pe_x _ _ _ _ _ _ _ zar (@pv _ 8 _ _ (by rfl) (by walk_at "o") (by decide) (by decide)) (@zad _ _ _ _) (by exact fun _ _=>rfl)) (@zaa _ _ _ _ _ (@pe_x _ _ _ _ _ _ _ zar (@pv _ 8 _ _ (by rfl) (by walk_at "o") (by decide) (by decide)) (@zad _ _ _ _) (by exact fun _ _=>rfl)) (@zaa _ _ _ _ _ (@zad _ _ _ _) (@zaa _ _ _ _ _ (@zak _ _ _ _ _ _ _ _ zax (@pe_x _ _ _ _ _ _ _ zam (@pv _ 1 _ _ (by rfl) (by walk_at "o") (by decide) (by decide)) (@zad _ _ _ _) (by exact fun _ _=>rfl)) (@zal _ _ _ _ _ _ _ _ _ zan (by rfl) T.len PySem.boot_len (@zaa _ _ _ _ _ (@pv _ 5 _ _ (by rfl) (by walk_at "o") (by decide) (by decide)) (@zae _) (by rfl)) (by decide) (by decide) (by rfl) (by rfl))) (@zaa _ _ _ _ _ (@pe_x _ _ _ _ _ _ _ zar (@pv _ 8 _ _ (by rfl) (by walk_at "o") (by decide) (by decide)) (@zad _ _ _ _) (by exact fun _ _=>rfl)) (@zae _) (by rfl)) (by rfl)) (by rfl)) (by rfl)) (by rfl))) (@zae _) (by rfl)) (by rfl) (by rfl) (by rfl) (by rfl) (by rfl)) (by rfl)))) (@zap _))
   (zaf (@ps_L _ _ _ _ _ _ 3 sc_law_held.nd (@za1 _ _ _ _ _ _ _ _ _ za8 (by rfl) T.tuple za0 (@zaa _ _ _ _ _ (@pv _ 6 _ _ (by rfl) (by walk_at "o") (by decide) (by decide)) (@zae _) (by rfl)) (by decide) (by decide) (by rfl) (by rfl)) (by rfl) (by exact Or.inl rfl) (by rfl) (by walk_at "p"))
   (zaf (@ps_L _ _ _ _ _ _ 9 sc_law_held.nd (@pe_x _ _ _ _ _ _ _ zam (@zaw _ _ _ _ (@zaa _ _ _ _ _ (@zak _ _ _ _ _ _ _ _ zax (@pe_x _ _ _ _ _ _ _ zam (@pv _ 1 _ _ (by rfl) (by walk_at "o") (by decide) (by decide)) (@zad _ _ _ _) (by exact fun _ _=>rfl)) (@zad _ _ _ _)) (@zaa _ _ _ _ _ (@zak _ _ _ _ _ _ _ _ zaM (@zad _ _ _ _) (@zak _ _ _ _ _ _ _ _ zax (@pe_x _ _ _ _ _ _ _ zam (@pv _ 1 _ _ (by rfl) (by walk_at "o") (by decide) (by decide)) (@zad _ _ _ _) (by exact fun _ _=>rfl)) (@zad _ _ _ _))) (@zaa _ _ _ _ _ (@pe_un _ _ _ _ _ _ zjA (@zad _ _ _ _)) (@zae _) (by rfl)) (by rfl)) (by rfl))) (@zak _ _ _ _ _ _ _ _ zax (@zak _ _ _ _ _ _ _ _ zax (@pe_x _ _ _ _ _ _ _ zam (@pv _ 1 _ _ (by rfl) (by walk_at "o") (by decide) (by decide)) (@zad _ _ _ _) (by exact fun _ _=>rfl)) (@zad _ _ _ _)) (@zad _ _ _ _)) (by exact fun _ _=>rfl)) (by rfl) (by exact Or.inl rfl) (by rfl) (by walk_at "p"))
   (zaf (@ps_L _ _ _ _ _ _ 10 sc_law_held.nd (@pe_c _ _ _ _ _ _ _ _ _ _ G_law_due (@zaa _ _ _ _ _ (@pv _ 3 _ _ (by rfl) (by walk_at "o") (by decide) (by decide)) (@zae _) (by rfl)) (by exact hrm ( by assumption )) (by rfl) (by decide) (by rfl) (by rfl)) (by rfl) (by exact Or.inl rfl) (by rfl) (by walk_at "p"))
   (zaf (@ps_L _ _ _ _ _ _ 11 sc_law_held.nd (@pe_c _ _ _ _ _ _ _ _ _ _ G_law_tried (@zaa _ _ _ _ _ (@pv _ 2 _ _ (by rfl) (by walk_at "o") (by decide) (by decide)) (@zaa _ _ _ _ _ (@pv _ 3 _ _ (by rfl) (by walk_at "o") (by decide) (by decide)) (@zaa _ _ _ _ _ (@pv _ 4 _ _ (by rfl) (by walk_at "o") (by decide) (by decide)) (@zaa _ _ _ _ _ (@pv _ 9 _ _ (by rfl) (by walk_at "o") (by decide) (by decide)) (@zae _) (by rfl)) (by rfl)) (by rfl)) (by rfl)) (by exact hrm ( by assumption )) (by rfl) (by decide) (by rfl) (by rfl)) (by rfl) (by exact Or.inl rfl) (by rfl) (by walk_at "p"))
   (zaf (@zaG _ _ _ _ _ _ _ _ (@zb3 _ _ _ _ _ _ (@zdx _ _ _ _ _ (@pv _ 10 _ _ (by rfl) (by walk_at "o") (by decide) (by decide))) (by first | exact zc9 _ ( by decide ) ( by decide ) | rfl)) (@zah _ _ _ (@zaq _ _ _ _ (@za3 _ _ _ _ _ _ _ _ (op_eqA (XbH (zcN hr)) (K:=K) rfl) (@pv _ 11 _ _ (by rfl) (by walk_at "o") (by decide) (by decide)) (@pe_x _ _ _ _ _ _ _ zam (@zaw _ _ _ _ (@zaa _ _ _ _ _ (@zaK _ _ _ _ _ (@zaa _ _ _ _ _ (@zaE _ _ _ _) (@zaa _ _ _ _ _ (@zdw _ _ _) (@zae _) (by rfl)) (by rfl))) (@zaa _ _ _ _ _ (@zaK _ _ _ _ _ (@zaa _ _ _ _ _ (@zaE _ _ _ _) (@zaa _ _ _ _ _ (@zcJ _ _ _ _) (@zae _) (by rfl)) (by rfl))) (@zae _) (by rfl)) (by rfl))) (@za1 _ _ _ _ _ _ _ _ _ zfs (by rfl) T.int zgF (@zaa _ _ _ _ _ (@ziW _ _ _ _ _ _ _ (@za3 _ _ _ _ _ _ _ _ ze0 (@pv _ 9 _ _ (by rfl) (by walk_at "o") (by decide) (by decide)) (@zad _ _ _ _) (zav _)) (@zbh _ _ _ _ _ (@za3 _ _ _ _ _ _ _ _ zhN (@pv _ 9 _ _ (by rfl) (by walk_at "o") (by decide) (by decide)) (@zad _ _ _ _) (zav _)))) (@zae _) (by rfl)) (by decide) (by decide) (by rfl) (by rfl)) (by exact fun _ _=>rfl)) (zav _)))) (@zap _))
   (zaf (@zaG _ _ _ _ _ _ _ _ (@PW.pt _ _ _ (@zcf _ _ _ _ _ _ _ (@zau _ _ _ _ _ _ _ _ zfP (@pe_x _ _ _ _ _ _ _ zar (@pv _ 11 _ _ (by rfl) (by walk_at "o") (by decide) (by decide)) (@zad _ _ _ _) (by exact fun _ _=>rfl)) (@zaE _ _ _ _) (zav _)) (@zbF _ _ _ _ (@zaX _ _ _ _ (@zaP _ _ _ (@pe_c _ _ _ _ _ _ _ _ _ _ G_law_same (@zaa _ _ _ _ _ (@pe_x _ _ _ _ _ _ _ zar (@pv _ 11 _ _ (by rfl) (by walk_at "o") (by decide) (by decide)) (@zad _ _ _ _) (by exact fun _ _=>rfl)) (@zaa _ _ _ _ _ (@pv _ 10 _ _ (by rfl) (by walk_at "o") (by decide) (by decide)) (@zae _) (by rfl)) (by rfl)) (by exact hrm ( by assumption )) (by rfl) (by decide) (by rfl) (by rfl)) (by intro _;rfl)))))) (@zah _ _ _ (@zaq _ _ _ _ (@zcJ _ _ _ _))) (@zap _))
   (zah (@zaq _ _ _ _ (@za3 _ _ _ _ _ _ _ _ (zky (XbH (zcN hr)) (K:=K) rfl) (@pe_c _ _ _ _ _ _ _ _ _ _ G_law_kind (@zaa _ _ _ _ _ (@pv _ 2 _ _ (by rfl) (by walk_at "o") (by decide) (by decide)) (@zaa _ _ _ _ _ (@pv _ 3 _ _ (by rfl) (by walk_at "o") (by decide) (by decide)) (@zaa _ _ _ _ _ (@pv _ 4 _ _ (by rfl) (by walk_at "o") (by decide) (by decide)) (@zaa _ _ _ _ _ (@pv _ 9 _ _ (by rfl) (by walk_at "o") (by decide) (by decide)) (@zae _) (by rfl)) (by rfl)) (by rfl)) (by rfl)) (by exact hrm ( by assumption )) (by rfl) (by decide) (by rfl) (by rfl)) (@zaw _ _ _ _ (@zaa _ _ _ _ _ (@zcJ _ _ _ _) (@zaa _ _ _ _ _ (@zcJ _ _ _ _) (@zaa _ _ _ _ _ (@zcJ _ _ _ _) (@zae _) (by rfl)) (by rfl)) (by rfl))) (zav _)))))))))))))))),?rd⟩
  refine ⟨_,rfl,c,84,rfl,by decide,fun row H1 vals hrow er hlen hv s1=>?_⟩
  obtain ⟨dr,hdr⟩:=drw (row:=vals) 84 (by omega) hv
  have y0:atI (vN vals) 0=some (.int (dr 0:Int)):=(hdr 0 (by decide)).1
  have y1:atI (vN vals) 1=some (.int (dr 1:Int)):=(hdr 1 (by decide)).1
  have y76:atI (vN vals) 76=some (.int (dr 76:Int)):=(hdr 76 (by decide)).1
  have y77:atI (vN vals) 77=some (.int (dr 77:Int)):=(hdr 77 (by decide)).1
  have y78:atI (vN vals) 78=some (.int (dr 78:Int)):=(hdr 78 (by decide)).1
  have y79:atI (vN vals) 79=some (.int (dr 79:Int)):=(hdr 79 (by decide)).1
  have y80:atI (vN vals) 80=some (.int (dr 80:Int)):=(hdr 80 (by decide)).1
  have y81:atI (vN vals) 81=some (.int (dr 81:Int)):=(hdr 81 (by decide)).1
  have ix:∀ {X:Hp},Same H1 X→SqL K X row (vN vals):=fun s=>SqL.of (s _ _ er)
  have hd0:=(hdr 0 (by decide)).2
  try dsimp only [za7,List.set]
  
  refine zas (fun σ X=>σ=[some (.int c),some (.ref row),none,none,none,none,none,none,none,none,none,none]∧X=H1) (fun σ X=>∃ (R CL ML:Addr) (m:Nat) (cl:List Cm),σ=[some (.int c),some (.ref row),some (.int (m:Int)),some (.ref R),some (.ref CL),some (.ref ML),none,none,none,none,none,none]∧Bo33 cs H1 CL ML m cl X) ?_ ?_ _ _ ⟨rfl,rfl⟩
  ·rintro σ X ⟨rfl,rfl⟩ N hN
   refine ⟨_,rfl,row,_,_,_,rfl,rfl,ix (Same.refl _),y0,_,rfl,row,_,_,_,rfl,rfl,ix (Same.refl _),y1,_,_,rfl,rfl,(show (0:Int)<63 by decide),by show 2≤sizeLine;decide,fun l1 h1=>?_⟩
   have q1:=zac (o:=.lst [V.int (dr 0:Int),V.int ((dr 1:Int) % 63)]) h1
   refine ⟨_,rfl,2,rfl,row,_,rfl,ix q1,fun l2 h2=>?_⟩
   have ecut:cutV (vN vals) (some 2) none=vN (vals.drop 2):=by
    have:=zjr (xs:=vN vals) (m:=2) (by rw [zaz];omega)
    rw [show ((2:Nat):Int)=2 from rfl] at this
    rw [this];unfold vN;rw [List.map_drop]
   rw [ecut]
   have q2:=q1.trans (zac (o:=.lst (vN (vals.drop 2))) h2)
   refine ⟨l1,l2,_,_,rfl,rfl,SqL.of (zac h2 _ _ zab),SqL.of zab,by rw [zaz,Xa3,hlen];show 84≤sizeLine;decide,fun l3 h3=>?_⟩
   have ecat:[V.int (dr 0:Int),V.int ((dr 1:Int) % 63)] ++ vN (vals.drop 2)=vN ([dr 0,dr 1 % 63] ++ vals.drop 2):=by
    rw [show (dr 1:Int) % 63=((dr 1 % 63:Nat):Int) by omega]
    unfold vN
    rw [XaC];rfl
   rw [ecat]
   have q3:=q2.trans (zac (o:=.lst (vN ([dr 0,dr 1 % 63] ++ vals.drop 2))) h3)
   refine ⟨l3,_,rfl,zab,by rw [Xao,Xa3,hlen];rfl,fun v hvm=>?_,fun v hv1=>?_,fun t R CL ML m cl Y et bo=>zh5 et (hN _ _ ⟨R,CL,ML,m,cl,rfl,⟨bo.m1,bo.m2,bo.eC,bo.eM,bo.c1,bo.c9,bo.C,q3.trans bo.s⟩⟩)⟩
   ·rcases XaF.mp hvm with h | h
    ·rcases Xal.mp h with rfl | h
     ·exact hd0
     ·rw [Xac.mp h]
      exact Xai (Xbc _ (by decide)) (by decide)
    ·exact hv v (Xbm h)
   ·have:v=dr 1 % 63:=by
     have h:([dr 0,dr 1 % 63] ++ vals.drop 2)[1]? = some (dr 1 % 63):=rfl
     rw [h] at hv1;exact (Option.some.inj hv1).symm
    rw [this];exact Xbc _ (by decide)
  rintro σ X ⟨R,CL,ML,m,cl,rfl,bo⟩
  have m1:=bo.m1
  have m2:=bo.m2
  have c1:=bo.c1
  have c9:=bo.c9
  have szs:∀ i,i<cl.length→1≤(dtC cl).sz i:=fun i hi=>by
   have kk:=(bo.C.o _ (zbS hi).1).k
   show 1≤ksize _ _
   unfold ksize
   split
   ·decide
   ·rename_i h;exact kk.l1 h
  
  refine zas (fun σ Y=>σ=[some (.int c),some (.ref row),some (.int (m:Int)),some (.ref R),some (.ref CL),some (.ref ML),none,none,none,none,none,none]∧Y=X) (fun σ Y=>∃ sa,σ=[some (.int c),some (.ref row),some (.int (m:Int)),some (.ref R),some (.ref CL),some (.ref ML),some (.ref sa),none,none,none,none,none]∧X sa=none∧Y sa=some (.lst [])∧Same X Y) ?_ ?_ _ _ ⟨rfl,rfl⟩
  ·rintro σ Y ⟨rfl,rfl⟩ N hN
   exact ⟨by show 0≤sizeLine;decide,fun sa hsa=>hN _ _ ⟨sa,rfl,hsa,zab,zac hsa⟩⟩
  rintro σ Y ⟨sa,rfl,hsa,esa,sXY⟩
  have add:∀ {Z:Hp} {ws:List (Addr×Rw)} {t:Addr} {r:Rw} {n:Nat},Som33 X cl m sa n Z ws→RwAt Z t r→RwOk m r→Fit (dtC cl) r→Som33 X cl m sa (n+1) (upd Z sa (.lst (refs ws ++ [.ref t]))) (ws ++ [(t,r)]):=fun {Z ws t r n} h ra ok ft=>by
   refine ⟨by rw [zab];unfold refs;rw [XaC];rfl,fun z hz=>?_,fun z hz=>?_,by rw [Xao,h.l];rfl,fun a o e=>by rw [zag (zaj e hsa)];exact h.s _ _ e⟩
   ·rcases XaF.mp hz with hz | hz
    ·exact ⟨(h.r z hz).1.updL h.e,(h.r z hz).2⟩
    ·rw [Xac.mp hz];exact ⟨ra.updL h.e,ok⟩
   ·rcases XaF.mp hz with hz | hz
    ·exact h.f z hz
    ·rw [Xac.mp hz];exact ft
  have ixX:∀ {Z:Hp},Same X Z→SqL K Z row (vN vals):=fun s=>ix (bo.s.trans s)
  refine zas (fun σ Z=>σ=[some (.int c),some (.ref row),some (.int (m:Int)),some (.ref R),some (.ref CL),some (.ref ML),some (.ref sa),none,none,none,none,none]∧Z=Y) (fun σ Z=>∃ (v7:Option V) (ws:List (Addr×Rw)),σ=[some (.int c),some (.ref row),some (.int (m:Int)),some (.ref R),some (.ref CL),some (.ref ML),some (.ref sa),v7,none,none,none,none]∧Som33 X cl m sa (2+dr 78 % 6) Z ws) ?_ ?_ _ _ ⟨rfl,rfl⟩
  ·rintro σ Z ⟨rfl,rfl⟩ N hN
   refine ⟨_,rfl,row,_,_,_,rfl,rfl,ixX sXY,y78,_,_,rfl,rfl,(show (0:Int)<6 by decide),_,_,rfl,rfl,_,rfl,by omega,by omega,?_⟩
   rw [show (2+(dr 78:Int) % 6).toNat=2+dr 78 % 6 by omega]
   refine zbQ (n:=2+dr 78 % 6) (fun i σ W=>∃ (v7:Option V) (ws:List (Addr×Rw)),σ=[some (.int c),some (.ref row),some (.int (m:Int)),some (.ref R),some (.ref CL),some (.ref ML),some (.ref sa),v7,none,none,none,none]∧Som33 X cl m sa i W ws) ⟨_,[],rfl,esa,(fun _ h=>nomatch h),(fun _ h=>nomatch h),rfl,sXY⟩ ?_ (fun σ W h=>hN _ _ h)
   rintro i σ W hi ⟨v7,ws,rfl,h⟩
   rw [Int.zero_add]
   have hi8:i<8:=by omega
   have e20:(20:Int)+8 * (i:Int)=((20+8 * i:Nat):Int):=by omega
   have e28:(28:Int)+8 * (i:Int)=((20+8 * i+8:Nat):Int):=by omega
   refine ⟨_,rfl,.inl ⟨rfl,_,SqL.of h.e⟩,_,rfl,_,rfl,_,_,rfl,rfl,zcp (by decide) (by omega),_,_,rfl,rfl,((20+8 * i:Nat):Int),congrArg V.int e20,_,rfl,_,_,rfl,rfl,zcp (by decide) (by omega),_,_,rfl,rfl,((20+8 * i+8:Nat):Int),congrArg V.int e28,row,_,rfl,ixX h.s,fun g hg=>?_⟩
   rw [zgD (by omega)]
   have sg:=zac (o:=.lst (vN ((vals.drop (20+8 * i)).take 8))) hg
   have hg':=h.same sg
   refine ⟨_,rfl,_,rfl,g,ML,_,m,cl,rfl,zab,by rw [XaR,Xa3];omega,(fun v hvm=>hv v (Xbm (XbK hvm))),m1,m2,hg'.s _ _ bo.eM,c1,c9,bo.C.same hg'.s,fun t r W2 ht ra ok ft s2=>?_⟩
   have h2:=hg'.same s2
   exact ⟨sa,_,_,rfl,rfl,h2.e,by rw [zat,sizeLine_eq,h2.l];omega,_,_,rfl,add h2 ra ok ft⟩
  rintro σ Z ⟨v7,ws,rfl,hS⟩
  clear esa sXY
  
  refine zas (fun σ Y=>σ=[some (.int c),some (.ref row),some (.int (m:Int)),some (.ref R),some (.ref CL),some (.ref ML),some (.ref sa),v7,none,none,none,none]∧Y=Z) (fun σ Y=>∃ (n:Nat) (ws:List (Addr×Rw)),2≤n∧n≤8∧σ=[some (.int c),some (.ref row),some (.int (m:Int)),some (.ref R),some (.ref CL),some (.ref ML),some (.ref sa),v7,none,none,none,none]∧Som33 X cl m sa n Y ws) ?_ ?_ _ _ ⟨rfl,rfl⟩
  ·rintro σ Y ⟨rfl,rfl⟩ N hN
   refine ⟨_,rfl,row,_,_,_,rfl,rfl,ixX hS.s,y79,_,_,rfl,rfl,(show (0:Int)<4 by decide),rfl,_,rfl,ite2 (fun _=>?_) (fun _=>zay (hN _ _ ⟨_,ws,by omega,by omega,rfl,hS⟩))⟩
   have hl:=hS.l
   obtain ⟨z,hz⟩:∃ z,ws[dr 80 % ws.length]? = some z:=⟨_,Xak (Xbc _ (by omega))⟩
   obtain ⟨ra,ok⟩:=hS.r z (Xau hz)
   refine ⟨_,rfl,.inl ⟨rfl,_,SqL.of hS.e⟩,_,rfl,_,rfl,row,_,_,_,rfl,rfl,ixX hS.s,y80,_,rfl,sa,_,rfl,.inl (SqL.of hS.e),_,_,rfl,rfl,by rw [zat];omega,sa,_,_,.ref z.1,rfl,rfl,SqL.of hS.e,?_,sa,_,_,rfl,rfl,hS.e,by rw [zat,sizeLine_eq];omega,hN _ _ ⟨_,_,by omega,by omega,rfl,add hS ra ok (hS.f z (Xau hz))⟩⟩
   rw [zat,show (dr 80:Int) % (ws.length:Int)=((dr 80 % ws.length:Nat):Int) by norm_cast]
   exact zaJ (zbM hz)
  rintro σ Y ⟨n,ws,n2,n8,rfl,hS⟩
  
  refine zas (fun σ Z=>σ=[some (.int c),some (.ref row),some (.int (m:Int)),some (.ref R),some (.ref CL),some (.ref ML),some (.ref sa),v7,none,none,none,none]∧Z=Y) (fun σ Z=>∃ (n:Nat) (v8:Option V) (ws:List (Addr×Rw)),n≤9∧σ=[some (.int c),some (.ref row),some (.int (m:Int)),some (.ref R),some (.ref CL),some (.ref ML),some (.ref sa),v7,v8,none,none,none]∧Som33 X cl m sa n Z ws) ?_ ?_ _ _ ⟨rfl,rfl⟩
  ·rintro σ Z ⟨rfl,rfl⟩ N hN
   refine ⟨_,rfl,row,_,_,_,rfl,rfl,ixX hS.s,y79,_,_,rfl,rfl,(show (0:Int)<4 by decide),rfl,_,rfl,ite2 (fun _=>?_) (fun _=>zay (hN _ _ ⟨_,_,ws,by omega,rfl,hS⟩))⟩
   have hl:=hS.l
   obtain ⟨z,hz⟩:∃ z,ws[dr 80 % ws.length]? = some z:=⟨_,Xak (Xbc _ (by omega))⟩
   obtain ⟨⟨lt,et,hlt⟩,ok⟩:=hS.r z (Xau hz)
   have ft:=hS.f z (Xau hz)
   have hcl:dr 81 % cl.length<cl.length:=Xbc _ (by omega)
   refine ⟨_,rfl,_,rfl,row,_,_,_,rfl,rfl,ixX hS.s,y80,_,rfl,sa,_,rfl,.inl (SqL.of hS.e),_,_,rfl,rfl,by rw [zat];omega,sa,_,_,.ref z.1,rfl,rfl,SqL.of hS.e,?_,?_⟩
   ·rw [zat,show (dr 80:Int) % (ws.length:Int)=((dr 80 % ws.length:Nat):Int) by norm_cast]
    exact zaJ (zbM hz)
   refine ⟨_,rfl,.inl ⟨rfl,_,SqL.of hS.e⟩,_,rfl,z.1,_,_,_,rfl,rfl,SqT.of et,rfl,_,rfl,z.1,_,_,_,rfl,rfl,SqT.of et,rfl,_,rfl,row,_,_,_,rfl,rfl,ixX hS.s,y81,_,rfl,ML,_,rfl,.inl (SqL.of (hS.s _ _ bo.eM)),_,_,rfl,rfl,by rw [Xae];omega,_,rfl,z.1,_,_,_,rfl,rfl,SqT.of et,rfl,by show 5≤sizeLine;decide,fun t ht=>?_⟩
   have st:=zac (o:=.tup [V.int (z.2.m:Int),V.int (z.2.w:Int),V.int 0,V.int ((dr 81:Int) % (((cl.map fun c=>V.ref c.m).length:Nat):Int)),lt]) ht
   have h2:=hS.same st
   refine ⟨sa,_,_,rfl,rfl,h2.e,by rw [zat,sizeLine_eq];omega,hN _ _ ⟨_,_,_,by omega,rfl,add (r:=⟨z.2.m,z.2.w,0,dr 81 % cl.length,z.2.l⟩) h2 ⟨lt,?_,hlt.same st⟩ ⟨ok.m0,ok.w0,ok.wm,XbE m,Nat.zero_and _,by show dr 81 % cl.length<100;omega,ok.l0⟩ ⟨hcl,?_,ft.2.2⟩⟩⟩
   ·rw [zab,Xae,show (dr 81:Int) % (cl.length:Int)=((dr 81 % cl.length:Nat):Int) by norm_cast];rfl
   ·show 2 ^ ones 0≤_
    rw [zcn];exact szs _ hcl
  rintro σ Z ⟨n',v8,ws,n9,rfl,hS⟩
  clear n2 n8
  refine zas (fun σ Y=>σ=[some (.int c),some (.ref row),some (.int (m:Int)),some (.ref R),some (.ref CL),some (.ref ML),some (.ref sa),v7,v8,none,none,none]∧Y=Z) (fun σ Y=>∃ R2:Addr,σ=[some (.int c),some (.ref row),some (.int (m:Int)),some (.ref R2),some (.ref CL),some (.ref ML),some (.ref sa),v7,v8,none,none,none]∧RwsFor (dtC cl) m Y R2 ws∧Same X Y) ?_ ?_ _ _ ⟨rfl,rfl⟩
  ·rintro σ Y ⟨rfl,rfl⟩ N hN
   refine ⟨_,rfl,sa,_,rfl,.inl ⟨SqL.of hS.e,fun R2 hR2=>hN _ _ ⟨R2,rfl,⟨zab,hS.r.same (zac hR2),hS.f,by rw [hS.l];omega⟩,hS.s.trans (zac hR2)⟩⟩⟩
  have hwl:=hS.l
  clear hS
  rintro σ Y ⟨R2,rfl,hR,sY⟩
  
  refine zas (fun σ Z=>σ=[some (.int c),some (.ref row),some (.int (m:Int)),some (.ref R2),some (.ref CL),some (.ref ML),some (.ref sa),v7,v8,none,none,none]∧Z=Y) (fun σ Z=>∃ fl:Int,fl.natAbs<2 ^ 100∧σ=[some (.int c),some (.ref row),some (.int (m:Int)),some (.ref R2),some (.ref CL),some (.ref ML),some (.ref sa),v7,v8,some (.int fl),none,none]∧Same Y Z) ?_ ?_ _ _ ⟨rfl,rfl⟩
  ·rintro σ Z ⟨rfl,rfl⟩ N hN
   refine ⟨_,rfl,row,_,_,_,rfl,rfl,ixX sY,y76,_,_,rfl,rfl,(show (0:Int)<256 by decide),_,rfl,row,_,_,_,rfl,rfl,ixX sY,y76,_,_,rfl,rfl,(show (0:Int)<9 by decide),_,_,rfl,rfl,_,rfl,by show 3≤sizeLine;decide,fun p hp=>?_⟩
   have sp:=zac (o:=.lst [V.int ((dr 76:Int) % 256),V.int ((256:Int)+(dr 76:Int) % 9),V.int (-1)]) hp
   obtain ⟨fl,hfl,efl⟩:∃ fl:Int,fl.natAbs<2 ^ 100∧atI [V.int ((dr 76:Int) % 256),V.int ((256:Int)+(dr 76:Int) % 9),V.int (-1)] ((dr 77:Int) % 8 % 3)=some (.int fl):=by
    have h100:(2:Nat) ^ 100=1267650600228229401496703205376:=by decide
    rw [h100]
    rcases (show dr 77 % 8 % 3=0∨dr 77 % 8 % 3=1∨dr 77 % 8 % 3=2 by omega) with h | h | h
    ·exact ⟨(dr 76:Int) % 256,by omega,by rw [show (dr 77:Int) % 8 % 3=((0:Nat):Int) by omega];rfl⟩
    ·exact ⟨(256:Int)+(dr 76:Int) % 9,by omega,by rw [show (dr 77:Int) % 8 % 3=((1:Nat):Int) by omega];rfl⟩
    ·exact ⟨-1,by decide,by rw [show (dr 77:Int) % 8 % 3=((2:Nat):Int) by omega];rfl⟩
   exact ⟨_,rfl,row,_,_,_,rfl,rfl,ixX (sY.trans sp),y77,_,_,rfl,rfl,(show (0:Int)<8 by decide),_,_,rfl,rfl,(show (0:Int)<3 by decide),p,_,_,.int fl,rfl,rfl,SqL.of zab,efl,hN _ _ ⟨fl,hfl,rfl,sp⟩⟩
  rintro σ Z ⟨fl,hfl,rfl,sYZ⟩
  have hR:=hR.same sYZ
  have sZ:=sY.trans sYZ
  have bS:=(bo.C.chs (Xav c9 (by decide))).same sZ
  have eL:Z CL=some (.lst (chL (dtC cl))):=by rw [chL_cm];exact sZ _ _ bo.eC
  have sHZ:=(s1.trans bo.s).trans sZ
  by_cases hf:fndL (rsOf ws) (rsOf ws).length=[]
  ·have hno:=zgy hf
   refine ⟨_,rfl,m,R2,ws,rfl,hR.e,by omega,hR.r,fun _ X1 q1=>?_,fun x i j r q hd=>absurd hd.1 (hno i j x)⟩
   refine ⟨_,rfl,_,rfl,_,rfl,_,rfl,R2,CL,m,fl,dtC cl,usC cl,ws,rfl,m1,m2,hfl,hR.same q1,q1 _ _ eL,bS.same q1,fun _ t X2 et q2=>?_,fun x i j r q hd=>absurd hd.1 (hno i j x)⟩
   refine ⟨_,rfl,_,rfl,iteT ⟨_,rfl,by show 2≤sizeLine;decide,fun a1 h1=>⟨by show 2≤sizeLine;decide,fun a2 h2=>⟨by show 2≤sizeLine;decide,fun l hl=>?_⟩⟩⟩⟩
   have r1:=zac (o:=.tup [.str "made",.non]) h1
   have r2:=zac (o:=.tup [.str "word",.bl true]) h2
   have r3:=zac (o:=.lst [.ref a1,.ref a2]) hl
   have e1:=r3 _ _ (r2 _ _ (zab (H:=X2) (a:=a1) (o:=.tup [.str "made",.non])))
   have e2:=r3 _ _ (zab (H:=upd X2 a1 (.tup [.str "made",.non])) (a:=a2) (o:=.tup [.str "word",.bl true]))
   have et3:=r3 _ _ (r2 _ _ (r1 _ _ et))
   have sF:=sHZ.trans (q1.trans (q2.trans (r1.trans (r2.trans r3))))
   have el:=zab (H:=upd (upd X2 a1 (.tup [.str "made",.non])) a2 (.tup [.str "word",.bl true])) (a:=l) (o:=.lst [.ref a1,.ref a2])
   generalize upd (upd (upd X2 a1 (.tup [.str "made",.non])) a2 (.tup [.str "word",.bl true])) l (.lst [.ref a1,.ref a2])=W at *
   have kW:=k W sF
   by_cases hw:0≤fl∧fl≤255
   ·rw [if_pos hw] at et3
    refine ⟨_,rfl,_,_,rfl,rfl,_,rfl,ite2 (fun h=>absurd (XaQ h) (by omega)) (fun _=>⟨_,rfl,_,_,rfl,rfl,.inr ⟨_,rfl,l,_,_,.ref a1,rfl,rfl,SqL.of el,?_,t,a1,_,rfl,rfl,SqT.of et3,SqT.of e1,?_,kW⟩⟩)⟩
    ·rw [if_neg (fun z=>absurd (XaQ z) (by omega))];rfl
    ·intro v hv;rcases Xal.mp hv with rfl | hv
     ·trivial
     ·rw [Xac.mp hv];trivial
   ·rw [if_neg hw] at et3
    have atm:∀ v∈[V.str "word",V.bl true],Atm v:=fun v hv=>by
     rcases Xal.mp hv with rfl | hv
     ·trivial
     ·rw [Xac.mp hv];trivial
    refine ⟨_,rfl,_,_,rfl,rfl,_,rfl,ite2 (fun h=>.inr ⟨_,rfl,l,_,_,.ref a2,rfl,rfl,SqL.of el,?_,t,a2,_,rfl,rfl,SqT.of et3,SqT.of e2,atm,kW⟩) (fun h=>⟨_,rfl,_,_,rfl,rfl,.inr ⟨_,rfl,l,_,_,.ref a2,rfl,rfl,SqL.of el,?_,t,a2,_,rfl,rfl,SqT.of et3,SqT.of e2,atm,kW⟩⟩)⟩
    ·rw [if_pos rfl];rfl
    ·rw [if_pos (Xap (by have:¬ (255:Int)<fl:=fun z=>h (Xap z);omega))];rfl
  ·obtain ⟨x,i,j,r,q,hd,g1,g2⟩:=due_ex hf
   refine ⟨_,rfl,m,R2,ws,rfl,hR.e,by omega,hR.r,fun hn=>absurd hd.1 (hn i j x),fun x' i' j' r' q' hd' g1' g2' t p X1 et ep q1=>?_⟩
   obtain ⟨rfl,rfl,rfl⟩:=hd.uniq hd'
   rw [g1] at g1';cases g1'
   rw [g2] at g2';cases g2'
   refine ⟨_,rfl,_,rfl,_,rfl,_,rfl,R2,CL,m,fl,dtC cl,usC cl,ws,rfl,m1,m2,hfl,hR.same q1,q1 _ _ eL,bS.same q1,fun hn=>absurd hd.1 (hn _ _ _),fun x' i' j' r' q' hd' g1' g2' t2 u p2 X2 et2 eu ep2 q2=>?_⟩
   obtain ⟨rfl,rfl,rfl⟩:=hd.uniq hd'
   rw [g1] at g1';cases g1'
   rw [g2] at g2';cases g2'
   refine ⟨_,rfl,_,rfl,iteF (zay ?_)⟩
   try dsimp only [za7,List.set]
   refine ⟨_,rfl,t2,_,_,_,rfl,rfl,SqT.of et2,rfl,rfl,_,rfl,iteF ?_⟩
   have hw2:=zjT r.l q.l
   refine ⟨_,rfl,t2,_,_,_,rfl,rfl,SqT.of et2,rfl,_,rfl,.ref u,.ref t,rfl,.inr (due_lk (Xav hw2 (by decide)) eu (q2 _ _ et) ep2 (ep.same q2)),fun X3 q3=>⟨_,rfl,iteF (zay ?_)⟩⟩
   try dsimp only [za7,List.set]
   have q13:=q1.trans (q2.trans q3)
   refine ⟨_,rfl,_,rfl,_,rfl,_,rfl,R2,CL,m,fl,dtC cl,usC cl,ws,rfl,m1,m2,hfl,hR.same q13,q13 _ _ eL,bS.same q13,⟨_,_,_,hd.1⟩,fun tk X4 etk q4=>⟨by show 3≤sizeLine;decide,fun l hl=>⟨tk,l,[true,true,false],rfl,rfl,SqL.of (zac hl _ _ etk),SqL.of zab,?_⟩⟩⟩
   exact k _ (sHZ.trans (q13.trans (q4.trans (zac hl))))
abbrev slaw:Stmt:=top 84
theorem sclaw:FnScope ["script","cell"] ["script"] (zai slaw):=sck rfl rfl rfl (by decide +kernel)
theorem oklaw {f:Addr}{fd:FuncData}(F:Fun K "law" "law" slaw f fd)(T:Blt mg)(G_law_held:Cal P w K mg base 10 "_law_held" ["cell"] spHeld33):FnOk P w K mg base CX0 11 f fd ["script"] (spLaw K):=by
 refine F.ok sclaw (by walk_at "l") (fun cdv A outer s H vs Q E hr h=>?_)
 ·obtain ⟨a,ns,rfl,hs,hln,_,k⟩:=h
  refine ⟨_,(zaf (zbg PassesOwn.never rfl (zbA (zak zhP (zaw (zaa (zal zan (by rfl) T.len PySem.boot_len (zaa (pv 0) zae)) zae)) (zaV zb8 (pv 0) zcg (zaT zad)))) (pg_L 1 sclaw.nd)
   (zah (zaG (zaX (zaP (pe_c G_law_held (zaa (pv 1) zae)))) (zah (zaq zcJ)) zap)))
   (zah (zaq zcJ))),?rd⟩
  refine ⟨_,rfl,a,_,rfl,.inl hs,by show 1≤sizeLine;decide,fun q1 h1=>?_⟩
  refine ⟨_,rfl,30,rfl,a,_,rfl,(zac h1).seq hs,fun q2 h2=>?_⟩
  refine ⟨q1,q2,_,_,rfl,rfl,SqL.of (zac h2 _ _ zab),SqL.of zab,?_,fun q3 h3=>⟨q3,rfl,⟨_,SqL.of zab⟩,?_⟩⟩
  ·have:=zck (ns.map V.int) none (some 30)
   rw [Xae] at this
   rw [sizeLine_eq];simp;omega
  have xi:∀ x∈[V.int ((ns.map V.int).length:Int)] ++ cutV (ns.map V.int) none (some 30),∃ c,x = .int c:=fun x hx=>by
   rcases XaF.mp hx with h | h
   ·exact ⟨_,Xac.mp h⟩
   ·obtain ⟨m,_,rfl⟩:=XaJ.mp (zkP h)
    exact ⟨m,rfl⟩
  have e3:=zab (H:=upd (upd H q1 (.lst [V.int ((ns.map V.int).length:Int)])) q2 (.lst (cutV (ns.map V.int) none (some 30)))) (a:=q3) (o:=.lst ([V.int ((ns.map V.int).length:Int)] ++ cutV (ns.map V.int) none (some 30)))
  generalize upd (upd (upd H q1 (.lst [V.int ((ns.map V.int).length:Int)])) q2 (.lst (cutV (ns.map V.int) none (some 30)))) q3 (.lst ([V.int ((ns.map V.int).length:Int)] ++ cutV (ns.map V.int) none (some 30)))=B at e3 ⊢
  generalize [V.int ((ns.map V.int).length:Int)] ++ cutV (ns.map V.int) none (some 30)=xs at e3 xi ⊢
  refine zda (K:=K) (a:=q3) (xs:=xs) (fun i σ Y=>(∃ v1:Option V,σ=[some (.ref a),v1])∧Same B Y) ⟨⟨_,rfl⟩,Same.refl _⟩ (fun i σ Y hi ⟨_,sY⟩=>SqL.of (sY _ _ e3)) ?_ ?_
  ·rintro i x σ Y hx ⟨⟨v1,rfl⟩,sY⟩
   obtain ⟨c,rfl⟩:=xi x (Xau hx)
   exact ⟨_,rfl,c,rfl,fun Y2 s2=>⟨_,rfl,iteF (zay ⟨⟨_,rfl⟩,sY.trans s2⟩)⟩⟩
  ·rintro σ Y ⟨_,sY⟩
   exact k Y
end
abbrev NsR (K:W.Frag)(x:Str)(f:Addr):Prop:=W.nsIn K mainGlobals x=some (some (.ref f))
abbrev FiR (K:W.Frag)(C:Addr)(m:Str)(f:Addr):Prop:=W.findIn K (.ref C) m=some (some (.ref f))
abbrev IsF (K:W.Frag)(f:Addr):Prop:=W.isFn K (.ref f)=true
theorem all_mk {l:W.OpenLaw}{w:World}{K:W.Frag}{h:Heap}{mg:Str→Option Value}{fa:Addr}(X:K.In h)(G:h.Ns mainGlobals mg)(hfa:mg "law" = some (.ref fa))
 {f_0 f_1 f_2 f_3 f_4 f_5 f_6 f_7 f_8 f_9 bG bH bI bJ au aP bK bL ae am af ad ag ah aQ aD bM aE aF bN aG bO aH bP bQ bR NT aa ai aq NTb ac ar bT bU bV bW bX bY bZ b6 b7 aI aJ aj av b8 cb cc aS cg cj ck cp cq cr cu cv cw cx cy cz aT:Addr} {df dg dh di dj dk dl dm dq du dv dw dz dA dB dC dD dE dF dG dN dO dX d6 eE eF eK fo fq fu fw fD fE fF fG fH fJ fK fL fM fN fO fP fQ fR fS:FuncData} {dH dQ dY d7 cN1 cB cN2 fi fx fU cA cC cD aU cE:Value} {dI dR dZ d8 ddT dN1 ddB dN2 e7 fj fy fV cF:Option Addr} {dJ dS d3 d9 ep1 ep2 fk fz:Nat} {dL dU d4 eg sl1 slB sl2 fm fA fW:Array (Option Value)} {dM dW d5 eh fB fX fY fZ f9 gc gf gh gj gk:Tok} {nmT qT eN qTb:Str} {bsT eG eO eQ:List Value} {snT eP:List Str} {abT eS:Bool} {eJ eU:Option Bool} {k0T k1T k2T k3T k5T fc fe ff fg fh:Option Value} {es1 es2 aR:Array DictEntry} {cdB:ClassData}
  (zS:W.nsIn K mainGlobals "sorted" = some none)
  (gl:NsR K "single_ones" f_0)
  (F_0:Fun K "single_ones" "single_ones" zbJ f_0 df)
  (gm:NsR K "ones_of" f_1)
  (F_1:Fun K "ones_of" "ones_of" zef f_1 dg)
  (gn:NsR K "is_number" f_2)
  (F_2:Fun K "is_number" "is_number" zcx f_2 dh)
  (gp:NsR K "size_of" f_3)
  (F_3:Fun K "size_of" "size_of" zee f_3 di)
  (gq:NsR K "is_choice" f_4)
  (F_4:Fun K "is_choice" "is_choice" zcy f_4 dj)
  (gt:NsR K "is_latch" f_5)
  (F_5:Fun K "is_latch" "is_latch" zdk f_5 dk)
  (gu:NsR K "is_row" f_6)
  (F_6:Fun K "is_row" "is_row" zfE f_6 dl)
  (gw:NsR K "is_map" f_7)
  (F_7:Fun K "is_map" "is_map" zfF f_7 dm)
  (gx:NsR K "choices_agree" f_8)
  (F_8:Fun K "choices_agree" "choices_agree" zbp f_8 dq)
  (gz:NsR K "latches_agree" f_9)
  (F_9:Fun K "latches_agree" "latches_agree" zbo f_9 du)
  (gA:NsR K "rows_clash" bG)
  (aV:Fun K "rows_clash" "rows_clash" zb7 bG dv)
  (gB:NsR K "least_words" bH)
  (aW:Fun K "least_words" "least_words" zbK bH dw)
  (gC:NsR K "clash_of" bI)
  (aX:Fun K "clash_of" "clash_of" zdn bI dz)
  (gD:NsR K "is_word" bJ)
  (aY:Fun K "is_word" "is_word" zej bJ dA)
  (gE:NsR K "Chip" au)
  (gF:W.specialIn K (.ref au) "__getattribute__" = some (some (.builtin "type.__getattribute__")))
  (gG:W.readsIn K au (.type "type")=true)
  (gH:W.findCls K (.ref au) (.type "type") "__init__" = some (.val (.ref aP)))
  (aZ:Fun K "__init__" "Chip.__init__" zbr aP dB)
  (gI:NsR K "by_figures" bK)
  (a6:Fun K "by_figures" "by_figures" zca bK dC)
  (gJ:NsR K "two_figures" bL)
  (a7:Fun K "two_figures" "two_figures" zbI bL dD)
  (gK:NsR K "Store" ae)
  (a8:ClsOk K ae)
  (gL:FiR K ae "__len__" am)
  (al:Fun K "__len__" "Chip.__len__" zbz am dE)
  (aK:IsF K am)
  (gM:NsR K "Fixed" af)
  (ba:ClsOk K af)
  (gO:FiR K af "__len__" am)
  (cG:NsR K "Latch" ad)
  (aL:ClsOk K ad)
  (gP:FiR K ad "__len__" am)
  (gQ:NsR K "Meter" ag)
  (bb:ClsOk K ag)
  (gR:FiR K ag "__len__" am)
  (gS:NsR K "Pipe" ah)
  (bc:ClsOk K ah)
  (gT:FiR K ah "__len__" aQ)
  (bd:Fun K "__len__" "Pipe.__len__" zby aQ dF)
  (gU:IsF K aQ)
  (gW:W.makesIn K ae=true)
  (gX:W.keepIn K (.ref ae)=true)
  (gY:FiR K ae "__init__" aD)
  (cH:FunD K "__init__" "Store.__init__" zba (.ref bM) aD dG)
  (gZ:K.lookup bM=some ⟨dH,dI,.seq #[.int 0 dM] dJ,dL⟩)
  (g8:IsF K aD)
  (hJ:W.makesIn K af=true)
  (hV:W.keepIn K (.ref af)=true)
  (hW:FiR K af "__init__" aE)
  (cI:Fun K "__init__" "Fixed.__init__" zbd aE dN)
  (hZ:IsF K aE)
  (h7:W.makesIn K ad=true)
  (h8:W.keepIn K (.ref ad)=true)
  (ia:FiR K ad "__init__" aF)
  (cJ:FunD K "__init__" "Latch.__init__" zbc (.ref bN) aF dO)
  (ic:K.lookup bN=some ⟨dQ,dR,.seq #[.int 0 dW] dS,dU⟩)
  (ie:IsF K aF)
  (ig:W.makesIn K ag=true)
  (ii:W.keepIn K (.ref ag)=true)
  (ij:FiR K ag "__init__" aG)
  (cK:FunD K "__init__" "Meter.__init__" zbb (.ref bO) aG dX)
  (ik:K.lookup bO=some ⟨dY,dZ,.seq #[.int 0 d5] d3,d4⟩)
  (il:IsF K aG)
  (io:W.makesIn K ah=true)
  (ip:W.keepIn K (.ref ah)=true)
  (iq:FiR K ah "__init__" aH)
  (cL:FunD K "__init__" "Pipe.__init__" zbq (.ref bP) aH d6)
  (iu:K.lookup bP=some ⟨d7,d8,.seq #[.int 4 eh] d9,eg⟩)
  (iw:IsF K aH)
  (iy:W.findIn K (.ref ad) "__class__" = some (some (.builtin "object.__class__")))
  (iz:W.specialIn K (.builtin "object.__class__") "__get__" = some (some (.builtin "getset_descriptor.__get__")))
  (iA:W.takesIn K (.builtin "object.__class__")=some true)
  (iB:W.mroIn K ad (.type "object")=some true)
  (iC:W.isIn K (.ref ad) ad=true)
  (iD:NsR K "row_fits" bQ)
  (be:Fun K "row_fits" "row_fits" zdf bQ eE)
  (iE:NsR K "check_map" bR)
  (bf:Fun K "check_map" "check_map" zcz bR eF)
  (bg:NsR K "Clash" aa)
  (bh:NsR K "BusError" ai)
  (xl:K.lookup aa=some (excClassObj nmT qT aa NT bsT [.ref ai,.type "ValueError",.type "Exception",.type "BaseException",.type "object"] true snT eG abT eJ ddT k0T k1T k2T k3T k5T "ValueError.__new__"))
  (xn:K.lookup NT=some ⟨cN1,dN1,.dict es1 ep1,sl1⟩)
  (xs:es1.toList.all (fun e=>match e.key with | .str _ _=>true | _=>false)=true)
  (yl:K.lookup ai=some ⟨cB,ddB,.cls cdB,slB⟩)
  (yn:K.lookup cdB.ns=some ⟨cN2,dN2,.dict es2 ep2,sl2⟩)
  (ys:es2.toList.all (fun e=>match e.key with | .str _ _=>true | _=>false)=true)
  (yi:nsFind es2 "__init__" = none)
  (xa:W.findIn K (.ref aa) "__setattr__" = some (some (.builtin "object.__setattr__")))
  (iF:W.takerIn K aa "address" = some none)
  (iG:W.takerIn K aa "first" = some none)
  (iH:W.takerIn K aa "second" = some none)
  (iI:W.takerIn K aa "words" = some none)
  (c1_:W.findIn K (.ref aa) "__getattribute__" = some (some (.builtin "BaseException.__getattribute__")))
  (c2_:W.findIn K (.ref aa) "__getattr__" = some none)
  (c4_:W.subIn K (.ref aa) (.type "BaseException")=some true)
  (c5_:W.mroIn K aa (.type "object")=some true)
  (c3_:∀ oD:Option Obj,W.findObj K aa oD "__class__" = some (.bind (.builtin "getset_descriptor.__get__") (.builtin "object.__class__")))
  (m1_:W.exmOne K (.ref aa) (.ref aa)=some true)
  (xh:W.hasDictIn K aa=true)
  (iJ:W.findIn K (.ref aa) "address" = some none)
  (iK:W.findIn K (.ref aa) "first" = some none)
  (iL:W.findIn K (.ref aa) "second" = some none)
  (iM:W.findIn K (.ref aa) "words" = some none)
  (s1_:W.specialIn K (.ref ai) "__getattribute__" = some (some (.builtin "type.__getattribute__")))
  (s2_:W.readsIn K ai (.type "type")=true)
  (s3_:W.findCls K (.ref ai) (.type "type") "__init__" = some (.val (.builtin "ValueError.__init__")))
  (lV:FiR K aa "__init__" aq)
  (iN:nsFind es1 "__init__" = some (.ref aq))
  (cM:Fun K "__init__" "Clash.__init__" zbe aq eK)
  (iO:IsF K aq)
  (bi:NsR K "NoWord" ac)
  (xlb:K.lookup ac=some (excClassObj eN qTb ac NTb eO [.ref ai,.type "ValueError",.type "Exception",.type "BaseException",.type "object"] true eP eQ eS eU e7 fc fe ff fg fh "ValueError.__new__"))
  (xnb:K.lookup NTb=some ⟨fi,fj,.dict aR fk,fm⟩)
  (xsb:aR.toList.all (fun e=>match e.key with | .str _ _=>true | _=>false)=true)
  (xab:W.findIn K (.ref ac) "__setattr__" = some (some (.builtin "object.__setattr__")))
  (iP:W.takerIn K ac "word" = some none)
  (iQ:W.findIn K (.ref ac) "__getattribute__" = some (some (.builtin "BaseException.__getattribute__")))
  (iR:W.findIn K (.ref ac) "__getattr__" = some none)
  (iS:W.subIn K (.ref ac) (.type "BaseException")=some true)
  (iT:W.mroIn K ac (.type "object")=some true)
  (iU:∀ oD:Option Obj,W.findObj K ac oD "__class__" = some (.bind (.builtin "getset_descriptor.__get__") (.builtin "object.__class__")))
  (lW:W.exmOne K (.ref ac) (.ref ac)=some true)
  (xhb:W.hasDictIn K ac=true)
  (lX:W.findIn K (.ref ac) "word" = some none)
  (lY:FiR K ac "__init__" ar)
  (iV:nsFind aR "__init__" = some (.ref ar))
  (cO:Fun K "__init__" "NoWord.__init__" za2 ar fo)
  (iW:IsF K ar)
  (iX:NsR K "BadRow" bT)
  (iY:NsR K "NoAddress" bU)
  (iZ:NsR K "NoCell" bV)
  (i4:NsR K "NoChip" bW)
  (i5:NsR K "NoMover" bX)
  (i6:NsR K "NoMap" bY)
  (i7:NsR K "NoText" bZ)
  (i8:NsR K "NoWatch" b6)
  (i9:NsR K "TooMany" b7)
  (zV:W.nsIn K mainGlobals "ValueError" = some none)
  (m5_:W.exmOne K (.ref ac) (.ref aa)=some false)
  (m6_:W.exmOne K (.ref ac) (.ref ai)=some true)
  (m7_:W.kitOne K (.ref ac) (.ref ac)=some true)
  (m8_:W.exmOne K (.ref aa) (.ref ai)=some true)
  (m3_:W.kitOne K (.ref aa) (.type "ValueError")=some true)
  (m2_:W.kitOne K (.ref aa) (.ref aa)=some true)
  (m4_:W.kitAny K (.ref aa) [.ref bT,.ref bU,.ref bV,.ref bW,.ref bX]=some false)
  (m9_:W.kitAny K (.ref aa) [.ref bY,.ref bZ,.ref b6,.ref ac,.ref b7]=some false)
  (cP:NsR K "check_clash" aI)
  (aM:Fun K "check_clash" "check_clash" zbL aI fq)
  (cQ:NsR K "check_word" aJ)
  (aN:Fun K "check_word" "check_word" zb9 aJ fu)
  (ja:NsR K "Board" aj)
  (jb:ClsBd K aj)
  (jc:W.makesIn K aj=true)
  (jd:W.keepIn K (.ref aj)=true)
  (je:FiR K aj "__init__" av)
  (cR:FunD K "__init__" "Board.__init__" zbf (.ref b8) av fw)
  (jf:K.lookup b8=some ⟨fx,fy,.seq #[.int 0 fB] fz,fA⟩)
  (jg:IsF K av)
  (jh:NsR K "_law_draws" cb)
  (bj:Fun K "_law_draws" "_law_draws" zcc cb fD)
  (ji:NsR K "_law_ones" cc)
  (bn:Fun K "_law_ones" "_law_ones" zcE cc fE)
  (aw:NsR K "_law_same" aS)
  (ak:Fun K "_law_same" "_law_same" zcC aS fF)
  (jj:NsR K "_law_few" cg)
  (bp:Fun K "_law_few" "_law_few" zdu cg fG)
  (jk:NsR K "_law_size" cj)
  (bq:Fun K "_law_size" "_law_size" zcB cj fH)
  (jl:NsR K "_law_chip" ck)
  (br:Fun K "_law_chip" "_law_chip" zcH ck fJ)
  (jm:NsR K "_law_chips" cp)
  (bu:Fun K "_law_chips" "_law_chips" zcd cp fK)
  (jn:NsR K "_law_row" cq)
  (bv:Fun K "_law_row" "_law_row" zds cq fL)
  (jo:NsR K "_law_pair" cr)
  (bw:Fun K "_law_pair" "_law_pair" zcD cr fM)
  (jp:NsR K "_law_map" cu)
  (bx:Fun K "_law_map" "_law_map" zdt cu fN)
  (jq:NsR K "_law_board" cv)
  (bA:Fun K "_law_board" "_law_board" zce cv fO)
  (jr:NsR K "_law_due" cw)
  (bB:Fun K "_law_due" "_law_due" zdv cw fP)
  (js:NsR K "_law_tried" cx)
  (bC:Fun K "_law_tried" "_law_tried" zcb cx fQ)
  (jt:NsR K "_law_kind" cy)
  (bD:Fun K "_law_kind" "_law_kind" zcF cy fR)
  (ju:NsR K "_law_held" cz)
  (bE:Fun K "_law_held" "_law_held" zcG cz fS)
  (jv:NsR K "law" aT)
  (jw:K.lookup aT=some ⟨fU,fV,.func (W.fnOf "law" "law" (zbj slaw) (zaU slaw) (zai slaw) .none cA cC cD cF aU cE),fW⟩)
  (jx:W.codeIn K aU "law" = true)
  (jy:W.keepIn K (.ref aT)=true)
  (jz:W.nsIn K mainGlobals "MOST_BITS" = some (some (.int 16 fX)))
  (jA:W.nsIn K mainGlobals "LAST_CHIP" = some (some (.int 99 fY)))
  (jB:W.nsIn K mainGlobals "LAST_WORD" = some (some (.int 255 fZ)))
  (jC:W.nsIn K mainGlobals "MOST_CELLS" = some (some (.int 4096 f9)))
  (jD:W.nsIn K mainGlobals "MOST_ROOM" = some (some (.int 255 gc)))
  (jE:W.nsIn K mainGlobals "SIXTEEN" = some (some (.str "0123456789abcdef" gf)))
  (jF:W.nsIn K mainGlobals "READ" = some (some (.str "read" gh)))
  (jG:W.nsIn K mainGlobals "WRITE" = some (some (.str "write" gj)))
  (jH:W.nsIn K mainGlobals "BOTH" = some (some (.str "both" gk)))
  (jI:W.nsIn K mainGlobals "len" = some none)
  (jJ:W.nsIn K mainGlobals "sum" = some none)
  (jK:W.nsIn K mainGlobals "all" = some none)
  (jL:W.nsIn K mainGlobals "max" = some none)
  (jM:W.nsIn K mainGlobals "min" = some none)
  (jN:W.nsIn K mainGlobals "int" = some none)
  (jO:W.nsIn K mainGlobals "bool" = some none)
  (jP:W.nsIn K mainGlobals "isinstance" = some none)
  (jQ:W.nsIn K mainGlobals "range" = some none)
  (jR:W.nsIn K mainGlobals "enumerate" = some none)
  (jS:W.nsIn K mainGlobals "zip" = some none)
  (jT:W.nsIn K mainGlobals "str" = some none)
  (jU:W.nsIn K mainGlobals "tuple" = some none)
  (jV:W.nsIn K mainGlobals "list" = some none) :
  ∃ fd:FuncData,(∀ (s:Shared) (v:Value),BindsTo s fd ⟨[v],[]⟩ [("script",v)])∧∀ base:Heap,K.In base→base.Ns mainGlobals mg→FnOk l.prog w K mg base CX0 11 fa fd ["script"] (spLaw K):=by
 have mo:∀ {x:Str} {v:Value},W.nsIn K mainGlobals x=some (some v)→mg x=some v:=fun a=>W.mg_of X G a
 have mn:∀ {x:Str},W.nsIn K mainGlobals x=some none→mg x=none:=fun a=>W.mg_none_of X G a
 have T:Blt mg:=⟨mn jI,mn jJ,mn jK,mn jL,mn jM,mn jN,mn jO,mn jP,mn jQ,mn jR,mn jS,mn jT,mn jU,mn jV⟩
 have N:Nums mg:=⟨⟨_,mo jz⟩,⟨_,mo jA⟩,⟨_,mo jB⟩,⟨_,mo jC⟩,⟨_,mo jD⟩,⟨_,mo jE⟩,⟨_,mo jF⟩,⟨_,mo jG⟩,⟨_,mo jH⟩⟩
 have b_0:=F_0.binds (ps:=["mask"]) fun _ _ _ _ _ _=>lnB1 fun _=>rfl
 have b_1:=F_1.binds (ps:=["mask"]) fun _ _ _ _ _ _=>lnB1 fun _=>rfl
 have b_2:=F_2.binds (ps:=["thing","last"]) fun _ _ _ _ _ _=>lnB2 fun _ _=>rfl
 have b_3:=F_3.binds (ps:=["bits"]) fun _ _ _ _ _ _=>lnB1 fun _=>rfl
 have b_4:=F_4.binds (ps:=["mask","want","last"]) fun _ _ _ _ _ _=>lnB3 fun _ _ _=>rfl
 have b_5:=F_5.binds (ps:=["thing"]) fun _ _ _ _ _ _=>lnB1 fun _=>rfl
 have b_6:=F_6.binds (ps:=["bits","thing"]) fun _ _ _ _ _ _=>lnB2 fun _ _=>rfl
 have b_7:=F_7.binds (ps:=["bits","thing"]) fun _ _ _ _ _ _=>lnB2 fun _ _=>rfl
 have b_8:=F_8.binds (ps:=["mask","want","other_mask","other_want"]) fun _ _ _ _ _ _=>lnB4 fun _ _ _ _=>rfl
 have b_9:=F_9.binds (ps:=["latch","other"]) fun _ _ _ _ _ _=>lnB2 fun _ _=>rfl
 have jW:=aV.binds (ps:=["row","other"]) fun _ _ _ _ _ _=>lnB2 fun _ _=>rfl
 have jX:=aW.binds (ps:=["row","other"]) fun _ _ _ _ _ _=>lnB2 fun _ _=>rfl
 have jY:=aX.binds (ps:=["rows"]) fun _ _ _ _ _ _=>lnB1 fun _=>rfl
 have jZ:=aY.binds (ps:=["thing"]) fun _ _ _ _ _ _=>lnB1 fun _=>rfl
 have j4:=aZ.binds (ps:=["self","head","held"]) fun _ _ _ _ _ _=>lnB3 fun _ _ _=>rfl
 have j5:=a6.binds (ps:=["number","many"]) fun _ _ _ _ _ _=>lnB2 fun _ _=>rfl
 have j6:=a7.binds (ps:=["word"]) fun _ _ _ _ _ _=>lnB1 fun _=>rfl
 have aO:=al.binds (ps:=["self"]) fun _ _ _ _ _ _=>lnB1 fun _=>rfl
 have j7:=bd.binds (ps:=["self"]) fun _ _ _ _ _ _=>lnB1 fun _=>rfl
 have j8:=be.binds (ps:=["row","chips"]) fun _ _ _ _ _ _=>lnB2 fun _ _=>rfl
 have j9:=bf.binds (ps:=["bits","rows","chips"]) fun _ _ _ _ _ _=>lnB3 fun _ _ _=>rfl
 have ka:=cM.binds (ps:=["self","address","first","second","words"]) fun _ _ _ _ _ _=>lnB5 fun _ _ _ _ _=>rfl
 have ke:=cO.binds (ps:=["self","word"]) fun _ _ _ _ _ _=>lnB2 fun _ _=>rfl
 have cS:=aM.binds (ps:=["rows"]) fun _ _ _ _ _ _=>lnB1 fun _=>rfl
 have cT:=aN.binds (ps:=["word"]) fun _ _ _ _ _ _=>lnB1 fun _=>rfl
 have kf:=bj.binds (ps:=["cell","count"]) fun _ _ _ _ _ _=>lnB2 fun _ _=>rfl
 have kg:=bn.binds (ps:=["mask"]) fun _ _ _ _ _ _=>lnB1 fun _=>rfl
 have ax:=ak.binds (ps:=["found","due"]) fun _ _ _ _ _ _=>lnB2 fun _ _=>rfl
 have kh:=bp.binds (ps:=["number","most"]) fun _ _ _ _ _ _=>lnB2 fun _ _=>rfl
 have ki:=bq.binds (ps:=["model"]) fun _ _ _ _ _ _=>lnB1 fun _=>rfl
 have kj:=br.binds (ps:=["one","other"]) fun _ _ _ _ _ _=>lnB2 fun _ _=>rfl
 have km:=bu.binds (ps:=["row"]) fun _ _ _ _ _ _=>lnB1 fun _=>rfl
 have ko:=bv.binds (ps:=["r","bits","models"]) fun _ _ _ _ _ _=>lnB3 fun _ _ _=>rfl
 have kr:=bw.binds (ps:=["one","other"]) fun _ _ _ _ _ _=>lnB2 fun _ _=>rfl
 have ku:=bx.binds (ps:=["row","bits","models"]) fun _ _ _ _ _ _=>lnB3 fun _ _ _=>rfl
 have ky:=bA.binds (ps:=["row"]) fun _ _ _ _ _ _=>lnB1 fun _=>rfl
 have kz:=bB.binds (ps:=["rows"]) fun _ _ _ _ _ _=>lnB1 fun _=>rfl
 have kA:=bC.binds (ps:=["bits","rows","chips","floating"]) fun _ _ _ _ _ _=>lnB4 fun _ _ _ _=>rfl
 have kB:=bD.binds (ps:=["bits","rows","chips","floating"]) fun _ _ _ _ _ _=>lnB4 fun _ _ _ _=>rfl
 have kC:=bE.binds (ps:=["cell"]) fun _ _ _ _ _ _=>lnB1 fun _=>rfl
 have kD:=zjY (st:=slaw) jw jx jy
 have e:=hfa.symm.trans (mo jv)
 cases e
 refine ⟨W.fnOf "law" "law" (zbj slaw) (zaU slaw) (zai slaw) .none cA cC cD cF aU cE,fun s v=>.of_eq rfl,fun base _ _=>?_⟩
 have cm:=@zdM l.prog w K mg base
 have mm:=@mth_mk l.prog w K mg base
 have kE:=cm (zet F_0 T) (mo gl) F_0.kp b_0
 have kF:=cm (zhR F_1 T kE) (mo gm) F_1.kp b_1
 have aA:=cm (zfS F_2 T) (mo gn) F_2.kp b_2
 have kG:=cm (zhQ F_3 T) (mo gp) F_3.kp b_3
 have cU:=cm (zfT F_4 T aA) (mo gq) F_4.kp b_4
 have kH:=cm (zgW F_5 T N aA cU) (mo gt) F_5.kp b_5
 have kI:=cm (zi4 F_6 T N aA kG cU kH) (mo gu) F_6.kp b_6
 have kJ:=cm (zi5 F_7 T kI) (mo gw) F_7.kp b_7
 have cV:=cm (zdA F_8 T) (mo gx) F_8.kp b_8
 have kK:=cm (zdz F_9 T cV) (mo gz) F_9.kp b_9
 have kL:=cm (ze1 aV T cV kK) (mo gA) aV.kp jW
 have kM:=cm (zeu aW T (mn zS)) (mo gB) aW.kp jX
 have kN:=cm (zgX aX T kL kM) (mo gC) aX.kp jY
 have bF:=aA
 have aB:=cm (zhS aY T N bF) (mo gD) aY.kp jZ
 have aC:Clm l.prog w K mg base 1 "Chip" "__init__" (spInit K):=⟨⟨au,aP,_,_,_,mo gE,gF,gG,gH,aZ.kp,zdC aZ T,j4⟩⟩
 have kO:=cm (ze3 a6 T N) (mo gI) a6.kp j5
 have kP:=cm (zes a7 T kO) (mo gJ) a7.kp j6
 have kQ:=mm a8.cl gL aK al.kp (zaZ (C:=ae) al T a8) aO
 have kR:=mm ba.cl gO aK al.kp (zaZ (C:=af) al T ba) aO
 have kS:=mm aL.cl gP aK al.kp (zaZ (C:=ad) al T aL) aO
 have kT:=mm bb.cl gR aK al.kp (zaZ (C:=ag) al T bb) aO
 have kU:=mm bc.cl gT gU bd.kp (zdS (C:=ah) bd T bc) j7
 have kX:FnOk l.prog w K mg base CX0 3 aD _ ["self","cells","word"] (spMkSH ae):=zc0 (C:=ae) cH T N a8 bF aB aC
 have kY:Mak l.prog w K mg base 3 "Store" ae [] (dP []) (spMkSH ae):=ze9 (mo gK) gW gY g8 gX kX (cH.kbinds (ps:=["self","cells","word"]) (ks:=[]) (g:=dP []) gZ rfl (fun _ _ _ _ _ _ us ws hl=>(by have hl':us.length=3:=(by have h:=hl;unfold dP at h;rw [Xao] at h;have h2:(["self","cells","word"]:List Str).length=3:=rfl;simp only [Xay,XaZ] at h;omega);exact (by apply ln3 us hl';intro _ _ _;exact ⟨_,rfl,rfl⟩))) (Vals.dP (show Vals ([]:List V) ([]:List Value) from .nil)))
 have kZ:FnOk l.prog w K mg base CX0 3 aE _ ["self","words"] (spMkFH af):=zc3 (C:=af) cI T N ba aB aC
 have k4:Mak l.prog w K mg base 3 "Fixed" af [] (dP []) (spMkFH af):=ze9 (mo gM) hJ hW hZ hV kZ (cI.kbinds (ps:=["self","words"]) (ks:=[]) (g:=dP []) (fun _ _ _ _ _ _ us ws hl=>(by have hl':us.length=2:=(by have h:=hl;unfold dP at h;rw [Xao] at h;have h2:(["self","words"]:List Str).length=2:=rfl;simp only [Xay,XaZ] at h;omega);exact (by apply ln2 us hl';intro _ _;exact rfl))) (Vals.dP (show Vals ([]:List V) ([]:List Value) from .nil)))
 have k6:FnOk l.prog w K mg base CX0 3 aF _ ["self","word"] (spMk1H ad "latch"):=zc2 (C:=ad) cJ T aL aB aC
 have k7:Mak l.prog w K mg base 3 "Latch" ad [] (dP []) (spMk1H ad "latch"):=ze9 (mo cG) h7 ia ie h8 k6 (cJ.kbinds (ps:=["self","word"]) (ks:=[]) (g:=dP []) ic rfl (fun _ _ _ _ _ _ us ws hl=>(by have hl':us.length=2:=(by have h:=hl;unfold dP at h;rw [Xao] at h;have h2:(["self","word"]:List Str).length=2:=rfl;simp only [Xay,XaZ] at h;omega);exact (by apply ln2 us hl';intro _ _;exact ⟨_,rfl,rfl⟩))) (Vals.dP (show Vals ([]:List V) ([]:List Value) from .nil)))
 have k8:FnOk l.prog w K mg base CX0 3 aG _ ["self","word"] (spMk1H ag "meter"):=zc1 (C:=ag) cK T bb aB aC
 have k9:Mak l.prog w K mg base 3 "Meter" ag [] (dP []) (spMk1H ag "meter"):=ze9 (mo gQ) ig ij il ii k8 (cK.kbinds (ps:=["self","word"]) (ks:=[]) (g:=dP []) ik rfl (fun _ _ _ _ _ _ us ws hl=>(by have hl':us.length=2:=(by have h:=hl;unfold dP at h;rw [Xao] at h;have h2:(["self","word"]:List Str).length=2:=rfl;simp only [Xay,XaZ] at h;omega);exact (by apply ln2 us hl';intro _ _;exact ⟨_,rfl,rfl⟩))) (Vals.dP (show Vals ([]:List V) ([]:List Value) from .nil)))
 have lc:FnOk l.prog w K mg base CX0 3 aH _ ["self","room"] (spMkP ah):=zdB (C:=ah) cL T N bc bF kP aC
 have le:Mak l.prog w K mg base 3 "Pipe" ah [] (dP []) (spMkP ah):=ze9 (mo gS) io iq iw ip lc (cL.kbinds (ps:=["self","room"]) (ks:=[]) (g:=dP []) iu rfl (fun _ _ _ _ _ _ us ws hl=>(by have hl':us.length=2:=(by have h:=hl;unfold dP at h;rw [Xao] at h;have h2:(["self","room"]:List Str).length=2:=rfl;simp only [Xay,XaZ] at h;omega);exact (by apply ln2 us hl';intro _ _;exact ⟨_,rfl,rfl⟩))) (Vals.dP (show Vals ([]:List V) ([]:List Value) from .nil)))
 have ML:∀ kd,kd<5→Mth l.prog w K mg base 1 ((csOf ae af ad ag ah) kd) "__len__" [] (fun vs _=>vs) (spLen ((csOf ae af ad ag ah) kd) (lenK kd)):=fun kd h=>by
  rcases (show kd=0∨kd=1∨kd=2∨kd=3∨kd=4 by omega) with rfl | rfl | rfl | rfl | rfl
  ·exact kQ
  ·exact kR
  ·exact kS
  ·exact kT
  ·exact kU
 have lf:=cm (zgV (cs:=(csOf ae af ad ag ah)) be T kF (mo cG) (zjg iC) (fun e=>.ins e aL.cl iy iz iA iB) ML) (mo iD) be.kp j8
 have lh:=cm (zfU (cs:=(csOf ae af ad ag ah)) bf T N aA kJ lf) (mo iE) bf.kp j9
 have sk:∀ es:Array DictEntry,es.toList.all (fun e=>match e.key with | .str _ _=>true | _=>false)=true→StrKeys es:=fun es h e he=>strKey (Xbe.mp h e (Array.mem_toList_iff.mpr he))
 have xc:XCls K aa:=⟨⟨_,_,_,_,xl⟩,c1_,c2_,c3_,c4_,c5_⟩
 have GS:SupI K mg "BusError" := ⟨⟨ai,mo bh,s1_,s2_,s3_⟩⟩
 have cW:ExcI K aa aq:=⟨⟨_,_,_,_,_,_,_,_,_,_,_,_,_,_,_,xl,⟨_,_,_,_,_,xn,sk _ xs,iN⟩,.own yl ⟨_,_,_,_,_,yn,sk _ ys,yi⟩ .base⟩,xa⟩
 have ll:XIni l.prog w K mg base 1 "Clash" aa (spClI aa):=by
  obtain ⟨oI,h1,h2⟩:=zfj iO
  exact ⟨mo bg,aq,_,_,oI,cW,⟨h1,h2⟩,zc4 cM T GS cW iF iG iH iI,ka⟩
 have xcb:XCls K ac:=⟨⟨_,_,_,_,xlb⟩,iQ,iR,iU,iS,iT⟩
 have cX:ExcI K ac ar:=⟨⟨_,_,_,_,_,_,_,_,_,_,_,_,_,_,_,xlb,⟨_,_,_,_,_,xnb,sk _ xsb,iV⟩,.own yl ⟨_,_,_,_,_,yn,sk _ ys,yi⟩ .base⟩,xab⟩
 have lq:XIni l.prog w K mg base 1 "NoWord" ac (spNwI ac):=by
  obtain ⟨oI,h1,h2⟩:=zfj iW
  exact ⟨mo bi,ar,_,_,oI,cX,⟨h1,h2⟩,zcL cO T GS cX iP,ke⟩
 have cY:FnOk l.prog w K mg base (CX1 l.prog w) 5 aI _ ["rows"] (spChkX aa):=zev aM T kN ll
 have lr:CalX l.prog w K mg base 5 "check_clash" ["rows"] (spChkX aa):=⟨aI,_,cY,mo cP,aM.kp,cS⟩
 have lA:=cY.calm
 have lZ:=zdM lA (mo cP) aM.kp cS
 have cZ:FnOk l.prog w K mg base (CX1 l.prog w) 3 aJ _ ["word"] (spChkWX ac):=ze2 (CT:=ac) aN T aB lq
 have lB:CalX l.prog w K mg base 3 "check_word" ["word"] (spChkWX ac):=⟨aJ,_,cZ,mo cQ,aN.kp,cT⟩
 have lC:=cZ.calm
 have l4:=zdM lC (mo cQ) aN.kp cT
 have lD:FnOk l.prog w K mg base (CX1 l.prog w) 7 av _ ["self","bits","rows","chips","floating"] (spInitX aj aa ac (csOf ae af ad ag ah)):=zc5 (C:=aj) cR T (mn zS) jb lh lr lB
 have da:MakX l.prog w K mg base 7 "Board" aj [] (dP []) (spInitX aj aa ac (csOf ae af ad ag ah)):=⟨mo ja,av,_,_,_,⟨jc,je,jg,jd⟩,lD,(cR.kbinds (ps:=["self","bits","rows","chips","floating"]) (ks:=[]) (g:=dP []) jf rfl (fun _ _ _ _ _ _ us ws hl=>(by have hl':us.length=5:=(by have h:=hl;unfold dP at h;rw [Xao] at h;have h2:(["self","bits","rows","chips","floating"]:List Str).length=5:=rfl;simp only [Xay,XaZ] at h;omega);exact (by apply ln5 us hl';intro _ _ _ _ _;exact ⟨_,rfl,rfl⟩))) (Vals.dP (show Vals ([]:List V) ([]:List Value) from .nil)))⟩
 have lE:=cm (ze5 bj T) (mo jh) bj.kp kf
 have lF:=cm (zfX bn T) (mo ji) bn.kp kg
 have lG:Cal l.prog w K mg base 0 "_law_same" ["found","due"] (fun _ _ _ _=>False):=⟨aS,_,⟨fun _ _ _ _ h=>h.elim,fun _ _ _ _ _ _ _ _ _ _ _ _ _ h=>h.elim⟩,mo aw,ak.kp,ax⟩
 have lH:Cal l.prog w K mg base 1 "_law_same" ["found","due"] (spSameL 0):=zdM (zbB ak T lG (fun k e=>by cases e <;> rfl)) (mo aw) ak.kp ax
 have lI:Cal l.prog w K mg base 2 "_law_same" ["found","due"] (spSameL 1):=zdM (zbB ak T lH (fun k e=>by cases e <;> rfl)) (mo aw) ak.kp ax
 have lJ:Cal l.prog w K mg base 3 "_law_same" ["found","due"] (spSameL 2):=zdM (zbB ak T lI (fun k e=>by cases e <;> rfl)) (mo aw) ak.kp ax
 have lK:Cal l.prog w K mg base 4 "_law_same" ["found","due"] (spSameL 3):=zdM (zbB ak T lJ (fun k e=>by cases e <;> rfl)) (mo aw) ak.kp ax
 have lL:=cm (zg0 bp T lF) (mo jj) bp.kp kh
 have lM:=cm (zfV bq T) (mo jk) bq.kp ki
 have lN:=cm (zf0 (cs:=(csOf ae af ad ag ah)) br T k4 le k7 k9 kY) (mo jl) br.kp kj
 have lO:=cm (ze6 (cs:=(csOf ae af ad ag ah)) bu T lN) (mo jm) bu.kp km
 have dc:=cm (zgY (cs:=(csOf ae af ad ag ah)) bv T lL lM) (mo jn) bv.kp ko
 have de:=cm (zfW bw T (mn zS)) (mo jo) bw.kp kr
 have lP:=cm (zgZ (cs:=(csOf ae af ad ag ah)) bx T dc de) (mo jp) bx.kp ku
 have lQ:=cm (ze7 (cs:=(csOf ae af ad ag ah)) bA T lO lP) (mo jq) bA.kp ky
 have lR:=cm (zg1 bB T de) (mo jr) bB.kp kz
 have lS:=cm (ze4 (cs:=(csOf ae af ad ag ah)) bC T da (mo bg) (mo bh) (mo bi) m1_ m5_ m6_ m7_ xc xh xcb iJ iK iL iM) (mo js) bC.kp kA
 have lT:=cm (zfY (cs:=(csOf ae af ad ag ah)) bD T (mn zV) da (mo bg) (mo bh) (mo iX) (mo iY) (mo iZ) (mo i4) (mo i5) (mo i6) (mo i7) (mo i8) (mo bi) (mo i9) m8_ xc m3_ m2_ m4_ m9_) (mo jt) bD.kp kB
 have lU:=cm (zfZ (C:=aj) (CT:=aa) (CW:=ac) (cs:=(csOf ae af ad ag ah)) bE T lE lQ dc lR lS lT lK) (mo ju) bE.kp kC
 exact oklaw kD T lU
theorem walk {l:W.OpenLaw}{q:Program}{loose:List Str}{XP:(Str→Option Value)→Heap→Prop}{YP:World→Heap→Prop}{d:DefRec}{K:Params→W.Frag}(hn:l.most=some 63)(hdf:d.params.defaults=[])
  (hY:∀ (w:World) (h:Heap),YP w h→(K w.params).In h)
  (F:∀ (w:World) (mg:Str→Option Value) (fa:Addr) (h:Heap),(K w.params).In h→h.Ns mainGlobals mg→mg d.name=some (.ref fa) →
   ∃ fd:FuncData,(∀ (s:Shared) (u:Value),BindsTo s fd ⟨[u],[]⟩ [("script",u)])∧∀ base:Heap,(K w.params).In base→base.Ns mainGlobals mg→FnOk l.prog w (K w.params) mg base CX0 11 fa fd ["script"] (spLaw (K w.params))) :
  W.WalkO q loose XP YP l.row.toRowW d [] (fun f vs=>PySem.call f vs):=
 L2.walk_ofB (n:=63) (k:=11) (x := "script") (CX:=fun _=>CX0) (sp:=fun w=>spLaw (K w.params)) hn (by decide) hdf ⟨rfl,by decide,by decide,rfl⟩ hY F (fun _ _ a ns hl hb _ hS=>⟨a,ns,rfl,hS,hl,hb,fun _=>rfl⟩) fun _ _ _ _ _ z=>z
end Cb
open PySem PySem.W PyProof.Rows Cb L2
local macro_rules | `(tactic| walk_at "fm")=>`(tactic| (refine' zjY ?l ?c ?k;(case l=>k_is);(case c=>k_is);(case k=>k_is)))
local macro_rules | `(tactic| walk_at "fd")=>`(tactic| (refine' zkL ?l ?c ?k;(case l=>k_is);(case c=>k_is);(case k=>k_is)))
local macro_rules | `(tactic| walk_at "na")=>`(tactic| (show W.findIn _ _ _=_;k_is))
local macro_rules | `(tactic| walk_at "nr")=>`(tactic| (show W.nsIn _ _ _=some (some _);k_is))
local macro_rules | `(tactic| walk_at "nf")=>`(tactic| (show W.findIn _ _ _=some (some _);k_is))
local macro_rules | `(tactic| walk_at "ni")=>`(tactic| (show W.isFn _ _=true;k_is))
local macro_rules | `(tactic| walk_at "cs")=>`(tactic| exact ⟨by k_is,by k_is,by k_is,by k_is⟩)
local macro_rules | `(tactic| walk_at "cl")=>`(tactic| exact ⟨by walk_at "cs",by walk_at "na",by walk_at "na",by walk_at "na"⟩)
local macro_rules | `(tactic| walk_at "cb")=>`(tactic| exact ⟨by walk_at "cs",by walk_at "na",by walk_at "na",by walk_at "na",by walk_at "na",by walk_at "na",by walk_at "na",by walk_at "na"⟩)
local macro_rules | `(tactic| walk_at "cw")=>`(tactic| exact ⟨by walk_at "cs",by walk_at "na",by walk_at "na",by walk_at "na",by walk_at "na"⟩)
set_option maxRecDepth 1000000 in
set_option maxHeartbeats 0 in
theorem PySem.Challenge.cw_chipbus_k33_clashes_refused_holds : PySem.Challenge.rw_chipbus_k33_clashes_refused.Holds := by
 refine Hd.top ?_
 k_fill
 refine Cb.walk (l:=PySem.Challenge.rw_chipbus_k33_clashes_refused) rfl rfl (fun w h Y=>PySem.W.kIn_of Y) ?F
 case F =>
  intro w mg fa h KX G hmg
  refine' Cb.all_mk KX G hmg ?_ ?_ ?_ ?_ ?_ ?_ ?_ ?_ ?_ ?_ ?_ ?_ ?_ ?_ ?_ ?_ ?_ ?_ ?_ ?_ ?_ ?_ ?_ ?_ ?_ ?_ ?_ ?_ ?_ ?_ ?_ ?_ ?_ ?_ ?_ ?_ ?_ ?_ ?_ ?_ ?_ ?_ ?_ ?_ ?_ ?_ ?_ ?_ ?_ ?_ ?_ ?_ ?_ ?_ ?_ ?_ ?_ ?_ ?_ ?_ ?_ ?_ ?_ ?_ ?_ ?_ ?_ ?_ ?_ ?_ ?_ ?_ ?_ ?_ ?_ ?_ ?_ ?_ ?_ ?_ ?_ ?_ ?_ ?_ ?_ ?_ ?_ ?_ ?_ ?_ ?_ ?_ ?_ ?_ ?_ ?_ ?_ ?_ ?_ ?_ ?_ ?_ ?_ ?_ ?_ ?_ ?_ ?_ ?_ ?_ ?_ ?_ ?_ ?_ ?_ ?_ ?_ ?_ ?_ ?_ ?_ ?_ ?_ ?_ ?_ ?_ ?_ ?_ ?_ ?_ ?_ ?_ ?_ ?_ ?_ ?_ ?_ ?_ ?_ ?_ ?_ ?_ ?_ ?_ ?_ ?_ ?_ ?_ ?_ ?_ ?_ ?_ ?_ ?_ ?_ ?_ ?_ ?_ ?_ ?_ ?_ ?_ ?_ ?_ ?_ ?_ ?_ ?_ ?_ ?_ ?_ ?_ ?_ ?_ ?_ ?_ ?_ ?_ ?_ ?_ ?_ ?_ ?_ ?_ ?_ ?_ ?_ ?_ ?_ ?_ ?_ ?_ ?_ ?_ ?_ ?_ ?_ ?_ ?_ ?_ ?_ ?_ ?_ ?_ ?_ ?_ ?_ ?_ ?_ ?_ ?_ ?_ ?_ ?_ ?_ ?_ ?_ ?_ ?_ ?_ ?_ ?_ ?_ ?_ ?_ ?_ ?_ ?_ ?_ ?_ ?_ ?_
  all_goals first | walk_at "nr" | walk_at "fm" | walk_at "cl" | walk_at "nf" | walk_at "ni" | walk_at "fd" | walk_at "cb" | k_is | rfl | (intro _;rfl) | skip
#print axioms PySem.Challenge.cw_chipbus_k33_clashes_refused_holds
